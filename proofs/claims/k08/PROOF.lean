import PyProof.Rows.All
import Wide.All
import OpenK.AllK
import Wide.FinOn
import PyProof.EqAt
import PyProof.EqKinds
import PyProof.TupleCall
import HandS.Base
import HandS.Call
import HandS.List
import HandS.Comp
import HandS.Iter
import HandS.Ends
import HandS.Exc
import HandS.Words
import PyProof.Draws
import HandS.Zip0
import KE.KFromBytes
import HandS.ExcInit
import HandS.OwnEq
import HandS.IsInst
import HandS.ForMost
import HandS.ForExc
import HandS.TryMany
import HandS.ExcField
import HandS.TupAny
import HandS.TupLe
import HandS.TupSets
import HandS.Zip
import HandS.Style
import HandS.SortInts
import HandS.GenList
import KE.KDictZip
import KE.GoesEnumKw
import PyProof.Rows.CallKwBuiltin
import HandS.ExcIs
import PyProof.StrOps2
import HandS.ExcOwn
import HandS.HotCalls
import HandS.Strs
import HandS.Dict
import HandS.Walk
import HandS.More
import HandS.Codes
import HandS.RaiseMore
import HandS.TupMul
import HandS.SortRule
import HandS.Conv
import KE.KDictWalk
import PySem.Challenge.RW_moststream_k08_whole_words_that_are_none
set_option Elab.async false
set_option linter.all false
set_option maxRecDepth 100000
set_option maxHeartbeats 4000000
/-! M0 -/
/-! Readings one step at a time: each lemma turns a reading into what is left to be shown. -/
namespace Mw
open PySem L2
section
variable {σ : St} {H : Hp} {v x y : V} {i : Nat} {Q : VK} {ta tb te : TE} {r : R2} {D : Ends} {K : PySem.W.Frag}
theorem rd_var (h : σ[i]? = some (some v)) (q : Q v H) : tVar i σ H Q := ⟨v, h, q⟩
theorem rd_c (q : Q v H) : tC v σ H Q := q
theorem rd_op (h : ta σ H fun x H1 => tb σ H1 fun y H2 => r x y H2 Q) : tOp r ta tb σ H Q := h
theorem rd_un {r : V → Hp → VK → Prop} (h : ta σ H fun x H1 => r x H1 Q) : tUn r ta σ H Q := h
theorem rd_nil {Q : List V → Hp → Prop} (q : Q [] H) : tNil σ H Q := q
theorem rd_cons {tr : TA} {Q : List V → Hp → Prop} (h : ta σ H fun x H1 => tr σ H1 fun xs H2 => Q (x :: xs) H2) : tCons ta tr σ H Q := h
theorem rd_disp {xs : List V} {B : Prop} (hl : Nat.ble xs.length 1000 = true) (q : B) : xs.length ≤ sizeLine ∧ B := ⟨Nat.le_trans (Nat.le_of_ble_eq_true hl) (by decide), q⟩
theorem rd_tup {t : TA} (h : t σ H fun xs H1 => xs.length ≤ sizeLine ∧ ∀ p, H1 p = none → Q (.ref p) (upd H1 p (.tup xs))) : tTup t σ H Q := h
theorem rd_lst {t : TA} (h : t σ H fun xs H1 => xs.length ≤ sizeLine ∧ ∀ p, H1 p = none → Q (.ref p) (upd H1 p (.lst xs))) : tLst t σ H Q := h
theorem rd_ifs {c : TT} {t u : TS} (h : c σ H fun b H1 => if b = true then t D σ H1 else u D σ H1) : tIfS c t u D σ H := h
theorem rd_seq {t u : TS} (h : t { D with nx := u D } σ H) : tSeq t u D σ H := h
theorem rd_next (h : D.nx σ H) : tNext D σ H := h
theorem rd_ret (h : te σ H D.rt) : tRet te D σ H := h
theorem rd_asg {g : TG} (h : te σ H fun x H1 => g x σ H1 D.nx) : tAsg te g D σ H := h
theorem rd_gname {Q : St → Hp → Prop} (h : Q (σ.set i (some v)) H) : gName i v σ H Q := h
theorem rd_drop (h : te σ H fun _ H1 => D.nx σ H1) : tDrop te D σ H := h
theorem rd_test {Q : Bool → Hp → Prop} (h : te σ H fun x H' => ∃ k, x = .bl k ∧ Q k H') : tTest te σ H Q := h
theorem rd_B {Q : Bool → Hp → Prop} (h : te σ H fun x H1 => ∃ c, x = .bl c ∧ Q c H1) : tB te σ H Q := h
theorem rd_bl {b : Bool} {Q : Bool → Hp → Prop} (q : Q b H) : ∃ k, V.bl b = .bl k ∧ Q k H := ⟨b, rfl, q⟩
theorem rd_blP {b : Bool} {Q : Bool → Prop} (q : Q b) : ∃ k, V.bl b = .bl k ∧ Q k := ⟨b, rfl, q⟩
theorem rd_andV (h : ta σ H fun x H1 => ∃ c, x = .bl c ∧ if c = true then tb σ H1 Q else Q (.bl false) H1) : tAndV ta tb σ H Q := h
theorem rd_orV (h : ta σ H fun x H1 => ∃ c, x = .bl c ∧ if c = true then Q (.bl true) H1 else tb σ H1 Q) : tOrV ta tb σ H Q := h
theorem rd_notV (h : ta σ H fun x H1 => ∃ c, x = .bl c ∧ Q (.bl (!c)) H1) : tNotV ta σ H Q := h
theorem rd_and {t u : TT} {Q : Bool → Hp → Prop} (h : t σ H fun c H1 => if c = true then u σ H1 Q else Q false H1) : tAnd t u σ H Q := h
theorem rd_or {t u : TT} {Q : Bool → Hp → Prop} (h : t σ H fun c H1 => if c = true then Q true H1 else u σ H1 Q) : tOr t u σ H Q := h
theorem rd_not {t : TT} {Q : Bool → Hp → Prop} (h : t σ H fun c H1 => Q (!c) H1) : tNot t σ H Q := h
theorem rd_cb {r : List V → Hp → VK → Prop} {t : TA} (h : t σ H fun vs H1 => r vs H1 Q) : tCB r t σ H Q := h
theorem rd_call {sp : Sp} {dvs : List V} {E : XK} {t : TA} (h : t σ H fun vs H1 => sp (vs ++ dvs) H1 Q E) : tCall sp dvs E t σ H Q := h
theorem rd_i0 {g : Int → Int → V} {a b : Int} (q : Q (g a b) H) : rI0 g (.int a) (.int b) H Q := ⟨a, b, rfl, rfl, q⟩
theorem rd_eq (hs : scal x y = true) (q : Q (.bl (decide (x = y))) H) : rEq x y H Q := ⟨hs, q⟩
end
section
variable {σ : L2.St} {H : Hp} {x y : V} {Q : VK} {te : TE} {K : PySem.W.Frag}
theorem rd_sl {r : V → Option Int → Option Int → Hp → VK → Prop} {tl th : TO} (h : te σ H fun x H1 => tl σ H1 fun l H2 => th σ H2 fun u H3 => r x l u H3 Q) : tSl r te tl th σ H Q := h
theorem rd_nopart {Q : Option Int → Hp → Prop} (h : Q none H) : tNoPart σ H Q := h
theorem rd_part {Q : Option Int → Hp → Prop} (h : te σ H fun x H1 => ∃ i, x = .int i ∧ Q (some i) H1) : tPart te σ H Q := h
theorem rd_intP {j : Int} {P : Int → Prop} (h : P j) : ∃ i, V.int j = .int i ∧ P i := ⟨j, rfl, h⟩
theorem rd_fld {f : Str} (h : te σ H fun x H1 => ∃ a C dx fs v, x = .ref a ∧ H1 a = some (.ins C dx fs) ∧ Cls K C ∧ NoAttr K C f ∧ fs.lookup f = some v ∧ Q v H1) : tFld K te f σ H Q := h
theorem rd_ne (hs : scal x y = true) (q : Q (.bl (!decide (x = y))) H) : rNe x y H Q := ⟨hs, q⟩
theorem rd_rU {g : Int → V} {a : Int} (q : Q (g a) H) : rU g (.int a) H Q := ⟨a, rfl, q⟩
theorem rd_iC {C : Int → Int → Prop} {g : Int → Int → V} {a b : Int} (hc : C a b) (q : Q (g a b) H) : rI C g (.int a) (.int b) H Q := ⟨a, b, rfl, rfl, hc, q⟩
theorem rd_eqI {a b : Int} (q : Q (.bl (decide (a = b))) H) : rEq (.int a) (.int b) H Q := ⟨rfl, by rw [show decide (V.int a = V.int b) = decide (a = b) by simp]; exact q⟩
theorem rd_neI {a b : Int} (q : Q (.bl (!decide (a = b))) H) : rNe (.int a) (.int b) H Q := ⟨rfl, by rw [show decide (V.int a = V.int b) = decide (a = b) by simp]; exact q⟩
end
/-! the step: all that needs no choice -/
local macro_rules | `(tactic| walk_at "rd") => `(tactic| (repeat (first
  | ((with_reducible refine' rd_var ?h0 ?_); (case h0 => rfl))
  | with_reducible refine rd_c ?_
  | with_reducible refine rd_op ?_
  | with_reducible refine rd_nil ?_
  | with_reducible refine rd_cons ?_
  | with_reducible refine rd_tup ?_
  | with_reducible refine rd_lst ?_
  | with_reducible refine rd_ifs ?_
  | with_reducible refine rd_seq ?_
  | with_reducible refine rd_next ?_
  | with_reducible refine rd_ret ?_
  | with_reducible refine rd_asg ?_
  | with_reducible refine rd_gname ?_
  | with_reducible refine rd_drop ?_
  | with_reducible refine rd_test ?_
  | with_reducible refine rd_B ?_
  | with_reducible refine rd_bl ?_
  | with_reducible refine rd_blP ?_
  | with_reducible refine rd_andV ?_
  | with_reducible refine rd_orV ?_
  | with_reducible refine rd_notV ?_
  | with_reducible refine rd_and ?_
  | with_reducible refine rd_or ?_
  | with_reducible refine rd_not ?_
  | with_reducible refine rd_cb ?_
  | with_reducible refine rd_call ?_
  | with_reducible refine rd_un ?_
  | with_reducible refine rd_sl ?_
  | with_reducible refine rd_nopart ?_
  | with_reducible refine rd_part ?_
  | with_reducible refine rd_intP ?_
  | with_reducible refine rd_rU ?_
  | with_reducible refine rd_fld ?_
  | with_reducible refine rd_eqI ?_
  | with_reducible refine rd_neI ?_
  | with_reducible refine rd_i0 ?_)))
end Mw

/-! MR1 -/
/-! enumerate over a tuple. -/
namespace Mw
open PySem PySem.Spec PyProof.Rows L2
section
variable {prog : Program} {w : World} {A : Around} {E : Value → Shared → Prop} {s : Shared}
/-- a tuple's own iterator, as something that is drawn from -/
theorem drawsT (hh : A.handled = none) {it a : Addr} {items : Array Value} (hne : a ≠ it) :
    Draws prog w A it [it, a] items.size (fun i x => items[i]? = some x) (fun i h => h.IsTupleIter it a i ∧ h.IsTuple a items) where
  live := fun i h st => by
    obtain ⟨⟨o, ho, _⟩, _⟩ := st
    exact ⟨o, ho⟩
  frame := fun i h h' st k => by
    obtain ⟨⟨o, ho, r⟩, ⟨o2, ho2, r2⟩⟩ := st
    exact ⟨⟨o, k it (by simp) o ho, r⟩, ⟨o2, k a (by simp) o2 ho2, r2⟩⟩
  item := fun i s Q E hi st hQ => by
    obtain ⟨h1, h2⟩ := st
    refine RZ.nextOf_tuple_item h1 h2 (x := items[i]) (by simp [hi]) fun h' hit' sb => ?_
    obtain ⟨o2, ho2, r2⟩ := h2
    exact hQ _ h' s.toks (by simp [hi]) ⟨hit', ⟨o2, (sb.2 a hne).trans ho2, r2⟩⟩ sb
  done := fun s Q E st hE => RZ.nextOf_tuple_end hh st.1 st.2 (by simp) hE
theorem enum_newT (l : Addr) (items : Array Value) :
    Meets (Builtin.«enumerate.__new__» ⟨[.type "enumerate", .ref l], []⟩) (fun _ R s => s.heap.IsTuple l items ∧
      R (.ok (.ret (.ref (s.heap.push { cls := .type "tuple_iterator", data := .fields #[.ref l, .int 0 0] }).objs.size)))
        { s with heap := (s.heap.push { cls := .type "tuple_iterator", data := .fields #[.ref l, .int 0 0] }).push { cls := .type "enumerate", data := .fields #[.none, .bool false, .ref s.heap.objs.size, rawInt 0, .none, .none] } }) :=
  .of_wp fun prog w A R s h => by
    obtain ⟨hp, g, d, tk, os⟩ := s
    obtain ⟨hl, h⟩ := h
    have hsub := sub_enumerate
    have hT : Heap.IsTuple (Shared.heap ⟨hp, g, d, tk, os⟩) l items := hl
    wp_walk using wpAny_pyIter_tuple hT
    refine wpAny_stack_any fun st => wpAny_pure ?_
    split
    · rename_i c _ _ _ _ _
      cases (c == Value.type "enumerate")
      all_goals
        wp_walk using wpAny_pyIter_tuple hT
        exact ⟨_, rfl, h⟩
    · wp_walk using wpAny_pyIter_tuple hT
      exact ⟨_, rfl, h⟩
theorem call_enumT {l : Addr} {items : Array Value} {Q : Value → Shared → Prop} (hT : s.heap.IsTuple l items)
    (h : ∀ h', IsEnum h' (s.heap.objs.size + 1) s.heap.objs.size 0 .none → h'.IsTupleIter s.heap.objs.size l 0 →
      (∀ c u, s.heap.get? c = some u → h'.get? c = some u) → Q (.ref (s.heap.objs.size + 1)) { s with heap := h' }) :
    wpAny (model prog w) A (call (.type "enumerate") [.ref l]) Q E s := by
  refine callType_new F.called_enumerate (by decide) (F.typeCall_enumerate_1 _) (F.newCall_enumerate_1 _) (fun o => F.args_object_init_2 o _) F.entry_enumerate_new (enum_newT l items) ⟨hT, ?_⟩
  generalize hit : ({ cls := .type "tuple_iterator", data := .fields #[.ref l, .int 0 0] } : Obj) = oi
  have hz : (s.heap.push oi).objs.size = s.heap.objs.size + 1 := Heap.size_push ..
  show _ ∧ _
  rw [hz]
  have he : IsEnum ((s.heap.push oi).push { cls := .type "enumerate", data := .fields #[.none, .bool false, .ref s.heap.objs.size, rawInt 0, .none, .none] }) (s.heap.objs.size + 1) s.heap.objs.size 0 .none := by
    have q := Heap.get?_push_size (s.heap.push oi) (o := { cls := .type "enumerate", data := .fields #[.none, .bool false, .ref s.heap.objs.size, rawInt 0, .none, .none] }) rfl
    rw [hz] at q
    exact q
  refine ⟨⟨_, he, rfl⟩, h _ he ⟨oi, Heap.get?_push_of_some _ (Heap.get?_push_size _ (by rw [← hit]; rfl)), by rw [← hit], by rw [← hit]; rfl⟩ fun c u x => Heap.get?_push_of_some _ (Heap.get?_push_of_some _ x)⟩
end
/-- the tuple at a, each item in a new pair with its number -/
def IteT (K : PySem.W.Frag) (a : Addr) : It :=
  ⟨fun i H => ∃ (xs : List V) (x : V), SqT K H a xs ∧ xs[i]? = some x, fun i H v H' => ∃ T x, v = .ref T ∧ H T = none ∧ H' = upd H T (.tup [.int (i : Nat), x]) ∧ ∀ ys, SqT K H a ys → ys[i]? = some x,
    fun i H => ∃ xs : List V, SqT K H a xs ∧ xs.length ≤ i⟩
theorem turn_enumT {P : Program} {w : World} {K : PySem.W.Frag} {elts : List Expr} {kk : Nat} {tpos : Pos} (a e it : Addr) (hea : e ≠ a) (hia : a ≠ it) :
    Turn P w K (.Tuple elts kk tpos) (IteT K a) [e, it] e (fun i h => (∃ old, IsEnum h e it ((i : Nat) : Int) old) ∧ h.IsTupleIter it a i ∧ e ≠ it) where
  mem := by simp
  obj := fun i h st b hb => by
    obtain ⟨⟨old, he⟩, ⟨o, ho, hc, hd⟩, _⟩ := st
    have e' : b = e ∨ b = it := by simpa using hb
    rcases e' with z | z
    · rw [z]; exact ⟨_, he, fun v q => nomatch q⟩
    · exact ⟨o, by rw [z]; exact ho, fun v q => by rw [hd] at q; cases q⟩
  keep := fun i h h' st k => by
    obtain ⟨⟨old, he⟩, hi, hne⟩ := st
    exact ⟨⟨old, k e (by simp) _ he⟩, hi.at fun o q => k it (by simp) o q, hne⟩
  item := by
    intro X hP hw hK hc i pins s σ H E I hf st hg
    subst hP hw hK
    obtain ⟨⟨old, he⟩, hit, hne⟩ := st
    obtain ⟨xs, x, hq, hx⟩ := hg
    obtain ⟨its, rv, p, hz⟩ := I.tuple hq
    obtain ⟨u, hu, ru⟩ := rv.get hx
    have hel : e < s.heap.objs.size := Heap.lt_size he
    have hil : it < s.heap.objs.size := by
      obtain ⟨_, q, _⟩ := hit
      exact Heap.lt_size q
    have hT : s.heap.IsTuple a its.toArray := p
    have hlt : i < its.toArray.size := by
      have q := (List.getElem?_eq_some_iff.mp hu).1
      simpa using q
    refine wpAny_pyNext_enum_itemD (drawsT (A := X.A.in1) (prog := X.prog) (w := X.w) (I.ok.hd hc) hia) he ⟨hit, hT⟩ hlt hne (by simp [hne, hea]) fun x' h' tk hx' ho hs' hT' hsz hk => ?_
    obtain rfl : x' = u := by
      have q : its[i]? = some x' := by simpa using hx'
      rw [hu] at q
      exact (Option.some.inj q).symm
    refine ⟨_, rfl, wpAny_letOwnedTupleGo_enum (s := { s with heap := h', toks := tk + 1 }) ho fun h2 he2 sb => ?_⟩
    have hT2 : h2.get? s.heap.objs.size = some { cls := .type "tuple", data := .seq #[.int i tk, x'] } := (sb.2 _ (Nat.ne_of_gt hel)).trans hT'
    have new : ObjOk X.prog X.w (upd H s.heap.objs.size (.tup [.int (i : Nat), x])) h2 s.heap.objs.size (.tup [.int (i : Nat), x]) :=
      ⟨(by decide : 2 ≤ sizeLine), [.int i tk, x'], .cons ⟨_, rfl⟩ (.cons ru .nil), ⟨_, hT2, rfl, _, rfl⟩⟩
    have I1 : Inv X pins σ (upd H s.heap.objs.size (.tup [.int (i : Nat), x])) { s with heap := h2, toks := tk + 1 } :=
      I.turnedNew (ch := [e, it]) (fun b u hb q => (sb.2 b fun z => hb (by simp [z])).trans (hk b u (fun z => hb (by simp [z])) (fun z => hb (by simp [z])) q)) hf (Nat.le_refl _) new
    refine ⟨.ref s.heap.objs.size, _, I1, rfl, ⟨_, x, rfl, I.hok.fresh (Nat.le_refl _), rfl, fun ys hy => by rw [I.tuple_inj hy hq]; exact hx⟩, ⟨⟨x', ?_⟩, hs'.1.at fun o q => (sb.2 it (Ne.symm hne)).trans q, hne⟩, fun b hb => ?_⟩
    · rw [show ((i + 1 : Nat) : Int) = (i : Int) + 1 by omega]
      exact he2
    · have hb' : b < s.heap.objs.size := by
        have e' : b = e ∨ b = it := by simpa using hb
        rcases e' with z | z <;> rw [z] <;> assumption
      rw [upd_ne (Nat.ne_of_lt hb')]
      exact (hf b hb).1
  done := by
    intro X hP hw hK hc i pins s σ H E I hf st hg
    subst hP hw hK
    obtain ⟨⟨old, he⟩, hit, hne⟩ := st
    obtain ⟨xs, hq, hx⟩ := hg
    obtain ⟨its, rv, p, hz⟩ := I.tuple hq
    obtain ⟨f0, f1, f2, f3, f4, f5⟩ := hf it (by simp)
    have hl := rv.length
    have hT : s.heap.IsTuple a its.toArray := p
    have D : Draws X.prog X.w X.A.in1 it [it, a] i (fun _ _ => False) (fun j h => j = i ∧ h.IsTupleIter it a i ∧ h.IsTuple a its.toArray) := {
      live := fun j h st => (drawsT (A := X.A.in1) (prog := X.prog) (w := X.w) (items := its.toArray) (I.ok.hd hc) hia).live i h st.2
      frame := fun j h h' st k => ⟨st.1, (drawsT (A := X.A.in1) (prog := X.prog) (w := X.w) (items := its.toArray) (I.ok.hd hc) hia).frame i h h' st.2 k⟩
      item := fun j s Q E hj st hQ => absurd hj (by rw [st.1]; omega)
      done := fun s Q E st hE => RZ.nextOf_tuple_end (I.ok.hd hc) st.2.1 st.2.2 (by simp; omega) hE }
    exact wpAny_pyNext_enum_endD D he ⟨rfl, hit, hT⟩ fun h' eb => ⟨rfl, I.turned (t' := s.toks) (fun b o hb q => eb b o hb q) f0 f1 f3 f4 f5⟩
  self := fun A i s Q E st h => by
    obtain ⟨⟨_, he⟩, _⟩ := st
    exact wpAny_pyIter_enum he h
def iEnumT (K : PySem.W.Frag) (ta : TA) : TI := fun σ H R => ta σ H fun vs H1 => ∃ a xs, vs = [.ref a] ∧ SqT K H1 a xs ∧ R (IteT K a) H1
theorem pi_enumT {X : Cx} {e : Expr} {ta : TA} {p pos tpos : Pos} {elts : List Expr} {kk : Nat} (hg : Gl X "enumerate") (hm : X.mg "enumerate" = none) (ha : PA X [e] ta) (hs : starEach [e] X.env = [(false, eval e X.env)] := by rfl) :
    PI X (.Tuple elts kk tpos) (.Call (.Name "enumerate" p) [e] [] pos) (iEnumT X.K ta) := by
  refine ⟨fun pins s σ H R I h => ?_⟩
  refine Call_ (ld_blt I hg hm boot_enumerate (PyProof.Rows.callWith_type1 (thn (ha.run pos pins s σ H _ I h) fun us s1 hh => ?_) hs rfl))
  obtain ⟨vs, H1, I1, r1, a, xs, ex, hq, q⟩ := hh
  subst ex
  cases r1 with
  | cons r rr =>
    cases rr
    cases r
    obtain ⟨its, rv, p1, hz⟩ := I1.tuple hq
    have hT : s1.heap.IsTuple a its.toArray := p1
    have hal : a < s1.heap.objs.size := by
      obtain ⟨o, ho, _⟩ := id hT
      exact Heap.lt_size ho
    refine call_enumT hT fun h' he hit hk => wpAny_pyIter_enum he ?_
    have I2 : Inv X pins σ H1 { s1 with heap := h' } := I1.kept (t' := s1.toks) hk
    refine ⟨s1.heap.objs.size + 1, [s1.heap.objs.size + 1, s1.heap.objs.size], _, _, H1, rfl, I2, turn_enumT a (s1.heap.objs.size + 1) s1.heap.objs.size (Nat.ne_of_gt (Nat.lt_succ_of_lt hal)) (Nat.ne_of_lt hal), ⟨⟨.none, he⟩, hit, Nat.succ_ne_self _⟩, fun b hb => ?_, q⟩
    have e' : b = s1.heap.objs.size + 1 ∨ b = s1.heap.objs.size := by simpa using hb
    have hle : s1.heap.objs.size ≤ b := by
      rcases e' with z | z
      · exact Nat.le_trans (Nat.le_succ _) (Nat.le_of_eq z.symm)
      · exact Nat.le_of_eq z.symm
    exact I1.fpOk hle (I1.hok.fresh hle)
/-- a loop over it -/
theorem for_enumT {K : PySem.W.Frag} {a : Addr} {xs : List V} {g : TG} {tb : TS} {D : Ends} {σ : L2.St} {H : Hp} (Pv : Nat → L2.St → Hp → Prop) (h0 : Pv 0 σ H) (hl : ∀ i σ H, Pv i σ H → SqT K H a xs)
    (hs : ∀ i x T σ H, xs[i]? = some x → Pv i σ H → H T = none → g (.ref T) σ (upd H T (.tup [.int (i : Nat), x])) fun σ2 H2 => tb { D with nx := Pv (i + 1), ct := Pv (i + 1), bk := D.nx } σ2 H2) (hd : ∀ σ H, Pv xs.length σ H → D.nx σ H) :
    ∃ W : Nat → Nat → L2.St → Hp → Prop, (∃ m, W 0 m σ H) ∧ ∀ i m σ H, W i m σ H →
      ((IteT K a).stop i H ∧ D.nx σ H) ∨ ((IteT K a).go i H ∧ ∃ N : L2.St → Hp → Prop, (∀ σ' H', N σ' H' → ∃ m', m' < m ∧ W (i + 1) m' σ' H') ∧ ∀ x H', (IteT K a).yld i H x H' → g x σ H' fun σ2 H2 => tb { D with nx := N, ct := N, bk := D.nx } σ2 H2) := by
  refine ⟨fun i m σ H => m + i = xs.length ∧ Pv i σ H, ⟨xs.length, rfl, h0⟩, ?_⟩
  rintro i m σ H ⟨hm, pv⟩
  have q := hl i σ H pv
  cases m with
  | zero =>
    have e : i = xs.length := by omega
    subst e
    exact .inl ⟨⟨xs, q, Nat.le_refl _⟩, hd σ H pv⟩
  | succ m =>
    have hlt : i < xs.length := by omega
    have hx : xs[i]? = some xs[i] := by simp [hlt]
    refine .inr ⟨⟨xs, xs[i], q, hx⟩, Pv (i + 1), fun σ' H' p' => ⟨m, by omega, by omega, p'⟩, fun v H' y => ?_⟩
    obtain ⟨T, x, ev, hT, eH, hy⟩ := y
    subst ev eH
    have hx2 := hy xs q
    exact hs i x T σ H hx2 pv hT
end Mw

/-! MR2 -/
/-! An own error whose __init__ only passes; is of a flag; == by an own __eq__ with both answers. -/
namespace Mw
open PySem PySem.Spec PyProof.Rows L2
abbrev Sl := L2.St
/-- C(), its own __init__ keeping sp: it takes the new exception and leaves all as it was -/
def tMkP (C : Addr) (sp : Sp) : Sl → Hp → XK → Prop := fun _ H Q => ∀ a, H a = none → sp [.ref a] (upd H a (exo a C none)) (fun v H2 => v = .non ∧ H2 = upd H a (exo a C none)) (fun _ _ _ => False) ∧ Q (.ref C) none H
theorem mkP_end {X : Cx} {pins : List (Addr × Obj)} {σ : Sl} {H : Hp} {Q : XK} {hp hp2 h2 : Heap} {g1 g2 : Array GenState} {d1 d2 : Drawn} {t1 t2 : Nat} {os1 os2 : OsState} {a C : Addr} (T : Raises X (.ref C)) (I : Inv X pins σ H ⟨hp, g1, d1, t1, os1⟩)
    (ha : hp.objs.size ≤ a) (k : ∀ c u, hp.get? c = some u → hp2.get? c = some u) (un : Un (frs X.stack) [] (upd H a (exo a C none)) (upd H a (exo a C none)) hp2 h2) (hok : HOk X.prog X.w (upd H a (exo a C none)) h2) (ho : os2 = os1) (hb : AllBare g2)
    (q : Q (.ref C) none H) : MkP X pins σ Q (.ref a) ⟨h2, g2, d2, t2, os2⟩ := by
  obtain ⟨t0, hoe⟩ := exo_at hok (upd_same (H := H) (a := a) (o := exo a C none))
  have hn : H a = none := I.hok.fresh ha
  obtain ⟨G, y1, y2⟩ := restrict h2 fun c => decide (c ≠ a)
  have gk : ∀ c, c ≠ a → G.get? c = h2.get? c := fun c hc => y1 c (decide_eq_true hc)
  have ge : G.get? a = none := y2 a (by simp)
  have nha : ∀ {c : Addr} {u : Obj}, hp.get? c = some u → c ≠ a := fun {c u} z => Nat.ne_of_lt (Nat.lt_of_lt_of_le (Heap.lt_size z) ha)
  have up : ∀ {c : Addr}, c ≠ a → H c = none → upd H a (exo a C none) c = none := fun {c} hc n => (upd_ne hc).trans n
  have U : Un (frs X.stack) [] H H hp G := {
    keep := fun c u z n hf hx => (gk c (nha z)).trans (un.keep c u (k c u z) (up (nha z) n) hf hx)
    slot := fun c u z n hf hx => by
      obtain ⟨sl, e⟩ := un.slot c u (k c u z) (up (nha z) n) hf hx
      exact ⟨sl, (gk c (nha z)).trans e⟩
    free := fun _ _ _ n _ => n
    there := fun c u z hx => by
      obtain ⟨u', e⟩ := un.there c u (k c u z) hx
      exact ⟨u', (gk c (nha z)).trans e⟩
    tups := fun _ _ z => z
    frzs := fun _ _ _ z => z
    tbls := fun _ ps z => ⟨#[], by rw [z]; simp⟩ }
  have hok3 : HOk X.prog X.w H G := fun c o z => by
    have hca : c ≠ a := ne_of_none z hn
    have z2 : upd H a (exo a C none) c = some o := (upd_ne hca).trans z
    have noa : ∀ {x : Addr} {u : HO}, upd H a (exo a C none) x = some u → u ≠ exo a C none → x ≠ a := fun {x u} hx hu e => hu (by rw [e, upd_same] at hx; exact (Option.some.inj hx).symm)
    refine (hok c o z2).stay (fun x v hx y => ?_) (fun x hx => ?_) (fun x xs hx => ?_)
    · have hxa : x ≠ a := by
        rcases hx with hx | hx
        · rw [hx]
          exact hca
        · exact noa hx (Ne.symm exo_own)
      exact (gk x hxa).trans y
    · exact (upd_ne (noa hx (Ne.symm exo_own))).symm.trans hx
    · exact (upd_ne (noa hx (Ne.symm exo_tup))).symm.trans hx
  have J : Inv X pins σ H ⟨G, g2, d2, t2, os2⟩ := I.call' (ch := []) ho U hok3 hb (fun c z => absurd z (by simp))
  refine ⟨a, _, _, ⟨G, g2, d2, t2, os2⟩, H, .ref C, none, rfl, J, fun c u z => ?_, ge, hoe, ⟨rfl, rfl⟩, rfl, rfl, hn, rfl, hb, T, q⟩
  by_cases hca : c = a
  · rw [hca, ge] at z
    cases z
  · exact (gk c hca).symm.trans z
theorem pmk_pass {X : Cx} {CX : CXT} {x : Str} {C fI : Addr} {k : Nat} {fd : FuncData} {ps : List Str} {sp : Sp} {p pos : Pos} (T : OexC X.K C) (iC : PySem.W.findIn X.K (.ref C) "__init__" = some (some (.ref fI))) (tI : PySem.W.typeIn X.K (.ref fI) = some (.type "function"))
    (F1 : FnOk X.prog X.w X.K X.mg X.base CX k fI fd ps sp) (hr : Room (k + 1) X.A) (hb : Binds X.K fd ps []) (hx : Passes CX X (fun _ _ _ => False)) (hg : Gl X x) (hm : X.mg x = some (.ref C))
    (hdb : (x == ("__debug__" : Str)) = false := by decide) : PMk X (.Call (.Name x p) [] [] pos) (tMkP C sp) := by
  intro pins s σ H Q I h
  obtain ⟨nm, q, N, bs, bm, sn, sub, ab, col, dd, k0, k1, k2, k3, k5, hC, hbm⟩ := T.cls
  refine wpAny_Call_Name_kw (ld_glob I hg hm ?_ hdb)
  refine PySem.W.callWith_K0 I.kIn T.kC ?_
  obtain ⟨hp, g, dr, tk, os⟩ := s
  have hsz : hp.objs.size ≤ hp.objs.size + 1 := Nat.le_succ _
  obtain ⟨hq, hQ⟩ := h (hp.objs.size + 1) (I.hok.fresh hsz)
  have kk : ∀ c u, hp.get? c = some u → ((hp.push (PySem.W.kdv_tup [])).push (PySem.HandSPX.excO C hp.objs.size)).get? c = some u := fun c u e => Heap.get?_push_of_some _ (Heap.get?_push_of_some _ e)
  have hget : ((hp.push (PySem.W.kdv_tup [])).push (PySem.HandSPX.excO C hp.objs.size)).get? (hp.objs.size + 1) = some (PySem.HandSPX.excO C hp.objs.size) := by heap_get
  have I2 : Inv X pins σ (upd H (hp.objs.size + 1) (exo (hp.objs.size + 1) C none)) ⟨(hp.push (PySem.W.kdv_tup [])).push (PySem.HandSPX.excO C hp.objs.size), g, dr, tk, os⟩ :=
    I.laid (t' := tk) (a := hp.objs.size + 1) (o := exo (hp.objs.size + 1) C none) (h' := (hp.push (PySem.W.kdv_tup [])).push (PySem.HandSPX.excO C hp.objs.size)) kk hsz (exo_ok hget)
  have hl : [Value.ref (hp.objs.size + 1)].length = ps.length := (F1.len _ _ _ _ hq)
  refine wpAny_call (PySem.HandSPX.call_own F.excBase_ValueError (fun Y => PySem.HandSPX.refsVE_contains Y bm hbm) (I.kIn _ _ hC) (PySem.W.looks_findIn I.kIn iC) (fun self => PySem.W.bind_fn I.kIn self tI) (by show 0 ≤ sizeLine; exact Nat.zero_le _)
    (codeAny_mono (F1.run _ X.stack _ _ ⟨[Value.ref (hp.objs.size + 1)], []⟩ [Value.ref (hp.objs.size + 1)] [V.ref (hp.objs.size + 1)] _ (fun _ _ _ => False) (hr.make C [] []) (I2.env0.make C [] []) (by
      have b := hb _ [Value.ref (hp.objs.size + 1)] I2.kIn hl
      simpa using b) (show Vals [V.ref _] [Value.ref _] from .cons rfl .nil) hq) fun r s' hq' => ?_))
  cases r with
  | error er => exact hx pins σ _ _ er s' I2 hq'
  | ok fl =>
    cases fl with
    | ret u =>
      obtain ⟨v, H2, os2, bare2, un2, hok2, rv, ev, eH⟩ := hq'
      subst ev eH
      obtain ⟨h2, g2, d2, t2, os'⟩ := s'
      exact ⟨rv, mkP_end (raises_own T.exC T.tyC) I hsz kk un2 hok2 os2 bare2 hQ⟩
    | next => exact False.elim hq'
    | brk => exact False.elim hq'
    | cont => exact False.elim hq'

/-! ### is True, is False -/
theorem is_flag {X : Cx} {b : Bool} : OpR X (compareOp .Is) (fun x y H Q => y = .bl b ∧ Q (.bl (decide (x = .bl b))) H) := by
  intro pins s σ H x y v u Q I rx ry h
  obtain ⟨rfl, q⟩ := h
  cases (show u = Value.bool b from ry)
  by_cases e : x = .bl b
  · subst e
    cases (show v = Value.bool b from rx)
    exact wpAny_is_self rfl ⟨.bl true, H, I, rfl, by simpa using q⟩
  · have q' : Q (.bl false) H := by simpa [e] using q
    cases x with
    | bl c =>
      cases (show v = Value.bool c from rx)
      exact wpAny_is_other rfl (fun z => e (by cases z; rfl)) ⟨.bl false, H, I, rfl, q'⟩
    | int i =>
      obtain ⟨_, z⟩ := (show ∃ t, v = Value.int i t from rx)
      subst z
      exact wpAny_is_other rfl (fun z => nomatch z) ⟨.bl false, H, I, rfl, q'⟩
    | str i =>
      obtain ⟨_, z⟩ := (show ∃ t, v = Value.str i t from rx)
      subst z
      exact wpAny_is_other rfl (fun z => nomatch z) ⟨.bl false, H, I, rfl, q'⟩
    | byt i =>
      obtain ⟨_, z⟩ := (show ∃ t, v = Value.bytes i t from rx)
      subst z
      exact wpAny_is_other rfl (fun z => nomatch z) ⟨.bl false, H, I, rfl, q'⟩
    | flt i =>
      obtain ⟨_, z⟩ := (show ∃ t, v = Value.float i t from rx)
      subst z
      exact wpAny_is_other rfl (fun z => nomatch z) ⟨.bl false, H, I, rfl, q'⟩
    | non =>
      cases (show v = Value.none from rx)
      exact wpAny_is_other rfl (fun z => nomatch z) ⟨.bl false, H, I, rfl, q'⟩
    | ref i =>
      cases (show v = Value.ref i from rx)
      exact wpAny_is_other rfl (fun z => nomatch z) ⟨.bl false, H, I, rfl, q'⟩
    | ty i =>
      cases (show v = Value.type i from rx)
      exact wpAny_is_other rfl (fun z => nomatch z) ⟨.bl false, H, I, rfl, q'⟩

/-! ### == by an own __eq__ of the class at C, whatever it answers -/
/-- what __eq__ promises: of the instance at a and the value y it answers r -/
def spEq2 (R : Addr → V → Hp → Bool → Prop) : Sp := fun vs H Q _ => ∃ a y r, vs = [.ref a, y] ∧ R a y H r ∧ Q (.bl r) H
/-- the left one an instance of C, the right one another such or a tuple -/
def rEqI (C : Addr) (R : Addr → V → Hp → Bool → Prop) : R2 := fun x y H Q => ∃ a b dx fs r, x = .ref a ∧ y = .ref b ∧ H a = some (.ins C dx fs) ∧ ((∃ dy gs, H b = some (.ins C dy gs)) ∨ ∃ ys, H b = some (.tup ys)) ∧ R a y H r ∧ Q (.bl r) H
theorem op_eqI {X : Cx} {CX : CXT} {n : Nat} {C f : Addr} {fd : FuncData} {ps : List Str} {R : Addr → V → Hp → Bool → Prop} {E : XK} (F : FnOk X.prog X.w X.K X.mg X.base CX n f fd ps (spEq2 R)) (hr : Room n X.A)
    (hs : PySem.W.findIn X.K (.ref C) "__eq__" = some (some (.ref f))) (hf : PySem.W.isFn X.K (.ref f) = true) (hb : Binds X.K fd ps []) (hx : Passes CX X E) (hn : PySem.W.notFirst X.K C (.type "tuple") = true) : OpR X (compareOp .Eq) (rEqI C R) := by
  intro pins s σ H x y u v Q I rx ry h
  obtain ⟨a, b, dx, fs, r0, rfl, rfl, ha, hb', hR, q⟩ := h
  cases rx
  cases ry
  have hsp : spEq2 R [.ref a, .ref b] H Q E := ⟨a, _, r0, rfl, hR, q⟩
  have hl := F.len _ _ _ _ hsp
  have r2 : Vals [V.ref a, V.ref b] [Value.ref a, Value.ref b] := .cons rfl (.cons rfl .nil)
  have go : wpAny (model X.prog X.w) X.A (call (.ref f) [.ref a, .ref b]) (PySem.W.CmpBack (EP X pins σ Q)) X.xe s := by
    refine wpAny_call (codeAny_mono (F.run X.A X.stack s H ⟨[.ref a, .ref b], []⟩ [.ref a, .ref b] [.ref a, .ref b] (fun z H' => (∃ c, z = .bl c) ∧ Q z H') E hr I.env0 (by
      have z := hb s [.ref a, .ref b] I.kIn (by simpa using hl)
      simpa using z) r2 ⟨a, _, r0, rfl, hR, ⟨_, rfl⟩, q⟩) fun r s' hq => ?_)
    cases r with
    | error e => exact hx pins σ H s e s' I hq
    | ok fl =>
      cases fl with
      | ret w =>
        obtain ⟨z, H', I', rz, ⟨c, ez⟩, q'⟩ := I.after hq
        subst ez
        cases rz
        exact ⟨V.bl c, H', I', rfl, q'⟩
      | next => exact False.elim hq
      | brk => exact False.elim hq
      | cont => exact False.elim hq
  obtain ⟨mA, J, _⟩ := ins_get I.hok ha
  obtain ⟨od, J, _⟩ := J.look
  obtain ⟨m, hF⟩ := I.fr
  rcases hb' with ⟨dy, gs, hb'⟩ | ⟨ys, hb'⟩
  · obtain ⟨mB, J', _⟩ := ins_get I.hok hb'
    obtain ⟨od', J', _⟩ := J'.look
    exact PySem.W.cmp_K (op := .Eq) (tb := .ref C) hr.units0 hF I.ok.mod.kin J J'.type (by simp [PySem.W.notFirst]) hs hf go
  · obtain ⟨P, Z, p, _⟩ := kit_of I (show L2.RelV (V.ref b) (Value.ref b) from rfl) (TyX.base (TyOf.tup hb'))
    exact PySem.W.cmp_K (op := .Eq) (tb := .type "tuple") hr.units0 hF I.ok.mod.kin J (Z.ty _ _ I.kIn p) hn hs hf go
end Mw

/-! M1 -/
/-! Data: what stands behind a value, apart from one object p (the hand) that may change. -/
namespace Mw
open PySem L2
/-- an object at a, not the one at p -/
def At (p : Addr) (H : Hp) (a : Addr) (o : HO) : Prop := a ≠ p ∧ H a = some o
/-- all but the object at p is as it was -/
def Keep (p : Addr) (H H' : Hp) : Prop := ∀ a o, a ≠ p → H a = some o → H' a = some o
theorem Keep.refl {p : Addr} {H : Hp} : Keep p H H := fun _ _ _ h => h
theorem Keep.trans {p : Addr} {H H1 H2 : Hp} (x : Keep p H H1) (y : Keep p H1 H2) : Keep p H H2 := fun a o n h => y a o n (x a o n h)
theorem Keep.same {p : Addr} {H H1 : Hp} (x : Same H H1) : Keep p H H1 := fun a o _ h => x a o h
theorem Keep.new {p q : Addr} {H : Hp} {o : HO} (h : H q = none) : Keep p H (upd H q o) := fun a u _ e => (upd_ne (ne_of_none e h)).trans e
theorem Keep.put {p q : Addr} {H H1 : Hp} {o : HO} (x : Keep p H H1) (h : H1 q = none) : Keep p H (upd H1 q o) := x.trans (Keep.new h)
theorem Keep.mut {p : Addr} {H : Hp} {o : HO} : Keep p H (upd H p o) := fun a u n e => (upd_ne n).trans e
theorem Same.put {q : Addr} {H H1 : Hp} {o : HO} (x : Same H H1) (h : H1 q = none) : Same H (upd H1 q o) := fun a u e => (upd_ne (ne_of_none (x a u e) h)).trans (x a u e)
theorem same_new {q : Addr} {H : Hp} {o : HO} (h : H q = none) : Same H (upd H q o) := fun _ _ e => (upd_ne (ne_of_none e h)).trans e
theorem At.keep {p a : Addr} {H H' : Hp} {o : HO} (x : At p H a o) (k : Keep p H H') : At p H' a o := ⟨x.1, k a o x.1 x.2⟩
theorem At.new {p a : Addr} {H : Hp} {o u : HO} (hp : H p = some u) (h : H a = none) : At p (upd H a o) a o := ⟨(ne_of_none hp h).symm, upd_same⟩
/-- what isinstance asks of the class at C -/
structure WebTy (K : PySem.W.Frag) (C : Addr) : Prop where
  cl : Cls K C
  ca : PySem.W.findIn K (.ref C) "__class__" = some (some (.builtin "object.__class__"))
  cg : PySem.W.specialIn K (.builtin "object.__class__") "__get__" = some (some (.builtin "getset_descriptor.__get__"))
  ct : PySem.W.takesIn K (.builtin "object.__class__") = some true
  co : PySem.W.mroIn K C (.type "object") = some true
  ki : PySem.W.kitOne K (.ref C) (.type "int") = some false
  kb : PySem.W.kitOne K (.ref C) (.type "bool") = some false
  kt : PySem.W.kitOne K (.ref C) (.type "tuple") = some false
  kl : PySem.W.kitOne K (.ref C) (.type "list") = some false
  ks : PySem.W.kitOne K (.ref C) (.type "str") = some false
/-- a thing that is none of the judged kinds: an empty dict, an instance of the class at C -/
def Oth (C p : Addr) (H : Hp) (v : V) : Prop := ∃ a, v = .ref a ∧ a ≠ p ∧ (H a = some (.dK []) ∨ ∃ dx fs, H a = some (.ins C dx fs))
mutual
def Tp (C p : Addr) (H : Hp) : PyData → V → Prop
  | .none, v => v = .non
  | .bool b, v => v = .bl b
  | .int i, v => v = .int i
  | .str s, v => v = .str s
  | .list ds, v => ∃ a xs, v = .ref a ∧ a ≠ p ∧ H a = some (.lst xs) ∧ TpAll C p H ds xs
  | .tuple ds, v => ∃ a xs, v = .ref a ∧ a ≠ p ∧ H a = some (.tup xs) ∧ TpAll C p H ds xs
  | .dict _, v => Oth C p H v
def TpAll (C p : Addr) (H : Hp) : List PyData → List V → Prop
  | [], xs => xs = []
  | d :: ds, xs => ∃ x r, xs = x :: r ∧ Tp C p H d x ∧ TpAll C p H ds r
end
section
variable {C p : Addr} {H H' : Hp} {K : PySem.W.Frag}
mutual
theorem Tp.keep (k : Keep p H H') : ∀ (d : PyData) (v : V), Tp C p H d v → Tp C p H' d v
  | .none, v, h => by simpa only [Tp] using h
  | .bool b, v, h => by simpa only [Tp] using h
  | .int i, v, h => by simpa only [Tp] using h
  | .str s, v, h => by simpa only [Tp] using h
  | .list ds, v, h => by
    simp only [Tp] at h ⊢
    obtain ⟨a, xs, e, n, ha, r⟩ := h
    exact ⟨a, xs, e, n, k a _ n ha, TpAll.keep k ds xs r⟩
  | .tuple ds, v, h => by
    simp only [Tp] at h ⊢
    obtain ⟨a, xs, e, n, ha, r⟩ := h
    exact ⟨a, xs, e, n, k a _ n ha, TpAll.keep k ds xs r⟩
  | .dict _, v, h => by
    simp only [Tp] at h ⊢
    obtain ⟨a, e, n, ha | ⟨dx, fs, ha⟩⟩ := h
    · exact ⟨a, e, n, .inl (k a _ n ha)⟩
    · exact ⟨a, e, n, .inr ⟨dx, fs, k a _ n ha⟩⟩
theorem TpAll.keep (k : Keep p H H') : ∀ (ds : List PyData) (xs : List V), TpAll C p H ds xs → TpAll C p H' ds xs
  | [], xs, h => by simpa only [TpAll] using h
  | d :: ds, xs, h => by
    simp only [TpAll] at h ⊢
    obtain ⟨x, r, e, h1, h2⟩ := h
    exact ⟨x, r, e, Tp.keep k d x h1, TpAll.keep k ds r h2⟩
end
theorem tpAll_iff : ∀ (ds : List PyData) (xs : List V), TpAll C p H ds xs ↔ ds.length = xs.length ∧ ∀ (i : Nat) d x, ds[i]? = some d → xs[i]? = some x → Tp C p H d x
  | [], xs => by
    simp only [TpAll]
    constructor
    · rintro rfl
      exact ⟨rfl, fun i d x h _ => by simp at h⟩
    · rintro ⟨h, _⟩
      exact List.length_eq_zero_iff.mp h.symm
  | d :: ds, xs => by
    simp only [TpAll]
    constructor
    · rintro ⟨x, r, rfl, h1, h2⟩
      obtain ⟨hl, hi⟩ := (tpAll_iff ds r).mp h2
      refine ⟨by simp [hl], fun i d' x' e1 e2 => ?_⟩
      cases i with
      | zero =>
        simp only [List.getElem?_cons_zero, Option.some.injEq] at e1 e2
        subst e1 e2
        exact h1
      | succ i =>
        simp only [List.getElem?_cons_succ] at e1 e2
        exact hi i d' x' e1 e2
    · rintro ⟨hl, hi⟩
      cases xs with
      | nil => simp at hl
      | cons x r => exact ⟨x, r, rfl, hi 0 d x rfl rfl, (tpAll_iff ds r).mpr ⟨by simpa using hl, fun i d' x' e1 e2 => hi (i + 1) d' x' (by simpa using e1) (by simpa using e2)⟩⟩
theorem TpAll.len {ds : List PyData} {xs : List V} (h : TpAll C p H ds xs) : ds.length = xs.length := ((tpAll_iff ds xs).mp h).1
theorem TpAll.get {ds : List PyData} {xs : List V} (h : TpAll C p H ds xs) {i : Nat} {d : PyData} (e : ds[i]? = some d) : ∃ x, xs[i]? = some x ∧ Tp C p H d x := by
  obtain ⟨hl, hi⟩ := (tpAll_iff ds xs).mp h
  have hlt := (List.getElem?_eq_some_iff.mp e).1
  have hx : xs[i]? = some (xs[i]'(by omega)) := by simp [show i < xs.length by omega]
  exact ⟨_, hx, hi i d _ e hx⟩
theorem TpAll.get' {ds : List PyData} {xs : List V} (h : TpAll C p H ds xs) {i : Nat} {x : V} (e : xs[i]? = some x) : ∃ d, ds[i]? = some d ∧ Tp C p H d x := by
  obtain ⟨hl, hi⟩ := (tpAll_iff ds xs).mp h
  have hlt := (List.getElem?_eq_some_iff.mp e).1
  have hx : ds[i]? = some (ds[i]'(by omega)) := by simp [show i < ds.length by omega]
  exact ⟨_, hx, hi i _ x hx e⟩
theorem TpAll.append {ds es : List PyData} {xs ys : List V} (h1 : TpAll C p H ds xs) (h2 : TpAll C p H es ys) : TpAll C p H (ds ++ es) (xs ++ ys) := by
  induction ds generalizing xs with
  | nil =>
    simp only [TpAll] at h1
    subst h1
    exact h2
  | cons d ds ih =>
    simp only [TpAll] at h1
    obtain ⟨x, r, rfl, a, b⟩ := h1
    show TpAll C p H (d :: (ds ++ es)) _
    simp only [TpAll]
    exact ⟨x, r ++ ys, rfl, a, ih b⟩
theorem TpAll.take {ds : List PyData} {xs : List V} (h : TpAll C p H ds xs) (n : Nat) : TpAll C p H (ds.take n) (xs.take n) := by
  obtain ⟨hl, hi⟩ := (tpAll_iff ds xs).mp h
  refine (tpAll_iff _ _).mpr ⟨by simp [hl], fun i d x e1 e2 => ?_⟩
  rw [List.getElem?_take] at e1 e2
  by_cases q : i < n
  · rw [if_pos q] at e1 e2
    exact hi i d x e1 e2
  · rw [if_neg q] at e1
    cases e1
theorem TpAll.drop {ds : List PyData} {xs : List V} (h : TpAll C p H ds xs) (n : Nat) : TpAll C p H (ds.drop n) (xs.drop n) := by
  obtain ⟨hl, hi⟩ := (tpAll_iff ds xs).mp h
  refine (tpAll_iff _ _).mpr ⟨by simp [hl], fun i d x e1 e2 => ?_⟩
  rw [List.getElem?_drop] at e1 e2
  exact hi _ d x e1 e2
theorem tpAll_nil : TpAll C p H [] [] := by simp only [TpAll]
theorem tpAll_cons {d : PyData} {ds : List PyData} {x : V} {xs : List V} (h1 : Tp C p H d x) (h2 : TpAll C p H ds xs) : TpAll C p H (d :: ds) (x :: xs) := by
  simp only [TpAll]
  exact ⟨x, xs, rfl, h1, h2⟩
theorem tp_int {i : Int} : Tp C p H (.int i) (.int i) := by simp only [Tp]
theorem tp_str {s : Str} : Tp C p H (.str s) (.str s) := by simp only [Tp]
theorem tp_bl {b : Bool} : Tp C p H (.bool b) (.bl b) := by simp only [Tp]
theorem tp_non : Tp C p H .none .non := by simp only [Tp]
theorem tp_tup {a : Addr} {ds : List PyData} {xs : List V} (h : At p H a (.tup xs)) (r : TpAll C p H ds xs) : Tp C p H (.tuple ds) (.ref a) := by
  simp only [Tp]
  exact ⟨a, xs, rfl, h.1, h.2, r⟩
theorem tp_lst {a : Addr} {ds : List PyData} {xs : List V} (h : At p H a (.lst xs)) (r : TpAll C p H ds xs) : Tp C p H (.list ds) (.ref a) := by
  simp only [Tp]
  exact ⟨a, xs, rfl, h.1, h.2, r⟩
theorem tp_tup' {v : V} {ds : List PyData} (h : Tp C p H (.tuple ds) v) : ∃ a xs, v = .ref a ∧ At p H a (.tup xs) ∧ TpAll C p H ds xs := by
  simp only [Tp] at h
  obtain ⟨a, xs, e, n, ha, r⟩ := h
  exact ⟨a, xs, e, ⟨n, ha⟩, r⟩
theorem tp_int' {v : V} {i : Int} (h : Tp C p H (.int i) v) : v = .int i := by simpa only [Tp] using h
theorem tp_str' {v : V} {i : Str} (h : Tp C p H (.str i) v) : v = .str i := by simpa only [Tp] using h

/-! ### kinds -/
def isI : PyData → Bool | .int _ => true | .bool _ => true | _ => false
def isB : PyData → Bool | .bool _ => true | _ => false
def isT : PyData → Bool | .tuple _ => true | _ => false
def isL : PyData → Bool | .list _ => true | _ => false
def isS : PyData → Bool | .str _ => true | _ => false
/-- an integer (no flag) within bounds -/
def inI (lo hi : Int) : PyData → Bool | .int i => decide (lo ≤ i) && decide (i ≤ hi) | _ => false
def isInt : PyData → Bool | .int _ => true | _ => false
theorem Tp.ty (W : WebTy K C) (d : PyData) (v : V) (h : Tp C p H d v) : ∃ t, TyX K H v t ∧ PySem.W.kitOne K t (.type "int") = some (isI d) ∧ PySem.W.kitOne K t (.type "bool") = some (isB d) ∧ PySem.W.kitOne K t (.type "tuple") = some (isT d) ∧
    PySem.W.kitOne K t (.type "list") = some (isL d) ∧ PySem.W.kitOne K t (.type "str") = some (isS d) := by
  cases d with
  | none =>
    simp only [Tp] at h
    subst h
    exact ⟨_, .base .non, kit_ty (show kitB "NoneType" "int" = some false from by decide +kernel), kit_ty (show kitB "NoneType" "bool" = some false from by decide +kernel), kit_ty (show kitB "NoneType" "tuple" = some false from by decide +kernel), kit_ty (show kitB "NoneType" "list" = some false from by decide +kernel), kit_ty (show kitB "NoneType" "str" = some false from by decide +kernel)⟩
  | bool b =>
    simp only [Tp] at h
    subst h
    exact ⟨_, .base (.bl b), kit_ty (show kitB "bool" "int" = some true from by decide +kernel), kit_ty (show kitB "bool" "bool" = some true from by decide +kernel), kit_ty (show kitB "bool" "tuple" = some false from by decide +kernel), kit_ty (show kitB "bool" "list" = some false from by decide +kernel), kit_ty (show kitB "bool" "str" = some false from by decide +kernel)⟩
  | int i =>
    simp only [Tp] at h
    subst h
    exact ⟨_, .base (.int i), kit_ty (show kitB "int" "int" = some true from by decide +kernel), kit_ty (show kitB "int" "bool" = some false from by decide +kernel), kit_ty (show kitB "int" "tuple" = some false from by decide +kernel), kit_ty (show kitB "int" "list" = some false from by decide +kernel), kit_ty (show kitB "int" "str" = some false from by decide +kernel)⟩
  | str s =>
    simp only [Tp] at h
    subst h
    exact ⟨_, .base (.str s), kit_ty (show kitB "str" "int" = some false from by decide +kernel), kit_ty (show kitB "str" "bool" = some false from by decide +kernel), kit_ty (show kitB "str" "tuple" = some false from by decide +kernel), kit_ty (show kitB "str" "list" = some false from by decide +kernel), kit_ty (show kitB "str" "str" = some true from by decide +kernel)⟩
  | list ds =>
    simp only [Tp] at h
    obtain ⟨a, xs, rfl, n, ha, r⟩ := h
    exact ⟨_, .base (.lst ha), kit_ty (show kitB "list" "int" = some false from by decide +kernel), kit_ty (show kitB "list" "bool" = some false from by decide +kernel), kit_ty (show kitB "list" "tuple" = some false from by decide +kernel), kit_ty (show kitB "list" "list" = some true from by decide +kernel), kit_ty (show kitB "list" "str" = some false from by decide +kernel)⟩
  | tuple ds =>
    simp only [Tp] at h
    obtain ⟨a, xs, rfl, n, ha, r⟩ := h
    exact ⟨_, .base (.tup ha), kit_ty (show kitB "tuple" "int" = some false from by decide +kernel), kit_ty (show kitB "tuple" "bool" = some false from by decide +kernel), kit_ty (show kitB "tuple" "tuple" = some true from by decide +kernel), kit_ty (show kitB "tuple" "list" = some false from by decide +kernel), kit_ty (show kitB "tuple" "str" = some false from by decide +kernel)⟩
  | dict kvs =>
    simp only [Tp] at h
    obtain ⟨a, rfl, n, ha | ⟨dx, fs, ha⟩⟩ := h
    · exact ⟨_, .base (.dK ha), kit_ty (show kitB "dict" "int" = some false from by decide +kernel), kit_ty (show kitB "dict" "bool" = some false from by decide +kernel), kit_ty (show kitB "dict" "tuple" = some false from by decide +kernel), kit_ty (show kitB "dict" "list" = some false from by decide +kernel), kit_ty (show kitB "dict" "str" = some false from by decide +kernel)⟩
    · exact ⟨_, .base (.ins ha W.cl W.ca W.cg W.ct W.co), W.ki, W.kb, W.kt, W.kl, W.ks⟩
theorem tp_isI (W : WebTy K C) {d : PyData} {v : V} {Q : VK} (h : Tp C p H d v) (q : Q (.bl (isI d)) H) : rIsi K [v, .ty "int"] H Q := by
  obtain ⟨t, ty, k, _⟩ := h.ty W
  exact ⟨v, _, t, _, _, rfl, .ty _, ty, k, q⟩
theorem tp_isB (W : WebTy K C) {d : PyData} {v : V} {Q : VK} (h : Tp C p H d v) (q : Q (.bl (isB d)) H) : rIsi K [v, .ty "bool"] H Q := by
  obtain ⟨t, ty, _, k, _⟩ := h.ty W
  exact ⟨v, _, t, _, _, rfl, .ty _, ty, k, q⟩
theorem tp_isT (W : WebTy K C) {d : PyData} {v : V} {Q : VK} (h : Tp C p H d v) (q : Q (.bl (isT d)) H) : rIsi K [v, .ty "tuple"] H Q := by
  obtain ⟨t, ty, _, _, k, _⟩ := h.ty W
  exact ⟨v, _, t, _, _, rfl, .ty _, ty, k, q⟩
theorem tp_isL (W : WebTy K C) {d : PyData} {v : V} {Q : VK} (h : Tp C p H d v) (q : Q (.bl (isL d)) H) : rIsi K [v, .ty "list"] H Q := by
  obtain ⟨t, ty, _, _, _, k, _⟩ := h.ty W
  exact ⟨v, _, t, _, _, rfl, .ty _, ty, k, q⟩
theorem tp_isS (W : WebTy K C) {d : PyData} {v : V} {Q : VK} (h : Tp C p H d v) (q : Q (.bl (isS d)) H) : rIsi K [v, .ty "str"] H Q := by
  obtain ⟨t, ty, _, _, _, _, k⟩ := h.ty W
  exact ⟨v, _, t, _, _, rfl, .ty _, ty, k, q⟩
end
theorem rd_mko {C : Addr} {sp : Sp} {dvs : List V} {ta : TA} {σ : L2.St} {H : Hp} {Q : XK} (h : ta σ H fun vs H1 => vs.length ≤ 1000 ∧ ∀ a, H1 a = none → sp (.ref a :: (vs ++ dvs)) (upd H1 a (exo a C none))
  (fun v H2 => v = .non ∧ ∃ (d : Addr) (fs : List (Str × V)), H2 a = some (exo a C (some d)) ∧ H2 d = some (exd d fs) ∧ H1 d = none ∧ Q (.ref C) (some d) (upd (del H2 a) d (.xd fs))) (fun _ _ _ => False)) : tMkO C sp dvs ta σ H Q := h
end Mw

/-! MS -/
/-! The text by places, what the top leaves. -/
namespace Mw
open PySem L2
def top (i : Nat) : Stmt := PySem.Challenge.pw_moststream_k08_whole_words_that_are_none.main.body.getD i (.Pass ⟨0, 0, 0, 0⟩)
/-- what the top has left: the names of the built-in things are free, the classes stand -/
structure Tx (K : PySem.W.Frag) (mg : Str → Option Value) where
  c_Web : Addr
  c_BadWeb : Addr
  c_NoHouse : Addr
  c_NoTie : Addr
  c_NotSpring : Addr
  c_NoWord : Addr
  c_StreamError : Addr
  b_isinstance : mg "isinstance" = none
  b_int : mg "int" = none
  b_bool : mg "bool" = none
  b_tuple : mg "tuple" = none
  b_list : mg "list" = none
  b_str : mg "str" = none
  b_len : mg "len" = none
  b_range : mg "range" = none
  b_enumerate : mg "enumerate" = none
  b_zip : mg "zip" = none
  b_sorted : mg "sorted" = none
  b_set : mg "set" = none
  b_min : mg "min" = none
  b_max : mg "max" = none
  b_sum : mg "sum" = none
  b_any : mg "any" = none
  b_all : mg "all" = none
  g_Web : mg "Web" = some (.ref c_Web)
  g_BadWeb : mg "BadWeb" = some (.ref c_BadWeb)
  g_NoHouse : mg "NoHouse" = some (.ref c_NoHouse)
  g_NoTie : mg "NoTie" = some (.ref c_NoTie)
  g_NotSpring : mg "NotSpring" = some (.ref c_NotSpring)
  g_NoWord : mg "NoWord" = some (.ref c_NoWord)
  g_StreamError : mg "StreamError" = some (.ref c_StreamError)
  k1 : Tok
  k2 : Tok
  k3 : Tok
  k4 : Tok
  k5 : Tok
  g_FEWEST_HOUSES : mg "FEWEST_HOUSES" = some (.int 2 k1)
  g_MOST_HOUSES : mg "MOST_HOUSES" = some (.int 10 k2)
  g_LETS_LIMIT : mg "LETS_LIMIT" = some (.int 1000000 k3)
  g_UNITS_LIMIT : mg "UNITS_LIMIT" = some (.int 1000000000 k4)
  g_HEIGHT_LIMIT : mg "HEIGHT_LIMIT" = some (.int 1000 k5)
  W : WebTy K c_Web
  makes : PySem.W.makesIn K c_Web = true
  keeps : PySem.W.keepIn K (.ref c_Web) = true
  kTW : PySem.W.kitOne K (.type "tuple") (.ref c_Web) = some false
  nfW : PySem.W.notFirst K c_Web (.type "tuple") = true
  x_BadWeb : OexC K c_BadWeb
  x_NoHouse : OexC K c_NoHouse
  x_NoTie : OexC K c_NoTie
  x_NotSpring : OexC K c_NotSpring
  x_NoWord : OexC K c_NoWord
  na_part : PySem.W.findIn K (.ref c_BadWeb) "part" = some none
  xn_BadWeb : PySem.W.findIn K (.ref c_BadWeb) "part" = some none
  xf_BadWeb : XfC K c_BadWeb
  e_NoWord : PySem.W.exmOne K (.ref c_NoWord) (.ref c_NoWord) = some true
  e_NotSpring : PySem.W.exmOne K (.ref c_NotSpring) (.ref c_NotSpring) = some true
  e_NotSpringNoWord : PySem.W.exmOne K (.ref c_NotSpring) (.ref c_NoWord) = some false
  na_many : NoAttr K c_Web "many"
  na_ties : NoAttr K c_Web "ties"
  na_spring : NoAttr K c_Web "spring"
  na_mouth : NoAttr K c_Web "mouth"
  na_through : NoAttr K c_Web "through"
  na_around : NoAttr K c_Web "around"
/-- a def of the top by its name -/
structure Df (K : PySem.W.Frag) (mg : Str → Option Value) (x : Str) (st : Stmt) (ps : List Str) where
  f : Addr
  fd : FuncData
  F : Fun K x x st f fd
  m : mg x = some (.ref f)
  b : Binds K fd ps []
/-- a method of a class -/
structure Dm (K : PySem.W.Frag) (C : Addr) (x q : Str) (st : Stmt) (ps : List Str) where
  f : Addr
  fd : FuncData
  F : Fun K x q st f fd
  a : PySem.W.findIn K (.ref C) x = some (some (.ref f))
  i : PySem.W.isFn K (.ref f) = true
  t : PySem.W.typeIn K (.ref f) = some (.type "function")
  b : Binds K fd ps []
abbrev s_BadWeb_init : Stmt := inClass (top 2) 0
theorem sc_BadWeb_init : FnScope ["self", "part"] ["self", "part"] (defScope s_BadWeb_init) := ⟨rfl, rfl, rfl, by decide +kernel, rfl, by decide +kernel, by decide +kernel⟩
abbrev s_NoHouse_init : Stmt := inClass (top 3) 0
theorem sc_NoHouse_init : FnScope ["self"] ["self"] (defScope s_NoHouse_init) := ⟨rfl, rfl, rfl, by decide +kernel, rfl, by decide +kernel, by decide +kernel⟩
abbrev s_NoTie_init : Stmt := inClass (top 4) 0
theorem sc_NoTie_init : FnScope ["self"] ["self"] (defScope s_NoTie_init) := ⟨rfl, rfl, rfl, by decide +kernel, rfl, by decide +kernel, by decide +kernel⟩
abbrev s_NotSpring_init : Stmt := inClass (top 5) 0
theorem sc_NotSpring_init : FnScope ["self"] ["self"] (defScope s_NotSpring_init) := ⟨rfl, rfl, rfl, by decide +kernel, rfl, by decide +kernel, by decide +kernel⟩
abbrev s_NoWord_init : Stmt := inClass (top 6) 0
theorem sc_NoWord_init : FnScope ["self"] ["self"] (defScope s_NoWord_init) := ⟨rfl, rfl, rfl, by decide +kernel, rfl, by decide +kernel, by decide +kernel⟩
abbrev s_is_int : Stmt := top 8
theorem sc_is_int : FnScope ["thing"] ["thing"] (defScope s_is_int) := ⟨rfl, rfl, rfl, by decide +kernel, rfl, by decide +kernel, by decide +kernel⟩
abbrev s_is_number : Stmt := top 9
theorem sc_is_number : FnScope ["thing"] ["thing"] (defScope s_is_number) := ⟨rfl, rfl, rfl, by decide +kernel, rfl, by decide +kernel, by decide +kernel⟩
abbrev s_is_number_below : Stmt := top 10
theorem sc_is_number_below : FnScope ["limit", "thing"] ["limit", "thing"] (defScope s_is_number_below) := ⟨rfl, rfl, rfl, by decide +kernel, rfl, by decide +kernel, by decide +kernel⟩
abbrev s_is_tuple_of : Stmt := top 11
theorem sc_is_tuple_of : FnScope ["many", "thing"] ["many", "thing"] (defScope s_is_tuple_of) := ⟨rfl, rfl, rfl, by decide +kernel, rfl, by decide +kernel, by decide +kernel⟩
abbrev s_Web_init : Stmt := inClass (top 16) 0
theorem sc_Web_init : FnScope ["self", "many", "ties", "spring", "mouth", "house"] ["self", "many", "ties", "spring", "mouth"] (defScope s_Web_init) := ⟨rfl, rfl, rfl, by decide +kernel, rfl, by decide +kernel, by decide +kernel⟩
abbrev s_Web_eq : Stmt := inClass (top 16) 1
theorem sc_Web_eq : FnScope ["self", "other"] ["self", "other"] (defScope s_Web_eq) := ⟨rfl, rfl, rfl, by decide +kernel, rfl, by decide +kernel, by decide +kernel⟩
abbrev s_check_many : Stmt := top 17
theorem sc_check_many : FnScope ["many"] ["many"] (defScope s_check_many) := ⟨rfl, rfl, rfl, by decide +kernel, rfl, by decide +kernel, by decide +kernel⟩
abbrev s_check_ties : Stmt := top 18
theorem sc_check_ties : FnScope ["many", "ties", "at", "tie"] ["many", "ties"] (defScope s_check_ties) := ⟨rfl, rfl, rfl, by decide +kernel, rfl, by decide +kernel, by decide +kernel⟩
abbrev s_is_tie : Stmt := top 19
theorem sc_is_tie : FnScope ["many", "thing", "one", "other", "there", "back"] ["many", "thing"] (defScope s_is_tie) := ⟨rfl, rfl, rfl, by decide +kernel, rfl, by decide +kernel, by decide +kernel⟩
abbrev s_through : Stmt := top 20
theorem sc_through : FnScope ["ties", "units_of", "one", "other", "there", "back"] ["ties"] (defScope s_through) := ⟨rfl, rfl, rfl, by decide +kernel, rfl, by decide +kernel, by decide +kernel⟩
abbrev s_around : Stmt := top 21
theorem sc_around : FnScope ["through", "house", "one", "other"] ["through", "house"] (defScope s_around) := ⟨rfl, rfl, rfl, by decide +kernel, rfl, by decide +kernel, by decide +kernel⟩
abbrev s_check_house : Stmt := top 22
theorem sc_check_house : FnScope ["web", "house"] ["web", "house"] (defScope s_check_house) := ⟨rfl, rfl, rfl, by decide +kernel, rfl, by decide +kernel, by decide +kernel⟩
abbrev s_neighbours : Stmt := top 23
theorem sc_neighbours : FnScope ["web", "house"] ["web", "house"] (defScope s_neighbours) := ⟨rfl, rfl, rfl, by decide +kernel, rfl, by decide +kernel, by decide +kernel⟩
abbrev s_lets : Stmt := top 24
theorem sc_lets : FnScope ["web", "one", "other"] ["web", "one", "other"] (defScope s_lets) := ⟨rfl, rfl, rfl, by decide +kernel, rfl, by decide +kernel, by decide +kernel⟩
abbrev s_is_units : Stmt := top 28
theorem sc_is_units : FnScope ["thing"] ["thing"] (defScope s_is_units) := ⟨rfl, rfl, rfl, by decide +kernel, rfl, by decide +kernel, by decide +kernel⟩
abbrev s_is_height : Stmt := top 29
theorem sc_is_height : FnScope ["thing"] ["thing"] (defScope s_is_height) := ⟨rfl, rfl, rfl, by decide +kernel, rfl, by decide +kernel, by decide +kernel⟩
abbrev s_is_word : Stmt := top 30
theorem sc_is_word : FnScope ["thing", "sort", "numbers"] ["thing"] (defScope s_is_word) := ⟨rfl, rfl, rfl, by decide +kernel, rfl, by decide +kernel, by decide +kernel⟩
abbrev s_rooms : Stmt := top 31
theorem sc_rooms : FnScope ["web", "house", "state", "other", "units"] ["web", "house", "state"] (defScope s_rooms) := ⟨rfl, rfl, rfl, by decide +kernel, rfl, by decide +kernel, by decide +kernel⟩
abbrev s_started : Stmt := top 32
theorem sc_started : FnScope ["web", "house", "state", "rooms", "pours", "_", "height", "held", "streams", "beliefs", "sent", "filled", "other", "units", "more"] ["web", "house", "state"] (defScope s_started) := ⟨rfl, rfl, rfl, by decide +kernel, rfl, by decide +kernel, by decide +kernel⟩
abbrev s_heard : Stmt := top 33
theorem sc_heard : FnScope ["web", "house", "state", "sender", "word", "at", "behind", "answers", "out", "more", "answer"] ["web", "house", "state", "sender", "word"] (defScope s_heard) := ⟨rfl, rfl, rfl, by decide +kernel, rfl, by decide +kernel, by decide +kernel⟩
abbrev s_can_hear : Stmt := top 34
theorem sc_can_hear : FnScope ["web", "house", "state", "sender", "word", "around", "at", "sort"] ["web", "house", "state", "sender", "word"] (defScope s_can_hear) := ⟨rfl, rfl, rfl, by decide +kernel, rfl, by decide +kernel, by decide +kernel⟩
abbrev s_done : Stmt := top 35
theorem sc_done : FnScope ["state", "at", "word", "sort", "believing"] ["state", "at", "word"] (defScope s_done) := ⟨rfl, rfl, rfl, by decide +kernel, rfl, by decide +kernel, by decide +kernel⟩
abbrev s_put : Stmt := top 36
theorem sc_put : FnScope ["numbers", "at", "number"] ["numbers", "at", "number"] (defScope s_put) := ⟨rfl, rfl, rfl, by decide +kernel, rfl, by decide +kernel, by decide +kernel⟩
abbrev s_woken : Stmt := top 37
theorem sc_woken : FnScope ["state"] ["state"] (defScope s_woken) := ⟨rfl, rfl, rfl, by decide +kernel, rfl, by decide +kernel, by decide +kernel⟩
abbrev s_moved : Stmt := top 38
theorem sc_moved : FnScope ["state", "at", "units", "stage", "height", "held", "streams", "beliefs", "sent"] ["state", "at", "units"] (defScope s_moved) := ⟨rfl, rfl, rfl, by decide +kernel, rfl, by decide +kernel, by decide +kernel⟩
abbrev s_taken : Stmt := top 39
theorem sc_taken : FnScope ["state", "at", "units"] ["state", "at", "units"] (defScope s_taken) := ⟨rfl, rfl, rfl, by decide +kernel, rfl, by decide +kernel, by decide +kernel⟩
abbrev s_held_again : Stmt := top 40
theorem sc_held_again : FnScope ["state", "at"] ["state", "at"] (defScope s_held_again) := ⟨rfl, rfl, rfl, by decide +kernel, rfl, by decide +kernel, by decide +kernel⟩
abbrev s_believed : Stmt := top 41
theorem sc_believed : FnScope ["state", "at", "told", "stage", "height", "held", "streams", "beliefs", "sent"] ["state", "at", "told"] (defScope s_believed) := ⟨rfl, rfl, rfl, by decide +kernel, rfl, by decide +kernel, by decide +kernel⟩
abbrev s_sent : Stmt := top 42
theorem sc_sent : FnScope ["state", "at", "units"] ["state", "at", "units"] (defScope s_sent) := ⟨rfl, rfl, rfl, by decide +kernel, rfl, by decide +kernel, by decide +kernel⟩
abbrev s_answered : Stmt := top 43
theorem sc_answered : FnScope ["state", "at"] ["state", "at"] (defScope s_answered) := ⟨rfl, rfl, rfl, by decide +kernel, rfl, by decide +kernel, by decide +kernel⟩
abbrev s_acted : Stmt := top 44
theorem sc_acted : FnScope ["web", "house", "state", "behind", "out", "act", "words"] ["web", "house", "state"] (defScope s_acted) := ⟨rfl, rfl, rfl, by decide +kernel, rfl, by decide +kernel, by decide +kernel⟩
abbrev s_next_act : Stmt := top 45
theorem sc_next_act : FnScope ["web", "house", "state", "height", "held", "_", "beliefs", "sent", "rooms", "with_room", "downhill", "at", "units"] ["web", "house", "state"] (defScope s_next_act) := ⟨rfl, rfl, rfl, by decide +kernel, rfl, by decide +kernel, by decide +kernel⟩
abbrev s_pushing : Stmt := top 46
theorem sc_pushing : FnScope ["web", "house", "state", "at", "units", "behind"] ["web", "house", "state", "at", "units"] (defScope s_pushing) := ⟨rfl, rfl, rfl, by decide +kernel, rfl, by decide +kernel, by decide +kernel⟩
abbrev s_rising : Stmt := top 47
theorem sc_rising : FnScope ["web", "house", "state", "height", "words", "other"] ["web", "house", "state", "height"] (defScope s_rising) := ⟨rfl, rfl, rfl, by decide +kernel, rfl, by decide +kernel, by decide +kernel⟩
abbrev s_law_hand : Stmt := top 49
theorem sc_law_hand : FnScope ["script", "cell"] ["script"] (defScope s_law_hand) := ⟨rfl, rfl, rfl, by decide +kernel, rfl, by decide +kernel, by decide +kernel⟩
abbrev s_law_draw : Stmt := top 50
theorem sc_law_draw : FnScope ["hand", "many", "cell", "digit", "number"] ["hand", "many"] (defScope s_law_draw) := ⟨rfl, rfl, rfl, by decide +kernel, rfl, by decide +kernel, by decide +kernel⟩
abbrev s_law_is : Stmt := top 51
theorem sc_law_is : FnScope ["told", "due", "one", "two"] ["told", "due"] (defScope s_law_is) := ⟨rfl, rfl, rfl, by decide +kernel, rfl, by decide +kernel, by decide +kernel⟩
abbrev s_law_lot : Stmt := top 52
theorem sc_law_lot : FnScope ["hand", "span"] ["hand", "span"] (defScope s_law_lot) := ⟨rfl, rfl, rfl, by decide +kernel, rfl, by decide +kernel, by decide +kernel⟩
abbrev s_law_web : Stmt := top 53
theorem sc_law_web : FnScope ["hand", "most", "many", "pairs", "dense", "a", "b", "span", "ties", "spring", "mouth", "pair"] ["hand", "most"] (defScope s_law_web) := ⟨rfl, rfl, rfl, by decide +kernel, rfl, by decide +kernel, by decide +kernel⟩
abbrev s_law_beside : Stmt := top 54
theorem sc_law_beside : FnScope ["web", "house", "tie"] ["web", "house"] (defScope s_law_beside) := ⟨rfl, rfl, rfl, by decide +kernel, rfl, by decide +kernel, by decide +kernel⟩
abbrev s_law_lets : Stmt := top 55
theorem sc_law_lets : FnScope ["web", "one", "other", "a", "b", "there", "back"] ["web", "one", "other"] (defScope s_law_lets) := ⟨rfl, rfl, rfl, by decide +kernel, rfl, by decide +kernel, by decide +kernel⟩
abbrev s_law_begun : Stmt := top 56
theorem sc_law_begun : FnScope ["web", "house", "beside", "zeros", "stage", "beliefs", "other"] ["web", "house"] (defScope s_law_begun) := ⟨rfl, rfl, rfl, by decide +kernel, rfl, by decide +kernel, by decide +kernel⟩
abbrev s_law_with : Stmt := top 57
theorem sc_law_with : FnScope ["row", "at", "item"] ["row", "at", "item"] (defScope s_law_with) := ⟨rfl, rfl, rfl, by decide +kernel, rfl, by decide +kernel, by decide +kernel⟩
abbrev s_law_room : Stmt := top 58
theorem sc_law_room : FnScope ["web", "house", "s", "at"] ["web", "house", "s", "at"] (defScope s_law_room) := ⟨rfl, rfl, rfl, by decide +kernel, rfl, by decide +kernel, by decide +kernel⟩
abbrev s_law_started : Stmt := top 59
theorem sc_law_started : FnScope ["web", "house", "state", "s", "out", "beside", "at", "room"] ["web", "house", "state"] (defScope s_law_started) := ⟨rfl, rfl, rfl, by decide +kernel, rfl, by decide +kernel, by decide +kernel⟩
abbrev s_law_believes : Stmt := top 60
theorem sc_law_believes : FnScope ["s", "at", "height"] ["s", "at", "height"] (defScope s_law_believes) := ⟨rfl, rfl, rfl, by decide +kernel, rfl, by decide +kernel, by decide +kernel⟩
abbrev s_law_acts : Stmt := top 61
theorem sc_law_acts : FnScope ["web", "house", "s", "out", "beside", "other", "lets_out", "turn", "at", "rooms", "free", "units", "height"] ["web", "house", "s", "out"] (defScope s_law_acts) := ⟨rfl, rfl, rfl, by decide +kernel, rfl, by decide +kernel, by decide +kernel⟩
abbrev s_law_is_then : Stmt := top 62
theorem sc_law_is_then : FnScope ["web", "house", "state", "sender", "word", "beside", "at", "room"] ["web", "house", "state", "sender", "word"] (defScope s_law_is_then) := ⟨rfl, rfl, rfl, by decide +kernel, rfl, by decide +kernel, by decide +kernel⟩
abbrev s_law_does : Stmt := top 63
theorem sc_law_does : FnScope ["web", "s", "out", "sender", "at", "word"] ["web", "s", "out", "sender", "at", "word"] (defScope s_law_does) := ⟨rfl, rfl, rfl, by decide +kernel, rfl, by decide +kernel, by decide +kernel⟩
abbrev s_law_heard : Stmt := top 64
theorem sc_law_heard : FnScope ["web", "house", "state", "sender", "word", "s", "out"] ["web", "house", "state", "sender", "word"] (defScope s_law_heard) := ⟨rfl, rfl, rfl, by decide +kernel, rfl, by decide +kernel, by decide +kernel⟩
abbrev s_law_with_words : Stmt := top 65
theorem sc_law_with_words : FnScope ["ways", "house", "out", "found", "sender", "to", "words", "word", "ends"] ["ways", "house", "out"] (defScope s_law_with_words) := ⟨rfl, rfl, rfl, by decide +kernel, rfl, by decide +kernel, by decide +kernel⟩
abbrev s_law_some_move : Stmt := top 66
theorem sc_law_some_move : FnScope ["hand", "web", "states", "ways", "mode", "some", "takes", "house", "way"] ["hand", "web", "states", "ways", "mode"] (defScope s_law_some_move) := ⟨rfl, rfl, rfl, by decide +kernel, rfl, by decide +kernel, by decide +kernel⟩
abbrev s_law_moved : Stmt := top 67
theorem sc_law_moved : FnScope ["web", "states", "ways", "move", "house", "told", "words", "way"] ["web", "states", "ways", "move"] (defScope s_law_moved) := ⟨rfl, rfl, rfl, by decide +kernel, rfl, by decide +kernel, by decide +kernel⟩
abbrev s_law_any_word : Stmt := top 68
theorem sc_law_any_word : FnScope ["hand", "units", "height", "words"] ["hand"] (defScope s_law_any_word) := ⟨rfl, rfl, rfl, by decide +kernel, rfl, by decide +kernel, by decide +kernel⟩
abbrev s_law_called : Stmt := top 69
theorem sc_law_called : FnScope ["told_web", "house", "state", "sender", "word"] ["told_web", "house", "state", "sender", "word"] (defScope s_law_called) := ⟨rfl, rfl, rfl, by decide +kernel, rfl, by decide +kernel, by decide +kernel⟩
abbrev s_law_near_word : Stmt := top 70
theorem sc_law_near_word : FnScope ["hand", "web", "states", "house", "sender", "at", "state", "units", "height"] ["hand", "web", "states", "house", "sender"] (defScope s_law_near_word) := ⟨rfl, rfl, rfl, by decide +kernel, rfl, by decide +kernel, by decide +kernel⟩
abbrev s_law_are_words : Stmt := top 71
theorem sc_law_are_words : FnScope ["hand", "web", "told_web", "states", "last", "turn", "house", "sender", "beside", "word", "due"] ["hand", "web", "told_web", "states", "last"] (defScope s_law_are_words) := ⟨rfl, rfl, rfl, by decide +kernel, rfl, by decide +kernel, by decide +kernel⟩
abbrev s_law : Stmt := top 72
theorem sc_law : FnScope ["script", "hand", "web", "told_web", "states", "ways", "last", "mode", "turn", "move", "told", "house", "way"] ["script"] (defScope s_law) := ⟨rfl, rfl, rfl, by decide +kernel, rfl, by decide +kernel, by decide +kernel⟩
structure Bk (K : PySem.W.Frag) (mg : Str → Option Value) (T : Tx K mg) where
  BadWeb_init : Dm K T.c_BadWeb "__init__" "BadWeb.__init__" s_BadWeb_init ["self", "part"]
  NoHouse_init : Dm K T.c_NoHouse "__init__" "NoHouse.__init__" s_NoHouse_init ["self"]
  NoTie_init : Dm K T.c_NoTie "__init__" "NoTie.__init__" s_NoTie_init ["self"]
  NotSpring_init : Dm K T.c_NotSpring "__init__" "NotSpring.__init__" s_NotSpring_init ["self"]
  NoWord_init : Dm K T.c_NoWord "__init__" "NoWord.__init__" s_NoWord_init ["self"]
  is_int : Df K mg "is_int" s_is_int ["thing"]
  is_number : Df K mg "is_number" s_is_number ["thing"]
  is_number_below : Df K mg "is_number_below" s_is_number_below ["limit", "thing"]
  is_tuple_of : Df K mg "is_tuple_of" s_is_tuple_of ["many", "thing"]
  Web_init : Dm K T.c_Web "__init__" "Web.__init__" s_Web_init ["self", "many", "ties", "spring", "mouth"]
  Web_eq : Dm K T.c_Web "__eq__" "Web.__eq__" s_Web_eq ["self", "other"]
  check_many : Df K mg "_check_many" s_check_many ["many"]
  check_ties : Df K mg "_check_ties" s_check_ties ["many", "ties"]
  is_tie : Df K mg "_is_tie" s_is_tie ["many", "thing"]
  through : Df K mg "_through" s_through ["ties"]
  around : Df K mg "_around" s_around ["through", "house"]
  check_house : Df K mg "check_house" s_check_house ["web", "house"]
  neighbours : Df K mg "neighbours" s_neighbours ["web", "house"]
  lets : Df K mg "lets" s_lets ["web", "one", "other"]
  is_units : Df K mg "_is_units" s_is_units ["thing"]
  is_height : Df K mg "_is_height" s_is_height ["thing"]
  is_word : Df K mg "is_word" s_is_word ["thing"]
  rooms : Df K mg "_rooms" s_rooms ["web", "house", "state"]
  started : Df K mg "started" s_started ["web", "house", "state"]
  heard : Df K mg "heard" s_heard ["web", "house", "state", "sender", "word"]
  can_hear : Df K mg "_can_hear" s_can_hear ["web", "house", "state", "sender", "word"]
  done : Df K mg "_done" s_done ["state", "at", "word"]
  put : Df K mg "_put" s_put ["numbers", "at", "number"]
  woken : Df K mg "_woken" s_woken ["state"]
  moved : Df K mg "_moved" s_moved ["state", "at", "units"]
  taken : Df K mg "_taken" s_taken ["state", "at", "units"]
  held_again : Df K mg "_held_again" s_held_again ["state", "at"]
  believed : Df K mg "_believed" s_believed ["state", "at", "told"]
  sent : Df K mg "_sent" s_sent ["state", "at", "units"]
  answered : Df K mg "_answered" s_answered ["state", "at"]
  acted : Df K mg "_acted" s_acted ["web", "house", "state"]
  next_act : Df K mg "_next_act" s_next_act ["web", "house", "state"]
  pushing : Df K mg "_pushing" s_pushing ["web", "house", "state", "at", "units"]
  rising : Df K mg "_rising" s_rising ["web", "house", "state", "height"]
  law_hand : Df K mg "_law_hand" s_law_hand ["script"]
  law_draw : Df K mg "_law_draw" s_law_draw ["hand", "many"]
  law_is : Df K mg "_law_is" s_law_is ["told", "due"]
  law_lot : Df K mg "_law_lot" s_law_lot ["hand", "span"]
  law_web : Df K mg "_law_web" s_law_web ["hand", "most"]
  law_beside : Df K mg "_law_beside" s_law_beside ["web", "house"]
  law_lets : Df K mg "_law_lets" s_law_lets ["web", "one", "other"]
  law_begun : Df K mg "_law_begun" s_law_begun ["web", "house"]
  law_with : Df K mg "_law_with" s_law_with ["row", "at", "item"]
  law_room : Df K mg "_law_room" s_law_room ["web", "house", "s", "at"]
  law_started : Df K mg "_law_started" s_law_started ["web", "house", "state"]
  law_believes : Df K mg "_law_believes" s_law_believes ["s", "at", "height"]
  law_acts : Df K mg "_law_acts" s_law_acts ["web", "house", "s", "out"]
  law_is_then : Df K mg "_law_is_then" s_law_is_then ["web", "house", "state", "sender", "word"]
  law_does : Df K mg "_law_does" s_law_does ["web", "s", "out", "sender", "at", "word"]
  law_heard : Df K mg "_law_heard" s_law_heard ["web", "house", "state", "sender", "word"]
  law_with_words : Df K mg "_law_with_words" s_law_with_words ["ways", "house", "out"]
  law_some_move : Df K mg "_law_some_move" s_law_some_move ["hand", "web", "states", "ways", "mode"]
  law_moved : Df K mg "_law_moved" s_law_moved ["web", "states", "ways", "move"]
  law_any_word : Df K mg "_law_any_word" s_law_any_word ["hand"]
  law_called : Df K mg "_law_called" s_law_called ["told_web", "house", "state", "sender", "word"]
  law_near_word : Df K mg "_law_near_word" s_law_near_word ["hand", "web", "states", "house", "sender"]
  law_are_words : Df K mg "_law_are_words" s_law_are_words ["hand", "web", "told_web", "states", "last"]
  law : Df K mg "law" s_law ["script"]
theorem mk_of_dm {K : PySem.W.Frag} {mg : Str → Option Value} (T : Tx K mg) {q : Str} {st : Stmt} {ps : List Str} (D : Dm K T.c_Web "__init__" q st ps) : Mk K T.c_Web D.f := ⟨T.makes, D.a, D.i, T.keeps⟩
end Mw

/-! M2 -/
/-! The program's own defs. -/
namespace Mw
open PySem L2
/-- a judge of one thing that changes nothing -/
def spJ (C : Addr) (g : PyData → Bool) : Sp := fun vs H Q _ => ∃ p d x, vs = [x] ∧ Tp C p H d x ∧ Q (.bl (g d)) H
/-- a judge of an integer and a thing -/
def spJ2 (C : Addr) (g : Int → PyData → Bool) : Sp := fun vs H Q _ => ∃ p i d x, vs = [.int i, x] ∧ Tp C p H d x ∧ Q (.bl (g i d)) H
/-- an own error with a part is raised: it stands at a new place, all else as it was -/
def Raised (C : Addr) (part : V) (H : Hp) (E : XK) : Prop := ∀ e H', H e = none → Same H H' → H' e = some (.xd [(("part" : Str), part)]) → E (.ref C) (some e) H'
def spBadInit (C : Addr) : Sp := fun vs H Q _ => ∃ a v, vs = [.ref a, v] ∧ H a = some (exo a C none) ∧ ∀ dx, H dx = none → dx ≠ a → Q .non (upd (upd H dx (exd dx [(("part" : Str), v)])) a (exo a C (some dx)))
def spPass : Sp := fun vs H Q _ => ∃ a, vs = [.ref a] ∧ Q .non H
theorem bad_made {C : Addr} {H : Hp} {part : V} {Q : XK} (h : Raised C part H Q) : [part].length ≤ 1000 ∧ ∀ a, H a = none → spBadInit C (.ref a :: ([part] ++ [])) (upd H a (exo a C none))
    (fun v H2 => v = .non ∧ ∃ (d : Addr) (fs : List (Str × V)), H2 a = some (exo a C (some d)) ∧ H2 d = some (exd d fs) ∧ H d = none ∧ Q (.ref C) (some d) (upd (del H2 a) d (.xd fs))) (fun _ _ _ => False) := by
  refine ⟨Nat.le_of_ble_eq_true rfl, fun a ha => ⟨a, part, rfl, upd_same, fun dx hdx ne => ⟨rfl, dx, [(("part" : Str), part)], upd_same, ?_, ?_, ?_⟩⟩⟩
  · rw [upd_ne ne, upd_same]
  · rw [upd_ne ne] at hdx
    exact hdx
  · have hd0 : H dx = none := by
      rw [upd_ne ne] at hdx
      exact hdx
    refine h dx _ hd0 (fun b o hb => ?_) upd_same
    have n1 : b ≠ dx := ne_of_none hb hd0
    have n2 : b ≠ a := ne_of_none hb ha
    rw [upd_ne n1, del_ne n2, upd_ne n2, upd_ne n1, upd_ne n2]
    exact hb
theorem rd_ite {b : Bool} {A B : Prop} (h1 : b = true → A) (h0 : b = false → B) : if b = true then A else B := by
  cases b
  · rw [if_neg Bool.false_ne_true]
    exact h0 rfl
  · rw [if_pos rfl]
    exact h1 rfl
theorem rd_no {b : Bool} {A B : Prop} (e : b = false) (h : B) : if b = true then A else B := by
  rw [e]
  exact iteF h
theorem rd_yes {b : Bool} {A B : Prop} (e : b = true) (h : A) : if b = true then A else B := by
  rw [e]
  exact iteT h
def isTupN (n : Int) : PyData → Bool
  | .tuple ds => decide ((ds.length : Int) = n)
  | _ => false
def spTupOf (C : Addr) : Sp := fun vs H Q _ => ∃ p n d x, vs = [.int n, x] ∧ Tp C p H d x ∧ Q (.bl (isTupN n d)) H
def isNum : PyData → Bool | .int i => decide (0 ≤ i) | _ => false
def isNb (l : Int) : PyData → Bool | .int i => decide (0 ≤ i) && decide (i < l) | _ => false
section
variable {P : Program} {w : World} {K : PySem.W.Frag} {mg : Str → Option Value} {base : Heap}
local macro_rules | `(tactic| walk_at "rd") => `(tactic| (repeat (first
  | ((with_reducible refine' rd_var ?h0 ?_); (case h0 => rfl))
  | with_reducible refine rd_c ?_
  | with_reducible refine rd_op ?_
  | with_reducible refine rd_nil ?_
  | with_reducible refine rd_cons ?_
  | with_reducible refine rd_tup ?_
  | with_reducible refine rd_lst ?_
  | with_reducible refine rd_ifs ?_
  | with_reducible refine rd_seq ?_
  | with_reducible refine rd_next ?_
  | with_reducible refine rd_ret ?_
  | with_reducible refine rd_asg ?_
  | with_reducible refine rd_gname ?_
  | with_reducible refine rd_drop ?_
  | with_reducible refine rd_test ?_
  | with_reducible refine rd_B ?_
  | with_reducible refine rd_bl ?_
  | with_reducible refine rd_blP ?_
  | with_reducible refine rd_andV ?_
  | with_reducible refine rd_orV ?_
  | with_reducible refine rd_notV ?_
  | with_reducible refine rd_and ?_
  | with_reducible refine rd_or ?_
  | with_reducible refine rd_not ?_
  | with_reducible refine rd_cb ?_
  | with_reducible refine rd_call ?_
  | with_reducible refine rd_un ?_
  | with_reducible refine rd_sl ?_
  | with_reducible refine rd_nopart ?_
  | with_reducible refine rd_part ?_
  | with_reducible refine rd_intP ?_
  | with_reducible refine rd_rU ?_
  | with_reducible refine rd_fld ?_
  | with_reducible refine rd_eqI ?_
  | with_reducible refine rd_neI ?_
  | with_reducible refine rd_mko ?_
  | with_reducible refine rd_i0 ?_)))
theorem ok_is_int (T : Tx K mg) (B : Bk K mg T) : FnOk P w K mg base CX0 1 B.is_int.f B.is_int.fd ["thing"] (spJ T.c_Web isInt) := by
  refine B.is_int.F.ok sc_is_int (fun vs H Q E h => ?_) (fun cdv A outer s H vs Q E hr h => ?_)
  · obtain ⟨p, d, x, rfl, _⟩ := h
    rfl
  · obtain ⟨p, d, x, rfl, hd, q⟩ := h
    refine ⟨_, (pss_one (ps_ret (pe_and (pe_callB call_isi (by rfl) T.b_isinstance (by decide +kernel) (pa_cons (pv 0) (pa_cons (pe_bltn (v := .ty "int") (by rfl) T.b_int (by decide +kernel) rfl) pa_nil))) (pe_one (pe_not (pe_callB call_isi (by rfl) T.b_isinstance (by decide +kernel) (pa_cons (pv 0) (pa_cons (pe_bltn (v := .ty "bool") (by rfl) T.b_bool (by decide +kernel) rfl) pa_nil)))))))), ?_⟩
    walk_at "rd"
    refine tp_isI T.W hd ?_
    walk_at "rd"
    refine rd_ite (fun h1 => ?_) (fun h0 => ?_)
    · walk_at "rd"
      refine tp_isB T.W hd ?_
      walk_at "rd"
      have e : isInt d = !isB d := by cases d <;> simp_all [isI, isB, isInt]
      rw [e] at q
      exact q
    · have e : isInt d = false := by cases d <;> simp_all [isI, isB, isInt]
      rw [e] at q
      exact q
theorem ok_is_number (T : Tx K mg) (B : Bk K mg T) : FnOk P w K mg base CX0 2 B.is_number.f B.is_number.fd ["thing"] (spJ T.c_Web isNum) := by
  have G_is_int := ok_is_int (P := P) (w := w) (base := base) T B
  refine B.is_number.F.ok sc_is_number (fun vs H Q E h => ?_) (fun cdv A outer s H vs Q E hr h => ?_)
  · obtain ⟨p, d, x, rfl, _⟩ := h
    rfl
  · obtain ⟨p, d, x, rfl, hd, q⟩ := h
    refine ⟨_, (pss_one (ps_ret (pe_and (pe_call G_is_int (hr.mono (by decide)) rfl B.is_int.m B.is_int.F.kp B.is_int.b .nil pass0 (pa_cons (pv 0) pa_nil)) (pe_one (pe_cmpR op_ge (pv 0) pe_int (nomark _)))))), ?_⟩
    walk_at "rd"
    refine ⟨p, d, x, rfl, hd, ?_⟩
    walk_at "rd"
    refine rd_ite (fun h1 => ?_) (fun h0 => ?_)
    · cases d with
      | int i =>
        cases tp_int' hd
        walk_at "rd"
        exact q
      | _ => cases h1
    · have e : isNum d = false := by cases d <;> simp_all [isNum, isInt]
      rw [e] at q
      exact q
theorem ok_is_number_below (T : Tx K mg) (B : Bk K mg T) : FnOk P w K mg base CX0 3 B.is_number_below.f B.is_number_below.fd ["limit", "thing"] (spJ2 T.c_Web isNb) := by
  have G_is_number := ok_is_number (P := P) (w := w) (base := base) T B
  refine B.is_number_below.F.ok sc_is_number_below (fun vs H Q E h => ?_) (fun cdv A outer s H vs Q E hr h => ?_)
  · obtain ⟨p, i, d, x, rfl, _⟩ := h
    rfl
  · obtain ⟨p, i, d, x, rfl, hd, q⟩ := h
    refine ⟨_, (pss_one (ps_ret (pe_and (pe_call G_is_number (hr.mono (by decide)) rfl B.is_number.m B.is_number.F.kp B.is_number.b .nil pass0 (pa_cons (pv 1) pa_nil)) (pe_one (pe_cmpR op_lt (pv 1) (pv 0) (nomark _)))))), ?_⟩
    walk_at "rd"
    refine ⟨p, d, x, rfl, hd, ?_⟩
    walk_at "rd"
    refine rd_ite (fun h1 => ?_) (fun h0 => ?_)
    · cases d with
      | int j =>
        cases tp_int' hd
        walk_at "rd"
        have e : isNb i (.int j) = decide (j < i) := by simp_all [isNb, isNum]
        rw [e] at q
        exact q
      | _ => cases h1
    · have e : isNb i d = false := by
        cases d <;> simp_all [isNum, isNb]
        omega
      rw [e] at q
      exact q
theorem ok_is_tuple_of (T : Tx K mg) (B : Bk K mg T) : FnOk P w K mg base CX0 1 B.is_tuple_of.f B.is_tuple_of.fd ["many", "thing"] (spTupOf T.c_Web) := by
  refine B.is_tuple_of.F.ok sc_is_tuple_of (fun vs H Q E h => ?_) (fun cdv A outer s H vs Q E hr h => ?_)
  · obtain ⟨p, n, d, x, rfl, _⟩ := h
    rfl
  · obtain ⟨p, n, d, x, rfl, hd, q⟩ := h
    refine ⟨_, (pss_one (ps_ret (pe_and (pe_callB call_isi (by rfl) T.b_isinstance (by decide +kernel) (pa_cons (pv 1) (pa_cons (pe_bltn (v := .ty "tuple") (by rfl) T.b_tuple (by decide +kernel) rfl) pa_nil))) (pe_one (pe_cmpR op_eq (pe_callB call_len_seq (by rfl) T.b_len (by decide +kernel) (pa_cons (pv 1) pa_nil)) (pv 0) (nomark _)))))), ?_⟩
    walk_at "rd"
    refine tp_isT T.W hd ?_
    walk_at "rd"
    cases d with
    | tuple ds =>
      obtain ⟨c, ys, rfl, hc, hy⟩ := tp_tup' hd
      have hl := hy.len
      refine rd_yes rfl ?_
      walk_at "rd"
      refine ⟨c, ys, rfl, .inr (SqT.of hc.2), ?_⟩
      walk_at "rd"
      replace q : Q (.bl (decide ((ds.length : Int) = n))) H := q
      rw [hl] at q
      exact q
    | _ =>
      refine rd_no rfl ?_
      exact q
theorem ok_bad_init (T : Tx K mg) (B : Bk K mg T) : FnOk P w K mg base CX0 1 B.BadWeb_init.f B.BadWeb_init.fd ["self", "part"] (spBadInit T.c_BadWeb) := by
  refine B.BadWeb_init.F.ok sc_BadWeb_init (fun vs H Q E h => ?_) (fun cdv A outer s H vs Q E hr h => ?_)
  · obtain ⟨a, v, rfl, _⟩ := h
    rfl
  · obtain ⟨a, v, rfl, ha, q⟩ := h
    refine ⟨_, (pss_one (ps_ost (pv 0) (pv 1))), ?_⟩
    exact ⟨v, rfl, .ref a, rfl, a, T.c_BadWeb, rfl, T.x_BadWeb, T.na_part, .inl ⟨ha, q⟩⟩
theorem ok_house_init (T : Tx K mg) (B : Bk K mg T) : FnOk P w K mg base CX0 1 B.NoHouse_init.f B.NoHouse_init.fd ["self"] spPass := by
  refine B.NoHouse_init.F.ok sc_NoHouse_init (fun vs H Q E h => ?_) (fun cdv A outer s H vs Q E hr h => ?_)
  · obtain ⟨a, rfl, _⟩ := h
    rfl
  · obtain ⟨a, rfl, q⟩ := h
    exact ⟨_, (pss_one ps_pass), q⟩
theorem ok_tie_init (T : Tx K mg) (B : Bk K mg T) : FnOk P w K mg base CX0 1 B.NoTie_init.f B.NoTie_init.fd ["self"] spPass := by
  refine B.NoTie_init.F.ok sc_NoTie_init (fun vs H Q E h => ?_) (fun cdv A outer s H vs Q E hr h => ?_)
  · obtain ⟨a, rfl, _⟩ := h
    rfl
  · obtain ⟨a, rfl, q⟩ := h
    exact ⟨_, (pss_one ps_pass), q⟩
/-- a judge that raises an own error with a part -/
def spCk (C CB : Addr) (g : PyData → Bool) (part : V) : Sp := fun vs H Q E => ∃ p d x, vs = [x] ∧ Tp C p H d x ∧ (g d = true → Q .non H) ∧ (g d = false → Raised CB part H E)
theorem ok_check_many (T : Tx K mg) (B : Bk K mg T) : FnOk P w K mg base (L2.CX P w) 4 B.check_many.f B.check_many.fd ["many"] (spCk T.c_Web T.c_BadWeb (inI 2 10) (.str "many")) := by
  have G_is_number_below := ok_is_number_below (P := P) (w := w) (base := base) T B
  have G_BadWeb_init := ok_bad_init (P := P) (w := w) (base := base) T B
  refine B.check_many.F.okX sc_check_many (fun vs H Q E h => ?_) (fun cdv A outer s H vs Q E hr h => ?_)
  · obtain ⟨p, d, x, rfl, _⟩ := h
    rfl
  · obtain ⟨p, d, x, rfl, hd, q1, q0⟩ := h
    refine ⟨_, (pss_one (ps_if (PW.pt (pw_or (pt_not (pt_val (pe_call G_is_number_below (hr.mono (by decide)) rfl B.is_number_below.m B.is_number_below.F.kp B.is_number_below.b .nil pass0 (pa_cons (pe_op op_add (pe_glob (v := .int 10) (by rfl) T.g_MOST_HOUSES ⟨_, rfl⟩) pe_int) (pa_cons (pv 0) pa_nil))))) (pw_or1 (pt_cmpR op_lt (pv 0) (pe_glob (v := .int 2) (by rfl) T.g_FEWEST_HOUSES ⟨_, rfl⟩) (nomark _))))) (pss_one (ps_raise rfl (takes_of rfl rfl rfl rfl) (pmk_oex T.x_BadWeb B.BadWeb_init.a B.BadWeb_init.t G_BadWeb_init (hr.mono (by decide)) B.BadWeb_init.b .nil pass0 rfl T.g_BadWeb (pa_cons pe_str pa_nil)))) pss_nil)), ?_⟩
    have fin : inI 2 10 d = false → Raised T.c_BadWeb (.str "many") H E := q0
    walk_at "rd"
    refine ⟨p, _, d, x, rfl, hd, ?_⟩
    walk_at "rd"
    refine rd_ite (fun h1 => ?_) (fun h0 => ?_)
    · refine rd_ite (fun _ => ?_) (fun z => by cases z)
      refine bad_made (fin ?_)
      cases d <;> simp_all [isNb, inI]
      omega
    · cases d with
      | int i =>
        cases tp_int' hd
        walk_at "rd"
        refine rd_ite (fun h2 => ?_) (fun h2 => ?_)
        · refine bad_made (fin ?_)
          simp_all [isNb, inI]
          omega
        · refine q1 ?_
          simp_all [isNb, inI]
          omega
      | _ => cases h0
end
end Mw

/-! M3 -/
namespace Mw
open PySem L2
theorem tpAll4 {C p : Addr} {H : Hp} {a b c d : PyData} {xs : List V} (h : TpAll C p H [a, b, c, d] xs) : ∃ x y z u, xs = [x, y, z, u] ∧ Tp C p H a x ∧ Tp C p H b y ∧ Tp C p H c z ∧ Tp C p H d u := by
  simp only [TpAll] at h
  obtain ⟨x, _, rfl, h1, y, _, rfl, h2, z, _, rfl, h3, u, _, rfl, h4, rfl⟩ := h
  exact ⟨x, y, z, u, rfl, h1, h2, h3, h4⟩
def nbOf (b a : PyData) : Bool := match b with | .int j => isNb j a | _ => false
/-- a tie by its form -/
def tieOk (m : Int) : PyData → Bool
  | .tuple [a, b, t, k] => isNb m b && (nbOf b a && (isNb 1000000 t && isNb 1000000 k))
  | _ => false
def le2 (a b c d : Int) : Bool := if a = c then decide (b ≤ d) else decide (a ≤ c)
def pairLe : PyData → PyData → Bool
  | .tuple (.int a :: .int b :: _), .tuple (.int c :: .int d :: _) => le2 a b c d
  | _, _ => false
/-- the tie at k is none, or not above the one ahead -/
def badAt (m : Int) (ds : List PyData) (k : Nat) : Bool := match ds[k]? with
  | some d => !tieOk m d || (decide (0 < k) && (match ds[k - 1]? with | some e => pairLe d e | none => false))
  | none => true
theorem tieOk_form {m : Int} {d : PyData} (h : tieOk m d = true) : ∃ a b t k : Int, d = .tuple [.int a, .int b, .int t, .int k] ∧ 0 ≤ a ∧ a < b ∧ b < m ∧ 0 ≤ t ∧ t < 1000000 ∧ 0 ≤ k ∧ k < 1000000 := by
  unfold tieOk at h
  split at h
  · rename_i a b t k
    simp only [Bool.and_eq_true] at h
    obtain ⟨h1, h2, h3, h4⟩ := h
    cases b <;> simp [isNb, nbOf] at h1 h2
    cases a <;> simp [isNb] at h2
    cases t <;> simp [isNb] at h3
    cases k <;> simp [isNb] at h4
    exact ⟨_, _, _, _, rfl, h2.1, h2.2, h1.2, h3.1, h3.2, h4.1, h4.2⟩
  · cases h
section
variable {P : Program} {w : World} {K : PySem.W.Frag} {mg : Str → Option Value} {base : Heap}
theorem rd_sl2 {H : Hp} {Q : VK} {a : Addr} {x y z u : V} (h : SqT K H a [x, y, z, u]) (q : ∀ p, H p = none → Q (.ref p) (upd H p (.tup [x, y]))) : rSlA K (.ref a) none (some 2) H Q :=
  ⟨a, _, rfl, h, fun e => absurd e.2 (show ¬ (HT.sIx 4 4 (some 2) = 4) by decide), fun _ p hp => q p hp⟩
theorem rd_le2 {H : Hp} {Q : VK} {s t : Addr} {a b c d : Int} (h1 : SqT K H s [.int a, .int b]) (h2 : SqT K H t [.int c, .int d]) (q : Q (.bl (le2 a b c d)) H) : rLeT K (.ref s) (.ref t) H Q := by
  refine ⟨s, t, [a, b], [c, d], rfl, rfl, h1, h2, ?_⟩
  have e : Ob.lexAt (fun j => decide ([a, b].getD j 0 = [c, d].getD j 0)) (fun j => decide ([a, b].getD j 0 ≤ [c, d].getD j 0)) (decide ([a, b].length ≤ [c, d].length)) 0 (min [a, b].length [c, d].length) = le2 a b c d := by
    show (if decide (a = c) = true then (if decide (b = d) = true then true else decide (b ≤ d)) else decide (a ≤ c)) = le2 a b c d
    unfold le2
    by_cases h : a = c
    · simp only [h, decide_true, if_true]
      by_cases g : b = d
      · simp [g]
      · simp [g]
    · simp [h]
  rw [e]
  exact q
local macro_rules | `(tactic| walk_at "rd") => `(tactic| (repeat (first
  | ((with_reducible refine' rd_var ?h0 ?_); (case h0 => rfl))
  | with_reducible refine rd_c ?_
  | with_reducible refine rd_op ?_
  | with_reducible refine rd_nil ?_
  | with_reducible refine rd_cons ?_
  | with_reducible refine rd_tup ?_
  | with_reducible refine rd_lst ?_
  | with_reducible refine rd_ifs ?_
  | with_reducible refine rd_seq ?_
  | with_reducible refine rd_next ?_
  | with_reducible refine rd_ret ?_
  | with_reducible refine rd_asg ?_
  | with_reducible refine rd_gname ?_
  | with_reducible refine rd_drop ?_
  | with_reducible refine rd_test ?_
  | with_reducible refine rd_B ?_
  | with_reducible refine rd_bl ?_
  | with_reducible refine rd_blP ?_
  | with_reducible refine rd_andV ?_
  | with_reducible refine rd_orV ?_
  | with_reducible refine rd_notV ?_
  | with_reducible refine rd_and ?_
  | with_reducible refine rd_or ?_
  | with_reducible refine rd_not ?_
  | with_reducible refine rd_cb ?_
  | with_reducible refine rd_call ?_
  | with_reducible refine rd_un ?_
  | with_reducible refine rd_sl ?_
  | with_reducible refine rd_nopart ?_
  | with_reducible refine rd_part ?_
  | with_reducible refine rd_intP ?_
  | with_reducible refine rd_rU ?_
  | with_reducible refine rd_fld ?_
  | with_reducible refine rd_eqI ?_
  | with_reducible refine rd_neI ?_
  | with_reducible refine rd_mko ?_
  | with_reducible refine rd_i0 ?_)))
theorem ok_is_tie (T : Tx K mg) (B : Bk K mg T) : FnOk P w K mg base CX0 4 B.is_tie.f B.is_tie.fd ["many", "thing"] (spJ2 T.c_Web tieOk) := by
  have G_is_number_below := ok_is_number_below (P := P) (w := w) (base := base) T B
  have G_is_tuple_of := ok_is_tuple_of (P := P) (w := w) (base := base) T B
  refine B.is_tie.F.ok sc_is_tie (fun vs H Q E h => ?_) (fun cdv A outer s H vs Q E hr h => ?_)
  · obtain ⟨p, i, d, x, rfl, _⟩ := h
    rfl
  · obtain ⟨p, m, d, x, rfl, hd, q⟩ := h
    refine ⟨_, (pss_cons (ps_if (pt_not (pt_val (pe_call G_is_tuple_of (hr.mono (by decide)) rfl B.is_tuple_of.m B.is_tuple_of.F.kp B.is_tuple_of.b .nil pass0 (pa_cons pe_int (pa_cons (pv 1) pa_nil))))) (pss_one (ps_ret pe_bl)) pss_nil)
      (pss_cons (ps_asg (pv 1) (pg_tup (by rfl) (pgs_cons (pg_name (i := 2) sc_is_tie.nd rfl (Or.inl rfl)) (pgs_cons (pg_name (i := 3) sc_is_tie.nd rfl (Or.inl rfl)) (pgs_cons (pg_name (i := 4) sc_is_tie.nd rfl (Or.inl rfl)) (pgs_cons (pg_name (i := 5) sc_is_tie.nd rfl (Or.inl rfl)) pgs_nil))))))
      (pss_one (ps_ret (pe_and (pe_call G_is_number_below (hr.mono (by decide)) rfl B.is_number_below.m B.is_number_below.F.kp B.is_number_below.b .nil pass0 (pa_cons (pv 0) (pa_cons (pv 3) pa_nil))) (pe_and (pe_call G_is_number_below (hr.mono (by decide)) rfl B.is_number_below.m B.is_number_below.F.kp B.is_number_below.b .nil pass0 (pa_cons (pv 3) (pa_cons (pv 2) pa_nil))) (pe_and (pe_call G_is_number_below (hr.mono (by decide)) rfl B.is_number_below.m B.is_number_below.F.kp B.is_number_below.b .nil pass0 (pa_cons (pe_glob (v := .int 1000000) (by rfl) T.g_LETS_LIMIT ⟨_, rfl⟩) (pa_cons (pv 4) pa_nil))) (pe_one (pe_call G_is_number_below (hr.mono (by decide)) rfl B.is_number_below.m B.is_number_below.F.kp B.is_number_below.b .nil pass0 (pa_cons (pe_glob (v := .int 1000000) (by rfl) T.g_LETS_LIMIT ⟨_, rfl⟩) (pa_cons (pv 5) pa_nil))))))))))), ?_⟩
    have no : tieOk m d = false → Q (.bl false) H := fun e => by
      rw [e] at q
      exact q
    walk_at "rd"
    refine ⟨p, 4, d, x, rfl, hd, ?_⟩
    walk_at "rd"
    refine rd_ite (fun h1 => ?_) (fun h0 => ?_)
    · walk_at "rd"
      refine no ?_
      have h1' : isTupN 4 d = false := by simpa using h1
      unfold tieOk
      split
      · simp [isTupN] at h1'
      · rfl
    · cases d with
      | tuple ds =>
        obtain ⟨a, xs, rfl, ha, hx⟩ := tp_tup' hd
        · have h4 : ds.length = 4 := by
            have h0' : isTupN 4 (.tuple ds) = true := by simpa using h0
            have := of_decide_eq_true h0'
            omega
          obtain ⟨d1, d2, d3, d4, rfl⟩ : ∃ a b c d, ds = [a, b, c, d] := by
            match ds, h4 with
            | [a, b, c, d], _ => exact ⟨a, b, c, d, rfl⟩
          obtain ⟨x1, x2, x3, x4, rfl, t1, t2, t3, t4⟩ := tpAll4 hx
          walk_at "rd"
          refine ⟨a, _, rfl, SqT.of ha.2, rfl, _, _, rfl, _, _, rfl, _, _, rfl, _, _, rfl, rfl, ?_⟩
          walk_at "rd"
          refine ⟨p, m, d2, x2, rfl, t2, ?_⟩
          walk_at "rd"
          have e : tieOk m (.tuple [d1, d2, d3, d4]) = (isNb m d2 && (nbOf d2 d1 && (isNb 1000000 d3 && isNb 1000000 d4))) := rfl
          rw [e] at q
          refine rd_ite (fun h1 => ?_) (fun h0 => ?_)
          · rw [h1] at q
            cases d2 with
            | int j =>
              cases tp_int' t2
              walk_at "rd"
              refine ⟨p, j, d1, x1, rfl, t1, ?_⟩
              walk_at "rd"
              refine rd_ite (fun h2 => ?_) (fun h2 => ?_)
              · walk_at "rd"
                refine ⟨p, _, d3, x3, rfl, t3, ?_⟩
                walk_at "rd"
                have e2 : nbOf (.int j) d1 = true := h2
                simp only [e2] at q
                refine rd_ite (fun h3 => ?_) (fun h3 => ?_)
                · walk_at "rd"
                  refine ⟨p, _, d4, x4, rfl, t4, ?_⟩
                  simp only [h3] at q
                  exact q
                · simp only [h3] at q
                  exact q
              · have e2 : nbOf (.int j) d1 = false := h2
                simp only [e2] at q
                exact q
            | _ => cases h1
          · rw [h0] at q
            exact q
      | _ => cases h0
end
end Mw

/-! M4 -/
namespace Mw
open PySem L2
theorem Raised.mono {C : Addr} {part : V} {H H1 : Hp} {E : XK} (s : Same H H1) (h : Raised C part H E) : Raised C part H1 E := fun e H' n s' x => h e H' (s.free n) (s.trans s') x
/-- the first tie that is bad, -1 for no tuple -/
def tiesBad (m : Int) : PyData → Option Int
  | .tuple ds => ((List.range ds.length).find? (badAt m ds)).map fun k => ((k : Nat) : Int)
  | _ => some (-1)
theorem find_range {n : Nat} {f : Nat → Bool} {k : Nat} (hk : k < n) (h1 : f k = true) (h0 : ∀ j, j < k → f j = false) : (List.range n).find? f = some k := by
  rw [List.find?_eq_some_iff_getElem]
  refine ⟨h1, k, by simpa using hk, by simp, fun j hj => ?_⟩
  simp [h0 j hj]
theorem find_range_none {n : Nat} {f : Nat → Bool} (h0 : ∀ j, j < n → f j = false) : (List.range n).find? f = none := by
  rw [List.find?_eq_none]
  intro j hj
  rw [h0 j (by simpa using hj)]
  decide
/-- a judge of an integer and a thing that may raise an own error with a part -/
def spCk2 (C CB : Addr) (g : Int → PyData → Option Int) : Sp := fun vs H Q E => ∃ p m d x, vs = [.int m, x] ∧ Tp C p H d x ∧ (g m d = none → ∀ H', Same H H' → Q .non H') ∧ (∀ k, g m d = some k → Raised CB (.int k) H E)
section
variable {P : Program} {w : World} {K : PySem.W.Frag} {mg : Str → Option Value} {base : Heap}
local macro_rules | `(tactic| walk_at "rd") => `(tactic| (repeat (first
  | ((with_reducible refine' rd_var ?h0 ?_); (case h0 => rfl))
  | with_reducible refine rd_c ?_
  | with_reducible refine rd_op ?_
  | with_reducible refine rd_nil ?_
  | with_reducible refine rd_cons ?_
  | with_reducible refine rd_tup ?_
  | with_reducible refine rd_lst ?_
  | with_reducible refine rd_ifs ?_
  | with_reducible refine rd_seq ?_
  | with_reducible refine rd_next ?_
  | with_reducible refine rd_ret ?_
  | with_reducible refine rd_asg ?_
  | with_reducible refine rd_gname ?_
  | with_reducible refine rd_drop ?_
  | with_reducible refine rd_test ?_
  | with_reducible refine rd_B ?_
  | with_reducible refine rd_bl ?_
  | with_reducible refine rd_blP ?_
  | with_reducible refine rd_andV ?_
  | with_reducible refine rd_orV ?_
  | with_reducible refine rd_notV ?_
  | with_reducible refine rd_and ?_
  | with_reducible refine rd_or ?_
  | with_reducible refine rd_not ?_
  | with_reducible refine rd_cb ?_
  | with_reducible refine rd_call ?_
  | with_reducible refine rd_un ?_
  | with_reducible refine rd_sl ?_
  | with_reducible refine rd_nopart ?_
  | with_reducible refine rd_part ?_
  | with_reducible refine rd_intP ?_
  | with_reducible refine rd_rU ?_
  | with_reducible refine rd_fld ?_
  | with_reducible refine rd_eqI ?_
  | with_reducible refine rd_neI ?_
  | with_reducible refine rd_mko ?_
  | with_reducible refine rd_i0 ?_)))
theorem ok_check_ties (T : Tx K mg) (B : Bk K mg T) : FnOk P w K mg base (L2.CX P w) 6 B.check_ties.f B.check_ties.fd ["many", "ties"] (spCk2 T.c_Web T.c_BadWeb tiesBad) := by
  have G_is_tie := ok_is_tie (P := P) (w := w) (base := base) T B
  have G_BadWeb_init := ok_bad_init (P := P) (w := w) (base := base) T B
  refine B.check_ties.F.okX sc_check_ties (fun vs H Q E h => ?_) (fun cdv A outer s H vs Q E hr h => ?_)
  · obtain ⟨p, m, d, x, rfl, _⟩ := h
    rfl
  · obtain ⟨p, m, d, x, rfl, hd, q1, q0⟩ := h
    refine ⟨_, (pss_cons (ps_if (pt_not (pt_val (pe_callB call_isi (by rfl) T.b_isinstance (by decide +kernel) (pa_cons (pv 1) (pa_cons (pe_bltn (v := .ty "tuple") (by rfl) T.b_tuple (by decide +kernel) rfl) pa_nil))))) (pss_one (ps_raise rfl (takes_of rfl rfl rfl rfl) (pmk_oex T.x_BadWeb B.BadWeb_init.a B.BadWeb_init.t G_BadWeb_init (hr.mono (by decide)) B.BadWeb_init.b .nil pass0 rfl T.g_BadWeb (pa_cons (pe_un un_neg pe_int) pa_nil)))) pss_nil)
      (pss_one (ps_for (passes_of rfl) rfl (pi_enumT (by rfl) T.b_enumerate (pa_cons (pv 1) pa_nil)) (pg_tup (by rfl) (pgs_cons (pg_name (i := 2) sc_check_ties.nd rfl (Or.inl rfl)) (pgs_cons (pg_name (i := 3) sc_check_ties.nd rfl (Or.inl rfl)) pgs_nil))) (pss_one (ps_if (PW.pt (pw_or (pt_not (pt_val (pe_call G_is_tie (hr.mono (by decide)) rfl B.is_tie.m B.is_tie.F.kp B.is_tie.b .nil pass0 (pa_cons (pv 0) (pa_cons (pv 3) pa_nil))))) (pw_or1 (PW.pt (pw_and (pt_cmpR op_gt (pv 2) pe_int (nomark _)) (pw_and1 (pt_cmpR (op_leT hr.units0) (pe_slice sl_tupA (pv 3) po_none (po_some pe_int)) (pe_slice sl_tupA (pe_ix ix_tup (pv 1) (pe_op op_sub (pv 2) pe_int) (fun _ _ => rfl)) po_none (po_some pe_int)) (nomark _)))))))) (pss_one (ps_raise rfl (takes_of rfl rfl rfl rfl) (pmk_oex T.x_BadWeb B.BadWeb_init.a B.BadWeb_init.t G_BadWeb_init (hr.mono (by decide)) B.BadWeb_init.b .nil pass0 rfl T.g_BadWeb (pa_cons (pv 2) pa_nil)))) pss_nil))))), ?_⟩
    walk_at "rd"
    refine tp_isT T.W hd ?_
    walk_at "rd"
    refine rd_ite (fun h1 => ?_) (fun h0 => ?_)
    · walk_at "rd"
      refine bad_made (q0 (-1) ?_)
      cases d <;> simp_all [isT, tiesBad]
    · cases d with
      | tuple ds =>
        obtain ⟨a, xs, rfl, ha, hx⟩ := tp_tup' hd
        walk_at "rd"
        have hl := hx.len
        refine ⟨_, rfl, a, xs, rfl, SqT.of ha.2, for_enumT (K := K) (a := a) (xs := xs) (fun i σ H' => Same H H' ∧ (∀ j, j < i → badAt m ds j = false) ∧ ∃ v u, σ = [some (.int m), some (.ref a), v, u]) ⟨Same.refl H, fun j hj => absurd hj (Nat.not_lt_zero j), _, _, rfl⟩ ?_ ?_ ?_⟩
        · rintro i σ H' ⟨hs, _⟩
          exact SqT.of (hs _ _ ha.2)
        · rintro i y U σ H' hi ⟨hs, hb, v, u, rfl⟩ hU
          obtain ⟨d1, hd1, ht1⟩ := hx.get' hi
          have hs2 : Same H (upd H' U (.tup [.int (i : Nat), y])) := hs.trans (fun b o e => (upd_ne (ne_of_none e hU)).trans e)
          have ht2 := Tp.keep (Keep.same hs2) _ _ ht1
          refine ⟨U, _, rfl, SqT.of upd_same, rfl, _, _, rfl, _, _, rfl, rfl, ?_⟩
          walk_at "rd"
          refine ⟨p, m, d1, y, rfl, ht2, ?_⟩
          walk_at "rd"
          have hlt : i < ds.length := (List.getElem?_eq_some_iff.mp hd1).1
          have go : badAt m ds i = false → Same H (upd H' U (.tup [.int (i : Nat), y])) → ∀ j, j < i + 1 → badAt m ds j = false := fun e _ j hj => by
            rcases Nat.lt_succ_iff_lt_or_eq.mp hj with z | z
            · exact hb j z
            · rw [z]
              exact e
          have bad : ∀ H2, Same H H2 → badAt m ds i = true → Raised T.c_BadWeb (.int (i : Nat)) H2 E := fun H2 s2 e => by
            refine Raised.mono s2 (q0 _ ?_)
            show ((List.range ds.length).find? (badAt m ds)).map _ = _
            rw [find_range hlt e hb]
            rfl
          refine rd_ite (fun h1 => ?_) (fun h0 => ?_)
          · refine rd_ite (fun _ => ?_) (fun z => by cases z)
            walk_at "rd"
            refine bad_made (bad _ hs2 ?_)
            unfold badAt
            rw [hd1]
            simp only [h1, Bool.true_or]
          · have ok1 : tieOk m d1 = true := by simpa using h0
            walk_at "rd"
            refine rd_ite (fun h2 => ?_) (fun h2 => ?_)
            · have hpos : 0 < i := by
                have z : (0 : Int) < (i : Int) := by simpa using h2
                omega
              obtain ⟨j, rfl⟩ : ∃ j, i = j + 1 := ⟨i - 1, by omega⟩
              have hbj : badAt m ds j = false := hb j (Nat.lt_succ_self j)
              have hj : j < ds.length := by omega
              have hdj : ds[j]? = some ds[j] := by simp [hj]
              obtain ⟨yj, hyj, htj⟩ := hx.get hdj
              have okj : tieOk m ds[j] = true := by
                unfold badAt at hbj
                rw [hdj] at hbj
                simp only [Bool.or_eq_false_iff] at hbj
                simpa using hbj.1
              obtain ⟨a1, b1, t1, k1, e1, _⟩ := tieOk_form ok1
              obtain ⟨a2, b2, t2, k2, e2, _⟩ := tieOk_form okj
              subst e1
              rw [e2] at htj
              obtain ⟨c1, z1, rfl, hc1, hz1⟩ := tp_tup' ht2
              obtain ⟨c2, z2, rfl, hc2, hz2⟩ := tp_tup' (Tp.keep (Keep.same hs2) _ _ htj)
              obtain ⟨_, _, _, _, rfl, f1, f2, f3, f4⟩ := tpAll4 hz1
              obtain ⟨_, _, _, _, rfl, g1, g2, g3, g4⟩ := tpAll4 hz2
              cases tp_int' f1
              cases tp_int' f2
              cases tp_int' g1
              cases tp_int' g2
              walk_at "rd"
              refine rd_sl2 (SqT.of hc1.2) (fun p1 hp1 => ?_)
              walk_at "rd"
              have s3 := same_new (o := HO.tup [V.int a1, V.int b1]) hp1
              refine ⟨a, xs, _, .ref c2, rfl, rfl, SqT.of (s3 _ _ (hs2 _ _ ha.2)), at_of (j := j) (by omega) hyj, ?_⟩
              walk_at "rd"
              refine rd_sl2 (SqT.of (s3 _ _ hc2.2)) (fun p2 hp2 => ?_)
              have n12 : p1 ≠ p2 := ne_of_none upd_same hp2
              refine rd_le2 (SqT.of ((upd_ne n12).trans upd_same)) (SqT.of upd_same) ?_
              walk_at "rd"
              have s4 := s3.trans (same_new (o := HO.tup [V.int a2, V.int b2]) hp2)
              have hs4 := hs2.trans s4
              have eb : badAt m ds (j + 1) = le2 a1 b1 a2 b2 := by
                unfold badAt
                rw [hd1]
                simp only [ok1, Nat.add_sub_cancel, hdj, e2]
                simp [pairLe]
              refine rd_ite (fun h3 => ?_) (fun h3 => ?_)
              · walk_at "rd"
                exact bad_made (bad _ hs4 (by rw [eb]; exact h3))
              · refine ⟨hs4, go (by rw [eb]; exact h3) hs2, _, _, rfl⟩
            · have hz : i = 0 := by
                have z : ¬ ((0 : Int) < (i : Int)) := by simpa using h2
                omega
              refine ⟨hs2, go ?_ hs2, _, _, rfl⟩
              unfold badAt
              rw [hd1]
              simp [ok1, hz]
        · rintro σ H' ⟨hs, hb, v, u, rfl⟩
          refine q1 ?_ H' hs
          show ((List.range ds.length).find? (badAt m ds)).map _ = none
          rw [find_range_none (fun j hj => hb j (by omega))]
          rfl
      | _ => cases h0
end
end Mw

/-! M5 -/
namespace Mw
open PySem L2
def wf4 (v1 v2 v3 v4 : V) : List (Str × V) := [("many", v1), ("ties", v2), ("spring", v3), ("mouth", v4)]
theorem wf_put (v1 v2 v3 v4 : V) : putF "mouth" v4 (putF "spring" v3 (putF "ties" v2 (putF "many" v1 []))) = wf4 v1 v2 v3 v4 := by
  have a1 : ¬ (("many" : Str) = "ties") := by decide +kernel
  have a2 : ¬ (("many" : Str) = "spring") := by decide +kernel
  have a3 : ¬ (("many" : Str) = "mouth") := by decide +kernel
  have a4 : ¬ (("ties" : Str) = "spring") := by decide +kernel
  have a5 : ¬ (("ties" : Str) = "mouth") := by decide +kernel
  have a6 : ¬ (("spring" : Str) = "mouth") := by decide +kernel
  simp only [putF, a1, a2, a3, a4, a5, a6, if_false, wf4]
def wf5 (v1 v2 v3 v4 v5 : V) : List (Str × V) := [("many", v1), ("ties", v2), ("spring", v3), ("mouth", v4), ("through", v5)]
def wf (v1 v2 v3 v4 v5 v6 : V) : List (Str × V) := [("many", v1), ("ties", v2), ("spring", v3), ("mouth", v4), ("through", v5), ("around", v6)]
theorem wf_put5 (v1 v2 v3 v4 v5 : V) : putF "through" v5 (wf4 v1 v2 v3 v4) = wf5 v1 v2 v3 v4 v5 := by
  have a1 : ¬ (("many" : Str) = "through") := by decide +kernel
  have a2 : ¬ (("ties" : Str) = "through") := by decide +kernel
  have a3 : ¬ (("spring" : Str) = "through") := by decide +kernel
  have a4 : ¬ (("mouth" : Str) = "through") := by decide +kernel
  simp only [putF, a1, a2, a3, a4, if_false, wf4, wf5]
theorem wf_put6 (v1 v2 v3 v4 v5 v6 : V) : putF "around" v6 (wf5 v1 v2 v3 v4 v5) = wf v1 v2 v3 v4 v5 v6 := by
  have a1 : ¬ (("many" : Str) = "around") := by decide +kernel
  have a2 : ¬ (("ties" : Str) = "around") := by decide +kernel
  have a3 : ¬ (("spring" : Str) = "around") := by decide +kernel
  have a4 : ¬ (("mouth" : Str) = "around") := by decide +kernel
  have a5 : ¬ (("through" : Str) = "around") := by decide +kernel
  simp only [putF, a1, a2, a3, a4, a5, if_false, wf5, wf]
section
variable (v1 v2 v3 v4 v5 v6 : V)
theorem wf5_through : (wf5 v1 v2 v3 v4 v5).lookup ("through" : Str) = some v5 := rfl
theorem wf_many : (wf v1 v2 v3 v4 v5 v6).lookup ("many" : Str) = some v1 := rfl
theorem wf_ties : (wf v1 v2 v3 v4 v5 v6).lookup ("ties" : Str) = some v2 := rfl
theorem wf_spring : (wf v1 v2 v3 v4 v5 v6).lookup ("spring" : Str) = some v3 := rfl
theorem wf_mouth : (wf v1 v2 v3 v4 v5 v6).lookup ("mouth" : Str) = some v4 := rfl
theorem wf_through : (wf v1 v2 v3 v4 v5 v6).lookup ("through" : Str) = some v5 := rfl
theorem wf_around : (wf v1 v2 v3 v4 v5 v6).lookup ("around" : Str) = some v6 := rfl
end
theorem putF_le (f : Str) (v : V) : ∀ l : List (Str × V), (putF f v l).length ≤ l.length + 1
  | [] => Nat.le_refl 1
  | (g, x) :: r => by
    show (if g = f then (g, v) :: r else (g, x) :: putF f v r).length ≤ _
    by_cases h : g = f
    · rw [if_pos h]
      simp
    · rw [if_neg h]
      have := putF_le f v r
      simp only [List.length_cons]
      omega
theorem putF_2 (f g : Str) (v u : V) : (putF f v (putF g u [])).length < 1000 := by
  have h1 := putF_le f v (putF g u [])
  have h2 := putF_le g u []
  simp only [List.length_nil] at h2
  omega
theorem putF_3 (f g k : Str) (v u x : V) : (putF f v (putF g u (putF k x []))).length < 1000 := by
  have h1 := putF_le f v (putF g u (putF k x []))
  have h2 := putF_le g u (putF k x [])
  have h3 := putF_le k x []
  simp only [List.length_nil] at h3
  omega
def sameI : PyData → PyData → Bool | .int a, .int b => decide (a = b) | _, _ => false
/-- the part that is wrong first -/
def webBad (s t sp mo : PyData) : Option V := match s with
  | .int m => if inI 2 10 s = true then (match tiesBad m t with
    | some k => some (.int k)
    | none => if isNb m sp = true then (if isNb m mo = true then (if sameI mo sp = true then some (.str "mouth") else none) else some (.str "mouth")) else some (.str "spring")) else some (.str "many")
  | _ => some (.str "many")
end Mw

/-! M6 -/
namespace Mw
open PySem L2
abbrev Tie := Int × Int × Int × Int
def tieD (q : Tie) : PyData := .tuple [.int q.1, .int q.2.1, .int q.2.2.1, .int q.2.2.2]
/-- a right web by its parts -/
def Right (m : Int) (L : List Tie) (sp mo : Int) : Prop := webBad (.int m) (.tuple (L.map tieD)) (.int sp) (.int mo) = none
def TieIn (m : Int) (q : Tie) : Prop := 0 ≤ q.1 ∧ q.1 < q.2.1 ∧ q.2.1 < m ∧ 0 ≤ q.2.2.1 ∧ q.2.2.1 < 1000000 ∧ 0 ≤ q.2.2.2 ∧ q.2.2.2 < 1000000
theorem tieD_in {m : Int} {q : Tie} : tieOk m (tieD q) = true ↔ TieIn m q := by
  obtain ⟨a, b, t, k⟩ := q
  simp only [tieD, tieOk, isNb, nbOf, TieIn, Bool.and_eq_true, decide_eq_true_eq]
  omega
theorem tieOk_D {m : Int} {d : PyData} (h : tieOk m d = true) : ∃ q, d = tieD q ∧ TieIn m q := by
  obtain ⟨a, b, t, k, rfl, hh⟩ := tieOk_form h
  exact ⟨(a, b, t, k), rfl, by
    simp only [TieIn]
    omega⟩
theorem all_tieD {m : Int} : ∀ ds : List PyData, (∀ d ∈ ds, tieOk m d = true) → ∃ L : List Tie, ds = L.map tieD ∧ ∀ q ∈ L, TieIn m q
  | [], _ => ⟨[], rfl, by simp⟩
  | d :: ds, h => by
    obtain ⟨q, rfl, hq⟩ := tieOk_D (h d (by simp))
    obtain ⟨L, rfl, hL⟩ := all_tieD ds (fun e he => h e (by simp [he]))
    exact ⟨q :: L, rfl, fun r hr => by
      rcases List.mem_cons.mp hr with z | z
      · rw [z]
        exact hq
      · exact hL r z⟩
theorem tiesBad_none {m : Int} {ds : List PyData} : tiesBad m (.tuple ds) = none ↔ ∀ j, j < ds.length → badAt m ds j = false := by
  show ((List.range ds.length).find? (badAt m ds)).map _ = none ↔ _
  rw [Option.map_eq_none_iff, List.find?_eq_none]
  constructor
  · intro h j hj
    have := h j (by simpa using hj)
    simpa using this
  · intro h j hj
    rw [h j (by simpa using hj)]
    decide
theorem badAt_ok {m : Int} {ds : List PyData} {j : Nat} {d : PyData} (h : badAt m ds j = false) (e : ds[j]? = some d) : tieOk m d = true := by
  unfold badAt at h
  rw [e] at h
  simp only [Bool.or_eq_false_iff] at h
  simpa using h.1
theorem webBad_none {s t sp mo : PyData} (h : webBad s t sp mo = none) : ∃ m L a b, s = .int m ∧ t = .tuple (L.map tieD) ∧ sp = .int a ∧ mo = .int b ∧ Right m L a b ∧ 2 ≤ m ∧ m ≤ 10 ∧ (∀ q ∈ L, TieIn m q) ∧ 0 ≤ a ∧ a < m ∧ 0 ≤ b ∧ b < m ∧ b ≠ a := by
  have h0 := h
  unfold webBad at h
  cases s with
  | int m =>
    simp only at h
    split at h
    · rename_i hm
      split at h
      · cases h
      · rename_i ht
        split at h
        · rename_i h3
          split at h
          · rename_i h4
            split at h
            · cases h
            · rename_i h5
              cases t with
              | tuple ds =>
                cases sp with
                | int a =>
                  cases mo with
                  | int b =>
                    obtain ⟨L, rfl, hL⟩ := all_tieD ds (fun d hd => by
                      obtain ⟨j, hj, e⟩ := List.getElem_of_mem hd
                      exact badAt_ok (tiesBad_none.mp ht j hj) (by rw [List.getElem?_eq_getElem hj, e]))
                    simp [inI] at hm
                    simp [isNb] at h3 h4
                    simp [sameI] at h5
                    exact ⟨m, L, a, b, rfl, rfl, rfl, rfl, h0, hm.1, hm.2, hL, h3.1, h3.2, h4.1, h4.2, h5⟩
                  | _ => cases h4
                | _ => cases h3
              | _ => cases ht
          · cases h
        · cases h
    · cases h
  | _ => cases h
theorem Right.parts {m : Int} {L : List Tie} {a b : Int} (h : Right m L a b) : 2 ≤ m ∧ m ≤ 10 ∧ (∀ q ∈ L, TieIn m q) ∧ 0 ≤ a ∧ a < m ∧ 0 ≤ b ∧ b < m ∧ b ≠ a := by
  obtain ⟨m', L', a', b', e1, e2, e3, e4, _, r⟩ := webBad_none h
  cases e1
  cases e3
  cases e4
  obtain ⟨r1, r2, r3, r4⟩ := r
  refine ⟨r1, r2, fun q hq => ?_, r4⟩
  have e : L.map tieD = L'.map tieD := PyData.tuple.inj e2
  obtain ⟨q', hq', eq⟩ := List.mem_map.mp (show tieD q ∈ L'.map tieD by rw [← e]; exact List.mem_map_of_mem hq)
  obtain ⟨a1, b1, c1, d1⟩ := q
  obtain ⟨a2, b2, c2, d2⟩ := q'
  simp only [tieD, PyData.tuple.injEq, List.cons.injEq, PyData.int.injEq, and_true] at eq
  obtain ⟨rfl, rfl, rfl, rfl⟩ := eq
  exact r3 _ hq'
/-- the codes rise, so there are few ties -/
theorem Right.ties {m : Int} {L : List Tie} {a b : Int} (h : Right m L a b) : tiesBad m (.tuple (L.map tieD)) = none := by
  unfold Right webBad at h
  simp only at h
  split at h
  · split at h
    · cases h
    · assumption
  · cases h
theorem Right.len {m : Int} {L : List Tie} {a b : Int} (h : Right m L a b) : L.length ≤ 100 := by
  obtain ⟨h1, h2, h3, _⟩ := h.parts
  have nb := tiesBad_none.mp h.ties
  have key : ∀ (j : Nat) (q : Tie), L[j]? = some q → (j : Int) ≤ q.1 * 10 + q.2.1 := by
    intro j
    induction j with
    | zero =>
      intro q hq
      have := h3 q (List.mem_of_getElem? hq)
      simp only [TieIn] at this
      omega
    | succ j ih =>
      intro q hq
      have hj : j < L.length := by
        have := (List.getElem?_eq_some_iff.mp hq).1
        omega
      have e := nb (j + 1) (by
        have := (List.getElem?_eq_some_iff.mp hq).1
        simpa using this)
      have hr : L[j]? = some L[j] := by simp [hj]
      have i1 := ih _ hr
      unfold badAt at e
      rw [List.getElem?_map, hq] at e
      simp only [Option.map_some, Nat.add_sub_cancel, List.getElem?_map, hr, Bool.or_eq_false_iff, Bool.and_eq_false_iff, decide_eq_false_iff_not] at e
      have e2 := e.2.resolve_left (by omega)
      have b1 := h3 q (List.mem_of_getElem? hq)
      have b2 := h3 L[j] (List.mem_of_getElem? hr)
      obtain ⟨a1, b1', c1, d1⟩ := q
      generalize hL : L[j] = r at *
      obtain ⟨a2, b2', c2, d2⟩ := r
      simp only [TieIn] at b1 b2
      simp only [tieD, pairLe, le2] at e2
      simp only at i1
      show ((j + 1 : Nat) : Int) ≤ a1 * 10 + b1'
      split at e2
      · simp only [decide_eq_false_iff_not] at e2
        omega
      · simp only [decide_eq_false_iff_not] at e2
        omega
  rcases Nat.lt_or_ge 100 L.length with z | z
  · have e : L[100]? = some L[100] := by simp [z]
    have k := key 100 _ e
    have b1 := h3 _ (List.mem_of_getElem? e)
    generalize L[100] = r at *
    obtain ⟨a2, b2', c2, d2⟩ := r
    simp only [TieIn] at b1
    simp only at k
    omega
  · exact z
end Mw

/-! MR4 -/
/-! list(zip(s, t)) of two tuples: a new list of new pairs. -/
namespace L2
open PySem PySem.Spec PyProof.Rows RZ
theorem lz_len : typeLookup (.type "zip") "__len__" = pure none := am_miss_of_fast (by decide +kernel)
theorem lz_hint : typeLookup (.type "zip") "__length_hint__" = pure none := am_miss_of_fast (by decide +kernel)
section
variable {prog : Program} {w : World} {A : Around} {E : Value → Shared → Prop} {s : Shared}
variable {z TI TO T i1 i2 l1 l2 : Addr} {f : Bool} {oT : Obj} {k1 k2 : Nat} {xs ys : Array Value}
/-- the next pair while the last one is still there -/
theorem lz_item {x y : Value} {Q : Option Value → Shared → Prop} (D : ZipApart z TI TO i1 i2 l1 l2)
    (hz : IsZipHeld s.heap z TI TO T f)
    (hT : s.heap.get? T = some oT)
    (hTI : IsPair s.heap TI (.ref i1) (.ref i2)) (h1 : s.heap.IsTupleIter i1 l1 k1)
    (h2 : s.heap.IsTupleIter i2 l2 k2) (hl1 : s.heap.IsTuple l1 xs)
    (hl2 : s.heap.IsTuple l2 ys) (hx : xs[k1]? = some x)
    (hy : ys[k2]? = some y)
    (q : ∀ h', IsZipHeld h' z TI TO T true → h'.IsTupleIter i1 l1 (k1 + 1) → h'.IsTupleIter i2 l2 (k2 + 1) → IsPair h' s.heap.objs.size x y → h'.objs.size = s.heap.objs.size + 1 → (∀ c o, c ≠ z → c ≠ i1 → c ≠ i2 → s.heap.get? c = some o → h'.get? c = some o) → Q (some (.ref s.heap.objs.size)) { s with heap := h' }) :
    wpAny (model prog w) A (pyNext (.ref z)) Q E s := by
  have ty : s.TypeIs (.ref z) "zip" := ⟨_, hz, rfl⟩
  unfold pyNext
  refine wpAny_bind (wpAny_attempt (wpAny_callSpecial?_slot (name := Str.ofString "__next__") ty F.slot_zip_next (wpAny_call_entry F.slot_zip_next ty F.entry_zip_next ?_ (F.args_zip_next_1 _))))
  show wpAny _ _ (field (.ref z) 2 >>= _) _ _ _
  refine wpAny_bind (wpAny_field hz rfl (x := .bool false) rfl ?_)
  show wpAny _ _ (field (.ref z) 3 >>= _) _ _ _
  refine wpAny_bind (wpAny_field hz rfl (x := .ref TI) rfl (wpAny_bind (wpAny_seqItems hTI rfl ?_)))
  show wpAny _ _ (Builtin.SmallTypes.ownedTupleIsFree (.ref z) >>= _) _ _ _
  refine wpAny_bind (wpAny_tupleHeld_zip hz hT fun g1 z1 b1 => ?_)
  simp only [Bool.false_eq_true, if_false]
  refine wpAny_bind ?_
  rw [← Array.forIn_toList]
  simp only [List.forIn_cons, List.forIn_nil]
  refine wpAny_bind (wpAny_bind (wpAny_holding ?_))
  show wpAny _ _ (Builtin.SmallTypes.nextOf (.ref i1) >>= _) _ _ _
  refine wpAny_bind (nextOf_tuple_item (s := { s with heap := g1 }) (h1.extBut b1.extBut D.i1z) (hl1.extBut b1.extBut D.l1z) hx fun g2 i2' b2 => wpAny_pure (wpAny_pure ?_))
  refine wpAny_bind (wpAny_bind (wpAny_holding ?_))
  show wpAny _ _ (Builtin.SmallTypes.nextOf (.ref i2) >>= _) _ _ _
  refine wpAny_bind (nextOf_tuple_item (s := { s with heap := g2 }) ((h2.extBut b1.extBut D.i2z).extBut b2.extBut D.i12.symm) ((hl2.extBut b1.extBut D.l2z).extBut b2.extBut D.l2i1) hy fun g3 i3' b3 => wpAny_pure ?_)
  refine wpAny_pure (wpAny_pure ?_)
  show wpAny _ _ (newTuple [x, y] >>= _) _ _ _
  refine wpAny_bind (wpAny_newTuple ?_)
  have sz : g3.objs.size = s.heap.objs.size := by rw [b3.1, b2.1, b1.1]
  have z3 : IsZipHeld g3 z TI TO T true := b3.extBut _ _ D.i2z.symm (b2.extBut _ _ D.i1z.symm z1)
  have kp : ∀ c o, c ≠ z → c ≠ i1 → c ≠ i2 → s.heap.get? c = some o → g3.get? c = some o := fun c o c1 c2 c3 e => b3.extBut _ _ c3 (b2.extBut _ _ c2 (b1.extBut _ _ c1 e))
  have j1 : g3.IsTupleIter i1 l1 (k1 + 1) := i2'.extBut b3.extBut D.i12
  refine wpAny_pure ⟨_, rfl, wpAny_pure ?_⟩
  show Q (some (.ref g3.objs.size)) _
  have pr : IsPair (g3.push { cls := .type "tuple", data := .seq #[x, y] }) g3.objs.size x y := Heap.get?_push_size _ rfl
  have sz4 : (g3.push { cls := .type "tuple", data := .seq #[x, y] }).objs.size = g3.objs.size + 1 := Heap.size_push ..
  rw [sz] at pr sz4 ⊢
  exact q _ (Heap.get?_push_of_some _ z3) (j1.at fun o e => Heap.get?_push_of_some _ e) (i3'.at fun o e => Heap.get?_push_of_some _ e) pr sz4 fun c o c1 c2 c3 e => Heap.get?_push_of_some _ (kp c o c1 c2 c3 e)
/-- no next pair while the last one is still there -/
theorem lz_end {Q : Option Value → Shared → Prop} (hh : A.handled = none) (D : ZipApart z TI TO i1 i2 l1 l2)
    (hz : IsZipHeld s.heap z TI TO T f)
    (hT : s.heap.get? T = some oT)
    (hTI : IsPair s.heap TI (.ref i1) (.ref i2)) (h1 : s.heap.IsTupleIter i1 l1 k1)
    (h2 : s.heap.IsTupleIter i2 l2 k2) (hl1 : s.heap.IsTuple l1 xs)
    (hl2 : s.heap.IsTuple l2 ys) (he : xs[k1]? = none ∨ ys[k2]? = none)
    (q : ∀ h', (∀ c o, c ≠ z → c ≠ i1 → c ≠ i2 → s.heap.get? c = some o → h'.get? c = some o) → Q none { s with heap := h' }) :
    wpAny (model prog w) A (pyNext (.ref z)) Q E s := by
  have ty : s.TypeIs (.ref z) "zip" := ⟨_, hz, rfl⟩
  unfold pyNext
  refine wpAny_bind (wpAny_attempt (wpAny_callSpecial?_slot (name := Str.ofString "__next__") ty F.slot_zip_next (wpAny_call_entry F.slot_zip_next ty F.entry_zip_next ?_ (F.args_zip_next_1 _))))
  show wpAny _ _ (field (.ref z) 2 >>= _) _ _ _
  refine wpAny_bind (wpAny_field hz rfl (x := .bool false) rfl ?_)
  show wpAny _ _ (field (.ref z) 3 >>= _) _ _ _
  refine wpAny_bind (wpAny_field hz rfl (x := .ref TI) rfl (wpAny_bind (wpAny_seqItems hTI rfl ?_)))
  show wpAny _ _ (Builtin.SmallTypes.ownedTupleIsFree (.ref z) >>= _) _ _ _
  refine wpAny_bind (wpAny_tupleHeld_zip hz hT fun g1 z1 b1 => ?_)
  simp only [Bool.false_eq_true, if_false]
  refine wpAny_bind ?_
  rw [← Array.forIn_toList]
  simp only [List.forIn_cons, List.forIn_nil]
  refine wpAny_bind (wpAny_bind (wpAny_holding ?_))
  show wpAny _ _ (Builtin.SmallTypes.nextOf (.ref i1) >>= _) _ _ _
  cases hx : xs[k1]? with
  | none =>
    refine wpAny_bind (nextOf_tuple_end (s := { s with heap := g1 }) hh (h1.extBut b1.extBut D.i1z) (hl1.extBut b1.extBut D.l1z) hx fun g2 e b2 ho => ?_)
    obtain ⟨o, ho, hc⟩ := ho
    refine wpAny_bind (wpAny_isInstance (T := "StopIteration") (b := true) ⟨o, ho, hc⟩ isSubtype_stop ?_)
    exact wpAny_pure (q _ fun c o c1 c2 _ x => b2 _ _ c2 (b1.extBut _ _ c1 x))
  | some x =>
    have hy : ys[k2]? = none := by
      rcases he with h | h
      · rw [hx] at h
        cases h
      · exact h
    refine wpAny_bind (nextOf_tuple_item (s := { s with heap := g1 }) (h1.extBut b1.extBut D.i1z) (hl1.extBut b1.extBut D.l1z) hx fun g2 i2' b2 => wpAny_pure (wpAny_pure ?_))
    refine wpAny_bind (wpAny_bind (wpAny_holding ?_))
    show wpAny _ _ (Builtin.SmallTypes.nextOf (.ref i2) >>= _) _ _ _
    refine wpAny_bind (nextOf_tuple_end (s := { s with heap := g2 }) hh ((h2.extBut b1.extBut D.i2z).extBut b2.extBut D.i12.symm) ((hl2.extBut b1.extBut D.l2z).extBut b2.extBut D.l2i1) hy fun g3 e b3 ho => ?_)
    obtain ⟨o, ho, hc⟩ := ho
    refine wpAny_bind (wpAny_isInstance (T := "StopIteration") (b := true) ⟨o, ho, hc⟩ isSubtype_stop ?_)
    exact wpAny_pure (q _ fun c o c1 c2 c3 x => b3 _ _ c3 (b2.extBut _ _ c2 (b1.extBut _ _ c1 x)))
end
/-! ### the loop -/
section
variable {X : Cx} {pins : List (Addr × Obj)} {σ : L2.St} {l1 l2 z TI TO i1 i2 D : Addr} {xs ys : List V} {H1 : Hp}
/-- behind i turns: ts the pairs that stand in the list at D -/
structure LzInv (X : Cx) (pins : List (Addr × Obj)) (σ : L2.St) (l1 l2 z TI TO i1 i2 D : Addr) (xs ys : List V) (H1 : Hp) (ts : List Addr) (s : Shared) (H : Hp) : Prop where
  I : Inv X pins σ H s
  same : Same H1 H
  fp : ∀ c ∈ [z, TI, TO, i1, i2], FpOk X pins H c
  zip : (ts = [] ∧ IsZip s.heap z TI TO .none ∧ ∃ a b, IsPair s.heap TO a b) ∨ ∃ T f oT, IsZipHeld s.heap z TI TO T f ∧ T ≠ z ∧ T ≠ TI ∧ T ≠ TO ∧ T ≠ i1 ∧ T ≠ i2 ∧ T ≠ D ∧ s.heap.get? T = some oT
  pTI : IsPair s.heap TI (.ref i1) (.ref i2)
  t1 : s.heap.IsTupleIter i1 l1 ts.length
  t2 : s.heap.IsTupleIter i2 l2 ts.length
  lst : H D = some (.lst (ts.map V.ref))
  lt : ∀ c ∈ [z, TI, TO, i1, i2], c < s.heap.objs.size
  few : ts.length ≤ xs.length ∧ ts.length ≤ ys.length
  prs : ∀ (j : Nat) (t : Addr) (x y : V), ts[j]? = some t → xs[j]? = some x → ys[j]? = some y → H t = some (.tup [x, y])
theorem lz_loop {A : Around} {R : Result → Shared → Prop} {res : Value} (hh : A.in1.handled = none) (Dz : ZipApart z TI TO i1 i2 l1 l2) (h1 : H1 l1 = some (.tup xs)) (h2 : H1 l2 = some (.tup ys)) (nD : H1 D = none)
    (hR : ∀ (ts : List Addr) (s' : Shared) (H' : Hp), Inv X pins σ H' s' → Same H1 H' → H' D = some (.lst (ts.map V.ref)) → ts.length = min xs.length ys.length → (∀ (j : Nat) (t : Addr) (x y : V), ts[j]? = some t → xs[j]? = some x → ys[j]? = some y → H' t = some (.tup [x, y])) → R (.ok (.ret res)) s') :
    ∀ (k : Nat) (ts : List Addr) (s : Shared) (H : Hp), min xs.length ys.length - ts.length = k → LzInv X pins σ l1 l2 z TI TO i1 i2 D xs ys H1 ts s H → codeAny (model X.prog X.w) A (.builtin "list.extend.loop" ⟨[.ref D, .ref z, res], []⟩) R s := by
  intro k
  induction k with
  | zero =>
    intro ts s H hk J
    refine codeAny_builtin F.entry_extend_loop ?_
    rw [Around.under_plainId F.plain_extend_loop _]
    show wpAny _ A.in1 (pyNext (.ref z) >>= _) _ _ s
    have f := J.few
    have hn : ts.length = min xs.length ys.length := by omega
    obtain ⟨its, rv, p, _⟩ := J.I.tuple (SqT.of (J.same _ _ h1))
    obtain ⟨its2, rv2, p2, _⟩ := J.I.tuple (SqT.of (J.same _ _ h2))
    have e1 := rv.length
    have e2 := rv2.length
    have he : its.toArray[ts.length]? = none ∨ its2.toArray[ts.length]? = none := by
      by_cases c : xs.length ≤ ys.length
      · exact .inl (by simp; omega)
      · exact .inr (by simp; omega)
    have fin : ∀ h', (∀ c o, c ≠ z → c ≠ TO → c ≠ i1 → c ≠ i2 → s.heap.get? c = some o → h'.get? c = some o) → R (.ok (.ret res)) { s with heap := h' } := fun h' kp =>
      hR ts _ H (J.I.turnedL (t' := s.toks) (ch := [z, TI, TO, i1, i2]) (fun c o hb q => kp c o (fun e => hb (by simp [e])) (fun e => hb (by simp [e])) (fun e => hb (by simp [e])) (fun e => hb (by simp [e])) q) J.fp) J.same J.lst hn J.prs
    rcases J.zip with ⟨_, hz, a, b, hTO⟩ | ⟨T, f, oT, hz, _, _, _, _, _, _, hT⟩
    · exact wpAny_bind (pyNext_zipT_end hh Dz hz J.pTI hTO J.t1 J.t2 p p2 he fun h' kp => wpAny_pure (fin h' kp))
    · exact wpAny_bind (lz_end hh Dz hz hT J.pTI J.t1 J.t2 p p2 he fun h' kp => wpAny_pure (fin h' fun c o c1 _ c3 c4 e => kp c o c1 c3 c4 e))
  | succ k ih =>
    intro ts s H hk J
    refine codeAny_builtin F.entry_extend_loop ?_
    rw [Around.under_plainId F.plain_extend_loop _]
    show wpAny _ A.in1 (pyNext (.ref z) >>= _) _ _ s
    obtain ⟨its, rv, p, _⟩ := J.I.tuple (SqT.of (J.same _ _ h1))
    obtain ⟨its2, rv2, p2, _⟩ := J.I.tuple (SqT.of (J.same _ _ h2))
    have hx : xs[ts.length]? = some (xs[ts.length]'(by omega)) := by simp
    have hy : ys[ts.length]? = some (ys[ts.length]'(by omega)) := by simp
    generalize xs[ts.length]'(by omega) = x at hx
    generalize ys[ts.length]'(by omega) = y at hy
    obtain ⟨u, hu, ru⟩ := rv.get hx
    obtain ⟨u2, hu2, ru2⟩ := rv2.get hy
    have push : ∀ h', (IsZipHeld h' z TI TO s.heap.objs.size false ∨ IsZipHeld h' z TI TO s.heap.objs.size true ∨ ∃ T f oT, IsZipHeld h' z TI TO T f ∧ T ≠ z ∧ T ≠ TI ∧ T ≠ TO ∧ T ≠ i1 ∧ T ≠ i2 ∧ T ≠ D ∧ h'.get? T = some oT) → h'.IsTupleIter i1 l1 (ts.length + 1) → h'.IsTupleIter i2 l2 (ts.length + 1) → IsPair h' s.heap.objs.size u u2 →
        (∀ c o, c ≠ z → c ≠ TO → c ≠ i1 → c ≠ i2 → s.heap.get? c = some o → h'.get? c = some o) →
        wpAny (model X.prog X.w) A.in1 (updateSeq D (·.push (.ref s.heap.objs.size)) >>= fun _ => again (.builtin "list.extend.loop" ⟨[.ref D, .ref z, res], []⟩))
          (fun fin s' => match fin with | .done f => R (.ok f) s' | .again c' => c'.quiet = true ∧ codeAny (model X.prog X.w) A c' R s') (fun e s' => R (.error e) s') { s with heap := h' } := by
      intro h' hzip a3 a4 a5 kp
      have nf : H s.heap.objs.size = none := J.I.hok.fresh (Nat.le_refl _)
      have new : ObjOk X.prog X.w (upd H s.heap.objs.size (.tup [x, y])) h' s.heap.objs.size (.tup [x, y]) := ⟨by show 2 ≤ sizeLine; decide, [u, u2], .cons ru (.cons ru2 .nil), ⟨_, a5, rfl, _, rfl⟩⟩
      have I1 : Inv X pins σ (upd H s.heap.objs.size (.tup [x, y])) { s with heap := h' } :=
        J.I.turnedNew (t' := s.toks) (ch := [z, TI, TO, i1, i2]) (fun c o hb q => kp c o (fun e => hb (by simp [e])) (fun e => hb (by simp [e])) (fun e => hb (by simp [e])) (fun e => hb (by simp [e])) q) J.fp (Nat.le_refl _) new
      have nTD : s.heap.objs.size ≠ D := (ne_of_none J.lst nf).symm
      have hD1 : (upd H s.heap.objs.size (.tup [x, y])) D = some (.lst (ts.map V.ref)) := (upd_ne nTD.symm).trans J.lst
      obtain ⟨hz, its3, n3, r3, l3, e3⟩ := I1.lstM hD1
      have len : (ts.map V.ref).length = ts.length := List.length_map _
      have zx : xs.length ≤ sizeLine := by
        obtain ⟨_, _, _, q⟩ := J.I.tuple (SqT.of (J.same _ _ h1))
        exact q
      have small : ts.length + 1 ≤ sizeLine := by omega
      have nc : ∀ c ∈ [z, TI, TO, i1, i2], c ≠ D := fun c hc => (ne_of_none J.lst (J.fp c hc).1).symm
      have oth : ∀ b o, b ≠ D → h'.get? b = some o → (h'.update D (Obj.mapSeq (·.push (.ref s.heap.objs.size)))).get? b = some o := fun b o hb e => (Heap.get?_update_other _ _ hb.symm).trans e
      have szT : s.heap.objs.size < h'.objs.size := Heap.lt_size a5
      refine wpAny_bind (wpAny_updateSeq e3 rfl ?_ (by rw [List.size_toArray, ← l3, len]; omega) (by show (its3.toArray.push _).size ≤ sizeLine + 1; rw [Array.size_push, List.size_toArray, ← l3, len]; omega))
      refine wpAny_pure ⟨plainId_quiet F.plain_extend_loop _, ih (ts ++ [s.heap.objs.size]) _ (upd (upd H s.heap.objs.size (.tup [x, y])) D (.lst ((ts ++ [s.heap.objs.size]).map V.ref))) (by rw [List.length_append]; simp; omega) ?_⟩
      have rT : Vals ((ts ++ [s.heap.objs.size]).map V.ref) (its3 ++ [Value.ref s.heap.objs.size]) := by
        rw [List.map_append]
        exact r3.append (.cons rfl .nil)
      refine {
        I := I1.lset (t' := s.toks) (its' := its3 ++ [Value.ref s.heap.objs.size]) hD1 e3 (by simp) rT (by rw [List.length_map, List.length_append]; simpa using small)
        same := fun b o e => ?_
        fp := fun c hc => ?_
        zip := .inr ?_
        pTI := oth _ _ (nc TI (by simp)) (kp _ _ Dz.TIz Dz.TITO Dz.TIi1 Dz.TIi2 J.pTI)
        t1 := ?_
        t2 := ?_
        lst := upd_same
        lt := fun c hc => ?_
        few := by rw [List.length_append]; simp; omega
        prs := fun j t x' y' ht hx' hy' => ?_ }
      · have e1 := J.same b o e
        rw [upd_ne (ne_of_none e nD), upd_ne (ne_of_none e1 nf)]
        exact e1
      · have q := J.fp c hc
        refine ⟨?_, q.2⟩
        rw [upd_ne (nc c hc), upd_ne (Nat.ne_of_lt (J.lt c hc))]
        exact q.1
      · have ht : (h'.update D (Obj.mapSeq (·.push (.ref s.heap.objs.size)))).get? s.heap.objs.size = some _ := oth _ _ nTD a5
        have ne : ∀ c ∈ [z, TI, TO, i1, i2], s.heap.objs.size ≠ c := fun c hc => (Nat.ne_of_lt (J.lt c hc)).symm
        rcases hzip with q | q | ⟨T, f, oT, q, n1, n2, n3, n4, n5, n6, hT⟩
        · exact ⟨_, _, _, oth _ _ (nc z (by simp)) q, ne z (by simp), ne TI (by simp), ne TO (by simp), ne i1 (by simp), ne i2 (by simp), nTD, ht⟩
        · exact ⟨_, _, _, oth _ _ (nc z (by simp)) q, ne z (by simp), ne TI (by simp), ne TO (by simp), ne i1 (by simp), ne i2 (by simp), nTD, ht⟩
        · exact ⟨T, f, oT, oth _ _ (nc z (by simp)) q, n1, n2, n3, n4, n5, n6, oth _ _ n6 hT⟩
      · rw [List.length_append]
        exact a3.at fun o e => oth _ o (nc i1 (by simp)) e
      · rw [List.length_append]
        exact a4.at fun o e => oth _ o (nc i2 (by simp)) e
      · have q := J.lt c hc
        show c < (h'.update D (Obj.mapSeq (·.push (.ref s.heap.objs.size)))).objs.size
        rw [Heap.size_update]
        exact Nat.lt_trans q szT
      · rw [List.getElem?_append] at ht
        by_cases hj : j < ts.length
        · rw [if_pos hj] at ht
          have q := J.prs j t x' y' ht hx' hy'
          rw [upd_ne (ne_of J.lst q (by intro z; cases z)).symm, upd_ne (ne_of_none q nf)]
          exact q
        · rw [if_neg hj] at ht
          have hj0 : j = ts.length := by
            have := (List.getElem?_eq_some_iff.mp ht).1
            simp at this
            omega
          subst hj0
          rw [hx] at hx'
          rw [hy] at hy'
          cases hx'
          cases hy'
          simp at ht
          subst ht
          rw [upd_ne nTD]
          exact upd_same
    rcases J.zip with ⟨_, hz, a, b, hTO⟩ | ⟨T, f, oT, hz, n1, n2, n3, n4, n5, n6, hT⟩
    · refine wpAny_bind (pyNext_zipT_item Dz hz J.pTI hTO J.t1 J.t2 p p2 (x := u) (y := u2) (by simpa using hu) (by simpa using hu2) fun h' a1 _ a3 a4 a5 _ kp => ?_)
      exact push h' (.inl a1) a3 a4 a5 kp
    · refine wpAny_bind (lz_item Dz hz hT J.pTI J.t1 J.t2 p p2 (x := u) (y := u2) (by simpa using hu) (by simpa using hu2) fun h' a1 a3 a4 a5 _ kp => ?_)
      exact push h' (.inr (.inr ⟨T, true, oT, a1, n1, n2, n3, n4, n5, n6, kp _ _ n1 n4 n5 hT⟩)) a3 a4 a5 fun c o c1 _ c3 c4 e => kp c o c1 c3 c4 e
end
/-! ### the whole expression -/
section
variable {X : Cx} {pins : List (Addr × Obj)} {σ : L2.St}
/-- a zip of the tuples at a and b, not begun -/
structure LzMade (X : Cx) (pins : List (Addr × Obj)) (σ : L2.St) (a b z TI TO i1 i2 : Addr) (H1 : Hp) (s : Shared) : Prop where
  I : Inv X pins σ H1 s
  ap : ZipApart z TI TO i1 i2 a b
  fp : ∀ c ∈ [z, TI, TO, i1, i2], FpOk X pins H1 c
  lt : ∀ c ∈ [z, TI, TO, i1, i2], c < s.heap.objs.size
  zip : IsZip s.heap z TI TO .none
  pTI : IsPair s.heap TI (.ref i1) (.ref i2)
  pTO : IsPair s.heap TO .none .none
  t1 : s.heap.IsTupleIter i1 a 0
  t2 : s.heap.IsTupleIter i2 b 0
def tListZip (ta : TA) : TE := fun σ H Q => ta σ H fun vs H1 => ∃ a b xs ys, vs = [.ref a, .ref b] ∧ H1 a = some (.tup xs) ∧ H1 b = some (.tup ys) ∧ ∀ (D : Addr) (ts : List Addr) (H' : Hp), Same H1 H' → H1 D = none → H' D = some (.lst (ts.map V.ref)) → ts.length = min xs.length ys.length →
  (∀ (j : Nat) (t : Addr) (x y : V), ts[j]? = some t → xs[j]? = some x → ys[j]? = some y → H' t = some (.tup [x, y])) → Q (.ref D) H'
theorem lz_zip {e e2 : Expr} {ta : TA} {p pos : Pos} {s : Shared} {H : Hp} {Q : List V → Hp → Prop} (hg : Gl X "zip") (hm : X.mg "zip" = none) (ha : PA X [e, e2] ta) (I : Inv X pins σ H s)
    (hs : starEach [e, e2] X.env = (false, eval e X.env) :: starEach [e2] X.env) (hpl : (backTo pos (starEach [e2] X.env)).any (·.1) = false)
    (hQ : ∀ vs H1, Q vs H1 → ∃ a b xs ys, vs = [.ref a, .ref b] ∧ H1 a = some (.tup xs) ∧ H1 b = some (.tup ys))
    (h : ta σ H Q) :
    wpAny (model X.prog X.w) X.A (eval (.Call (.Name "zip" p) [e, e2] [] pos) X.env) (fun v s' => ∃ a b z TI TO i1 i2 H1, v = .ref z ∧ LzMade X pins σ a b z TI TO i1 i2 H1 s' ∧ Q [.ref a, .ref b] H1) X.xe s := by
  refine Call_ (ld_blt I hg hm PyProof.Rows.boot_zip (PyProof.Rows.callWith_type1 (thn (ha.run pos pins s σ H _ I h) fun us s1 ⟨vs, H1, I1, r1, q⟩ => ?_) hs hpl))
  obtain ⟨a, b, xs, ys, ev, h1, h2⟩ := hQ vs H1 q
  subst ev
  cases r1 with
  | cons r rr =>
    cases rr with
    | cons r' rr =>
      cases rr
      cases r
      cases r'
      obtain ⟨its, _, p1, _⟩ := I1.tuple (SqT.of h1)
      obtain ⟨its2, _, p2, _⟩ := I1.tuple (SqT.of h2)
      obtain ⟨o1, ho1, _⟩ := id p1
      obtain ⟨o2, ho2, _⟩ := id p2
      refine call_zipT (show s1.heap.IsTuple a its.toArray from p1) (show s1.heap.IsTuple b its2.toArray from p2) fun h' hz hTI hTO t1 t2 hsz hk => ?_
      have ge : ∀ c ∈ [s1.heap.objs.size + 4, s1.heap.objs.size + 2, s1.heap.objs.size + 3, s1.heap.objs.size, s1.heap.objs.size + 1], s1.heap.objs.size ≤ c ∧ c < s1.heap.objs.size + 5 := fun c hc => by
        simp only [List.mem_cons, List.not_mem_nil, or_false] at hc
        rcases hc with q | q | q | q | q <;> rw [q] <;> exact ⟨by simp, by simp⟩
      refine ⟨a, b, s1.heap.objs.size + 4, s1.heap.objs.size + 2, s1.heap.objs.size + 3, s1.heap.objs.size, s1.heap.objs.size + 1, H1, rfl, ⟨I1.kept (t' := s1.toks) hk, PySem.W.ktu_apart s1.heap.objs.size a b (Heap.lt_size ho1) (Heap.lt_size ho2), fun c hc => ?_, fun c hc => ?_, hz, hTI, hTO, t1, t2⟩, q⟩
      · exact I1.fpOk (ge c hc).1 (I1.hok.fresh (ge c hc).1)
      · show c < h'.objs.size
        rw [hsz]
        exact (ge c hc).2
theorem lz_list {A : Around} {E : Value → Shared → Prop} {Q : Value → Shared → Prop} {a b z TI TO i1 i2 : Addr} {xs ys : List V} {H1 : Hp} {s : Shared} (hh : A.handled = none) (M : LzMade X pins σ a b z TI TO i1 i2 H1 s) (h1 : H1 a = some (.tup xs)) (h2 : H1 b = some (.tup ys))
    (hR : ∀ (D : Addr) (ts : List Addr) (s' : Shared) (H' : Hp), Inv X pins σ H' s' → Same H1 H' → H1 D = none → H' D = some (.lst (ts.map V.ref)) → ts.length = min xs.length ys.length → (∀ (j : Nat) (t : Addr) (x y : V), ts[j]? = some t → xs[j]? = some x → ys[j]? = some y → H' t = some (.tup [x, y])) → Q (.ref D) s') :
    wpAny (model X.prog X.w) A (call (.type "list") [.ref z]) Q E s := by
  have nDz : s.heap.objs.size ≠ z := (Nat.ne_of_lt (M.lt z (by simp))).symm
  refine callType_codes (Q₁ := fun obj s₁ => obj = .ref s.heap.objs.size ∧ s₁ = { s with heap := s.heap.push { cls := .type "list", data := .seq #[] } }) F.called_list (F.typeCall_list_1 _) F.entry_list_init (code_list_new _ ⟨rfl, rfl⟩) fun obj s₁ h₁ => ?_
  obtain ⟨rfl, rfl⟩ := h₁
  have d1 : (s.heap.push { cls := .type "list", data := .seq #[] }).get? s.heap.objs.size = some { cls := .type "list", data := .seq #[] } := Heap.get?_push_size _ rfl
  refine ⟨⟨_, d1, rfl⟩, F.args_list_init_2 _ _, ?_⟩
  show wpAny _ A.in1.in1 (Builtin.List.listItems (.ref s.heap.objs.size) >>= _) _ _ _
  refine wpAny_bind ?_
  unfold Builtin.List.listItems
  refine wpAny_bind (wpAny_seqItems d1 rfl (wpAny_pure ?_))
  show wpAny _ A.in1.in1 (updateSeq s.heap.objs.size (fun _ => #[]) >>= _) _ _ _
  refine wpAny_bind (wpAny_updateSeq d1 rfl ?_)
  have d2 := Heap.get?_update_self (Obj.mapSeq (fun _ => (#[] : Array Value))) d1 rfl
  refine wpAny_bind (wpAny_letGo ?_)
  unfold Builtin.List.listExtendWith
  have up : ∀ (g : Heap) (f : Obj → Obj), (∀ c o, s.heap.get? c = some o → g.get? c = some o) → ∀ c o, s.heap.get? c = some o → (g.update s.heap.objs.size f).get? c = some o := fun g f q c o e => (Heap.get?_update_other _ _ (Ne.symm (Nat.ne_of_lt (Heap.lt_size e)))).trans (q c o e)
  have u1 : ∀ c o, s.heap.get? c = some o → (s.heap.push { cls := .type "list", data := .seq #[] }).get? c = some o := fun c o e => Heap.get?_push_of_some _ e
  have u2 := up _ (Obj.mapSeq (fun _ => (#[] : Array Value))) u1
  have zt : ∀ {g : Heap}, (∀ c o, s.heap.get? c = some o → g.get? c = some o) → ({ s with heap := g } : Shared).TypeIs (.ref z) "zip" := fun {g} q => ⟨_, q _ _ M.zip, rfl⟩
  refine wpAny_bind (wpAny_typeOf (zt u2) ?_)
  have c1 : Builtin.List.listSameRef (.ref s.heap.objs.size) (.ref z) = false := by simp [Builtin.List.listSameRef, nDz]
  have c2 : (Value.type "zip" == Value.type "list") = false := by decide
  have c3 : (Value.type "zip" == Value.type "tuple") = false := by decide
  simp only [c1, c2, c3, Bool.or_false, Bool.false_eq_true, if_false]
  refine wpAny_bind (wpAny_pyIter_zip (u2 _ _ M.zip) ?_)
  refine wpAny_bind (wpAny_holding ?_)
  unfold Builtin.List.listLengthHint
  refine wpAny_bind (wpAny_specialOf (zt u2) lz_len ?_)
  show wpAny _ A.in1.in1 (specialOf (Value.ref z) (Str.ofString "__length_hint__") >>= _) _ _ _
  refine wpAny_bind (wpAny_specialOf (zt u2) lz_hint ?_)
  refine wpAny_pure ?_
  show wpAny _ A.in1.in1 (rule "list.extend.makes-room" >>= _) _ _ _
  refine wpAny_bind (wpAny_rule (wpAny_bind ?_))
  show wpAny _ A.in1.in1 (updateSeq s.heap.objs.size (·.push .none) >>= _) _ _ _
  refine wpAny_bind (wpAny_updateSeq d2 rfl ?_)
  have d3 := Heap.get?_update_self (Obj.mapSeq (·.push Value.none)) d2 rfl
  refine wpAny_updateSeq (hz := by seq_fits) d3 rfl ?_
  have d4 := Heap.get?_update_self (Obj.mapSeq (·.pop)) d3 rfl
  have u4 := up _ (Obj.mapSeq (·.pop)) (up _ (Obj.mapSeq (·.push Value.none)) u2)
  refine wpAny_pure ⟨plainId_quiet F.plain_extend_loop _, ?_⟩
  have nf : H1 s.heap.objs.size = none := M.I.hok.fresh (Nat.le_refl _)
  have szz : s.heap.objs.size < (((((s.heap.push { cls := .type "list", data := .seq #[] }).update s.heap.objs.size (Obj.mapSeq (fun _ => (#[] : Array Value)))).update s.heap.objs.size (Obj.mapSeq (·.push Value.none))).update s.heap.objs.size (Obj.mapSeq (·.pop)))).objs.size := Heap.lt_size d4
  refine lz_loop (A := A.in1) (H1 := H1) (xs := xs) (ys := ys) (l1 := a) (l2 := b) (TI := TI) (TO := TO) (i1 := i1) (i2 := i2) hh M.ap h1 h2 nf (fun ts s' H' I' sm hl hn hp => ⟨rfl, hR _ ts s' H' I' sm nf hl hn hp⟩) _ [] _ (upd H1 s.heap.objs.size (.lst [])) rfl {
    I := M.I.laid (t' := s.toks) u4 (Nat.le_refl _) ⟨Nat.zero_le _, [], _, .nil, d4⟩
    same := fun c o e => (upd_ne (ne_of_none e nf)).trans e
    fp := fun c hc => ⟨(upd_ne (Nat.ne_of_lt (M.lt c hc))).trans (M.fp c hc).1, (M.fp c hc).2⟩
    zip := .inl ⟨rfl, u4 _ _ M.zip, _, _, u4 _ _ M.pTO⟩
    pTI := u4 _ _ M.pTI
    t1 := M.t1.at fun o e => u4 _ o e
    t2 := M.t2.at fun o e => u4 _ o e
    lst := upd_same
    lt := fun c hc => Nat.lt_trans (M.lt c hc) szz
    few := ⟨Nat.zero_le _, Nat.zero_le _⟩
    prs := fun j t x y h => by simp at h }
theorem pe_listZip {X : Cx} {e e2 : Expr} {ta : TA} {p pos p2 pos2 : Pos} (hc : X.calm = true) (hg : Gl X "list") (hm : X.mg "list" = none) (hg2 : Gl X "zip") (hm2 : X.mg "zip" = none) (ha : PA X [e, e2] ta)
    (na : starEach [Expr.Call (.Name "zip" p2) [e, e2] [] pos2] X.env = (false, eval (.Call (.Name "zip" p2) [e, e2] [] pos2) X.env) :: starEach [] X.env := by rfl)
    (hs : starEach [e, e2] X.env = (false, eval e X.env) :: starEach [e2] X.env := by rfl) (hpl : (backTo pos2 (starEach [e2] X.env)).any (·.1) = false := by rfl) :
    PE X (.Call (.Name "list" p) [.Call (.Name "zip" p2) [e, e2] [] pos2] [] pos) (tListZip ta) := by
  refine ⟨fun pins s σ H Q I h => ?_⟩
  refine Call_ (ld_blt I hg hm boot_list (PyProof.Rows.callWith_type1 (args_cons (thn (lz_zip hg2 hm2 ha I hs hpl (fun vs H1 ⟨a, b, xs, ys, ev, h1, h2, _⟩ => ⟨a, b, xs, ys, ev, h1, h2⟩) h) fun v s1 ⟨a, b, z, TI, TO, i1, i2, H1, ev, M, q⟩ => args_nil ?_) na) na))
  subst ev
  obtain ⟨a', b', xs, ys, ev, h1, h2, q⟩ := q
  cases ev
  exact lz_list (I.ok.hd hc) M h1 h2 fun D ts s' H' I' sm nD hl hn hp => ⟨.ref D, H', I', rfl, q D ts H' sm nD hl hn hp⟩
end
end L2

/-! MR12 -/
/-! zip of a list and a tuple; a walk over what is a list or a tuple; a list that takes in a tuple; xs[a:] = ys. -/
namespace L2
open PySem PySem.Spec PyProof.Rows
/-- a zip at z over a list's walk at i and a tuple's walk at j; the pair of walks at p, the last pair at o -/
structure Mz (h : Heap) (z p o i j a b : Addr) (n : Nat) (f : Value) : Prop where
  hz : IsZip h z p o f
  hp : IsPair h p (.ref i) (.ref j)
  ho : ∃ u v, IsPair h o u v
  hi : h.IsListIter i a n
  hj : h.IsTupleIter j b n
theorem Mz.at {h h' : Heap} {z p o i j a b : Addr} {n : Nat} {f : Value} (m : Mz h z p o i j a b n f) (k : ∀ c, c ∈ [z, p, o, i, j] → ∀ t, h.get? c = some t → h'.get? c = some t) : Mz h' z p o i j a b n f := by
  obtain ⟨m1, m2, ⟨u, v, m3⟩, m4, m5⟩ := m
  exact ⟨k z (by simp) _ m1, k p (by simp) _ m2, ⟨u, v, k o (by simp) _ m3⟩, m4.at fun t e => k i (by simp) t e, m5.at fun t e => k j (by simp) t e⟩
section
variable {prog : Program} {w : World} {A : Around} {E : Value → Shared → Prop} {s : Shared} {z p o i j a b : Addr} {n : Nat} {xs ys : Array Value}
theorem mz_step {x y : Value} {Q : Value → Shared → Prop} (D : ZipApart z p o i j a b) (m : Mz s.heap z p o i j a b n .none) (ha : s.heap.IsList a xs) (hb : s.heap.IsTuple b ys) (ex : xs[n]? = some x) (ey : ys[n]? = some y)
    (q : ∀ h', Mz h' z p o i j a b (n + 1) (rawInt s.heap.objs.size) → IsPair h' s.heap.objs.size x y → (∀ c t, c ∉ [z, o, i, j] → s.heap.get? c = some t → h'.get? c = some t) → Q (.ref s.heap.objs.size) { s with heap := h' }) :
    wpAny (model prog w) A (Builtin.«zip.__next__» ⟨[.ref z], []⟩) (fun r s1 => ∃ v, r = .done (.ret v) ∧ Q v s1) E s := by
  obtain ⟨mz, mp, ⟨u, v, mo⟩, mi, mj⟩ := m
  show wpAny _ _ (field (.ref z) 2 >>= _) _ _ _
  refine wpAny_bind (wpAny_field mz rfl (x := .bool false) rfl ?_)
  show wpAny _ _ (field (.ref z) 3 >>= _) _ _ _
  refine wpAny_bind (wpAny_field mz rfl (x := .ref p) rfl (wpAny_bind (wpAny_seqItems mp rfl ?_)))
  show wpAny _ _ (Builtin.SmallTypes.ownedTupleIsFree (.ref z) >>= _) _ _ _
  unfold Builtin.SmallTypes.ownedTupleIsFree
  refine wpAny_bind (wpAny_bind (wpAny_field mz rfl (x := .none) rfl (wpAny_pure ?_)))
  simp only [if_true]
  refine wpAny_bind (wpAny_rule (wpAny_bind (wpAny_field mz rfl (x := .ref o) rfl (wpAny_bind (wpAny_setField_rec mz (by simp) fun g1 z1 k1 => ?_)))))
  replace z1 : IsZip g1 z p o .ellipsis := z1
  simp only [List.zipIdx_cons, List.zipIdx_nil, List.forIn_cons, List.forIn_nil]
  refine wpAny_bind (wpAny_bind (wpAny_bind (wpAny_onRaise ?_)))
  show wpAny _ _ (Builtin.SmallTypes.nextOf (.ref i) >>= _) _ _ _
  refine wpAny_bind (wpAny_nextOf_list_item (mi.extBut k1.extBut D.i1z) (ha.extBut k1.extBut D.l1z) ex fun g2 i2 k2 => wpAny_pure ?_)
  have o2 : IsPair g2 o u v := k2.extBut _ _ D.TOi1 (k1.extBut _ _ D.TOz mo)
  refine wpAny_bind (wpAny_seqItems o2 rfl (wpAny_bind (wpAny_updateSeq_pair o2 fun g3 o3 k3 => wpAny_bind (wpAny_letGo (wpAny_pure ?_)))))
  replace o3 : IsPair g3 o x v := o3
  refine wpAny_bind (wpAny_bind (wpAny_onRaise ?_))
  show wpAny _ _ (Builtin.SmallTypes.nextOf (.ref j) >>= _) _ _ _
  refine wpAny_bind (RZ.nextOf_tuple_item (((mj.extBut k1.extBut D.i2z).extBut k2.extBut D.i12.symm).extBut k3.extBut D.TOi2.symm) (((hb.extBut k1.extBut D.l2z).extBut k2.extBut D.l2i1).extBut k3.extBut D.l2TO) ey fun g4 j4 k4 => wpAny_pure ?_)
  have o4 : IsPair g4 o x v := k4.extBut _ _ D.TOi2 o3
  refine wpAny_bind (wpAny_seqItems o4 rfl (wpAny_bind (wpAny_updateSeq_pair o4 fun g5 o5 k5 => wpAny_bind (wpAny_letGo (wpAny_pure (wpAny_pure ?_))))))
  replace o5 : IsPair g5 o x y := o5
  refine wpAny_bind (wpAny_seqItems o5 rfl (wpAny_bind (wpAny_newTuple ?_)))
  have sz : g5.objs.size = s.heap.objs.size := by rw [k5.1, k4.1, k3.1, k2.1, k1.1]
  have z5 : IsZip g5 z p o .ellipsis := k5.extBut _ _ D.TOz.symm (k4.extBut _ _ D.i2z.symm (k3.extBut _ _ D.TOz.symm (k2.extBut _ _ D.i1z.symm z1)))
  have up5 : ∀ c t, c ∉ [z, o, i, j] → s.heap.get? c = some t → g5.get? c = some t := fun c t nc e => by
    simp only [List.mem_cons, List.not_mem_nil, or_false, not_or] at nc
    obtain ⟨n1, n2, n3, n4⟩ := nc
    exact k5.extBut _ _ n2 (k4.extBut _ _ n4 (k3.extBut _ _ n2 (k2.extBut _ _ n3 (k1.extBut _ _ n1 e))))
  have i5 : g5.IsListIter i a (n + 1) := ((i2.extBut k3.extBut D.TOi1.symm).extBut k4.extBut D.i12).extBut k5.extBut D.TOi1.symm
  have j5 : g5.IsTupleIter j b (n + 1) := j4.extBut k5.extBut D.TOi2.symm
  have zl : z < g5.objs.size := Heap.lt_size z5
  show wpAny _ _ (Builtin.SmallTypes.ownedTupleHandOut (.ref z) (.ref g5.objs.size) >>= _) _ _ _
  unfold Builtin.SmallTypes.ownedTupleHandOut
  have z6 : IsZip (g5.push { cls := .type "tuple", data := .seq #[x, y] }) z p o .ellipsis := Heap.get?_push_of_some _ z5
  refine wpAny_bind (wpAny_bind (wpAny_setField_rec z6 (by simp) fun g7 z7 k7 => ?_))
  replace z7 : IsZip g7 z p o (rawInt g5.objs.size) := z7
  refine wpAny_setField_rec z7 (by simp) fun g8 z8 k8 => ?_
  replace z8 : IsZip g8 z p o (rawInt g5.objs.size) := z8
  have up8 : ∀ c t, c ≠ z → g5.get? c = some t → g8.get? c = some t := fun c t nc e => k8.extBut _ _ nc (k7.extBut _ _ nc (Heap.get?_push_of_some _ e))
  have t8 : IsPair g8 g5.objs.size x y := k8.extBut _ _ (Nat.ne_of_gt zl) (k7.extBut _ _ (Nat.ne_of_gt zl) (Heap.get?_push_size _ rfl))
  rw [sz] at z8 t8
  refine wpAny_pure ⟨_, rfl, ?_⟩
  show Q (.ref g5.objs.size) _
  rw [sz]
  have np : p ∉ [z, o, i, j] := by simp [D.TIz, D.TITO, D.TIi1, D.TIi2]
  exact q g8 ⟨z8, up8 _ _ D.TIz (up5 _ _ np mp), ⟨x, y, up8 _ _ D.TOz o5⟩, i5.at fun t e => up8 _ t D.i1z e, j5.at fun t e => up8 _ t D.i2z e⟩ t8 fun c t nc e => up8 c t (fun e => nc (by simp [e])) (up5 c t nc e)
theorem mz_end {Q : Fin → Shared → Prop} (hh : A.handled = none) (D : ZipApart z p o i j a b) (m : Mz s.heap z p o i j a b n .none) (ha : s.heap.IsList a xs) (hb : s.heap.IsTuple b ys) (en : xs[n]? = none ∨ ys[n]? = none)
    (q : ∀ h' e, (∀ c t, c ∉ [z, o, i, j] → s.heap.get? c = some t → h'.get? c = some t) → (∃ t, h'.get? e = some t ∧ t.cls = .type "StopIteration") → E (.ref e) { s with heap := h' }) :
    wpAny (model prog w) A (Builtin.«zip.__next__» ⟨[.ref z], []⟩) Q E s := by
  obtain ⟨mz, mp, ⟨u, v, mo⟩, mi, mj⟩ := m
  show wpAny _ _ (field (.ref z) 2 >>= _) _ _ _
  refine wpAny_bind (wpAny_field mz rfl (x := .bool false) rfl ?_)
  show wpAny _ _ (field (.ref z) 3 >>= _) _ _ _
  refine wpAny_bind (wpAny_field mz rfl (x := .ref p) rfl (wpAny_bind (wpAny_seqItems mp rfl ?_)))
  show wpAny _ _ (Builtin.SmallTypes.ownedTupleIsFree (.ref z) >>= _) _ _ _
  unfold Builtin.SmallTypes.ownedTupleIsFree
  refine wpAny_bind (wpAny_bind (wpAny_field mz rfl (x := .none) rfl (wpAny_pure ?_)))
  simp only [if_true]
  refine wpAny_bind (wpAny_rule (wpAny_bind (wpAny_field mz rfl (x := .ref o) rfl (wpAny_bind (wpAny_setField_rec mz (by simp) fun g1 z1 k1 => ?_)))))
  replace z1 : IsZip g1 z p o .ellipsis := z1
  simp only [List.zipIdx_cons, List.zipIdx_nil, List.forIn_cons, List.forIn_nil]
  refine wpAny_bind (wpAny_bind (wpAny_bind (wpAny_onRaise ?_)))
  show wpAny _ _ (Builtin.SmallTypes.nextOf (.ref i) >>= _) _ _ _
  cases ex : xs[n]? with
  | none =>
    refine wpAny_bind (wpAny_nextOf_list_end hh (mi.extBut k1.extBut D.i1z) (ha.extBut k1.extBut D.l1z) ex fun g2 e k2 ⟨t, et, ct⟩ => ?_)
    have z2 : IsZip g2 z p o .ellipsis := k2 _ _ D.i1z.symm z1
    have ne : e ≠ z := fun x => by
      subst x
      rw [z2] at et
      cases et
      simp at ct
    refine wpAny_setField_rec z2 (by simp) fun g3 _ k3 => q g3 e (fun c t nc x => ?_) ⟨t, k3.extBut _ _ ne et, ct⟩
    simp only [List.mem_cons, List.not_mem_nil, or_false, not_or] at nc
    exact k3.extBut _ _ nc.1 (k2 _ _ nc.2.2.1 (k1.extBut _ _ nc.1 x))
  | some x =>
    have ey : ys[n]? = none := en.resolve_left (by rw [ex]; exact fun z => by cases z)
    refine wpAny_bind (wpAny_nextOf_list_item (mi.extBut k1.extBut D.i1z) (ha.extBut k1.extBut D.l1z) ex fun g2 i2 k2 => wpAny_pure ?_)
    have o2 : IsPair g2 o u v := k2.extBut _ _ D.TOi1 (k1.extBut _ _ D.TOz mo)
    refine wpAny_bind (wpAny_seqItems o2 rfl (wpAny_bind (wpAny_updateSeq_pair o2 fun g3 o3 k3 => wpAny_bind (wpAny_letGo (wpAny_pure ?_)))))
    refine wpAny_bind (wpAny_bind (wpAny_onRaise ?_))
    show wpAny _ _ (Builtin.SmallTypes.nextOf (.ref j) >>= _) _ _ _
    refine wpAny_bind (RZ.nextOf_tuple_end hh (((mj.extBut k1.extBut D.i2z).extBut k2.extBut D.i12.symm).extBut k3.extBut D.TOi2.symm) (((hb.extBut k1.extBut D.l2z).extBut k2.extBut D.l2i1).extBut k3.extBut D.l2TO) ey fun g4 e k4 ⟨t, et, ct⟩ => ?_)
    have z4 : IsZip g4 z p o .ellipsis := k4 _ _ D.i2z.symm (k3.extBut _ _ D.TOz.symm (k2.extBut _ _ D.i1z.symm z1))
    have ne : e ≠ z := fun x => by
      subst x
      rw [z4] at et
      cases et
      simp at ct
    refine wpAny_setField_rec z4 (by simp) fun g5 _ k5 => q g5 e (fun c t nc x => ?_) ⟨t, k5.extBut _ _ ne et, ct⟩
    simp only [List.mem_cons, List.not_mem_nil, or_false, not_or] at nc
    exact k5.extBut _ _ nc.1 (k4 _ _ nc.2.2.2 (k3.extBut _ _ nc.2.1 (k2.extBut _ _ nc.2.2.1 (k1.extBut _ _ nc.1 x))))
theorem mz_next {x y : Value} {Q : Option Value → Shared → Prop} (D : ZipApart z p o i j a b) (m : Mz s.heap z p o i j a b n .none) (ha : s.heap.IsList a xs) (hb : s.heap.IsTuple b ys) (ex : xs[n]? = some x) (ey : ys[n]? = some y)
    (q : ∀ h', Mz h' z p o i j a b (n + 1) (rawInt s.heap.objs.size) → IsPair h' s.heap.objs.size x y → (∀ c t, c ∉ [z, o, i, j] → s.heap.get? c = some t → h'.get? c = some t) → Q (some (.ref s.heap.objs.size)) { s with heap := h' }) : wpAny (model prog w) A (pyNext (.ref z)) Q E s := by
  have ty : s.TypeIs (.ref z) "zip" := ⟨_, m.hz, rfl⟩
  unfold pyNext
  exact wpAny_bind (wpAny_attempt (wpAny_callSpecial?_slot (name := Str.ofString "__next__") ty F.slot_zip_next (wpAny_call_entry F.slot_zip_next ty F.entry_zip_next (mz_step D m ha hb ex ey fun h' c1 c2 c3 => wpAny_pure (q h' c1 c2 c3)) (F.args_zip_next_1 _))))
theorem mz_stop {Q : Option Value → Shared → Prop} (hh : A.handled = none) (D : ZipApart z p o i j a b) (m : Mz s.heap z p o i j a b n .none) (ha : s.heap.IsList a xs) (hb : s.heap.IsTuple b ys) (en : xs[n]? = none ∨ ys[n]? = none)
    (q : ∀ h', (∀ c t, c ∉ [z, o, i, j] → s.heap.get? c = some t → h'.get? c = some t) → Q none { s with heap := h' }) : wpAny (model prog w) A (pyNext (.ref z)) Q E s := by
  have ty : s.TypeIs (.ref z) "zip" := ⟨_, m.hz, rfl⟩
  unfold pyNext
  refine wpAny_bind (wpAny_attempt (wpAny_callSpecial?_slot (name := Str.ofString "__next__") ty F.slot_zip_next (wpAny_call_entry F.slot_zip_next ty F.entry_zip_next (mz_end hh D m ha hb en fun h' e k ⟨t, et, ct⟩ => ?_) (F.args_zip_next_1 _))))
  exact wpAny_bind (wpAny_isInstance (T := "StopIteration") (b := true) ⟨t, et, ct⟩ isSubtype_stop (wpAny_pure (q _ k)))
end
/-! the new zip -/
def mzH (h : Heap) (a b : Addr) : Heap := ((((h.push { cls := .type "list_iterator", data := .fields #[.ref a, .int 0 0] }).push { cls := .type "tuple_iterator", data := .fields #[.ref b, .int 0 0] }).push
  { cls := .type "tuple", data := .seq #[.ref h.objs.size, .ref (h.objs.size + 1)] }).push { cls := .type "tuple", data := .seq #[.none, .none] }).push
  { cls := .type "zip", data := .fields #[.none, .bool false, .bool false, .ref (h.objs.size + 2), .ref (h.objs.size + 3)] }
theorem mz_new (a b : Addr) (xs ys : Array Value) : Meets (Builtin.«zip.__new__» ⟨[.type "zip", .ref a, .ref b], []⟩) (fun _ R s => s.heap.IsList a xs ∧ s.heap.IsTuple b ys ∧ R (.ok (.ret (.ref (s.heap.objs.size + 4)))) { s with heap := mzH s.heap a b }) :=
  .of_wp fun prog w A R s h => by
    obtain ⟨hp, g, d, tk, os⟩ := s
    obtain ⟨ha, hb, h⟩ := h
    have sub := sub_zip
    have La : Heap.IsList (Shared.heap ⟨hp, g, d, tk, os⟩) a xs := ha
    have Lb : Heap.IsTuple (Shared.heap ⟨hp.push { cls := .type "list_iterator", data := .fields #[.ref a, .int 0 0] }, g, d, tk, os⟩) b ys := Heap.IsTuple.push hb _
    have e1 : (hp.push { cls := .type "list_iterator", data := .fields #[.ref a, .int 0 0] }).objs.size = hp.objs.size + 1 := Heap.size_push ..
    unfold mzH at h
    dsimp only at h
    wp_walk using wpAny_pyIter_list La, wpAny_pyIter_tuple Lb
    simp only [Heap.size_push] at *
    exact ⟨_, rfl, h⟩
section
variable {prog : Program} {w : World} {A : Around} {E : Value → Shared → Prop} {s : Shared} {a b : Addr} {xs ys : Array Value}
theorem mz_call {Q : Value → Shared → Prop} (ha : s.heap.IsList a xs) (hb : s.heap.IsTuple b ys)
    (q : ∀ h', Mz h' (s.heap.objs.size + 4) (s.heap.objs.size + 2) (s.heap.objs.size + 3) s.heap.objs.size (s.heap.objs.size + 1) a b 0 .none → (∀ c t, s.heap.get? c = some t → h'.get? c = some t) → Q (.ref (s.heap.objs.size + 4)) { s with heap := h' }) :
    wpAny (model prog w) A (call (.type "zip") [.ref a, .ref b]) Q E s := by
  refine callType_new F.called_zip (by decide) (F.typeCall_zip_2 _ _) (F.newCall_zip_2 _ _) (fun ob => F.args_object_init_3 ob _ _) F.entry_zip_new (mz_new a b xs ys) ⟨ha, hb, ?_⟩
  generalize hn : s.heap.objs.size = N at q ⊢
  have g : ∀ {h : Heap} {ob : Obj} {m : Nat}, h.objs.size = m → ob.isFreed = false → (h.push ob).get? m = some ob := fun e f => by
    rw [← e]
    exact Heap.get?_push_size _ f
  have u : ∀ {h : Heap} {ob t : Obj} {c : Addr}, h.get? c = some t → (h.push ob).get? c = some t := fun e => Heap.get?_push_of_some _ e
  have hz : IsZip (mzH s.heap a b) (N + 4) (N + 2) (N + 3) .none := by
    unfold mzH
    rw [hn]
    exact g (by simp only [Heap.size_push, hn]) rfl
  have hi : (mzH s.heap a b).get? N = some { cls := .type "list_iterator", data := .fields #[.ref a, .int 0 0] } := by
    unfold mzH
    exact u (u (u (u (g hn rfl))))
  have hj : (mzH s.heap a b).get? (N + 1) = some { cls := .type "tuple_iterator", data := .fields #[.ref b, .int 0 0] } := by
    unfold mzH
    exact u (u (u (g (by simp only [Heap.size_push, hn]) rfl)))
  refine ⟨⟨_, hz, rfl⟩, q _ ⟨hz, ?_, ⟨.none, .none, ?_⟩, ⟨_, hi, rfl, rfl⟩, ⟨_, hj, rfl, rfl⟩⟩ fun c t e => ?_⟩
  all_goals unfold mzH
  · rw [hn]
    exact u (u (g (by simp only [Heap.size_push, hn]) rfl))
  · exact u (g (by simp only [Heap.size_push, hn]) rfl)
  · exact u (u (u (u (u e))))
end
/-- the list at a and the tuple at b, the items in new pairs -/
def Imz (K : PySem.W.Frag) (a b : Addr) : It :=
  ⟨fun i H => ∃ (xs ys : List V) (x y : V), SqL K H a xs ∧ SqT K H b ys ∧ xs[i]? = some x ∧ ys[i]? = some y,
   fun i H v H' => ∃ t x y, v = .ref t ∧ H t = none ∧ H' = upd H t (.tup [x, y]) ∧ (∀ xs, SqL K H a xs → xs[i]? = some x) ∧ ∀ ys, SqT K H b ys → ys[i]? = some y,
   fun i H => ∃ xs ys : List V, SqL K H a xs ∧ SqT K H b ys ∧ (xs.length ≤ i ∨ ys.length ≤ i)⟩
theorem turn_mz {P : Program} {w : World} {K : PySem.W.Frag} {elts : List Expr} {kk : Nat} {tpos : Pos} {a b z p o i1 i2 : Addr} (D : ZipApart z p o i1 i2 a b) :
    Turn P w K (.Tuple elts kk tpos) (Imz K a b) [z, p, o, i1, i2] z (fun i h => Mz h z p o i1 i2 a b i .none) where
  mem := by simp
  obj := fun i h st c hc => by
    obtain ⟨m1, m2, ⟨u, v, m3⟩, ⟨o1, e1, _, d1⟩, ⟨o2, e2, _, d2⟩⟩ := st
    simp only [List.mem_cons, List.not_mem_nil, or_false] at hc
    rcases hc with e | e | e | e | e <;> subst e
    · exact ⟨_, m1, fun v e => by cases e⟩
    · exact ⟨_, m2, fun v e => by cases e⟩
    · exact ⟨_, m3, fun v e => by cases e⟩
    · exact ⟨o1, e1, fun v e => by rw [d1] at e; cases e⟩
    · exact ⟨o2, e2, fun v e => by rw [d2] at e; cases e⟩
  keep := fun i h h' st k => st.at k
  item := by
    intro X hP hw hK hc i pins s σ H E I hf st hg
    subst hP hw hK
    obtain ⟨xs, ys, x, y, qx, qy, ex, ey⟩ := hg
    obtain ⟨us, rv, pa, _⟩ := I.list qx
    obtain ⟨ws, rw_, pb, _⟩ := I.tuple qy
    obtain ⟨u, hu, ru⟩ := rv.get ex
    obtain ⟨v, hv, rv2⟩ := rw_.get ey
    have zl : z < s.heap.objs.size := Heap.lt_size st.hz
    refine mz_next D st pa.isList (show s.heap.IsTuple b ws.toArray from pb) (x := u) (y := v) (by simpa using hu) (by simpa using hv) fun g m1 t1 k1 => ⟨_, rfl, ?_⟩
    refine wpAny_letOwnedTupleGo_zip (s := { s with heap := g }) m1.hz fun g2 z2 sb => ?_
    have t2 : g2.get? s.heap.objs.size = some { cls := .type "tuple", data := .seq #[u, v] } := (sb.2 _ (Nat.ne_of_gt zl)).trans t1
    have new : ObjOk X.prog X.w (upd H s.heap.objs.size (.tup [x, y])) g2 s.heap.objs.size (.tup [x, y]) :=
      ⟨by show 2 ≤ sizeLine; decide, [u, v], .cons ru (.cons rv2 .nil), ⟨_, t2, rfl, _, rfl⟩⟩
    have I1 : Inv X pins σ (upd H s.heap.objs.size (.tup [x, y])) { s with heap := g2 } :=
      I.turnedNew (t' := s.toks) (ch := [z, p, o, i1, i2]) (fun c t nb e => (sb.2 c (fun q => nb (by simp [q]))).trans (k1 c t (fun q => nb (by simp at q ⊢; rcases q with q | q | q | q <;> simp [q])) e)) hf (Nat.le_refl _) new
    obtain ⟨_, mp, ⟨r1, r2, mo⟩, mi, mj⟩ := m1
    refine ⟨.ref s.heap.objs.size, _, I1, rfl, ⟨_, x, y, rfl, I.hok.fresh (Nat.le_refl _), rfl, fun l hl => by rw [I.list_inj hl qx]; exact ex, fun l hl => by rw [I.tuple_inj hl qy]; exact ey⟩, ⟨z2, (sb.2 _ D.TIz).trans mp, ⟨r1, r2, (sb.2 _ D.TOz).trans mo⟩, mi.at fun t e => (sb.2 _ D.i1z).trans e, mj.at fun t e => (sb.2 _ D.i2z).trans e⟩, fun c hcm => ?_⟩
    have lt : c < s.heap.objs.size := by
      obtain ⟨ob, e, _⟩ := show ∃ ob, s.heap.get? c = some ob ∧ True from by
        obtain ⟨m1, m2, ⟨u, v, m3⟩, ⟨o1, e1, _, d1⟩, ⟨o2, e2, _, d2⟩⟩ := st
        simp only [List.mem_cons, List.not_mem_nil, or_false] at hcm
        rcases hcm with e | e | e | e | e <;> subst e
        · exact ⟨_, m1, trivial⟩
        · exact ⟨_, m2, trivial⟩
        · exact ⟨_, m3, trivial⟩
        · exact ⟨_, e1, trivial⟩
        · exact ⟨_, e2, trivial⟩
      exact Heap.lt_size e
    rw [upd_ne (Nat.ne_of_lt lt)]
    exact (hf c hcm).1
  done := by
    intro X hP hw hK hc i pins s σ H E I hf st hg
    subst hP hw hK
    obtain ⟨xs, ys, qx, qy, en⟩ := hg
    obtain ⟨us, rv, pa, _⟩ := I.list qx
    obtain ⟨ws, rw_, pb, _⟩ := I.tuple qy
    have l1 := rv.length
    have l2 := rw_.length
    refine mz_stop (I.ok.hd hc) D st pa.isList (show s.heap.IsTuple b ws.toArray from pb) (en.imp (fun q => by simp; omega) fun q => by simp; omega) fun g k => ⟨rfl, ?_⟩
    exact I.turnedL (t' := s.toks) (ch := [z, p, o, i1, i2]) (fun c t nb e => k c t (fun q => nb (by simp at q ⊢; rcases q with q | q | q | q <;> simp [q])) e) hf
  self := fun A i s Q E st h => wpAny_pyIter_zip st.hz h
def iZipLT (K : PySem.W.Frag) (ta : TA) : TI := fun σ H R => ta σ H fun vs H1 => ∃ a b xs ys, vs = [.ref a, .ref b] ∧ SqL K H1 a xs ∧ SqT K H1 b ys ∧ R (Imz K a b) H1
theorem pi_zipLT {X : Cx} {e e2 : Expr} {ta : TA} {p pos tpos : Pos} {elts : List Expr} {kk : Nat} (hg : Gl X "zip") (hm : X.mg "zip" = none) (ha : PA X [e, e2] ta)
    (hs : starEach [e, e2] X.env = (false, eval e X.env) :: starEach [e2] X.env := by rfl) (hpl : (backTo pos (starEach [e2] X.env)).any (·.1) = false := by rfl) :
    PI X (.Tuple elts kk tpos) (.Call (.Name "zip" p) [e, e2] [] pos) (iZipLT X.K ta) := by
  refine ⟨fun pins s σ H R I h => ?_⟩
  refine Call_ (ld_blt I hg hm PyProof.Rows.boot_zip (PyProof.Rows.callWith_type1 (thn (ha.run pos pins s σ H _ I h) fun us s1 ⟨vs, H1, I1, r1, q1⟩ => ?_) hs hpl))
  obtain ⟨a, b, xs, ys, rfl, qx, qy, q⟩ := q1
  cases r1 with
  | cons r rr =>
    cases rr with
    | cons r2 rr =>
      cases rr
      cases r
      cases r2
      obtain ⟨us, rv, pa, _⟩ := I1.list qx
      obtain ⟨ws, rw_, pb, _⟩ := I1.tuple qy
      have tb : s1.heap.IsTuple b ws.toArray := pb
      obtain ⟨ob, hb, _⟩ := id tb
      refine mz_call pa.isList tb fun h' m k => wpAny_pyIter_zip m.hz ?_
      refine ⟨s1.heap.objs.size + 4, [s1.heap.objs.size + 4, s1.heap.objs.size + 2, s1.heap.objs.size + 3, s1.heap.objs.size, s1.heap.objs.size + 1], _, _, H1, rfl, I1.kept (t' := s1.toks) k, turn_mz (PySem.W.ktu_apart s1.heap.objs.size a b pa.lt (Heap.lt_size hb)), m, fun c hc => ?_, q⟩
      have le : s1.heap.objs.size ≤ c := by
        simp only [List.mem_cons, List.not_mem_nil, or_false] at hc
        rcases hc with e | e | e | e | e <;> rw [e]
        all_goals first | exact Nat.le_add_right _ _ | exact Nat.le_refl _
      exact I1.fpOk le (I1.hok.fresh le)
/-- a list or a tuple, walked -/
def iSeq (K : PySem.W.Frag) (tl : TE) : TI := fun σ H R => tl σ H fun x H1 => ∃ a, x = .ref a ∧ ((∃ xs, SqL K H1 a xs) ∧ R (Itl K a) H1 ∨ (∃ xs, SqT K H1 a xs) ∧ R (Itt K a) H1)
theorem pi_seq {X : Cx} {tg l : Expr} {tl : TE} (hl : PE X l tl) : PI X tg l (iSeq X.K tl) := by
  refine ⟨fun pins s σ H R I h => thn (hl.run pins s σ H _ I h) fun v s1 ⟨x, H1, I1, r1, q1⟩ => ?_⟩
  obtain ⟨a, rfl, q⟩ := q1
  cases r1
  have fp : ∀ c ∈ [s1.heap.objs.size], FpOk X pins H1 c := fun c hc => by
    rw [show c = s1.heap.objs.size by simpa using hc]
    exact I1.fpOk (Nat.le_refl _) (I1.hok.fresh (Nat.le_refl _))
  rcases q with ⟨⟨xs, hq⟩, q⟩ | ⟨⟨xs, hq⟩, q⟩
  · obtain ⟨us, _, pa, _⟩ := I1.list hq
    exact wpAny_pyIter_list pa.isList ⟨_, _, _, _, H1, rfl, I1.kept (t' := s1.toks) fun c t e => Heap.get?_push_of_some _ e, turn_list a _, ⟨_, Heap.get?_push_size _ rfl, rfl, rfl⟩, fp, q⟩
  · obtain ⟨us, _, pa, _⟩ := I1.tuple hq
    exact wpAny_pyIter_tuple (show s1.heap.IsTuple a us.toArray from pa) ⟨_, _, _, _, H1, rfl, I1.kept (t' := s1.toks) fun c t e => Heap.get?_push_of_some _ e, turn_tuple a _, ⟨_, Heap.get?_push_size _ rfl, rfl, rfl⟩, fp, q⟩
end L2

/-! MR13 -/
/-! A list that takes in a tuple; xs[a:] = ys. -/
namespace L2
open PySem PySem.Spec PyProof.Rows
/-- list.extend of a tuple -/
theorem xt_tup (l : Addr) (us : Array Value) (n : Nat) (b : Addr) (ws : Array Value) (h0 : ¬(!us.isEmpty && Builtin.List.listTooLong (us.size + ws.size)) = true) (h1 : us.size ≤ sizeLine) (h2 : us.size + ws.size ≤ sizeLine + 1) :
    Meets (Builtin.«list.extend» ⟨[.ref l, .ref b], []⟩) (fun _ R s => s.heap.get? l = some { cls := .type "list", data := .seq us n } ∧ IsTup s.heap b ws ∧ R (.ok (.ret Value.none)) { s with heap := s.heap.update l (Obj.mapSeq fun x => x ++ ws), toks := s.toks }) :=
  .of_wp fun prog w A R s h => by
    obtain ⟨hp, g, d, tk, os⟩ := s
    obtain ⟨hl, ⟨ob, eb, cb, k, db⟩, h⟩ := h
    have ty : Shared.TypeIs ⟨hp, g, d, tk, os⟩ (.ref b) "tuple" := ⟨ob, eb, cb⟩
    have fit : (us ++ ws).size ≤ sizeLine + 1 := by rw [Array.size_append]; exact h2
    have f2 := sub_tuple_tuple
    have f3 := sub_list_list
    have f4 := sub_tuple_list
    have f5 := sub_list_tuple
    wp_walk using (wpAny_typeOf ty), (wpAny_seqItems eb db), (wpAny_updateSeq hl rfl (hz := h1) (_hz' := fit)), wpAny_loadPart' hl
    exact ⟨_, rfl, h⟩
def rExtT : V → List V → Hp → VK → Prop := fun x vs H Q => ∃ l b xs zs, x = .ref l ∧ vs = [.ref b] ∧ H l = some (.lst xs) ∧ H b = some (.tup zs) ∧ xs.length + zs.length ≤ sizeLine ∧ Q .non (upd H l (.lst (xs ++ zs)))
section
variable {X : Cx}
theorem mt_extT : MtM X "list.extend" rExtT := by
  intro pins s σ H x vs v us Q I rx rv h
  obtain ⟨l, b, xs, zs, rfl, rfl, hl, hb, hz, q⟩ := h
  cases rx
  obtain ⟨u, rfl, ru⟩ := rv.one
  cases ru
  obtain ⟨_, its, n, r, hn, e⟩ := I.lstM hl
  obtain ⟨ws, r2, tb, _⟩ := I.tuple (SqT.of hb)
  have l2 := r2.length
  have room : its.toArray.size + ws.toArray.size ≤ sizeLine := by
    rw [List.size_toArray, List.size_toArray]
    omega
  have short : ¬ (!its.toArray.isEmpty && Builtin.List.listTooLong (its.toArray.size + ws.toArray.size)) = true := by
    rw [notLongL room, Bool.and_false]
    exact Bool.false_ne_true
  refine call_meets F.slot_list_extend ⟨_, e, rfl⟩ F.entry_list_extend (F.args_list_extend_2 _ _) (xt_tup l its.toArray n b ws.toArray short (Nat.le_trans (Nat.le_add_right _ _) room) (by omega)) ⟨e, tb, ?_⟩
  exact ⟨.non, _, I.lset (its' := its ++ ws) hl e (by simp) (r.append r2) (by rw [List.length_append]; omega), rfl, q⟩
end
/-! xs[a:] = ys -/
theorem tail_bounds {a n : Nat} (h : a ≤ n) : sliceBounds (some (a : Int)) none none n = ((a : Int), (n : Int), 1) := by
  simp only [sliceBounds, Option.getD_none, show ¬ ((a : Int) < 0) by omega, if_false, show (1 : Int) > 0 by decide, if_true]
  congr 1
  omega
section
variable {prog : Program} {w : World} {A : Around} {E : Value → Shared → Prop} {s : Shared}
theorem tail_set {l b sl : Addr} {us ws : Array Value} {n m : Nat} {vl vu : Value} {a : Nat} {Q : Unit → Shared → Prop}
    (e : s.heap.get? l = some { cls := .type "list", data := .seq us n }) (e2 : s.heap.get? b = some { cls := .type "list", data := .seq ws m }) (ne : l ≠ b)
    (hs : s.heap.IsSliceOf sl vl vu .none) (pl : IsPart vl (some (a : Int))) (pu : IsPart vu none) (ha : a ≤ us.size) (room : us.size + ws.size ≤ sizeLine)
    (q : Q () { s with heap := s.heap.update l (Obj.mapSeq fun xs => xs.extract 0 a ++ ws ++ xs.extract us.size xs.size) }) :
    wpAny (model prog w) A (setItem (.ref l) (.ref sl) (.ref b)) Q E s := by
  have hl : s.heap.IsList l us := PySem.IsL.isList e
  have hb : s.heap.IsList b ws := PySem.IsL.isList e2
  obtain ⟨ob, hob, cob, dob⟩ := id hs
  have ts : s.TypeIs (.ref sl) "slice" := ⟨ob, hob, cob⟩
  have apart : Builtin.List.listSameRef (.ref l) (.ref b) = false := by
    unfold Builtin.List.listSameRef
    exact beq_eq_false_iff_ne.mpr ne
  have top : max (a : Int) (us.size : Int) = ((us.size : Nat) : Int) := by omega
  have fit : (us.extract 0 a ++ ws ++ us.extract us.size us.size).size ≤ sizeLine + 1 := by
    simp only [Array.size_append, Array.size_extract]
    omega
  unfold setItem
  first | with_reducible refine wpAny_holding ?_ | skip
  first | refine wpAny_bind (wpAny_pure ?_) | skip
  refine wpAny_bind (wpAny_sequenceKey hl.typeIs (by decide) ?_)
  refine wpAny_bind (wpAny_callSpecial?_slot (name := Str.ofString "__setitem__") hl.typeIs slot_list_setitem (wpAny_call_entry slot_list_setitem hl.typeIs entry_list_setitem ?_ (args_list_setitem _ _ _)))
  show wpAny _ _ (Builtin.List.listSubscript? (.ref sl) >>= _) _ _ s
  unfold Builtin.List.listSubscript?
  refine wpAny_bind (wpAny_bind (wpAny_specialOf ts slice_no_index ?_))
  simp only [Option.isNone_none, if_true]
  refine wpAny_pure ?_
  show wpAny _ _ (typeOf (.ref sl) >>= _) _ _ s
  refine wpAny_bind (wpAny_typeOf ts ?_)
  first
    | rw [if_neg (by decide)]
    | refine PySem.W.KFB.if_not (by decide) ?_
  rw [listSliceParts_eq]
  refine wpAny_bind (wpAny_bind (wpAny_field hob dob (x := .none) rfl (wpAny_bind (wpAny_listPart .none ?_))))
  rw [if_neg (show ¬ ((rawPart none == rawInt 0) = true) from Bool.false_ne_true)]
  refine wpAny_bind (wpAny_field hob dob (x := vl) rfl (wpAny_bind (wpAny_listPart pl (wpAny_bind (wpAny_field hob dob (x := vu) rfl (wpAny_bind (wpAny_listPart pu (wpAny_pure ?_))))))))
  first
    | simp only [apart, Bool.false_eq_true, if_false]
    | refine PySem.W.KFB.if_not apart ?_
    | (dsimp only
       rw [if_neg (by rw [apart]; exact Bool.false_ne_true)])
  refine wpAny_bind (m := Builtin.List.listAllItems (.ref b) "must assign iterable to extended slice") ?_
  unfold Builtin.List.listAllItems
  refine wpAny_bind (wpAny_typeOf hb.typeIs ?_)
  first
    | refine PySem.W.KFB.if_so (by decide) ?_
    | rw [if_pos (by decide)]
    | simp only [beq_self_eq_true, Bool.true_or, if_true]
  unfold Builtin.List.listItems
  refine wpAny_bind (wpAny_seqItems e2 rfl (wpAny_pure (wpAny_bind (wpAny_bind (wpAny_seqItems e rfl (wpAny_pure ?_))))))
  refine wpAny_bind (wpAny_of_eq ((sliceIndices_raw (some (a : Int)) none none us.size (by simp)).trans (congrArg (pure : Int × Int × Int → Sem (Int × Int × Int)) (tail_bounds ha))) ?_)
  show wpAny _ _ (if ((1 : Int) == 1) = true then _ else _) _ _ s
  rw [if_pos (by decide)]
  refine wpAny_bind (wpAny_rule ?_)
  first
    | simp only [notLongL room, Bool.false_eq_true, if_false]
    | refine PySem.W.KFB.if_not (notLongL room) ?_
  first | refine wpAny_bind (wpAny_pure ?_) | skip
  show wpAny _ _ (updateSeq l (fun xs => xs.extract 0 ((a : Int)).toNat ++ ws ++ xs.extract (max (a : Int) (us.size : Int)).toNat xs.size) >>= _) _ _ s
  rw [top, Int.toNat_natCast]
  refine wpAny_bind (wpAny_updateSeq (hz := Nat.le_trans (Nat.le_add_right _ _) room) (_hz' := fit) e rfl (wpAny_bind (wpAny_letGo ?_)))
  first
    | exact wpAny_bind (wpAny_pure (wpAny_pure ⟨.none, rfl, wpAny_pure q⟩))
    | exact wpAny_pure ⟨.none, rfl, wpAny_pure q⟩
end
section
variable {X : Cx}
/-- xs[a:] = ys -/
def gSlL (to tl : TE) : TG := fun v σ H Q => to σ H fun x H1 => tPart tl σ H1 fun y H2 => ∃ z : Nat, y = some (z : Int) ∧ ∃ l b xs ys, x = .ref l ∧ v = .ref b ∧ H2 l = some (.lst xs) ∧ H2 b = some (.lst ys) ∧ l ≠ b ∧ z ≤ xs.length ∧ xs.length + ys.length ≤ sizeLine ∧ Q σ (upd H2 l (.lst (xs.take z ++ ys)))
theorem rd_slset {to tl : TE} {v : V} {σ : L2.St} {H : Hp} {Q : L2.St → Hp → Prop} (h : to σ H fun x H1 => tl σ H1 fun y H2 => ∃ i : Int, y = .int i ∧ ∃ z : Nat, some i = some (z : Int) ∧ ∃ l b xs ys, x = .ref l ∧ v = .ref b ∧ H2 l = some (.lst xs) ∧ H2 b = some (.lst ys) ∧ l ≠ b ∧ z ≤ xs.length ∧ xs.length + ys.length ≤ sizeLine ∧ Q σ (upd H2 l (.lst (xs.take z ++ ys)))) : gSlL to tl v σ H Q := h
theorem pg_slL {o lo : Expr} {to tl : TE} {p2 pos : Pos} (ho : PE X o to) (hl : PE X lo tl)
    (ha : ∀ v, assign (.Subscript o (.Slice (some lo) none none p2) pos) X.env v = (do
      let ov ← holding [v] (eval o X.env)
      let iv ← holding [v, ov] (eval (.Slice (some lo) none none p2) X.env)
      standAt pos
      holding [v, ov, iv] (setItem ov iv v)
      release [iv, v, ov] []) := by intro _; rfl) : PG X (.Subscript o (.Slice (some lo) none none p2) pos) (gSlL to tl) := by
  refine ⟨fun pins s σ H v u Q I r h => ?_⟩
  rw [ha]
  refine wpAny_bind (wpAny_holding (thn (ho.run pins s σ H _ I h) fun ov s1 ⟨x, H1, I1, r1, q1⟩ => ?_))
  refine wpAny_bind (wpAny_holding (wpAny_Slice (thn ((po_some hl).run pins s1 σ H1 (fun y H2 => ∃ z : Nat, y = some (z : Int) ∧ ∃ l b xs ys, x = .ref l ∧ v = .ref b ∧ H2 l = some (.lst xs) ∧ H2 b = some (.lst ys) ∧ l ≠ b ∧ z ≤ xs.length ∧ xs.length + ys.length ≤ sizeLine ∧ Q σ (upd H2 l (.lst (xs.take z ++ ys)))) I1 q1) fun vl s2 ⟨y, H2, I2, pl, q2⟩ => thn (po_none.run pins s2 σ H2 (fun o H3 => o = none ∧ H3 = H2) I2 ⟨rfl, rfl⟩) fun vu s3 ⟨o, H3, I3, pu, eo, eH⟩ => ?_)))
  subst eo eH
  obtain ⟨z, rfl, m, b, xs, ys, rfl, rfl, em, eb, ne, hz, room, q⟩ := q2
  rw [evalPart_none]
  refine wpAny_pure ?_
  cases r1
  cases r
  have I4 : Inv X pins σ H3 { s3 with heap := s3.heap.push { cls := .type "slice", data := .fields #[vl, vu, .none] } } := I3.kept (t' := s3.toks) fun b ob q => Heap.get?_push_of_some _ q
  obtain ⟨_, us, n, r1, hn, e1⟩ := I4.lstM em
  obtain ⟨_, ws, n2, r2, hn2, e2⟩ := I4.lstM eb
  refine wpAny_bind (wpAny_standAt (wpAny_bind (wpAny_holding ?_)))
  refine tail_set (a := z) e1 e2 ne (Heap.IsSliceOf.new ..) pl pu (by rw [List.size_toArray]; omega) (by rw [List.size_toArray, List.size_toArray]; omega) ?_
  refine wpAny_release ⟨σ, _, I4.lset (its' := us.take z ++ ws) (t' := s3.toks) em e1 ?_ ((r1.take _).append r2) ?_, q⟩
  · have := splice_eq us ws z us.length
    rw [List.drop_length, List.append_nil] at this
    rw [← this]
    simp
  · rw [List.length_append, List.length_take]
    omega
end
end L2

/-! MR9 -/
/-! list(enumerate(xs, start=k)) of a list: a new list of new pairs. -/
namespace L2
open PySem PySem.Spec PyProof.Rows
theorem le_len : typeLookup (.type "enumerate") "__len__" = pure none := am_miss_of_fast (by decide +kernel)
theorem le_hint : typeLookup (.type "enumerate") "__length_hint__" = pure none := am_miss_of_fast (by decide +kernel)
section
variable {prog : Program} {w : World} {A : Around} {E : Value → Shared → Prop} {s : Shared}
variable {e it l T : Addr} {n : Nat} {c : Int} {zs : Array Value} {x o : Value} {f : Bool} {oT : Obj}
/-- the next pair while the last one is still there -/
theorem le_item {Q : Option Value → Shared → Prop} (he : IsEnumHeld s.heap e it c o T f) (hT : s.heap.get? T = some oT) (t1 : T ≠ e) (t2 : T ≠ it) (hi : s.heap.IsListIter it l n) (hl : s.heap.IsList l zs) (hx : zs[n]? = some x) (ne : e ≠ it)
    (q : ∀ h', IsEnumHeld h' e it (c + 1) o T true → h'.IsListIter it l (n + 1) → h'.get? s.heap.objs.size = some { cls := .type "tuple", data := .seq #[.int c s.toks, x] } → h'.objs.size = s.heap.objs.size + 1 → (∀ b u, b ≠ e → b ≠ it → s.heap.get? b = some u → h'.get? b = some u) → Q (some (.ref s.heap.objs.size)) { s with heap := h', toks := s.toks + 1 }) :
    wpAny (model prog w) A (pyNext (.ref e)) Q E s := by
  have ty : s.TypeIs (.ref e) "enumerate" := ⟨_, he, rfl⟩
  obtain ⟨h0, gg, dd, tk, os⟩ := s
  unfold pyNext
  refine wpAny_bind (wpAny_attempt (wpAny_callSpecial?_slot (name := Str.ofString "__next__") ty F.slot_enumerate_next (wpAny_call_entry F.slot_enumerate_next ty F.entry_enumerate_next ?_ (F.args_enumerate_next_1 _))))
  show wpAny _ _ (field (.ref e) 2 >>= _) _ _ _
  refine wpAny_bind (wpAny_field he rfl (x := .ref it) rfl ?_)
  refine wpAny_bind (wpAny_nextOf_list_item hi hl hx fun g1 i1 b1 => ?_)
  have b1' : Heap.SameBut it h0 g1 := b1
  have e1 : IsEnumHeld g1 e it c o T f := (b1'.2 e ne).trans he
  show wpAny _ _ (field (.ref e) 3 >>= _) _ _ ⟨g1, gg, dd, tk, os⟩
  refine wpAny_bind (wpAny_field e1 rfl (x := rawInt c) rfl ?_)
  show wpAny _ _ (field (.ref e) 4 >>= _) _ _ ⟨g1, gg, dd, tk, os⟩
  refine wpAny_bind (wpAny_field e1 rfl (x := .none) rfl ?_)
  show wpAny _ _ (mkInt c >>= _) _ _ ⟨g1, gg, dd, tk, os⟩
  refine wpAny_bind (wpAny_mkInt ?_)
  show wpAny _ _ (setField (.ref e) 3 (rawInt (c + 1)) >>= _) _ _ ⟨g1, gg, dd, tk + 1, os⟩
  refine wpAny_bind (wpAny_setField_rec e1 (by simp) fun g2 e2 b2 => ?_)
  have b2' : Heap.SameBut e g1 g2 := b2
  have e2' : IsEnumHeld g2 e it (c + 1) o T f := e2
  show wpAny _ _ (setField (.ref e) 4 .none >>= _) _ _ ⟨g2, gg, dd, tk + 1, os⟩
  refine wpAny_bind (wpAny_setField_rec e2' (by simp) fun g3 e3 b3 => ?_)
  have b3' : Heap.SameBut e g2 g3 := b3
  have e3' : IsEnumHeld g3 e it (c + 1) o T f := e3
  show wpAny _ _ (newTuple [.int c tk, x] >>= _) _ _ ⟨g3, gg, dd, tk + 1, os⟩
  refine wpAny_bind (wpAny_newTuple ?_)
  have sz : g3.objs.size = h0.objs.size := by rw [b3'.1, b2'.1, b1'.1]
  have lt : e < h0.objs.size := Heap.lt_size he
  have kp3 : ∀ b u, b ≠ e → b ≠ it → h0.get? b = some u → g3.get? b = some u := fun b u n1 n2 z => b3'.extBut b u n1 (b2'.extBut b u n1 (b1'.extBut b u n2 z))
  have i3 : g3.IsListIter it l (n + 1) := (i1.extBut b2'.extBut ne.symm).extBut b3'.extBut ne.symm
  obtain ⟨g4, hg4⟩ : ∃ g4, g4 = g3.push { cls := .type "tuple", data := .seq #[.int c tk, x] } := ⟨_, rfl⟩
  have e4 : IsEnumHeld g4 e it (c + 1) o T f := by
    rw [hg4]
    exact Heap.get?_push_of_some _ e3'
  have tu : g4.get? h0.objs.size = some { cls := .type "tuple", data := .seq #[.int c tk, x] } := by
    rw [hg4, ← sz]
    exact Heap.get?_push_size _ rfl
  have sz4 : g4.objs.size = h0.objs.size + 1 := by rw [hg4, Heap.size_push, sz]
  have kp4 : ∀ b u, b ≠ e → b ≠ it → h0.get? b = some u → g4.get? b = some u := fun b u n1 n2 z => by
    rw [hg4]
    exact Heap.get?_push_of_some _ (kp3 b u n1 n2 z)
  have i4 : g4.IsListIter it l (n + 1) := by
    rw [hg4]
    exact i3.at fun u z => Heap.get?_push_of_some _ z
  rw [← hg4, sz]
  clear hg4
  show wpAny _ _ (Builtin.SmallTypes.ownedTupleIsFree (.ref e) >>= _) _ _ ⟨g4, gg, dd, tk + 1, os⟩
  refine wpAny_bind (wpAny_tupleHeld_enum (s := ⟨g4, gg, dd, tk + 1, os⟩) e4 (kp4 T oT t1 t2 hT) fun g5 e5 b5 => ?_)
  have b5' : Heap.SameBut e g4 g5 := b5
  simp only [Bool.false_eq_true, if_false]
  refine wpAny_pure ⟨_, rfl, wpAny_pure ?_⟩
  refine q g5 e5 (i4.extBut b5'.extBut ne.symm) (b5'.extBut _ _ (Nat.ne_of_gt lt) tu) ?_ fun b u n1 n2 z => b5'.extBut b u n1 (kp4 b u n1 n2 z)
  show g5.objs.size = _
  rw [b5'.1, sz4]
theorem le_end {Q : Option Value → Shared → Prop} (hh : A.handled = none) (he : IsEnumHeld s.heap e it c o T f) (hi : s.heap.IsListIter it l n) (hl : s.heap.IsList l zs) (hx : zs[n]? = none) (q : ∀ h', Heap.ExtBut it s.heap h' → Q none { s with heap := h' }) :
    wpAny (model prog w) A (pyNext (.ref e)) Q E s := by
  have ty : s.TypeIs (.ref e) "enumerate" := ⟨_, he, rfl⟩
  unfold pyNext
  refine wpAny_bind (wpAny_attempt (wpAny_callSpecial?_slot (name := Str.ofString "__next__") ty F.slot_enumerate_next (wpAny_call_entry F.slot_enumerate_next ty F.entry_enumerate_next ?_ (F.args_enumerate_next_1 _))))
  show wpAny _ _ (field (.ref e) 2 >>= _) _ _ _
  refine wpAny_bind (wpAny_field he rfl (x := .ref it) rfl ?_)
  refine wpAny_bind (wpAny_nextOf_list_end hh hi hl hx fun g1 y b1 hy => ?_)
  obtain ⟨oy, hoy, hcy⟩ := hy
  refine wpAny_bind (wpAny_isInstance (T := "StopIteration") (b := true) ⟨oy, hoy, hcy⟩ isSubtype_stop ?_)
  exact wpAny_pure (q _ b1)
end
/-! ### the loop -/
section
variable {X : Cx} {pins : List (Addr × Obj)} {σ : L2.St} {l e it D : Addr} {k : Int} {xs : List V} {H1 : Hp}
structure LeInv (X : Cx) (pins : List (Addr × Obj)) (σ : L2.St) (l e it D : Addr) (k : Int) (xs : List V) (H1 : Hp) (ts : List Addr) (s : Shared) (H : Hp) : Prop where
  I : Inv X pins σ H s
  same : Same H1 H
  fp : ∀ c ∈ [e, it], FpOk X pins H c
  en : (ts = [] ∧ ∃ o, IsEnum s.heap e it k o) ∨ ∃ T f oT o, IsEnumHeld s.heap e it (k + (ts.length : Nat)) o T f ∧ T ≠ e ∧ T ≠ it ∧ T ≠ D ∧ s.heap.get? T = some oT
  li : s.heap.IsListIter it l ts.length
  lst : H D = some (.lst (ts.map V.ref))
  lt : ∀ c ∈ [e, it], c < s.heap.objs.size
  few : ts.length ≤ xs.length
  prs : ∀ (j : Nat) (t : Addr) (x : V), ts[j]? = some t → xs[j]? = some x → H t = some (.tup [.int (k + (j : Nat)), x])
theorem le_loop {A : Around} {R : Result → Shared → Prop} {res : Value} (hh : A.in1.handled = none) (ne : e ≠ it) (nl : l ≠ it) (h1 : H1 l = some (.lst xs)) (nD : H1 D = none)
    (hR : ∀ (ts : List Addr) (s' : Shared) (H' : Hp), Inv X pins σ H' s' → Same H1 H' → H' D = some (.lst (ts.map V.ref)) → ts.length = xs.length → (∀ (j : Nat) (t : Addr) (x : V), ts[j]? = some t → xs[j]? = some x → H' t = some (.tup [.int (k + (j : Nat)), x])) → R (.ok (.ret res)) s') :
    ∀ (m : Nat) (ts : List Addr) (s : Shared) (H : Hp), xs.length - ts.length = m → LeInv X pins σ l e it D k xs H1 ts s H → codeAny (model X.prog X.w) A (.builtin "list.extend.loop" ⟨[.ref D, .ref e, res], []⟩) R s := by
  intro m
  induction m with
  | zero =>
    intro ts s H hk J
    refine codeAny_builtin F.entry_extend_loop ?_
    rw [Around.under_plainId F.plain_extend_loop _]
    show wpAny _ A.in1 (pyNext (.ref e) >>= _) _ _ s
    have f := J.few
    have hn : ts.length = xs.length := by omega
    obtain ⟨z, its, n0, r0, len0, e0⟩ := J.I.lstM (J.same _ _ h1)
    have hL : s.heap.IsList l its.toArray := ⟨_, e0, rfl, n0, rfl⟩
    have hx : its.toArray[ts.length]? = none := by simp; omega
    have fin : ∀ h', Heap.ExtBut it s.heap h' → R (.ok (.ret res)) { s with heap := h' } := fun h' kp =>
      hR ts _ H (J.I.turnedL (t' := s.toks) (ch := [e, it]) (fun c u hb q => kp c u (fun z => hb (by simp [z])) q) J.fp) J.same J.lst hn J.prs
    rcases J.en with ⟨_, o, hz⟩ | ⟨T, f, oT, o, hz, _⟩
    · have hz0 : its.toArray.size = ts.length := by simp; omega
      refine wpAny_bind (wpAny_pyNext_enum_endD (Draws.list (A := A.in1.in1) (show A.in1.in1.handled = none from hh) it l nl its.toArray) hz ?_ fun h' kp => wpAny_pure (fin h' kp))
      rw [hz0]
      exact ⟨J.li, hL⟩
    · exact wpAny_bind (le_end hh hz J.li hL hx fun h' kp => wpAny_pure (fin h' kp))
  | succ m ih =>
    intro ts s H hk J
    refine codeAny_builtin F.entry_extend_loop ?_
    rw [Around.under_plainId F.plain_extend_loop _]
    show wpAny _ A.in1 (pyNext (.ref e) >>= _) _ _ s
    obtain ⟨z, its, n0, r0, len0, e0⟩ := J.I.lstM (J.same _ _ h1)
    have hL : s.heap.IsList l its.toArray := ⟨_, e0, rfl, n0, rfl⟩
    have hx : xs[ts.length]? = some (xs[ts.length]'(by omega)) := by simp
    generalize xs[ts.length]'(by omega) = x at hx
    obtain ⟨u, hu, ru⟩ := r0.get hx
    have hu' : its.toArray[ts.length]? = some u := by simpa using hu
    have push : ∀ (h' : Heap) (tk : Nat) (tt : Tok), (∃ T f oT o, IsEnumHeld h' e it (k + (ts.length : Nat) + 1) o T f ∧ T ≠ e ∧ T ≠ it ∧ T ≠ D ∧ (T = s.heap.objs.size ∨ h'.get? T = some oT)) → h'.IsListIter it l (ts.length + 1) → h'.get? s.heap.objs.size = some { cls := .type "tuple", data := .seq #[.int (k + (ts.length : Nat)) tt, u] } →
        (∀ c o, c ≠ e → c ≠ it → s.heap.get? c = some o → h'.get? c = some o) →
        wpAny (model X.prog X.w) A.in1 (updateSeq D (·.push (.ref s.heap.objs.size)) >>= fun _ => again (.builtin "list.extend.loop" ⟨[.ref D, .ref e, res], []⟩))
          (fun fin s' => match fin with | .done f => R (.ok f) s' | .again c' => c'.quiet = true ∧ codeAny (model X.prog X.w) A c' R s') (fun e s' => R (.error e) s') { s with heap := h', toks := tk } := by
      intro h' tk tt hen a3 a5 kp
      have nf : H s.heap.objs.size = none := J.I.hok.fresh (Nat.le_refl _)
      have new : ObjOk X.prog X.w (upd H s.heap.objs.size (.tup [.int (k + (ts.length : Nat)), x])) h' s.heap.objs.size (.tup [.int (k + (ts.length : Nat)), x]) := ⟨by show 2 ≤ sizeLine; decide, [.int (k + (ts.length : Nat)) tt, u], .cons ⟨_, rfl⟩ (.cons ru .nil), ⟨_, a5, rfl, _, rfl⟩⟩
      have I1 : Inv X pins σ (upd H s.heap.objs.size (.tup [.int (k + (ts.length : Nat)), x])) { s with heap := h', toks := tk } :=
        J.I.turnedNew (t' := tk) (ch := [e, it]) (fun c o hb q => kp c o (fun z => hb (by simp [z])) (fun z => hb (by simp [z])) q) J.fp (Nat.le_refl _) new
      have nTD : s.heap.objs.size ≠ D := (ne_of_none J.lst nf).symm
      have hD1 : (upd H s.heap.objs.size (.tup [.int (k + (ts.length : Nat)), x])) D = some (.lst (ts.map V.ref)) := (upd_ne nTD.symm).trans J.lst
      obtain ⟨hz, its3, n3, r3, l3, e3⟩ := I1.lstM hD1
      have len : (ts.map V.ref).length = ts.length := List.length_map _
      have small : ts.length + 1 ≤ sizeLine := by omega
      have nc : ∀ c ∈ [e, it], c ≠ D := fun c hc => (ne_of_none J.lst (J.fp c hc).1).symm
      have oth : ∀ b o, b ≠ D → h'.get? b = some o → (h'.update D (Obj.mapSeq (·.push (.ref s.heap.objs.size)))).get? b = some o := fun b o hb z => (Heap.get?_update_other _ _ hb.symm).trans z
      have szT : s.heap.objs.size < h'.objs.size := Heap.lt_size a5
      refine wpAny_bind (wpAny_updateSeq e3 rfl ?_ (by rw [List.size_toArray, ← l3, len]; omega) (by show (its3.toArray.push _).size ≤ sizeLine + 1; rw [Array.size_push, List.size_toArray, ← l3, len]; omega))
      refine wpAny_pure ⟨plainId_quiet F.plain_extend_loop _, ih (ts ++ [s.heap.objs.size]) _ (upd (upd H s.heap.objs.size (.tup [.int (k + (ts.length : Nat)), x])) D (.lst ((ts ++ [s.heap.objs.size]).map V.ref))) (by rw [List.length_append]; simp; omega) ?_⟩
      have rT : Vals ((ts ++ [s.heap.objs.size]).map V.ref) (its3 ++ [Value.ref s.heap.objs.size]) := by
        rw [List.map_append]
        exact r3.append (.cons rfl .nil)
      refine {
        I := I1.lset (t' := tk) (its' := its3 ++ [Value.ref s.heap.objs.size]) hD1 e3 (by simp) rT (by rw [List.length_map, List.length_append]; simpa using small)
        same := fun b o z => ?_
        fp := fun c hc => ?_
        en := .inr ?_
        li := ?_
        lst := upd_same
        lt := fun c hc => ?_
        few := by rw [List.length_append]; simp; omega
        prs := fun j t x' ht hx' => ?_ }
      · have z1 := J.same b o z
        rw [upd_ne (ne_of_none z nD), upd_ne (ne_of_none z1 nf)]
        exact z1
      · have q := J.fp c hc
        refine ⟨?_, q.2⟩
        rw [upd_ne (nc c hc), upd_ne (Nat.ne_of_lt (J.lt c hc))]
        exact q.1
      · obtain ⟨T, f, oT, o, q, n1, n2, n3', hT⟩ := hen
        have hT' : ∃ oT, (h'.update D (Obj.mapSeq (·.push (.ref s.heap.objs.size)))).get? T = some oT := by
          rcases hT with z | z
          · rw [z]
            exact ⟨_, oth _ _ nTD a5⟩
          · exact ⟨_, oth _ _ n3' z⟩
        obtain ⟨oT2, hT2⟩ := hT'
        refine ⟨T, f, oT2, o, ?_, n1, n2, n3', hT2⟩
        have ec : k + (((ts ++ [s.heap.objs.size]).length : Nat) : Int) = k + (ts.length : Nat) + 1 := by rw [List.length_append]; simp; omega
        rw [ec]
        exact oth _ _ (nc e (by simp)) q
      · rw [List.length_append]
        exact a3.at fun o z => oth _ o (nc it (by simp)) z
      · have q := J.lt c hc
        show c < (h'.update D (Obj.mapSeq (·.push (.ref s.heap.objs.size)))).objs.size
        rw [Heap.size_update]
        exact Nat.lt_trans q szT
      · rw [List.getElem?_append] at ht
        by_cases hj : j < ts.length
        · rw [if_pos hj] at ht
          have q := J.prs j t x' ht hx'
          rw [upd_ne (ne_of J.lst q (by intro z; cases z)).symm, upd_ne (ne_of_none q nf)]
          exact q
        · rw [if_neg hj] at ht
          have hj0 : j = ts.length := by
            have := (List.getElem?_eq_some_iff.mp ht).1
            simp at this
            omega
          subst hj0
          rw [hx] at hx'
          cases hx'
          simp at ht
          subst ht
          rw [upd_ne nTD]
          exact upd_same
    have ltm : ∀ c ∈ [e, it], s.heap.objs.size ≠ c := fun c hc => (Nat.ne_of_lt (J.lt c hc)).symm
    have nsD : s.heap.objs.size ≠ D := (ne_of_none J.lst (J.I.hok.fresh (Nat.le_refl _))).symm
    rcases J.en with ⟨hts, o, hz⟩ | ⟨T, f, oT, o, hz, n1, n2, n3, hT⟩
    · have hz' : IsEnum s.heap e it (k + (ts.length : Nat)) o := by
        rw [hts]
        simpa using hz
      refine wpAny_bind (wpAny_pyNext_enum_itemC (Draws.list (A := A.in1.in1) (show A.in1.in1.handled = none from hh) it l nl its.toArray) hz' ⟨J.li, hL⟩ (by simp; omega) ne (by
        simp only [List.mem_cons, List.not_mem_nil, or_false, not_or]
        refine ⟨ne, fun z => ?_⟩
        have q := (J.fp e (by simp)).1
        rw [z, J.same _ _ h1] at q
        cases q) fun x2 h' tk hP a1 a2 a3 a4 kp => ?_)
      have ex : x2 = u := by
        have q := hu'.symm.trans hP
        exact (Option.some.inj q).symm
      subst ex
      exact push h' (tk + 1) tk ⟨s.heap.objs.size, false, { cls := .type "tuple" }, _, a1, ltm e (by simp), ltm it (by simp), nsD, .inl rfl⟩ a2.1 a3 kp
    · refine wpAny_bind (le_item hz hT n1 n2 J.li hL hu' ne fun h' a1 a2 a3 a4 kp => ?_)
      exact push h' (s.toks + 1) s.toks ⟨T, true, oT, o, a1, n1, n2, n3, .inr (kp T oT n1 n2 hT)⟩ a2 a3 kp
end
/-! ### the whole expression -/
section
variable {M : Model} {A : Around} {E : Value → Shared → Prop} {s : Shared}
/-- a built-in class called with keywords -/
theorem ckt {pos : Pos} {T : String} {as : List (Bool × Sem Value)} {kws : List (Option Str × Sem Value)} {Q : Value → Shared → Prop} (h1 : as.any (·.1) = false) (h2 : kws.any (·.1.isNone) = false)
    (h : wpAny M A (evalArgs (.type T) true as kws) (fun a s1 => wpAny M A (call (.type T) a.pos a.kw) Q E s1) E s) : wpAny M A (callWith pos (.type T) [] as kws) Q E s := by
  unfold callWith
  refine wpAny_bind (wpAny_holding (wpAny_mono h (fun b t1 hb => wpAny_bind (wpAny_standAt ?_)) fun _ _ z => z))
  simp only [h1, h2, Bool.or_false, List.nil_append]
  refine wpAny_bind (wpAny_pure ?_)
  exact wpAny_bind (wpAny_mono hb (fun v t2 hv => wpAny_bind (wpAny_holding (wpAny_point (wpAny_pure hv)))) fun _ _ z => z)
end
section
variable {X : Cx} {pins : List (Addr × Obj)} {σ : L2.St}
structure LeMade (X : Cx) (pins : List (Addr × Obj)) (σ : L2.St) (l e it : Addr) (k : Int) (H1 : Hp) (s : Shared) : Prop where
  I : Inv X pins σ H1 s
  ne : e ≠ it
  fp : ∀ c ∈ [e, it], FpOk X pins H1 c
  lt : ∀ c ∈ [e, it], c < s.heap.objs.size
  en : ∃ o, IsEnum s.heap e it k o
  li : s.heap.IsListIter it l 0
def tListEnum (te tk : TE) : TE := fun σ H Q => te σ H fun x H1 => tk σ H1 fun y H2 => ∃ (l : Addr) (xs : List V) (k : Int), x = .ref l ∧ y = .int k ∧ H2 l = some (.lst xs) ∧ -(2 ^ 63) ≤ k ∧ k < 2 ^ 63 ∧ ∀ (D : Addr) (ts : List Addr) (H' : Hp), Same H2 H' → H2 D = none → H' D = some (.lst (ts.map V.ref)) → ts.length = xs.length →
  (∀ (j : Nat) (t : Addr) (x : V), ts[j]? = some t → xs[j]? = some x → H' t = some (.tup [.int (k + (j : Nat)), x])) → Q (.ref D) H'
theorem le_list {A : Around} {E : Value → Shared → Prop} {Q : Value → Shared → Prop} {l e it : Addr} {k : Int} {xs : List V} {H1 : Hp} {s : Shared} (hh : A.handled = none) (M : LeMade X pins σ l e it k H1 s) (h1 : H1 l = some (.lst xs))
    (hR : ∀ (D : Addr) (ts : List Addr) (s' : Shared) (H' : Hp), Inv X pins σ H' s' → Same H1 H' → H1 D = none → H' D = some (.lst (ts.map V.ref)) → ts.length = xs.length → (∀ (j : Nat) (t : Addr) (x : V), ts[j]? = some t → xs[j]? = some x → H' t = some (.tup [.int (k + (j : Nat)), x])) → Q (.ref D) s') :
    wpAny (model X.prog X.w) A (call (.type "list") [.ref e]) Q E s := by
  have nDe : s.heap.objs.size ≠ e := (Nat.ne_of_lt (M.lt e (by simp))).symm
  obtain ⟨o0, hen⟩ := M.en
  refine callType_codes (Q₁ := fun obj s₁ => obj = .ref s.heap.objs.size ∧ s₁ = { s with heap := s.heap.push { cls := .type "list", data := .seq #[] } }) F.called_list (F.typeCall_list_1 _) F.entry_list_init (code_list_new _ ⟨rfl, rfl⟩) fun obj s₁ h₁ => ?_
  obtain ⟨rfl, rfl⟩ := h₁
  have d1 : (s.heap.push { cls := .type "list", data := .seq #[] }).get? s.heap.objs.size = some { cls := .type "list", data := .seq #[] } := Heap.get?_push_size _ rfl
  refine ⟨⟨_, d1, rfl⟩, F.args_list_init_2 _ _, ?_⟩
  show wpAny _ A.in1.in1 (Builtin.List.listItems (.ref s.heap.objs.size) >>= _) _ _ _
  refine wpAny_bind ?_
  unfold Builtin.List.listItems
  refine wpAny_bind (wpAny_seqItems d1 rfl (wpAny_pure ?_))
  show wpAny _ A.in1.in1 (updateSeq s.heap.objs.size (fun _ => #[]) >>= _) _ _ _
  refine wpAny_bind (wpAny_updateSeq d1 rfl ?_)
  have d2 := Heap.get?_update_self (Obj.mapSeq (fun _ => (#[] : Array Value))) d1 rfl
  refine wpAny_bind (wpAny_letGo ?_)
  unfold Builtin.List.listExtendWith
  have up : ∀ (g : Heap) (f : Obj → Obj), (∀ c o, s.heap.get? c = some o → g.get? c = some o) → ∀ c o, s.heap.get? c = some o → (g.update s.heap.objs.size f).get? c = some o := fun g f q c o z => (Heap.get?_update_other _ _ (Ne.symm (Nat.ne_of_lt (Heap.lt_size z)))).trans (q c o z)
  have u1 : ∀ c o, s.heap.get? c = some o → (s.heap.push { cls := .type "list", data := .seq #[] }).get? c = some o := fun c o z => Heap.get?_push_of_some _ z
  have u2 := up _ (Obj.mapSeq (fun _ => (#[] : Array Value))) u1
  have zt : ∀ {g : Heap}, (∀ c o, s.heap.get? c = some o → g.get? c = some o) → ({ s with heap := g } : Shared).TypeIs (.ref e) "enumerate" := fun {g} q => ⟨_, q _ _ hen, rfl⟩
  refine wpAny_bind (wpAny_typeOf (zt u2) ?_)
  have c1 : Builtin.List.listSameRef (.ref s.heap.objs.size) (.ref e) = false := by simp [Builtin.List.listSameRef, nDe]
  have c2 : (Value.type "enumerate" == Value.type "list") = false := by decide
  have c3 : (Value.type "enumerate" == Value.type "tuple") = false := by decide
  simp only [c1, c2, c3, Bool.or_false, Bool.false_eq_true, if_false]
  refine wpAny_bind (wpAny_pyIter_enum (u2 _ _ hen) ?_)
  refine wpAny_bind (wpAny_holding ?_)
  unfold Builtin.List.listLengthHint
  refine wpAny_bind (wpAny_specialOf (zt u2) le_len ?_)
  show wpAny _ A.in1.in1 (specialOf (Value.ref e) (Str.ofString "__length_hint__") >>= _) _ _ _
  refine wpAny_bind (wpAny_specialOf (zt u2) le_hint ?_)
  refine wpAny_pure ?_
  show wpAny _ A.in1.in1 (rule "list.extend.makes-room" >>= _) _ _ _
  refine wpAny_bind (wpAny_rule (wpAny_bind ?_))
  show wpAny _ A.in1.in1 (updateSeq s.heap.objs.size (·.push .none) >>= _) _ _ _
  refine wpAny_bind (wpAny_updateSeq d2 rfl ?_)
  have d3 := Heap.get?_update_self (Obj.mapSeq (·.push Value.none)) d2 rfl
  refine wpAny_updateSeq (hz := by seq_fits) d3 rfl ?_
  have d4 := Heap.get?_update_self (Obj.mapSeq (·.pop)) d3 rfl
  have u4 := up _ (Obj.mapSeq (·.pop)) (up _ (Obj.mapSeq (·.push Value.none)) u2)
  refine wpAny_pure ⟨plainId_quiet F.plain_extend_loop _, ?_⟩
  have nf : H1 s.heap.objs.size = none := M.I.hok.fresh (Nat.le_refl _)
  have szz : s.heap.objs.size < (((((s.heap.push { cls := .type "list", data := .seq #[] }).update s.heap.objs.size (Obj.mapSeq (fun _ => (#[] : Array Value)))).update s.heap.objs.size (Obj.mapSeq (·.push Value.none))).update s.heap.objs.size (Obj.mapSeq (·.pop)))).objs.size := Heap.lt_size d4
  have nlit : l ≠ it := fun z => by
    have q := (M.fp it (by simp)).1
    rw [← z, h1] at q
    cases q
  refine le_loop (A := A.in1) (H1 := H1) (xs := xs) (l := l) (it := it) hh M.ne nlit h1 nf (fun ts s' H' I' sm hl hn hp => ⟨rfl, hR _ ts s' H' I' sm nf hl hn hp⟩) _ [] _ (upd H1 s.heap.objs.size (.lst [])) rfl {
    I := M.I.laid (t' := s.toks) u4 (Nat.le_refl _) ⟨Nat.zero_le _, [], _, .nil, d4⟩
    same := fun c o z => (upd_ne (ne_of_none z nf)).trans z
    fp := fun c hc => ⟨(upd_ne (Nat.ne_of_lt (M.lt c hc))).trans (M.fp c hc).1, (M.fp c hc).2⟩
    en := .inl ⟨rfl, o0, u4 _ _ hen⟩
    li := M.li.at fun o z => u4 _ o z
    lst := upd_same
    lt := fun c hc => Nat.lt_trans (M.lt c hc) szz
    few := Nat.zero_le _
    prs := fun j t x h => by simp at h }
def leRest (x y : V) (H2 : Hp) (Q : VK) : Prop := ∃ (l : Addr) (xs : List V) (k : Int), x = .ref l ∧ y = .int k ∧ H2 l = some (.lst xs) ∧ -(2 ^ 63) ≤ k ∧ k < 2 ^ 63 ∧ ∀ (D : Addr) (ts : List Addr) (H' : Hp), Same H2 H' → H2 D = none → H' D = some (.lst (ts.map V.ref)) → ts.length = xs.length →
  (∀ (j : Nat) (t : Addr) (x : V), ts[j]? = some t → xs[j]? = some x → H' t = some (.tup [.int (k + (j : Nat)), x])) → Q (.ref D) H'
theorem pe_listEnum {X : Cx} {e ke : Expr} {te tk : TE} {p pos p2 pos2 kp : Pos} (hc : X.calm = true) (hg : Gl X "list") (hm : X.mg "list" = none) (hg2 : Gl X "enumerate") (hm2 : X.mg "enumerate" = none) (ha : PA X [e] (tCons te tNil)) (hk : PK X [⟨some "start", ke, kp⟩] (tCons tk tNil))
    (na : starEach [Expr.Call (.Name "enumerate" p2) [e] [⟨some "start", ke, kp⟩] pos2] X.env = (false, eval (.Call (.Name "enumerate" p2) [e] [⟨some "start", ke, kp⟩] pos2) X.env) :: starEach [] X.env := by rfl)
    (hs : starEach [e] X.env = (false, eval e X.env) :: starEach [] X.env := by rfl) :
    PE X (.Call (.Name "list" p) [.Call (.Name "enumerate" p2) [e] [⟨some "start", ke, kp⟩] pos2] [] pos) (tListEnum te tk) := by
  refine ⟨fun pins s σ H Q I h => ?_⟩
  have h' : te σ H fun x H1 => tk σ H1 fun y H2 => leRest x y H2 Q := h
  refine Call_ (ld_blt I hg hm boot_list (PyProof.Rows.callWith_type1 (args_cons (thn (Q := fun v s1 => ∃ l e it k H1 xs, v = .ref e ∧ LeMade X pins σ l e it k H1 s1 ∧ H1 l = some (.lst xs) ∧ ∀ (D : Addr) (ts : List Addr) (H' : Hp), Same H1 H' → H1 D = none → H' D = some (.lst (ts.map V.ref)) → ts.length = xs.length →
    (∀ (j : Nat) (t : Addr) (x : V), ts[j]? = some t → xs[j]? = some x → H' t = some (.tup [.int (k + (j : Nat)), x])) → Q (.ref D) H') ?_ fun v s1 ⟨l, e0, it, k, H1, xs, ev, M, h1, q⟩ => args_nil ?_) na) na))
  · refine wpAny_Call_Name_kw (ld_blt I hg2 hm2 boot_enumerate ?_)
    refine ckt (by rw [hs]; rfl) rfl ?_
    have run1 := ha.run pos2 pins s σ H (fun vs H1 => match vs with | [x] => tk σ H1 fun y H2 => leRest x y H2 Q | _ => False) I h'
    rw [hs] at run1 ⊢
    refine evalArgs_kwB rfl (thn run1 fun us s1 ⟨vs, H1, I1, r1, q1⟩ => ?_)
    match vs, r1, q1 with
    | [x], r1, q1 =>
      refine thn (hk.run pos2 pins s1 σ H1 (fun ws H2 => match ws with | [y] => leRest x y H2 Q | _ => False) I1 q1) fun ws s2 ⟨zs, H2, I2, r2, q2⟩ => ?_
      match zs, r2, q2 with
      | [y], r2, q2 =>
        obtain ⟨l, xs, k, rfl, rfl, hl, k0, k1, q3⟩ := q2
        cases r1 with
        | cons ra rb =>
          cases rb
          cases ra
          cases r2 with
          | cons rc rd =>
            cases rd
            obtain ⟨tt, rfl⟩ := rc
            obtain ⟨z, its, n0, r0, len0, e0⟩ := I2.lstM hl
            show wpAny _ _ (call (.type "enumerate") [.ref l] [(Str.ofString "start", .int k tt)]) _ _ _
            refine enum_begins_start (begins_list l its.toArray) ⟨_, e0, rfl, n0, rfl⟩ k0 k1 fun h' he hi hsz hk' => ?_
            have ge : ∀ c ∈ [s2.heap.objs.size + 1, s2.heap.objs.size], s2.heap.objs.size ≤ c ∧ c < s2.heap.objs.size + 2 := fun c hc => by
              simp only [List.mem_cons, List.not_mem_nil, or_false] at hc
              rcases hc with q | q <;> rw [q] <;> exact ⟨by simp, by simp⟩
            refine ⟨l, _, s2.heap.objs.size, k, H2, xs, rfl, ⟨I2.kept (t' := s2.toks) hk', Nat.succ_ne_self _, fun c hc => I2.fpOk (ge c hc).1 (I2.hok.fresh (ge c hc).1), fun c hc => ?_, ⟨_, he⟩, ⟨_, hi, rfl, rfl⟩⟩, hl, q3⟩
            show c < h'.objs.size
            rw [hsz]
            exact (ge c hc).2
  · subst ev
    exact le_list (I.ok.hd hc) M h1 fun D ts s' H' I' sm nD hl hn hp => ⟨.ref D, H', I', rfl, q D ts H' sm nD hl hn hp⟩
end
end L2

/-! MR10 -/
/-! t[::-1] of a tuple: a new tuple. -/
namespace HT
open PySem PySem.Spec PyProof.Rows L2
section
variable {prog : Program} {w : World} {A : Around} {E : Value → Shared → Prop} {s : Shared}
theorem adjust_rev (n : Nat) : Builtin.Slice.sliceAdjust none none (-1) (n : Int) = ((n : Int) - 1, -1) := rfl
theorem places_rev (n : Nat) : Builtin.Slice.slicePlaces ((n : Int) - 1) (-1) (-1) = n := by
  unfold Builtin.Slice.slicePlaces
  have h1 : ¬ ((-1 : Int) > 0) := by decide
  rw [if_neg h1]
  split
  · rw [show (-(-1) : Int) = 1 by decide, Int.ediv_one]
    omega
  · omega
theorem sliceApplied_rev {sl : Addr} {vs : Value} {n : Nat} {Q : Int × Int × Nat → Shared → Prop} (hs : s.heap.IsSliceOf sl .none .none vs) (ps : IsPart vs (some (-1)))
    (h : Q ((n : Int) - 1, -1, n) s) : wpAny (model prog w) A (Builtin.Slice.sliceApplied (.ref sl) (pure (n : Int))) Q E s := by
  obtain ⟨os, hos, hcs, hds⟩ := id hs
  unfold Builtin.Slice.sliceApplied Builtin.Slice.sliceFields
  refine wpAny_bind (wpAny_bind (wpAny_field hos hds (x := .none) rfl (wpAny_bind (wpAny_field hos hds (x := .none) rfl (wpAny_bind (wpAny_field hos hds (x := vs) rfl (wpAny_pure ?_)))))))
  refine wpAny_bind (slicePart_ ps ?_)
  show wpAny _ _ (if ((-1 : Int) == 0) = true then _ else _) _ _ s
  rw [if_neg (by decide)]
  refine wpAny_bind (slicePart_ .none (wpAny_bind (slicePart_ .none (wpAny_bind (wpAny_pure ?_)))))
  show wpAny _ _ (match Builtin.Slice.sliceAdjust none none (-1) (n : Int) with | (lo, hi) => pure (lo, (-1 : Int), Builtin.Slice.slicePlaces lo hi (-1))) _ _ s
  rw [adjust_rev n]
  show wpAny _ _ (pure ((n : Int) - 1, (-1 : Int), Builtin.Slice.slicePlaces ((n : Int) - 1) (-1) (-1))) _ _ s
  rw [places_rev]
  exact wpAny_pure h
theorem fm_congr {α β : Type} {f g : α → Option β} : ∀ {l : List α}, (∀ x ∈ l, f x = g x) → l.filterMap f = l.filterMap g
  | [], _ => rfl
  | x :: l, h => by
    rw [List.filterMap_cons, List.filterMap_cons, h x (by simp), fm_congr fun y hy => h y (List.mem_cons_of_mem _ hy)]
theorem pick_rev (xs : Array Value) : ((List.range xs.size).filterMap fun (m : Nat) => xs[((xs.size : Int) - 1 + (m : Int) * -1).toNat]?).toArray = xs.toList.reverse.toArray := by
  have e : (List.range xs.size).filterMap (fun (m : Nat) => xs[((xs.size : Int) - 1 + (m : Int) * -1).toNat]?) = ((List.range xs.size).map (fun k => xs.size - 1 - k)).filterMap (xs[·]?) := by
    rw [List.filterMap_map]
    refine fm_congr fun k hk => ?_
    have := List.mem_range.mp hk
    have e2 : ((xs.size : Int) - 1 + (k : Int) * -1).toNat = xs.size - 1 - k := by omega
    show xs[((xs.size : Int) - 1 + (k : Int) * -1).toNat]? = xs[xs.size - 1 - k]?
    rw [e2]
  rw [e, PySem.W.krv_range, List.filterMap_reverse, PySem.W.krv_all]
theorem getItem_tuple_rev {t sl : Addr} {items : Array Value} {vs : Value} {Q : Value → Shared → Prop} (ht : IsTup s.heap t items) (hs : s.heap.IsSliceOf sl .none .none vs) (ps : IsPart vs (some (-1)))
    (h : Q (.ref s.heap.objs.size) { s with heap := s.heap.push { cls := .type "tuple", data := .seq items.toList.reverse.toArray } })
    (hsz : items.size ≤ sizeLine) : wpAny (model prog w) A (getItem (.ref t) (.ref sl)) Q E s := by
  have htake : sizeOk (.seq items.toList.reverse.toArray) := by
    show items.toList.reverse.toArray.size ≤ sizeLine
    rw [List.size_toArray, List.length_reverse, Array.length_toList]
    exact hsz
  obtain ⟨os, hos, hcs, hds⟩ := id hs
  have hTs : s.TypeIs (.ref sl) "slice" := ⟨os, hos, hcs⟩
  unfold getItem
  try with_reducible refine wpAny_holding ?_
  first | refine wpAny_bind (wpAny_pure ?_) | skip
  refine wpAny_bind (wpAny_sequenceKey ht.typeIs (by decide) ?_)
  refine wpAny_bind (wpAny_callSpecial?_slot (name := Str.ofString "__getitem__") ht.typeIs PyProof.Rows.slot_tuple_getitem
    (wpAny_call_entry PyProof.Rows.slot_tuple_getitem ht.typeIs entry_tuple_getitem ?_ (args_tuple_getitem _ _)))
  show wpAny _ _ (Builtin.Tuple.tupleItemsOf (.ref t) >>= _) _ _ s
  refine wpAny_bind (tupleItemsOf_ ht ?_)
  refine wpAny_bind (wpAny_typeOf hTs ?_)
  rw [if_pos (by decide)]
  refine wpAny_bind (sliceApplied_rev hs ps ?_)
  have hno : ¬ (((items.size : Int) - 1 == 0 && (-1 : Int) == 1 && items.size == items.size) = true) := by
    intro q
    rw [Bool.and_eq_true, Bool.and_eq_true] at q
    exact absurd q.1.2 (by decide)
  show wpAny _ _ (if ((items.size : Int) - 1 == 0 && (-1 : Int) == 1 && items.size == items.size) = true then _ else _) _ _ s
  rw [if_neg hno, pick_rev]
  first
    | exact wpAny_bind (m := Builtin.Tuple.tupleExact _) (wpAny_newObj_type (wpAny_pure ⟨_, rfl, wpAny_pure h⟩) htake)
    | exact wpAny_bind (m := Builtin.Tuple.tupleExact _) (wpAny_newObj_type (wpAny_bind (wpAny_pure (wpAny_pure ⟨_, rfl, wpAny_pure h⟩))) htake)
    | exact wpAny_bind (wpAny_bind (m := Builtin.Tuple.tupleExact _) (wpAny_newObj_type (wpAny_pure (wpAny_pure ⟨_, rfl, wpAny_pure h⟩)) htake))
    | exact wpAny_bind (wpAny_bind (m := Builtin.Tuple.tupleExact _) (wpAny_newObj_type (wpAny_pure ⟨_, rfl, wpAny_pure h⟩) htake))
end
end HT
namespace Mw
open PySem PySem.Spec PyProof.Rows L2
def tRevT (K : PySem.W.Frag) (te : TE) : TE := fun σ H Q => te σ H fun x H1 => ∃ a xs, x = .ref a ∧ SqT K H1 a xs ∧ ∀ p, H1 p = none → Q (.ref p) (upd H1 p (.tup xs.reverse))
theorem pe_revT {X : Cx} {e : Expr} {te : TE} {k : Nat} {p1 p2 p3 pos : Pos} (he : PE X e te) : PE X (.Subscript e (.Slice none none (some (.UnaryOp .USub (.Constant (.int 1) k p1) p2)) p3) pos) (tRevT X.K te) := by
  refine ⟨fun pins s σ H Q I h => ?_⟩
  refine Subscript_ (thn (he.run pins s σ H _ I h) fun v s1 ⟨x, H1, I1, r1, q1⟩ => ?_)
  obtain ⟨a, xs, ex, hx, q⟩ := q1
  subst ex
  cases r1
  have hst : PO X (some (.UnaryOp .USub (.Constant (.int 1) k p1) p2)) (tPart (tUn (rU fun i => .int (-i)) (tC (.int 1)))) := po_some (pe_un un_neg pe_int)
  refine wpAny_Slice (thn (po_none.run pins s1 σ H1 (fun o H2 => o = none ∧ H2 = H1) I1 ⟨rfl, rfl⟩) fun vl s2 ⟨l, H2, I2, pl, el, e2⟩ => ?_)
  subst el e2
  refine thn (po_none.run pins s2 σ H2 (fun o H3 => o = none ∧ H3 = H2) I2 ⟨rfl, rfl⟩) fun vu s3 ⟨u, H3, I3, pu, eu, e3⟩ => ?_
  subst eu e3
  refine thn (hst.run pins s3 σ H3 (fun o H4 => o = some (-1) ∧ H4 = H3) I3 ⟨1, rfl, -1, rfl, rfl, rfl⟩) fun vs s4 ⟨o, H4, I4, ps, eo, e4⟩ => ?_
  subst eo e4
  cases pl
  cases pu
  have I5 : Inv X pins σ H4 { s4 with heap := s4.heap.push { cls := .type "slice", data := .fields #[.none, .none, vs] } } := I4.kept (t' := s4.toks) fun b ob q => Heap.get?_push_of_some _ q
  obtain ⟨its, r, ht, hz⟩ := I5.tuple hx
  have hlen := r.length
  show wpAny (model X.prog X.w) X.A (subscriptTail e (.Slice none none (some (.UnaryOp .USub (.Constant (.int 1) k p1) p2)) p3) (.ref a) (.ref s4.heap.objs.size)) (EP X pins σ Q) X.xe { s4 with heap := s4.heap.push { cls := .type "slice", data := .fields #[.none, .none, vs] } }
  refine tail_any (ops := [.ref a, .ref s4.heap.objs.size]) ht.typeIs PyProof.Rows.slot_tuple_getitem.lookup ?_ (by with_unfolding_all rfl)
  refine HT.getItem_tuple_rev ht (Heap.IsSliceOf.new _ .none .none vs) ps ?_ (by rw [List.size_toArray]; omega)
  refine ⟨.ref _, _, I5.laid (t' := s4.toks) (o := .tup xs.reverse) (fun b ob q => Heap.get?_push_of_some _ q) (Nat.le_refl _) ?_, rfl, q _ (I5.hok.fresh (Nat.le_refl _))⟩
  exact ⟨by rw [List.length_reverse]; exact hz, _, r.reverse, IsTup.new _ _⟩
theorem rd_revT {K : PySem.W.Frag} {te : TE} {σ : L2.St} {H : Hp} {Q : VK} (h : te σ H fun x H1 => ∃ a xs, x = .ref a ∧ SqT K H1 a xs ∧ ∀ p, H1 p = none → Q (.ref p) (upd H1 p (.tup xs.reverse))) : tRevT K te σ H Q := h
end Mw

/-! MR11 -/
/-! A text so many times; isinstance of a caught error, with or without fields. -/
namespace Mw
open PySem PySem.Spec PyProof.Rows L2
def repS (z : Str) (n : Nat) : Str := ⟨(List.replicate n z.cps).foldl (· ++ ·) #[]⟩
theorem rep_size (z : Str) : ∀ (n : Nat) (acc : Array Nat), ((List.replicate n z.cps).foldl (· ++ ·) acc).size = acc.size + n * z.length
  | 0, acc => by simp
  | n + 1, acc => by
    rw [List.replicate_succ, List.foldl_cons, rep_size z n, Array.size_append, Nat.succ_mul]
    show acc.size + z.length + n * z.length = _
    omega
theorem rep_toList (z : Str) : ∀ (n : Nat) (acc : Array Nat), ((List.replicate n z.cps).foldl (· ++ ·) acc).toList = acc.toList ++ (List.replicate n z.cps.toList).flatten
  | 0, acc => by simp
  | n + 1, acc => by
    rw [List.replicate_succ, List.foldl_cons, rep_toList z n, Array.toList_append, List.replicate_succ, List.flatten_cons, List.append_assoc]
theorem op_mul_str {X : Cx} : OpR X (binaryOp .Mult) (fun x y H Q => ∃ (z : Str) (n : Nat), x = .str z ∧ y = .int (n : Int) ∧ 2 ≤ n ∧ n ≤ 1000 ∧ 1 ≤ z.length ∧ z.length ≤ 1000 ∧ Q (.str (repS z n)) H) := by
  intro pins s σ H x y v u Q I rx ry h
  obtain ⟨z, n, rfl, rfl, n2, n3, z1, z2, q⟩ := h
  obtain ⟨t, rfl⟩ := rx
  obtain ⟨t', rfl⟩ := ry
  have e1 : ¬ ((n : Int) < 1) := by omega
  have e2 : ((n : Int) == 1 || z.length == 0) = false := by
    rw [Bool.or_eq_false_iff]
    exact ⟨beq_eq_false_iff_ne.mpr (by omega), beq_eq_false_iff_ne.mpr (by omega)⟩
  have hmul : z.length * n ≤ 1000000 := Nat.mul_le_mul z2 n3
  have e3 : Builtin.Str.tooLong (z.length * (n : Int).toNat) = false := by
    rw [Int.toNat_natCast]
    unfold Builtin.Str.tooLong
    have : (1000000 : Nat) ≤ sizeLine := by decide
    exact decide_eq_false (by omega)
  refine P.mul_str (by
    rw [Bool.or_eq_false_iff]
    exact ⟨decide_eq_false (by omega), decide_eq_false (by omega)⟩) (fun _ _ => ?_) (fun _ _ => e3) ?_
  · have : (1000 : Int) ≤ (2 ^ 63 - 1) / (n : Int) := by
      rw [Int.le_ediv_iff_mul_le (by omega)]
      omega
    omega
  · rw [if_neg e1, e2, if_neg Bool.false_ne_true, Int.toNat_natCast]
    refine ⟨?_, ?_⟩
    · show ((List.replicate n z.cps).foldl (· ++ ·) #[]).size ≤ sizeLine
      rw [rep_size]
      have h1 : (1000000 : Nat) ≤ sizeLine := by decide
      have h2 : n * z.length ≤ 1000000 := by
        rw [Nat.mul_comm]
        exact hmul
      show 0 + n * z.length ≤ sizeLine
      omega
    · exact ⟨.str (repS z n), H, I.tok _, ⟨_, rfl⟩, q⟩
end Mw
namespace PySem.W
open PySem PySem.Spec PySem.Calls PyProof.Rows
section
variable {prog : Program} {w : World} {A : Around} {E : Value → Shared → Prop} {s : Shared} {K : Frag} {x D : Addr} {ox : Obj} {od : Option Obj}
theorem mw_find_class (C : L2.ExcC K D) : findObj K D od "__class__" = some (.bind (.builtin "getset_descriptor.__get__") (.builtin "object.__class__")) := by
  obtain ⟨cd, hc, _⟩ := any_some C.hd
  unfold findObj
  rw [hc, Option.bind_some, C.ha, Option.bind_some]
  simp [C.hn, C.ht]
theorem mw_class {Q : Option Value → Shared → Prop} (C : L2.ExcC K D) (X : K.In s.heap) (I : InstAt s.heap x ox D od) (h : Q (some (.ref D)) { s with toks := s.toks + 1 }) :
    wpAny (model prog w) A (getAttr? (.ref x) "__class__") Q E s := by
  obtain ⟨hp, g, d, t, os⟩ := s
  have T0 := I.type (M := model prog w)
  have T1 := looks_findIn (M := model prog w) X C.hg
  have T2 := looks_findIn (M := model prog w) X C.hk
  have T3 := looks_find (M := model prog w) X I (mw_find_class C)
  have isB : Looks (model prog w) hp (isInstance (.ref x) (.type "BaseException")) true := T0.andThen (looks_subIn X C.hs)
  have n2 : (Value.builtin "BaseException.__getattribute__" == Value.builtin "object.__getattribute__") = false := by decide +kernel
  have n1 : (onTheHeap (Value.ref D) && Value.builtin "BaseException.__getattribute__" == Value.builtin "object.__getattribute__") = false := by
    rw [n2]
    rfl
  have n0 : (false && onTheHeap (Value.builtin "BaseException.__getattribute__")) = false := rfl
  unfold getAttr? getAttrBy? getAttrBy
  refine wpAny_bind (wpAny_mkText (wpAny_bind (wpAny_attempt (wpAny_holding (wpAny_bind (T0.at (wpAny_bind (T1.at ?_))))))))
  show wpAny _ _ (ite ((onTheHeap (Value.ref D) && Value.builtin "BaseException.__getattribute__" == Value.builtin "object.__getattribute__") = true) _ _) _ _ _
  rw [n1, if_neg Bool.false_ne_true]
  unfold getAttrByItsOwn hookBefore
  refine wpAny_bind ?_
  rw [if_pos (show onTheHeap (Value.ref D) = true from rfl)]
  refine T2.at (wpAny_bind (wpAny_attempt (wpAny_holding ?_)))
  unfold callGetattribute
  rw [n0, if_neg Bool.false_ne_true]
  unfold boundAndCalled
  rw [PySem.F.excAttr_ValueError.ga.bind (.ref x)]
  refine wpAny_bind (wpAny_pure ?_)
  show wpAny _ _ (call (.builtin "BaseException.__getattribute__") [.ref x, .str "__class__" t]) _ _ _
  refine wpAny_call (codeAny_call_builtin PySem.F.excAttr_ValueError.ga.plain PySem.F.entry_bexc_ga ?_)
  refine @check_slot (model prog w) _ _ ⟨hp, g, d, t + 1, os⟩ "BaseException.__getattribute__" "BaseException" "__getattribute__" (.ref x) [.str "__class__" t] [] _ (by decide +kernel) (by decide +kernel) isB (PySem.F.args_bexc_ga (.ref x) (.str "__class__" t)) ?_
  unfold Builtin.«object.__getattribute__»
  refine wpAny_bind (wpAny_of_eq (a := ((Value.ref x : Value), [Value.str "__class__" t])) (by first | rfl | (simp only [slotArgs]; rfl)) ?_)
  refine wpAny_bind (wpAny_pure (wpAny_bind (T0.at (wpAny_bind (T3.at ?_)))))
  show wpAny _ _ (holding [Value.builtin "object.__class__"] (call (.builtin "getset_descriptor.__get__") [.builtin "object.__class__", .ref x, .ref D]) >>= ret) _ _ _
  refine wpAny_bind (wpAny_holding (wpAny_call (class_get (s := ⟨hp, g, d, t + 1, os⟩) (ox := ox) (od := od) X I C.hm ?_)))
  refine wpAny_pure ?_
  show wpAny _ _ (handedOut (.ref D)) _ _ _
  rw [handedOut_of (v := .ref D) rfl]
  first
    | exact wpAny_pure (wpAny_pure h)
    | exact wpAny_pure h
    | exact wpAny_pure (wpAny_bind (wpAny_pure (wpAny_pure h)))
theorem mw_kitx (C : L2.ExcC K D) : KitX K (.ref x) (.ref D) (fun h => InstAt h x ox D od) where
  ty := fun _ _ _ I => I.type
  it := fun _ _ X _ => by
    obtain ⟨cdD, hcD, _⟩ := any_some C.hd
    unfold clsIn at hcD
    split at hcD
    · rename_i c' d' cd' sl' ho
      intro A' Q' E' s' k q
      unfold isType loadHead
      exact wpAny_bind (wpAny_loadPart (k _ _ (X _ _ ho)) (wpAny_pure q))
    · cases hcD
  ne := fun h tp dd its n sl X htp => by
    obtain ⟨cdD, hcD, _⟩ := any_some C.hd
    refine Bool.eq_false_iff.mpr fun q => ?_
    have e : D = tp := Value.ref.inj (beq_iff_eq.mp q)
    subst e
    unfold clsIn at hcD
    split at hcD
    · rename_i c' d' cd' sl' ho
      cases (X _ _ ho).symm.trans htp
    · cases hcD
  ca := fun X I k => mw_class C X I k
end
end PySem.W
namespace Mw
open PySem PySem.Spec PyProof.Rows L2
/-- isinstance(e, c), e the exception that the suite holds, with fields or without -/
def rIsEx (K : PySem.W.Frag) (a : Addr) (cls : Value) (d : Option Addr) : List V → Hp → VK → Prop := fun xs H Q => ∃ (D : Addr) (c : V) (cv : Value) (b : Bool), xs = [.ref a, c] ∧ cls = .ref D ∧ ExcC K D ∧ (d = none ∨ ∃ dd fs, d = some dd ∧ H dd = some (.xd fs)) ∧ ClsV c cv ∧ PySem.W.kitOne K (.ref D) cv = some b ∧ Q (.bl b) H
theorem call_isEx {X : Cx} {a : Addr} {cls : Value} {d : Option Addr} {oe : Obj} {pn : List (Addr × Obj)} (hz : Zc cls d oe) (hf : ∃ vs, oe.data = .fields vs) : CallR (X.suite a ((a, oe) :: pn)) (.builtin "isinstance") (rIsEx X.K a cls d) := by
  intro pins s σ H xs us Q I r h
  obtain ⟨D, c, cv, b, rfl, ec, C, hd, hcv, e, q⟩ := h
  cases r with
  | cons rx rr =>
    cases rr with
    | cons rt rr =>
      cases rr
      cases rx
      have ecv := hcv.eq rt
      subst ecv
      subst ec
      obtain ⟨hget, _⟩ := I.pin (a, oe) (List.mem_append.mpr (.inl List.mem_cons_self))
      obtain ⟨vs, hv⟩ := hf
      have hno : PySem.W.notCls oe = true := by
        unfold PySem.W.notCls
        rw [hv] <;> rfl
      rcases hd with hd | ⟨dd, fs, hd, hx⟩
      · subst hd
        have J : PySem.W.InstAt s.heap a oe D none := ⟨hget, hz.1, hno, by rw [hz.2]; trivial⟩
        exact PySem.W.kia_one (PySem.W.mw_kitx C) I.kIn J e (fun z => nomatch z) fun tk => ⟨.bl b, H, I.kept (t' := tk) fun _ _ z => z, rfl, q⟩
      · subst hd
        have hob : ObjOk X.prog X.w H s.heap dd (.xd fs) := I.hok dd _ hx
        obtain ⟨mA, hns, hr⟩ := hob
        obtain ⟨od, ho, hl⟩ := lookIn_ns hns
        have J : PySem.W.InstAt s.heap a oe D (some od) := ⟨hget, hz.1, hno, by rw [hz.2]; exact ho⟩
        exact PySem.W.kia_one (PySem.W.mw_kitx C) I.kIn J e (fun z => nomatch z) fun tk => ⟨.bl b, H, I.kept (t' := tk) fun _ _ z => z, rfl, q⟩
end Mw

/-! MR14 -/
/-! xs.count(y) of a list of flat things. -/
namespace L2
open PySem PySem.Spec PyProof.Rows
theorem cnt_flat {y : V} : ∀ {ys : List V} {us : List Value}, Vals ys us → ys.all flatV = true → us.countP (eqU y) = ys.countP fun z => eqV z y
  | _, _, .nil, _ => rfl
  | z :: ys, u :: us, .cons r t, f => by
    rw [List.all_cons, Bool.and_eq_true] at f
    rw [List.countP_cons, List.countP_cons, cnt_flat t f.2, eqU_of r f.1]
def rCntF (K : PySem.W.Frag) : V → List V → Hp → VK → Prop := fun x xs H Q => ∃ (a : Addr) (ys : List V) (y : V), x = V.ref a ∧ xs = [y] ∧ SqL K H a ys ∧ flatV y = true ∧ ys.all flatV = true ∧ Q (.int ((ys.countP fun z => eqV z y : Nat))) H
section
variable {X : Cx}
theorem mt_lcountF : MtR X "list.count" (rCntF X.K) := by
  intro pins s σ H x xs v us Q I rx rxs h
  obtain ⟨a, ys, y, rfl, rfl, hs, fy, fys, q⟩ := h
  cases rx
  cases rxs with
  | cons ry rt =>
    rename_i uy ut
    cases rt
    obtain ⟨its, rv, ⟨⟨cls, dd, data, sl⟩, n, ho, hc, hdn, hd⟩, hlen⟩ := I.list hs
    simp only at hc hd
    subst hc hd
    refine call_meets PySem.F.slot_list_count ⟨_, ho, rfl⟩ PySem.F.entry_list_count (PySem.F.args_list_count_2 _ _) (SeqAt.list_countAt a its.toArray n dd sl uy (eqU y)) ⟨ho, fun u hu => mem_eqAt ry fy rv fys u (by simpa using hu), ?_⟩
    refine ⟨.int ((ys.countP fun z => eqV z y : Nat)), H, I.tok _, ⟨s.toks, ?_⟩, q⟩
    show Value.int ((its.countP (eqU y) : Nat) : Int) s.toks = _
    rw [cnt_flat rv fys]
end
end L2

/-! MR15 -/
/-! o.m(e, ..) within a try: what it lets out is caught at the slots as they stand. -/
namespace L2
open PySem PySem.Spec PyProof.Rows
def tMethT (C : Addr) (m : Str) (sp : Sp) (E : L2.St → XK) (ta : TE) (t : TA) : TE := fun σ H Q => ta σ H fun x H1 => ∃ a dx fs, x = .ref a ∧ H1 a = some (.ins C dx fs) ∧ fs.lookup m = none ∧ t σ H1 fun vs H2 => sp (x :: vs) H2 Q (E σ)
theorem rd_methT {C : Addr} {m : Str} {sp : Sp} {E : L2.St → XK} {ta : TE} {t : TA} {σ : L2.St} {H : Hp} {Q : VK} (h : ta σ H fun x H1 => ∃ a dx fs, x = .ref a ∧ H1 a = some (.ins C dx fs) ∧ fs.lookup m = none ∧ t σ H1 fun vs H2 => sp (x :: vs) H2 Q (E σ)) : tMethT C m sp E ta t σ H Q := h
section
variable {X : Cx} {CX : CXT} {k : Nat} {f C : Addr} {fd : FuncData} {ps : List Str} {sp : Sp} {E : L2.St → XK} {m : Str} {pos apos : Pos} {e o : Expr} {es : List Expr} {ta : TE} {t : TA}
theorem pe_methT {pl : Sem Bool} (ho : PE X o ta) (c : Cls X.K C) (hm : Meth X.K C m f) (F : FnOk X.prog X.w X.K X.mg X.base CX k f fd ps sp) (hr : Room k X.A) (hb : Binds X.K fd ps []) (hx : ∀ σ, PassesAt CX X σ (E σ)) (ha : PA X (e :: es) t)
    (h1 : starEach (e :: es) X.env = (false, eval e X.env) :: starEach es X.env := by rfl) (h2 : (backTo pos (starEach es X.env)).any (·.1) = false := by rfl)
    (h3 : eval (.Call (.Attribute o m apos) (e :: es) [] pos) X.env = (do
      let ov ← eval o X.env
      standAt apos.atName
      let (f, first) ← holding [ov] (getMethod ov m pl)
      callWith pos f first (backTo pos (starEach (e :: es) X.env)) (backToKw pos (keywordEach [] X.env))) := by rfl) : PE X (.Call (.Attribute o m apos) (e :: es) [] pos) (tMethT C m sp E ta t) := by
  refine ⟨fun pins s σ H Q I h => PySem.W.methodCall_KW (pl := pl) (thn (ho.run pins s σ H _ I h) fun u s1 ⟨x, H1, I1, rx, a, dx, fs, ex, ea, l, q⟩ => ?_) h3⟩
  subst ex
  obtain rfl : u = Value.ref a := rx
  refine getmeth_ok I1 ea c hm l (PySem.W.callWith_K (first := [.ref a]) (h₀ := X.base) I.ok.mod.kin hm.kp (thn (ha.run pos pins s1 σ H1 _ I1 q) fun us s2 ⟨vs, H2, I2, r, q2⟩ => ⟨I2.kIn, ?_⟩) h1 h2)
  exact run_fnS (us := .ref a :: us) (vs := .ref a :: vs) F hr hb (hx σ) I2 (.cons rfl r) q2
end
end L2

/-! MR16 -/
/-! A def that is called in an except suite with the error that the suite holds, and asks isinstance of it. -/
namespace Mw
open PySem PySem.Spec PyProof.Rows L2
/-- a promise over the error at an address, of a class, with its dict -/
abbrev SpE := Addr → Value → Option Addr → Sp
structure FnE (P : Program) (w : World) (K : PySem.W.Frag) (mg : Str → Option Value) (base : Heap) (k : Nat) (f : Addr) (fd : FuncData) (ps : List Str) (sp : SpE) : Prop where
  len : ∀ a c d vs H Q E, sp a c d vs H Q E → vs.length = ps.length
  run : ∀ (p : Addr × Obj) (c : Value) (d : Option Addr) (A : Around) (outer : List Env) (s : Shared) (H : Hp) (args : Args) (us : List Value) (vs : List V) (Q : VK) (E : XK),
    Zc c d p.2 → (∃ z, p.2.data = .fields z) → L2H.RoomH k A → L2H.PinOk outer H s p → Env0 P w K mg base A outer s H → BindsTo s fd args (ps.zip us) → Vals vs us → sp p.1 c d vs H Q E →
      codeAny (model P w) A (.call (.ref f) args) (CR CX0 outer P w H s Q E) s
theorem okE {P : Program} {w : World} {K : PySem.W.Frag} {mg : Str → Option Value} {base : Heap} {x qual : Str} {st : Stmt} {f : Addr} {fd : FuncData} {N ps : List Str} {k : Nat} {sp : SpE} (F : Fun K x qual st f fd) (S : FnScope N ps (defScope st))
    (len : ∀ a c d vs H Q E, sp a c d vs H Q E → vs.length = ps.length)
    (hb : ∀ (p : Addr × Obj) (c : Value) (d : Option Addr) (cdv : Value) (A : Around) (outer : List Env) (s : Shared) (H : Hp) (vs : List V) (Q : VK) (E : XK), Zc c d p.2 → (∃ z, p.2.data = .fields z) →
      L2H.RoomH k (A.deeper (envOfC qual (defScope st) s.heap.objs.size f cdv)) → sp p.1 c d vs H Q E →
      ∃ t, PSs (L2H.cxH CX0 P w K mg base N qual (defScope st) f cdv A outer s H E p).nox (defBody st) t ∧ t { nx := fun _ G => Q .non G, rt := Q } (start N vs) H) : FnE P w K mg base (k + 1) f fd ps sp := by
  obtain ⟨z1, z2, z3, z4, z5, z6, cdv, z7, z8, efd, lk0, hc0⟩ := F.ex
  subst efd
  refine ⟨len, fun p c d A outer s H args us vs Q E hz hf rm pn e0 bn rv sp0 => ?_⟩
  have hl := len _ _ _ _ _ _ _ sp0
  have kin0 : K.In s.heap := e0.mod.kin.keeps fun b o q => (e0.bs b o q).1
  have lim0 : s.heap.NoLimit := e0.mod.nolimit.keeps fun b o q => (e0.bs b o q).1
  have kinds : ∀ y ∈ ps.zip us, (defScope st).names.lookup y.1 = some .local ∨ ((defScope st).names.lookup y.1 = some .cell ∧ ((cellsFrom (s.heap.objs.size + 1) (defScope st).names []).lookup y.1).isSome = true) := by
    rintro ⟨n, v⟩ hy
    have hm := (List.of_mem_zip hy).1
    rcases S.par n hm with q | q
    · exact Or.inl q
    · exact Or.inr ⟨q, PySem.W.cellsFrom_some _ _ _ (Or.inl q)⟩
  refine codeAny_call_function rm.depth (kin0 _ _ lk0) rfl S.co S.gen rfl (PySem.W.codeRec_of kin0 hc0) (bn _ _ _ _ ?_)
  refine wpAny_newFunctionEnv_cells S.kind kinds fun en hen s1 ic => ?_
  subst hen
  refine ⟨lim0.keeps ic.toInCall.keep, codeAny_func ?_⟩
  obtain ⟨t, ht0, q0⟩ := hb p c d cdv A outer s H vs Q E hz hf (rm.deeper _) sp0
  have ht := ht0.nox
  have I0 := L2H.inv_startH (CX := CX0) (cd := cdv) (f := f) (qual := qual) (E := E) S pn e0 hl rv ic
  refine wpAny_mono (ht.run [] s1 (start N vs) H _ I0 q0) (fun fl s2 hs => ?_) fun _ _ hs => hs
  cases fl with
  | ret u =>
    obtain ⟨v, _, H2, J, r2, q2⟩ := hs
    exact ⟨v, H2, J.os, J.bare, J.base, J.hok, r2, q2⟩
  | next =>
    obtain ⟨_, H2, J, q2⟩ := hs
    exact ⟨V.non, H2, J.os, J.bare, J.base, J.hok, rfl, q2⟩
  | brk =>
    obtain ⟨_, _, _, z⟩ := hs
    exact z.elim
  | cont =>
    obtain ⟨_, _, _, z⟩ := hs
    exact z.elim
/-- isinstance(e, c), e pinned -/
theorem call_isP {X : Cx} {p : Addr × Obj} {cls : Value} {d : Option Addr} (hp : p ∈ X.pn) (hz : Zc cls d p.2) (hf : ∃ z, p.2.data = .fields z) : CallR X (.builtin "isinstance") (rIsEx X.K p.1 cls d) := by
  intro pins s σ H xs us Q I r h
  obtain ⟨D, c, cv, b, rfl, ec, C, hd, hcv, e, q⟩ := h
  subst ec
  cases r with
  | cons rx rr =>
    cases rr with
    | cons rt rr =>
      cases rr
      cases rx
      have ecv := hcv.eq rt
      subst ecv
      have hget := (I.pin p (List.mem_append.mpr (.inl hp))).1
      obtain ⟨z, hv⟩ := hf
      have hno : PySem.W.notCls p.2 = true := by
        unfold PySem.W.notCls
        rw [hv] <;> rfl
      rcases hd with hd | ⟨dd, fs, hd, hx⟩
      · subst hd
        have J : PySem.W.InstAt s.heap p.1 p.2 D none := ⟨hget, hz.1, hno, by rw [hz.2]; trivial⟩
        exact PySem.W.kia_one (PySem.W.mw_kitx C) I.kIn J e (fun z => nomatch z) fun tk => ⟨.bl b, H, I.kept (t' := tk) fun _ _ z => z, rfl, q⟩
      · subst hd
        have hob : ObjOk X.prog X.w H s.heap dd (.xd fs) := I.hok dd _ hx
        obtain ⟨mA, hns, hr⟩ := hob
        obtain ⟨od, ho, hl⟩ := lookIn_ns hns
        have J : PySem.W.InstAt s.heap p.1 p.2 D (some od) := ⟨hget, hz.1, hno, by rw [hz.2]; exact ho⟩
        exact PySem.W.kia_one (PySem.W.mw_kitx C) I.kIn J e (fun z => nomatch z) fun tk => ⟨.bl b, H, I.kept (t' := tk) fun _ _ z => z, rfl, q⟩
theorem roomE {j k : Nat} {X : Cx} {a : Addr} {pn : List (Addr × Obj)} (hr : Room k X.A) (h : j ≤ k) : L2H.RoomH j (X.suite a pn).A := ⟨(hr.mono h).dp, (hr.mono h).un⟩
section
variable {X : Cx} {k : Nat} {f : Addr} {fd : FuncData} {ps : List Str} {sp : SpE} {x : Str} {q pos : Pos} {e : Expr} {es : List Expr} {t : TA} {p : Addr × Obj} {cls : Value} {d : Option Addr}
/-- f(e, ..) in a suite, the error among the arguments -/
theorem pe_callE (F : FnE X.prog X.w X.K X.mg X.base k f fd ps sp) (rm : L2H.RoomH k X.A) (hp : p ∈ X.pn) (hz : Zc cls d p.2) (hf : ∃ z, p.2.data = .fields z) (hg : Gl X x) (hm : X.mg x = some (.ref f)) (hk : PySem.W.keepIn X.K (.ref f) = true) (hb : Binds X.K fd ps [])
    (ha : PA X (e :: es) t) (h0 : (x == ("__debug__" : Str)) = false := by decide) (h1 : starEach (e :: es) X.env = (false, eval e X.env) :: starEach es X.env := by rfl) (h2 : (backTo pos (starEach es X.env)).any (·.1) = false := by rfl) :
    PE X (.Call (.Name x q) (e :: es) [] pos) (tCallS (sp p.1 cls d) (fun _ => E0) t) := by
  constructor
  intro pins s σ H Q I h
  refine wpAny_Call_Name_kw (ld_glob I hg hm ?_ h0)
  refine PySem.W.callWith_K (h₀ := X.base) I.ok.mod.kin hk (thn (ha.run pos pins s σ H _ I h) fun us s1 ⟨vs, G, J, r, w⟩ => ⟨J.kIn, ?_⟩) h1 h2
  have hl : us.length = ps.length := by
    rw [← r.length]
    exact F.len _ _ _ _ _ _ _ w
  have bn := hb s1 us J.kIn (by rw [List.append_nil]; exact hl)
  rw [List.append_nil] at bn
  obtain ⟨g1, g2, g3, g4, g5⟩ := J.pin p (List.mem_append_left _ hp)
  have pk : L2H.PinOk X.stack G s1 p := ⟨g1, g2, fun hm => by
    rcases List.mem_cons.mp (J.stkSub p.1 hm) with z | z
    · exact g3 z
    · exact g4 z, g5⟩
  refine wpAny_call (codeAny_mono (F.run p cls d X.A X.stack s1 G ⟨us, []⟩ us vs Q E0 hz hf rm pk J.env0 bn r w) ?_)
  rintro (e | (_ | _ | _ | u)) s2 z
  · exact (show False from z).elim
  · exact (show False from z).elim
  · exact (show False from z).elim
  · exact (show False from z).elim
  · exact J.after z
end
end Mw

/-! MR17 -/
/-! zip of a tuple and a list. -/
namespace L2
open PySem PySem.Spec PyProof.Rows
/-- a zip at z over a tuple's walk at i and a list's walk at j; the pair of walks at p, the last pair at o -/
structure Tz (h : Heap) (z p o i j a b : Addr) (n : Nat) (f : Value) : Prop where
  hz : IsZip h z p o f
  hp : IsPair h p (.ref i) (.ref j)
  ho : ∃ u v, IsPair h o u v
  hi : h.IsTupleIter i a n
  hj : h.IsListIter j b n
theorem Tz.at {h h' : Heap} {z p o i j a b : Addr} {n : Nat} {f : Value} (m : Tz h z p o i j a b n f) (k : ∀ c, c ∈ [z, p, o, i, j] → ∀ t, h.get? c = some t → h'.get? c = some t) : Tz h' z p o i j a b n f := by
  obtain ⟨m1, m2, ⟨u, v, m3⟩, m4, m5⟩ := m
  exact ⟨k z (by simp) _ m1, k p (by simp) _ m2, ⟨u, v, k o (by simp) _ m3⟩, m4.at fun t e => k i (by simp) t e, m5.at fun t e => k j (by simp) t e⟩
section
variable {prog : Program} {w : World} {A : Around} {E : Value → Shared → Prop} {s : Shared} {z p o i j a b : Addr} {n : Nat} {xs ys : Array Value}
theorem tz_step {x y : Value} {Q : Value → Shared → Prop} (D : ZipApart z p o i j a b) (m : Tz s.heap z p o i j a b n .none) (ha : s.heap.IsTuple a xs) (hb : s.heap.IsList b ys) (ex : xs[n]? = some x) (ey : ys[n]? = some y)
    (q : ∀ h', Tz h' z p o i j a b (n + 1) (rawInt s.heap.objs.size) → IsPair h' s.heap.objs.size x y → (∀ c t, c ∉ [z, o, i, j] → s.heap.get? c = some t → h'.get? c = some t) → Q (.ref s.heap.objs.size) { s with heap := h' }) :
    wpAny (model prog w) A (Builtin.«zip.__next__» ⟨[.ref z], []⟩) (fun r s1 => ∃ v, r = .done (.ret v) ∧ Q v s1) E s := by
  obtain ⟨mz, mp, ⟨u, v, mo⟩, mi, mj⟩ := m
  show wpAny _ _ (field (.ref z) 2 >>= _) _ _ _
  refine wpAny_bind (wpAny_field mz rfl (x := .bool false) rfl ?_)
  show wpAny _ _ (field (.ref z) 3 >>= _) _ _ _
  refine wpAny_bind (wpAny_field mz rfl (x := .ref p) rfl (wpAny_bind (wpAny_seqItems mp rfl ?_)))
  show wpAny _ _ (Builtin.SmallTypes.ownedTupleIsFree (.ref z) >>= _) _ _ _
  unfold Builtin.SmallTypes.ownedTupleIsFree
  refine wpAny_bind (wpAny_bind (wpAny_field mz rfl (x := .none) rfl (wpAny_pure ?_)))
  simp only [if_true]
  refine wpAny_bind (wpAny_rule (wpAny_bind (wpAny_field mz rfl (x := .ref o) rfl (wpAny_bind (wpAny_setField_rec mz (by simp) fun g1 z1 k1 => ?_)))))
  replace z1 : IsZip g1 z p o .ellipsis := z1
  simp only [List.zipIdx_cons, List.zipIdx_nil, List.forIn_cons, List.forIn_nil]
  refine wpAny_bind (wpAny_bind (wpAny_bind (wpAny_onRaise ?_)))
  show wpAny _ _ (Builtin.SmallTypes.nextOf (.ref i) >>= _) _ _ _
  refine wpAny_bind (RZ.nextOf_tuple_item (mi.extBut k1.extBut D.i1z) (ha.extBut k1.extBut D.l1z) ex fun g2 i2 k2 => wpAny_pure ?_)
  have o2 : IsPair g2 o u v := k2.extBut _ _ D.TOi1 (k1.extBut _ _ D.TOz mo)
  refine wpAny_bind (wpAny_seqItems o2 rfl (wpAny_bind (wpAny_updateSeq_pair o2 fun g3 o3 k3 => wpAny_bind (wpAny_letGo (wpAny_pure ?_)))))
  replace o3 : IsPair g3 o x v := o3
  refine wpAny_bind (wpAny_bind (wpAny_onRaise ?_))
  show wpAny _ _ (Builtin.SmallTypes.nextOf (.ref j) >>= _) _ _ _
  refine wpAny_bind (wpAny_nextOf_list_item (((mj.extBut k1.extBut D.i2z).extBut k2.extBut D.i12.symm).extBut k3.extBut D.TOi2.symm) (((hb.extBut k1.extBut D.l2z).extBut k2.extBut D.l2i1).extBut k3.extBut D.l2TO) ey fun g4 j4 k4 => wpAny_pure ?_)
  have o4 : IsPair g4 o x v := k4.extBut _ _ D.TOi2 o3
  refine wpAny_bind (wpAny_seqItems o4 rfl (wpAny_bind (wpAny_updateSeq_pair o4 fun g5 o5 k5 => wpAny_bind (wpAny_letGo (wpAny_pure (wpAny_pure ?_))))))
  replace o5 : IsPair g5 o x y := o5
  refine wpAny_bind (wpAny_seqItems o5 rfl (wpAny_bind (wpAny_newTuple ?_)))
  have sz : g5.objs.size = s.heap.objs.size := by rw [k5.1, k4.1, k3.1, k2.1, k1.1]
  have z5 : IsZip g5 z p o .ellipsis := k5.extBut _ _ D.TOz.symm (k4.extBut _ _ D.i2z.symm (k3.extBut _ _ D.TOz.symm (k2.extBut _ _ D.i1z.symm z1)))
  have up5 : ∀ c t, c ∉ [z, o, i, j] → s.heap.get? c = some t → g5.get? c = some t := fun c t nc e => by
    simp only [List.mem_cons, List.not_mem_nil, or_false, not_or] at nc
    obtain ⟨n1, n2, n3, n4⟩ := nc
    exact k5.extBut _ _ n2 (k4.extBut _ _ n4 (k3.extBut _ _ n2 (k2.extBut _ _ n3 (k1.extBut _ _ n1 e))))
  have i5 : g5.IsTupleIter i a (n + 1) := ((i2.extBut k3.extBut D.TOi1.symm).extBut k4.extBut D.i12).extBut k5.extBut D.TOi1.symm
  have j5 : g5.IsListIter j b (n + 1) := j4.extBut k5.extBut D.TOi2.symm
  have zl : z < g5.objs.size := Heap.lt_size z5
  show wpAny _ _ (Builtin.SmallTypes.ownedTupleHandOut (.ref z) (.ref g5.objs.size) >>= _) _ _ _
  unfold Builtin.SmallTypes.ownedTupleHandOut
  have z6 : IsZip (g5.push { cls := .type "tuple", data := .seq #[x, y] }) z p o .ellipsis := Heap.get?_push_of_some _ z5
  refine wpAny_bind (wpAny_bind (wpAny_setField_rec z6 (by simp) fun g7 z7 k7 => ?_))
  replace z7 : IsZip g7 z p o (rawInt g5.objs.size) := z7
  refine wpAny_setField_rec z7 (by simp) fun g8 z8 k8 => ?_
  replace z8 : IsZip g8 z p o (rawInt g5.objs.size) := z8
  have up8 : ∀ c t, c ≠ z → g5.get? c = some t → g8.get? c = some t := fun c t nc e => k8.extBut _ _ nc (k7.extBut _ _ nc (Heap.get?_push_of_some _ e))
  have t8 : IsPair g8 g5.objs.size x y := k8.extBut _ _ (Nat.ne_of_gt zl) (k7.extBut _ _ (Nat.ne_of_gt zl) (Heap.get?_push_size _ rfl))
  rw [sz] at z8 t8
  refine wpAny_pure ⟨_, rfl, ?_⟩
  show Q (.ref g5.objs.size) _
  rw [sz]
  have np : p ∉ [z, o, i, j] := by simp [D.TIz, D.TITO, D.TIi1, D.TIi2]
  exact q g8 ⟨z8, up8 _ _ D.TIz (up5 _ _ np mp), ⟨x, y, up8 _ _ D.TOz o5⟩, i5.at fun t e => up8 _ t D.i1z e, j5.at fun t e => up8 _ t D.i2z e⟩ t8 fun c t nc e => up8 c t (fun e => nc (by simp [e])) (up5 c t nc e)
theorem tz_end {Q : Fin → Shared → Prop} (hh : A.handled = none) (D : ZipApart z p o i j a b) (m : Tz s.heap z p o i j a b n .none) (ha : s.heap.IsTuple a xs) (hb : s.heap.IsList b ys) (en : xs[n]? = none ∨ ys[n]? = none)
    (q : ∀ h' e, (∀ c t, c ∉ [z, o, i, j] → s.heap.get? c = some t → h'.get? c = some t) → (∃ t, h'.get? e = some t ∧ t.cls = .type "StopIteration") → E (.ref e) { s with heap := h' }) :
    wpAny (model prog w) A (Builtin.«zip.__next__» ⟨[.ref z], []⟩) Q E s := by
  obtain ⟨mz, mp, ⟨u, v, mo⟩, mi, mj⟩ := m
  show wpAny _ _ (field (.ref z) 2 >>= _) _ _ _
  refine wpAny_bind (wpAny_field mz rfl (x := .bool false) rfl ?_)
  show wpAny _ _ (field (.ref z) 3 >>= _) _ _ _
  refine wpAny_bind (wpAny_field mz rfl (x := .ref p) rfl (wpAny_bind (wpAny_seqItems mp rfl ?_)))
  show wpAny _ _ (Builtin.SmallTypes.ownedTupleIsFree (.ref z) >>= _) _ _ _
  unfold Builtin.SmallTypes.ownedTupleIsFree
  refine wpAny_bind (wpAny_bind (wpAny_field mz rfl (x := .none) rfl (wpAny_pure ?_)))
  simp only [if_true]
  refine wpAny_bind (wpAny_rule (wpAny_bind (wpAny_field mz rfl (x := .ref o) rfl (wpAny_bind (wpAny_setField_rec mz (by simp) fun g1 z1 k1 => ?_)))))
  replace z1 : IsZip g1 z p o .ellipsis := z1
  simp only [List.zipIdx_cons, List.zipIdx_nil, List.forIn_cons, List.forIn_nil]
  refine wpAny_bind (wpAny_bind (wpAny_bind (wpAny_onRaise ?_)))
  show wpAny _ _ (Builtin.SmallTypes.nextOf (.ref i) >>= _) _ _ _
  cases ex : xs[n]? with
  | none =>
    refine wpAny_bind (RZ.nextOf_tuple_end hh (mi.extBut k1.extBut D.i1z) (ha.extBut k1.extBut D.l1z) ex fun g2 e k2 ⟨t, et, ct⟩ => ?_)
    have z2 : IsZip g2 z p o .ellipsis := k2 _ _ D.i1z.symm z1
    have ne : e ≠ z := fun x => by
      subst x
      rw [z2] at et
      cases et
      simp at ct
    refine wpAny_setField_rec z2 (by simp) fun g3 _ k3 => q g3 e (fun c t nc x => ?_) ⟨t, k3.extBut _ _ ne et, ct⟩
    simp only [List.mem_cons, List.not_mem_nil, or_false, not_or] at nc
    exact k3.extBut _ _ nc.1 (k2 _ _ nc.2.2.1 (k1.extBut _ _ nc.1 x))
  | some x =>
    have ey : ys[n]? = none := en.resolve_left (by rw [ex]; exact fun z => by cases z)
    refine wpAny_bind (RZ.nextOf_tuple_item (mi.extBut k1.extBut D.i1z) (ha.extBut k1.extBut D.l1z) ex fun g2 i2 k2 => wpAny_pure ?_)
    have o2 : IsPair g2 o u v := k2.extBut _ _ D.TOi1 (k1.extBut _ _ D.TOz mo)
    refine wpAny_bind (wpAny_seqItems o2 rfl (wpAny_bind (wpAny_updateSeq_pair o2 fun g3 o3 k3 => wpAny_bind (wpAny_letGo (wpAny_pure ?_)))))
    refine wpAny_bind (wpAny_bind (wpAny_onRaise ?_))
    show wpAny _ _ (Builtin.SmallTypes.nextOf (.ref j) >>= _) _ _ _
    refine wpAny_bind (wpAny_nextOf_list_end hh (((mj.extBut k1.extBut D.i2z).extBut k2.extBut D.i12.symm).extBut k3.extBut D.TOi2.symm) (((hb.extBut k1.extBut D.l2z).extBut k2.extBut D.l2i1).extBut k3.extBut D.l2TO) ey fun g4 e k4 ⟨t, et, ct⟩ => ?_)
    have z4 : IsZip g4 z p o .ellipsis := k4 _ _ D.i2z.symm (k3.extBut _ _ D.TOz.symm (k2.extBut _ _ D.i1z.symm z1))
    have ne : e ≠ z := fun x => by
      subst x
      rw [z4] at et
      cases et
      simp at ct
    refine wpAny_setField_rec z4 (by simp) fun g5 _ k5 => q g5 e (fun c t nc x => ?_) ⟨t, k5.extBut _ _ ne et, ct⟩
    simp only [List.mem_cons, List.not_mem_nil, or_false, not_or] at nc
    exact k5.extBut _ _ nc.1 (k4 _ _ nc.2.2.2 (k3.extBut _ _ nc.2.1 (k2.extBut _ _ nc.2.2.1 (k1.extBut _ _ nc.1 x))))
theorem tz_next {x y : Value} {Q : Option Value → Shared → Prop} (D : ZipApart z p o i j a b) (m : Tz s.heap z p o i j a b n .none) (ha : s.heap.IsTuple a xs) (hb : s.heap.IsList b ys) (ex : xs[n]? = some x) (ey : ys[n]? = some y)
    (q : ∀ h', Tz h' z p o i j a b (n + 1) (rawInt s.heap.objs.size) → IsPair h' s.heap.objs.size x y → (∀ c t, c ∉ [z, o, i, j] → s.heap.get? c = some t → h'.get? c = some t) → Q (some (.ref s.heap.objs.size)) { s with heap := h' }) : wpAny (model prog w) A (pyNext (.ref z)) Q E s := by
  have ty : s.TypeIs (.ref z) "zip" := ⟨_, m.hz, rfl⟩
  unfold pyNext
  exact wpAny_bind (wpAny_attempt (wpAny_callSpecial?_slot (name := Str.ofString "__next__") ty F.slot_zip_next (wpAny_call_entry F.slot_zip_next ty F.entry_zip_next (tz_step D m ha hb ex ey fun h' c1 c2 c3 => wpAny_pure (q h' c1 c2 c3)) (F.args_zip_next_1 _))))
theorem tz_stop {Q : Option Value → Shared → Prop} (hh : A.handled = none) (D : ZipApart z p o i j a b) (m : Tz s.heap z p o i j a b n .none) (ha : s.heap.IsTuple a xs) (hb : s.heap.IsList b ys) (en : xs[n]? = none ∨ ys[n]? = none)
    (q : ∀ h', (∀ c t, c ∉ [z, o, i, j] → s.heap.get? c = some t → h'.get? c = some t) → Q none { s with heap := h' }) : wpAny (model prog w) A (pyNext (.ref z)) Q E s := by
  have ty : s.TypeIs (.ref z) "zip" := ⟨_, m.hz, rfl⟩
  unfold pyNext
  refine wpAny_bind (wpAny_attempt (wpAny_callSpecial?_slot (name := Str.ofString "__next__") ty F.slot_zip_next (wpAny_call_entry F.slot_zip_next ty F.entry_zip_next (tz_end hh D m ha hb en fun h' e k ⟨t, et, ct⟩ => ?_) (F.args_zip_next_1 _))))
  exact wpAny_bind (wpAny_isInstance (T := "StopIteration") (b := true) ⟨t, et, ct⟩ isSubtype_stop (wpAny_pure (q _ k)))
end
/-! the new zip -/
def tzH (h : Heap) (a b : Addr) : Heap := ((((h.push { cls := .type "tuple_iterator", data := .fields #[.ref a, .int 0 0] }).push { cls := .type "list_iterator", data := .fields #[.ref b, .int 0 0] }).push
  { cls := .type "tuple", data := .seq #[.ref h.objs.size, .ref (h.objs.size + 1)] }).push { cls := .type "tuple", data := .seq #[.none, .none] }).push
  { cls := .type "zip", data := .fields #[.none, .bool false, .bool false, .ref (h.objs.size + 2), .ref (h.objs.size + 3)] }
theorem tz_new (a b : Addr) (xs ys : Array Value) : Meets (Builtin.«zip.__new__» ⟨[.type "zip", .ref a, .ref b], []⟩) (fun _ R s => s.heap.IsTuple a xs ∧ s.heap.IsList b ys ∧ R (.ok (.ret (.ref (s.heap.objs.size + 4)))) { s with heap := tzH s.heap a b }) :=
  .of_wp fun prog w A R s h => by
    obtain ⟨hp, g, d, tk, os⟩ := s
    obtain ⟨ha, hb, h⟩ := h
    have sub := sub_zip
    have La : Heap.IsTuple (Shared.heap ⟨hp, g, d, tk, os⟩) a xs := ha
    have Lb : Heap.IsList (Shared.heap ⟨hp.push { cls := .type "tuple_iterator", data := .fields #[.ref a, .int 0 0] }, g, d, tk, os⟩) b ys := Heap.IsList.push hb _
    have e1 : (hp.push { cls := .type "tuple_iterator", data := .fields #[.ref a, .int 0 0] }).objs.size = hp.objs.size + 1 := Heap.size_push ..
    unfold tzH at h
    dsimp only at h
    wp_walk using wpAny_pyIter_tuple La, wpAny_pyIter_list Lb
    simp only [Heap.size_push] at *
    exact ⟨_, rfl, h⟩
section
variable {prog : Program} {w : World} {A : Around} {E : Value → Shared → Prop} {s : Shared} {a b : Addr} {xs ys : Array Value}
theorem tz_call {Q : Value → Shared → Prop} (ha : s.heap.IsTuple a xs) (hb : s.heap.IsList b ys)
    (q : ∀ h', Tz h' (s.heap.objs.size + 4) (s.heap.objs.size + 2) (s.heap.objs.size + 3) s.heap.objs.size (s.heap.objs.size + 1) a b 0 .none → (∀ c t, s.heap.get? c = some t → h'.get? c = some t) → Q (.ref (s.heap.objs.size + 4)) { s with heap := h' }) :
    wpAny (model prog w) A (call (.type "zip") [.ref a, .ref b]) Q E s := by
  refine callType_new F.called_zip (by decide) (F.typeCall_zip_2 _ _) (F.newCall_zip_2 _ _) (fun ob => F.args_object_init_3 ob _ _) F.entry_zip_new (tz_new a b xs ys) ⟨ha, hb, ?_⟩
  generalize hn : s.heap.objs.size = N at q ⊢
  have g : ∀ {h : Heap} {ob : Obj} {m : Nat}, h.objs.size = m → ob.isFreed = false → (h.push ob).get? m = some ob := fun e f => by
    rw [← e]
    exact Heap.get?_push_size _ f
  have u : ∀ {h : Heap} {ob t : Obj} {c : Addr}, h.get? c = some t → (h.push ob).get? c = some t := fun e => Heap.get?_push_of_some _ e
  have hz : IsZip (tzH s.heap a b) (N + 4) (N + 2) (N + 3) .none := by
    unfold tzH
    rw [hn]
    exact g (by simp only [Heap.size_push, hn]) rfl
  have hi : (tzH s.heap a b).get? N = some { cls := .type "tuple_iterator", data := .fields #[.ref a, .int 0 0] } := by
    unfold tzH
    exact u (u (u (u (g hn rfl))))
  have hj : (tzH s.heap a b).get? (N + 1) = some { cls := .type "list_iterator", data := .fields #[.ref b, .int 0 0] } := by
    unfold tzH
    exact u (u (u (g (by simp only [Heap.size_push, hn]) rfl)))
  refine ⟨⟨_, hz, rfl⟩, q _ ⟨hz, ?_, ⟨.none, .none, ?_⟩, ⟨_, hi, rfl, rfl⟩, ⟨_, hj, rfl, rfl⟩⟩ fun c t e => ?_⟩
  all_goals unfold tzH
  · rw [hn]
    exact u (u (g (by simp only [Heap.size_push, hn]) rfl))
  · exact u (g (by simp only [Heap.size_push, hn]) rfl)
  · exact u (u (u (u (u e))))
end
/-- the tuple at a and the list at b, the items in new pairs -/
def Itl2 (K : PySem.W.Frag) (a b : Addr) : It :=
  ⟨fun i H => ∃ (xs ys : List V) (x y : V), SqT K H a xs ∧ SqL K H b ys ∧ xs[i]? = some x ∧ ys[i]? = some y,
   fun i H v H' => ∃ t x y, v = .ref t ∧ H t = none ∧ H' = upd H t (.tup [x, y]) ∧ (∀ xs, SqT K H a xs → xs[i]? = some x) ∧ ∀ ys, SqL K H b ys → ys[i]? = some y,
   fun i H => ∃ xs ys : List V, SqT K H a xs ∧ SqL K H b ys ∧ (xs.length ≤ i ∨ ys.length ≤ i)⟩
theorem turn_tz {P : Program} {w : World} {K : PySem.W.Frag} {elts : List Expr} {kk : Nat} {tpos : Pos} {a b z p o i1 i2 : Addr} (D : ZipApart z p o i1 i2 a b) :
    Turn P w K (.Tuple elts kk tpos) (Itl2 K a b) [z, p, o, i1, i2] z (fun i h => Tz h z p o i1 i2 a b i .none) where
  mem := by simp
  obj := fun i h st c hc => by
    obtain ⟨m1, m2, ⟨u, v, m3⟩, ⟨o1, e1, _, d1⟩, ⟨o2, e2, _, d2⟩⟩ := st
    simp only [List.mem_cons, List.not_mem_nil, or_false] at hc
    rcases hc with e | e | e | e | e <;> subst e
    · exact ⟨_, m1, fun v e => by cases e⟩
    · exact ⟨_, m2, fun v e => by cases e⟩
    · exact ⟨_, m3, fun v e => by cases e⟩
    · exact ⟨o1, e1, fun v e => by rw [d1] at e; cases e⟩
    · exact ⟨o2, e2, fun v e => by rw [d2] at e; cases e⟩
  keep := fun i h h' st k => st.at k
  item := by
    intro X hP hw hK hc i pins s σ H E I hf st hg
    subst hP hw hK
    obtain ⟨xs, ys, x, y, qx, qy, ex, ey⟩ := hg
    obtain ⟨us, rv, pa, _⟩ := I.tuple qx
    obtain ⟨ws, rw_, pb, _⟩ := I.list qy
    obtain ⟨u, hu, ru⟩ := rv.get ex
    obtain ⟨v, hv, rv2⟩ := rw_.get ey
    have zl : z < s.heap.objs.size := Heap.lt_size st.hz
    refine tz_next D st (show s.heap.IsTuple a us.toArray from pa) pb.isList (x := u) (y := v) (by simpa using hu) (by simpa using hv) fun g m1 t1 k1 => ⟨_, rfl, ?_⟩
    refine wpAny_letOwnedTupleGo_zip (s := { s with heap := g }) m1.hz fun g2 z2 sb => ?_
    have t2 : g2.get? s.heap.objs.size = some { cls := .type "tuple", data := .seq #[u, v] } := (sb.2 _ (Nat.ne_of_gt zl)).trans t1
    have new : ObjOk X.prog X.w (upd H s.heap.objs.size (.tup [x, y])) g2 s.heap.objs.size (.tup [x, y]) :=
      ⟨by show 2 ≤ sizeLine; decide, [u, v], .cons ru (.cons rv2 .nil), ⟨_, t2, rfl, _, rfl⟩⟩
    have I1 : Inv X pins σ (upd H s.heap.objs.size (.tup [x, y])) { s with heap := g2 } :=
      I.turnedNew (t' := s.toks) (ch := [z, p, o, i1, i2]) (fun c t nb e => (sb.2 c (fun q => nb (by simp [q]))).trans (k1 c t (fun q => nb (by simp at q ⊢; rcases q with q | q | q | q <;> simp [q])) e)) hf (Nat.le_refl _) new
    obtain ⟨_, mp, ⟨r1, r2, mo⟩, mi, mj⟩ := m1
    refine ⟨.ref s.heap.objs.size, _, I1, rfl, ⟨_, x, y, rfl, I.hok.fresh (Nat.le_refl _), rfl, fun l hl => by rw [I.tuple_inj hl qx]; exact ex, fun l hl => by rw [I.list_inj hl qy]; exact ey⟩, ⟨z2, (sb.2 _ D.TIz).trans mp, ⟨r1, r2, (sb.2 _ D.TOz).trans mo⟩, mi.at fun t e => (sb.2 _ D.i1z).trans e, mj.at fun t e => (sb.2 _ D.i2z).trans e⟩, fun c hcm => ?_⟩
    have lt : c < s.heap.objs.size := by
      obtain ⟨ob, e, _⟩ := show ∃ ob, s.heap.get? c = some ob ∧ True from by
        obtain ⟨m1, m2, ⟨u, v, m3⟩, ⟨o1, e1, _, d1⟩, ⟨o2, e2, _, d2⟩⟩ := st
        simp only [List.mem_cons, List.not_mem_nil, or_false] at hcm
        rcases hcm with e | e | e | e | e <;> subst e
        · exact ⟨_, m1, trivial⟩
        · exact ⟨_, m2, trivial⟩
        · exact ⟨_, m3, trivial⟩
        · exact ⟨_, e1, trivial⟩
        · exact ⟨_, e2, trivial⟩
      exact Heap.lt_size e
    rw [upd_ne (Nat.ne_of_lt lt)]
    exact (hf c hcm).1
  done := by
    intro X hP hw hK hc i pins s σ H E I hf st hg
    subst hP hw hK
    obtain ⟨xs, ys, qx, qy, en⟩ := hg
    obtain ⟨us, rv, pa, _⟩ := I.tuple qx
    obtain ⟨ws, rw_, pb, _⟩ := I.list qy
    have l1 := rv.length
    have l2 := rw_.length
    refine tz_stop (I.ok.hd hc) D st (show s.heap.IsTuple a us.toArray from pa) pb.isList (en.imp (fun q => by simp; omega) fun q => by simp; omega) fun g k => ⟨rfl, ?_⟩
    exact I.turnedL (t' := s.toks) (ch := [z, p, o, i1, i2]) (fun c t nb e => k c t (fun q => nb (by simp at q ⊢; rcases q with q | q | q | q <;> simp [q])) e) hf
  self := fun A i s Q E st h => wpAny_pyIter_zip st.hz h
def iZipTL (K : PySem.W.Frag) (ta : TA) : TI := fun σ H R => ta σ H fun vs H1 => ∃ a b xs ys, vs = [.ref a, .ref b] ∧ SqT K H1 a xs ∧ SqL K H1 b ys ∧ R (Itl2 K a b) H1
theorem pi_zipTL {X : Cx} {e e2 : Expr} {ta : TA} {p pos tpos : Pos} {elts : List Expr} {kk : Nat} (hg : Gl X "zip") (hm : X.mg "zip" = none) (ha : PA X [e, e2] ta)
    (hs : starEach [e, e2] X.env = (false, eval e X.env) :: starEach [e2] X.env := by rfl) (hpl : (backTo pos (starEach [e2] X.env)).any (·.1) = false := by rfl) :
    PI X (.Tuple elts kk tpos) (.Call (.Name "zip" p) [e, e2] [] pos) (iZipTL X.K ta) := by
  refine ⟨fun pins s σ H R I h => ?_⟩
  refine Call_ (ld_blt I hg hm PyProof.Rows.boot_zip (PyProof.Rows.callWith_type1 (thn (ha.run pos pins s σ H _ I h) fun us s1 ⟨vs, H1, I1, r1, q1⟩ => ?_) hs hpl))
  obtain ⟨a, b, xs, ys, rfl, qx, qy, q⟩ := q1
  cases r1 with
  | cons r rr =>
    cases rr with
    | cons r2 rr =>
      cases rr
      cases r
      cases r2
      obtain ⟨us, rv, pa, _⟩ := I1.tuple qx
      obtain ⟨ws, rw_, pb, _⟩ := I1.list qy
      have tb : s1.heap.IsList b ws.toArray := pb.isList
      have ta : s1.heap.IsTuple a us.toArray := pa
      obtain ⟨ob, hb, _⟩ := id ta
      refine tz_call ta tb fun h' m k => wpAny_pyIter_zip m.hz ?_
      refine ⟨s1.heap.objs.size + 4, [s1.heap.objs.size + 4, s1.heap.objs.size + 2, s1.heap.objs.size + 3, s1.heap.objs.size, s1.heap.objs.size + 1], _, _, H1, rfl, I1.kept (t' := s1.toks) k, turn_tz (PySem.W.ktu_apart s1.heap.objs.size a b (Heap.lt_size hb) pb.lt), m, fun c hc => ?_, q⟩
      have le : s1.heap.objs.size ≤ c := by
        simp only [List.mem_cons, List.not_mem_nil, or_false] at hc
        rcases hc with e | e | e | e | e <;> rw [e]
        all_goals first | exact Nat.le_add_right _ _ | exact Nat.le_refl _
      exact I1.fpOk le (I1.hok.fresh le)
end L2

/-! MR18 -/
/-! t.index(y) of a tuple of flat things, y among them. -/
namespace L2
open PySem PySem.Spec PyProof.Rows
def rTidx (K : PySem.W.Frag) : V → List V → Hp → VK → Prop := fun x xs H Q => ∃ (a : Addr) (ys : List V) (y : V) (j : Nat) (z : V), x = V.ref a ∧ xs = [y] ∧ SqT K H a ys ∧ flatV y = true ∧ ys.all flatV = true ∧ ys[j]? = some z ∧ eqV z y = true ∧
  (∀ (m : Nat) (z' : V), m < j → ys[m]? = some z' → eqV z' y = false) ∧ Q (.int (j : Nat)) H
section
variable {X : Cx}
theorem mt_tidx : MtR X "tuple.index" (rTidx X.K) := by
  intro pins s σ H x xs v us Q I rx rxs hh
  obtain ⟨a, ys, y, j, z, rfl, rfl, hq, fy, fys, hz, hzj, hno, q⟩ := hh
  cases rx
  cases rxs with
  | cons ry rt =>
    rename_i uy ut
    cases rt
    obtain ⟨its, rv, pl, _⟩ := I.tuple hq
    obtain ⟨⟨cls, dd, data, sl⟩, ho, hcl, n, hda⟩ := pl
    simp only at hcl hda
    subst hcl hda
    have sz : its.toArray.size = ys.length := by rw [List.size_toArray, ← rv.length]
    have hjs : j < its.toArray.size := by
      rw [sz]
      exact (List.getElem?_eq_some_iff.mp hz).1
    have look : ∀ (m : Nat) (hm : m < its.toArray.size), ∃ w, ys[m]? = some w ∧ eqU y its.toArray[m] = eqV w y := fun m hm => by
      have hm' : m < ys.length := sz ▸ hm
      have ew : ys[m]? = some ys[m] := List.getElem?_eq_getElem hm'
      obtain ⟨u2, hu2, ru2⟩ := rv.get ew
      refine ⟨ys[m], ew, ?_⟩
      have e1 : its.toArray[m] = u2 := by
        have := (List.getElem?_eq_some_iff.mp hu2).2
        simpa using this
      rw [e1, eqU_of ru2 (flat_at fys ew)]
    refine call_meets PySem.F.slot_tuple_index ⟨_, ho, rfl⟩ PySem.F.entry_tuple_index (PySem.F.args_tuple_index_2 _ _) (TI.tuple_indexAt a its.toArray n dd sl uy (eqU y) j hjs ?_ ?_)
      ⟨ho, fun w hw => mem_eqAt ry fy rv fys w (by simpa using hw), ⟨.int (j : Nat), H, I.tok _, ⟨_, rfl⟩, q⟩⟩
    · obtain ⟨w, ew, e2⟩ := look j hjs
      rw [hz] at ew
      cases ew
      rw [e2]
      exact hzj
    · intro m hm hmj
      obtain ⟨w, ew, e2⟩ := look m hm
      rw [e2]
      exact hno m w hmj ew
end
end L2

/-! MR19 -/
/-! A tuple made of a list, kept as the object that it is; a method of such a tuple. -/
namespace L2
open PySem PySem.Spec PyProof.Rows
/-- a tuple that is known as an object without a dict -/
def FzT (H : Hp) (r : Addr) (xs : List V) : Prop := ∃ o : Obj, o.cls = .type "tuple" ∧ o.dict = none ∧ H r = some (.frz o (.tup xs))
theorem FzT.s {H H' : Hp} {r : Addr} {xs : List V} (h : FzT H r xs) (s : Same H H') : FzT H' r xs := by
  obtain ⟨o, h1, h2, h3⟩ := h
  exact ⟨o, h1, h2, s _ _ h3⟩
theorem FzT.sq {K : PySem.W.Frag} {H : Hp} {r : Addr} {xs : List V} (h : FzT H r xs) : SqT K H r xs := by
  obtain ⟨o, h1, h2, h3⟩ := h
  exact .inl (.inr ⟨o, h3⟩)
theorem FzT.mp {H H' : Hp} {r : Addr} {xs : List V} (h : FzT H r xs) (f : ∀ o, H r = some o → H' r = some o) : FzT H' r xs := by
  obtain ⟨o, h1, h2, h3⟩ := h
  exact ⟨o, h1, h2, f _ h3⟩
theorem FzT.ne {H : Hp} {r a : Addr} {xs : List V} {u : HO} (h : FzT H r xs) (ha : H a = some u) (hu : ∀ o, u ≠ .frz o (.tup xs)) : r ≠ a := by
  obtain ⟨o, h1, h2, h3⟩ := h
  exact ne_of h3 ha (fun z => hu o z.symm)
theorem FzT.up {H : Hp} {r a : Addr} {xs : List V} {u : HO} (h : FzT H r xs) (n : r ≠ a) : FzT (upd H a u) r xs := h.mp fun o e => (upd_ne n).trans e
section
variable {X : Cx}
def rTupF (K : PySem.W.Frag) : List V → Hp → VK → Prop := fun xs H Q => ∃ p ys, xs = [V.ref p] ∧ SqL K H p ys ∧ ∀ l H', H l = none → Same H H' → FzT H' l ys → Q (.ref l) H'
theorem call_tuple_ofF : CallR X (.type "tuple") (rTupF X.K) := by
  intro pins s σ H xs us Q I r hh
  obtain ⟨p, ys, rfl, hq, q⟩ := hh
  obtain ⟨u, rfl, rx⟩ := vals1 r
  cases rx
  obtain ⟨its, rv, pl, hz⟩ := I.list hq
  have hl := rv.length
  refine call_tuple_list pl.isList (fun g kg => ?_) (by simp only [List.size_toArray] <;> omega)
  have J1 : Inv X pins σ H { s with heap := g } := I.kept (t' := s.toks) kg
  have nw : H g.objs.size = none := J1.hok.fresh (Nat.le_refl _)
  have J2 : Inv X pins σ (upd H g.objs.size (.frz { cls := .type "tuple", data := .seq its.toArray } (.tup ys))) { s with heap := g.push { cls := .type "tuple", data := .seq its.toArray } } :=
    J1.laid (t' := s.toks) (fun b o e => Heap.get?_push_of_some _ e) (Nat.le_refl _) (show ObjOk X.prog X.w _ _ _ (.frz _ (.tup ys)) from ⟨Heap.get?_push_size _ rfl, hz, its, rv, IsTup.new _ _⟩)
  refine ⟨.ref g.objs.size, _, J2, rfl, q _ _ nw (fun b o e => (upd_ne (ne_of_none e nw)).trans e) ⟨_, rfl, rfl, upd_same⟩⟩
def tBMF (r : V → List V → Hp → VK → Prop) (to : TE) (t : TA) : TE := fun σ H Q => to σ H fun x H1 => (∃ p xs, x = V.ref p ∧ FzT H1 p xs) ∧ t σ H1 fun xs H2 => r x xs H2 Q
theorem rd_bmF {r : V → List V → Hp → VK → Prop} {to : TE} {t : TA} {σ : L2.St} {H : Hp} {Q : VK} (h : to σ H fun x H1 => (∃ p xs, x = V.ref p ∧ FzT H1 p xs) ∧ t σ H1 fun xs H2 => r x xs H2 Q) : tBMF r to t σ H Q := h
variable {o e : Expr} {es : List Expr} {to : TE} {t : TA} {name : Str} {apos cpos : Pos} {id : String} {r : V → List V → Hp → VK → Prop}
theorem pe_bmF (slot : Slot "tuple" name id) (hty : typeOf (.builtin id) = pure (.type "method_descriptor")) (hm : MtR X id r) (ho : PE X o to) (ha : PA X (e :: es) t)
    (hb : attributeBase o name X.env (eval o X.env) = eval o X.env := by rfl)
    (hw : ((backTo cpos (starEach (e :: es) X.env)).all (fun z => !z.1) && (backToKw cpos (keywordEach [] X.env)).all (fun z => z.1.isSome)
      && decide ((e :: es).length + ([] : List Keyword).length + (if ([] : List Keyword).isEmpty then 0 else 1) < 30)) = true := by rfl)
    (hn : (apos.endLine == cpos.line) = true := by rfl) (h1 : starEach (e :: es) X.env = (false, eval e X.env) :: starEach es X.env := by rfl) (h2 : (backTo cpos (starEach es X.env)).any (·.1) = false := by rfl) :
    PE X (.Call (.Attribute o name apos) (e :: es) [] cpos) (tBMF r to t) := by
  constructor
  intro pins s σ H Q I h
  refine wpAny_Call_method_late hb hw hn rfl (thn (ho.run pins s σ H _ I h) fun v s1 hh => ?_)
  obtain ⟨x, H1, I1, r1, ⟨p, xs, ex, ob, c1, c2, c3⟩, q1⟩ := hh
  subst ex
  cases r1
  have og := (I1.hok p _ c3).1
  refine ⟨"tuple", id, PySem.F.plainAttrs_tuple, slot, hty, ⟨ob, og, c1⟩, fun a ea => ?_, ?_⟩
  · cases ea
    exact ⟨ob, og, c2⟩
  have hA := ha.run cpos pins s1 σ H1 _ I1 q1
  rw [h1] at hA ⊢
  refine Calls.callWith_builtin (by show (false || (backTo cpos (starEach es X.env)).any (·.1)) = false; rw [h2] <;> rfl) (Calls.evalArgs_plain ?_)
  exact thn hA fun us s2 ⟨vs, H2, I2, r2, q2⟩ => hm pins s2 σ H2 (.ref p) vs (.ref p) us Q I2 rfl r2 q2
end
end L2

/-! Y1 -/
namespace Mw
open PySem L2
def aboveOf (L : List Tie) (h : Int) : List Int := (L.filter fun q => decide (q.1 = h)).map fun q => q.2.1
def belowOf (L : List Tie) (h : Int) : List Int := (L.filter fun q => decide (q.2.1 = h)).map fun q => q.1
def letsOf (L : List Tie) (i j : Int) : Option Int := (L.find? fun q => (q.1 == i && q.2.1 == j) || (q.1 == j && q.2.1 == i)).map fun q => if (q.1 == i && q.2.1 == j) = true then q.2.2.1 else q.2.2.2
def codeQ (q : Tie) : Int := q.1 * 10 + q.2.1
theorem Right.rise1 {m : Int} {L : List Tie} {a b : Int} (h : Right m L a b) {j : Nat} {q r : Tie} (hr : L[j]? = some r) (hq : L[j + 1]? = some q) : codeQ r < codeQ q := by
  obtain ⟨h1, h2, h3, _⟩ := h.parts
  have nb := tiesBad_none.mp h.ties
  have e := nb (j + 1) (by
    have := (List.getElem?_eq_some_iff.mp hq).1
    simpa using this)
  unfold badAt at e
  rw [List.getElem?_map, hq] at e
  simp only [Option.map_some, Nat.add_sub_cancel, List.getElem?_map, hr, Bool.or_eq_false_iff, Bool.and_eq_false_iff, decide_eq_false_iff_not] at e
  have e2 := e.2.resolve_left (by omega)
  have b1 := h3 q (List.mem_of_getElem? hq)
  have b2 := h3 r (List.mem_of_getElem? hr)
  obtain ⟨a1, b1', c1, d1⟩ := q
  obtain ⟨a2, b2', c2, d2⟩ := r
  simp only [TieIn] at b1 b2
  simp only [tieD, pairLe, le2] at e2
  show a2 * 10 + b2' < a1 * 10 + b1'
  split at e2
  · simp only [decide_eq_false_iff_not] at e2
    omega
  · simp only [decide_eq_false_iff_not] at e2
    omega
theorem Right.rise {m : Int} {L : List Tie} {a b : Int} (h : Right m L a b) {j : Nat} {r : Tie} (hr : L[j]? = some r) : ∀ (d : Nat) {q : Tie}, L[j + d + 1]? = some q → codeQ r < codeQ q
  | 0, q, hq => h.rise1 hr hq
  | d + 1, q, hq => by
    have hl : j + d + 1 < L.length := by
      have := (List.getElem?_eq_some_iff.mp hq).1
      omega
    have e : L[j + d + 1]? = some L[j + d + 1] := by simp [hl]
    have i1 := h.rise hr d e
    have i2 := h.rise1 e hq
    omega
theorem Right.one {m : Int} {L : List Tie} {a b : Int} (h : Right m L a b) {j k : Nat} {q r : Tie} (hr : L[j]? = some r) (hq : L[k]? = some q) (e1 : r.1 = q.1) (e2 : r.2.1 = q.2.1) : j = k := by
  have ec : codeQ r = codeQ q := by
    unfold codeQ
    rw [e1, e2]
  rcases Nat.lt_trichotomy j k with z | z | z
  · have w := h.rise hr (k - j - 1) (q := q) (by rw [show j + (k - j - 1) + 1 = k by omega]; exact hq)
    omega
  · exact z
  · have w := h.rise hq (j - k - 1) (q := r) (by rw [show k + (j - k - 1) + 1 = j by omega]; exact hr)
    omega
def keyP (a b : Int) : List Key := [.inl a, .inl b]
theorem keyP_inj {a b c d : Int} (h : keyP a b = keyP c d) : a = c ∧ b = d := by
  unfold keyP at h
  cases h
  exact ⟨rfl, rfl⟩
/-- the pairs of tied houses, both ways, in the order of the ties -/
def prsOf : List Tie → List (Int × Int)
  | [] => []
  | q :: L => (q.1, q.2.1) :: (q.2.1, q.1) :: prsOf L
theorem prsOf_app : ∀ (a b : List Tie), prsOf (a ++ b) = prsOf a ++ prsOf b
  | [], b => rfl
  | q :: a, b => by
    show (q.1, q.2.1) :: (q.2.1, q.1) :: prsOf (a ++ b) = _
    rw [prsOf_app a b]
    rfl
theorem prsOf_len : ∀ L : List Tie, (prsOf L).length = 2 * L.length
  | [] => rfl
  | q :: L => by
    show (prsOf L).length + 1 + 1 = 2 * (L.length + 1)
    rw [prsOf_len L]
    omega
theorem prsOf_mem : ∀ {L : List Tie} {x : Int × Int}, x ∈ prsOf L ↔ ∃ q ∈ L, (x = (q.1, q.2.1) ∨ x = (q.2.1, q.1))
  | [], x => by simp [prsOf]
  | q :: L, x => by
    show x ∈ (q.1, q.2.1) :: (q.2.1, q.1) :: prsOf L ↔ _
    rw [List.mem_cons, List.mem_cons, prsOf_mem (L := L)]
    constructor
    · rintro (h | h | ⟨r, hr, h⟩)
      · exact ⟨q, by simp, .inl h⟩
      · exact ⟨q, by simp, .inr h⟩
      · exact ⟨r, by simp [hr], h⟩
    · rintro ⟨r, hr, h⟩
      rcases List.mem_cons.mp hr with e | e
      · rw [e] at h
        rcases h with h | h
        · exact .inl h
        · exact .inr (.inl h)
      · exact .inr (.inr ⟨r, e, h⟩)
/-- what the dict of ways has told of the first i ties -/
def Thr (L : List Tie) (i : Nat) (kvs : List (List Key × V)) : Prop := kvs.map (·.1) = (prsOf (L.take i)).map (fun x => keyP x.1 x.2) ∧ ∀ (j : Nat) q, j < i → L[j]? = some q → valV kvs (keyP q.1 q.2.1) = some (.int q.2.2.1) ∧ valV kvs (keyP q.2.1 q.1) = some (.int q.2.2.2)
theorem Thr.len {L : List Tie} {i : Nat} {kvs : List (List Key × V)} (h : Thr L i kvs) : kvs.length ≤ 2 * i := by
  have := congrArg List.length h.1
  rw [List.length_map, List.length_map, prsOf_len, List.length_take] at this
  omega
theorem not_key {kvs : List (List Key × V)} {k : List Key} (h : k ∉ kvs.map (·.1)) : valV kvs k = none := by
  cases z : valV kvs k with
  | none => rfl
  | some v =>
    have e := valV_any k kvs
    rw [z] at e
    obtain ⟨x, hx, ex⟩ := List.any_eq_true.mp e
    exact absurd (List.mem_map.mpr ⟨x, hx, of_decide_eq_true ex⟩) h
theorem Thr.no {m : Int} {L : List Tie} {sp mo : Int} {i : Nat} {kvs : List (List Key × V)} {q : Tie} (hR : Right m L sp mo) (hq : L[i]? = some q) (h : Thr L i kvs) : valV kvs (keyP q.1 q.2.1) = none ∧ valV kvs (keyP q.2.1 q.1) = none := by
  have hin : ∀ r ∈ L, TieIn m r := hR.parts.2.2.1
  have bq := hin q (List.mem_of_getElem? hq)
  have key : ∀ x : Int × Int, (x = (q.1, q.2.1) ∨ x = (q.2.1, q.1)) → keyP x.1 x.2 ∉ kvs.map (·.1) := fun x hx hm => by
    rw [h.1] at hm
    obtain ⟨y, hy, ey⟩ := List.mem_map.mp hm
    obtain ⟨e1, e2⟩ := keyP_inj ey
    obtain ⟨r, hr, hxr⟩ := prsOf_mem.mp hy
    obtain ⟨j, hj⟩ := List.mem_iff_getElem?.mp hr
    rw [List.getElem?_take] at hj
    split at hj
    · rename_i hji
      have br := hin r (List.mem_of_getElem? hj)
      simp only [TieIn] at bq br
      have : r.1 = q.1 ∧ r.2.1 = q.2.1 := by
        rcases hx with rfl | rfl <;> rcases hxr with rfl | rfl <;> simp only at e1 e2 <;> omega
      have := hR.one hj hq this.1 this.2
      omega
    · cases hj
  exact ⟨not_key (key (q.1, q.2.1) (.inl rfl)), not_key (key (q.2.1, q.1) (.inr rfl))⟩
theorem Thr.step {m : Int} {L : List Tie} {sp mo : Int} {i : Nat} {kvs : List (List Key × V)} {q : Tie} (hR : Right m L sp mo) (hq : L[i]? = some q) (h : Thr L i kvs) :
    Thr L (i + 1) (putK (putK kvs (keyP q.1 q.2.1) (.int q.2.2.1)) (keyP q.2.1 q.1) (.int q.2.2.2)) := by
  obtain ⟨n1, n2⟩ := h.no hR hq
  have hin : ∀ r ∈ L, TieIn m r := hR.parts.2.2.1
  have bq := hin q (List.mem_of_getElem? hq)
  have ne : ¬ keyP q.2.1 q.1 = keyP q.1 q.2.1 := fun e => by
    have := keyP_inj e
    simp only [TieIn] at bq
    omega
  have n3 : valV (kvs ++ [(keyP q.1 q.2.1, V.int q.2.2.1)]) (keyP q.2.1 q.1) = none := by rw [valV_snoc _ _ _ _ n1, if_neg ne, n2]
  rw [putK_new _ n1, putK_new _ n3]
  refine ⟨?_, fun j r hj hr => ?_⟩
  · rw [List.map_append, List.map_append, h.1, List.take_add_one, hq, prsOf_app, List.map_append, List.append_assoc]
    rfl
  · rw [valV_snoc _ _ _ _ n3, valV_snoc _ _ _ _ n3, valV_snoc _ _ _ _ n1, valV_snoc _ _ _ _ n1]
    rcases Nat.lt_succ_iff_lt_or_eq.mp hj with z | z
    · obtain ⟨g1, g2⟩ := h.2 j r z hr
      have m1 : ∀ x, valV kvs x = none → ∀ v y, valV kvs y = some v → ¬ y = x := fun x hx v y hy e => by
        rw [e, hx] at hy
        cases hy
      rw [if_neg (m1 _ n2 _ _ g1), if_neg (m1 _ n1 _ _ g1), if_neg (m1 _ n2 _ _ g2), if_neg (m1 _ n1 _ _ g2)]
      exact ⟨g1, g2⟩
    · subst z
      rw [hq] at hr
      cases hr
      rw [if_neg (fun e => ne e.symm), if_pos rfl, if_pos rfl]
      exact ⟨rfl, rfl⟩
theorem Thr.lets {L : List Tie} {kvs : List (List Key × V)} (h : Thr L L.length kvs) (hlt : ∀ q ∈ L, q.1 < q.2.1) (i j : Int) : valV kvs (keyP i j) = (letsOf L i j).map V.int := by
  unfold letsOf
  cases z : L.find? fun q => (q.1 == i && q.2.1 == j) || (q.1 == j && q.2.1 == i) with
  | none =>
    refine not_key fun hm => ?_
    rw [h.1, List.take_length] at hm
    obtain ⟨y, hy, ey⟩ := List.mem_map.mp hm
    obtain ⟨e1, e2⟩ := keyP_inj ey
    obtain ⟨r, hr, hx⟩ := prsOf_mem.mp hy
    have := List.find?_eq_none.mp z r hr
    rcases hx with rfl | rfl <;> simp only at e1 e2 <;> subst e1 <;> subst e2 <;> simp at this
  | some q =>
    have hq := List.mem_of_find?_eq_some z
    have hp := List.find?_some z
    obtain ⟨k, hk⟩ := List.mem_iff_getElem?.mp hq
    obtain ⟨g1, g2⟩ := h.2 k q (List.getElem?_eq_some_iff.mp hk).1 hk
    have := hlt q hq
    simp only [Bool.or_eq_true, Bool.and_eq_true, beq_iff_eq] at hp
    rcases hp with ⟨e1, e2⟩ | ⟨e1, e2⟩
    · subst e1 e2
      rw [g1]
      simp
    · subst e1 e2
      rw [g2]
      have n : ¬ (q.1 == q.2.1 && q.2.1 == q.1) = true := by
        simp only [Bool.and_eq_true, beq_iff_eq]
        omega
      simp only [Option.map_some]
      rw [if_neg n]
/-- the houses that are tied to a house, in the order of the ties -/
def arOf (ps : List (Int × Int)) (h : Int) : List Int := (ps.filter fun x => decide (x.1 = h)).map (·.2)
theorem ar_perm {h : Int} : ∀ {L : List Tie}, (∀ q ∈ L, q.1 < q.2.1) → (arOf (prsOf L) h).Perm (belowOf L h ++ aboveOf L h)
  | [], _ => .refl _
  | q :: L, hl => by
    have hq := hl q (by simp)
    have ih := ar_perm (h := h) (L := L) fun r hr => hl r (List.mem_cons_of_mem _ hr)
    unfold arOf belowOf aboveOf at ih ⊢
    show (List.map (·.2) (List.filter (fun x => decide (x.1 = h)) ((q.1, q.2.1) :: (q.2.1, q.1) :: prsOf L))).Perm _
    by_cases c1 : q.1 = h
    · have c2 : ¬ q.2.1 = h := by omega
      rw [List.filter_cons_of_pos (by simpa using c1), List.filter_cons_of_neg (by simpa using c2), List.filter_cons_of_neg (by simpa using c2), List.filter_cons_of_pos (by simpa using c1), List.map_cons, List.map_cons]
      exact (List.Perm.cons _ ih).trans List.perm_middle.symm
    · by_cases c2 : q.2.1 = h
      · rw [List.filter_cons_of_neg (by simpa using c1), List.filter_cons_of_pos (by simpa using c2), List.filter_cons_of_pos (by simpa using c2), List.filter_cons_of_neg (by simpa using c1), List.map_cons, List.map_cons]
        exact List.Perm.cons _ ih
      · rw [List.filter_cons_of_neg (by simpa using c1), List.filter_cons_of_neg (by simpa using c2), List.filter_cons_of_neg (by simpa using c2), List.filter_cons_of_neg (by simpa using c1)]
        exact ih
theorem putK_len {kvs : List (List Key × V)} {k : List Key} {v : V} : (putK kvs k v).length ≤ kvs.length + 1 := by
  unfold putK
  split
  · rw [List.length_map]
    omega
  · rw [List.length_append]
    simp
/-- tuples stay -/
def KT (H H' : Hp) : Prop := ∀ a xs, H a = some (.tup xs) → H' a = some (.tup xs)
theorem KT.refl {H : Hp} : KT H H := fun _ _ e => e
theorem KT.trans {H H1 H2 : Hp} (x : KT H H1) (y : KT H1 H2) : KT H H2 := fun a xs e => y a xs (x a xs e)
theorem KT.same {H H' : Hp} (s : Same H H') : KT H H' := fun a xs e => s _ _ e
mutual
def plainD : PyData → Bool
  | .none | .bool _ | .int _ | .str _ => true
  | .tuple ds => plainAll ds
  | .list _ | .dict _ => false
def plainAll : List PyData → Bool
  | [] => true
  | d :: ds => plainD d && plainAll ds
end
section
variable {C p : Addr} {H H' : Hp}
mutual
theorem Tp.keepT (k : KT H H') : ∀ (d : PyData) (v : V), plainD d = true → Tp C p H d v → Tp C p H' d v
  | .none, v, _, h => by simpa only [Tp] using h
  | .bool b, v, _, h => by simpa only [Tp] using h
  | .int i, v, _, h => by simpa only [Tp] using h
  | .str s, v, _, h => by simpa only [Tp] using h
  | .list ds, v, c, _ => by simp only [plainD] at c; cases c
  | .dict _, v, c, _ => by simp only [plainD] at c; cases c
  | .tuple ds, v, c, h => by
    simp only [Tp] at h ⊢
    obtain ⟨a, xs, e, n, ha, r⟩ := h
    exact ⟨a, xs, e, n, k a _ ha, TpAll.keepT k ds xs (by simpa only [plainD] using c) r⟩
theorem TpAll.keepT (k : KT H H') : ∀ (ds : List PyData) (xs : List V), plainAll ds = true → TpAll C p H ds xs → TpAll C p H' ds xs
  | [], xs, _, h => by simpa only [TpAll] using h
  | d :: ds, xs, c, h => by
    simp only [TpAll] at h ⊢
    simp only [plainAll, Bool.and_eq_true] at c
    obtain ⟨x, r, e, h1, h2⟩ := h
    exact ⟨x, r, e, Tp.keepT k d x c.1 h1, TpAll.keepT k ds r c.2 h2⟩
end
end
theorem plain_tiesL : ∀ L : List Tie, plainAll (L.map tieD) = true
  | [] => rfl
  | q :: L => by
    show (true && plainAll (L.map tieD)) = true
    rw [plain_tiesL L]
    rfl
/-- what a web keeps beside its parts: the ways of its ties, and who is tied to whom -/
def Ways (H : Hp) (v5 v6 : V) (m : Int) (L : List Tie) (ok : Addr → Prop) : Prop := ∃ (th ar : Addr) (kvs : List (List Key × V)) (rs : List Addr), v5 = .ref th ∧ v6 = .ref ar ∧ H th = some (.dT kvs) ∧ Thr L L.length kvs ∧ H ar = some (.tup (rs.map V.ref)) ∧ rs.length = m.toNat ∧ ok th ∧ ok ar ∧
  ∀ (j : Nat) r, rs[j]? = some r → ok r ∧ ∃ ns : List Int, FzT H r (ns.map V.int) ∧ ns.Perm (belowOf L j ++ aboveOf L j) ∧ ns.Pairwise (· ≤ ·)
theorem Ways.mono {H : Hp} {v5 v6 : V} {m : Int} {L : List Tie} {ok ok' : Addr → Prop} (h : Ways H v5 v6 m L ok) (f : ∀ b, ok b → ok' b) : Ways H v5 v6 m L ok' := by
  obtain ⟨th, ar, kvs, rs, e1, e2, h1, h2, h3, h4, h5, h6, h7⟩ := h
  exact ⟨th, ar, kvs, rs, e1, e2, h1, h2, h3, h4, f _ h5, f _ h6, fun j r hj => ⟨f _ (h7 j r hj).1, (h7 j r hj).2⟩⟩
end Mw

/-! A1 -/
/-! The machine of a house, apart from any program: states, words, what is done. -/
namespace Mw
open PySem L2
inductive Wd where
  | pour (u : Int)
  | push (u h : Int)
  | yes
  | no (h : Int)
  | rise (h : Int)
deriving DecidableEq
def Wd.d : Wd → PyData
  | .pour u => .tuple [.str "pour", .int u]
  | .push u h => .tuple [.str "push", .int u, .int h]
  | .yes => .tuple [.str "yes"]
  | .no h => .tuple [.str "no", .int h]
  | .rise h => .tuple [.str "rise", .int h]
/-- right by its form -/
def Wd.Ok : Wd → Prop
  | .pour u => 0 < u ∧ u < 1000000000
  | .push u h => (0 < u ∧ u < 1000000000) ∧ 0 ≤ h ∧ h < 1000
  | .yes => True
  | .no h => 0 ≤ h ∧ h < 1000
  | .rise h => 0 ≤ h ∧ h < 1000
structure St where
  up : Bool
  ht : Int
  held : Int
  str : List Int
  bel : List Int
  snt : List Int
deriving DecidableEq
def stgS (b : Bool) : Str := if b = true then "awake" else "asleep"
def intsD (l : List Int) : PyData := .tuple (l.map PyData.int)
def St.d (s : St) : PyData := .tuple [.str (stgS s.up), .int s.ht, .int s.held, intsD s.str, intsD s.bel, intsD s.snt]
/-- what a house knows of the web: its neighbours, what ties let through to them and from them -/
structure Ev where
  nb : List Int
  out : List Int
  inn : List Int
def gi (l : List Int) (i : Nat) : Int := l.getD i 0
theorem gi_get {l : List Int} {i : Nat} (h : i < l.length) : l[i]? = some (gi l i) := by
  unfold gi
  rw [List.getD_eq_getElem?_getD, List.getElem?_eq_getElem h]
  rfl
theorem gi_of {l : List Int} {i : Nat} {v : Int} (h : l[i]? = some v) : gi l i = v := by
  unfold gi
  rw [List.getD_eq_getElem?_getD, h]
  rfl
def rooms (e : Ev) (s : St) : List Int := List.zipWith (fun a b => a - b) e.out s.str
def St.go (s : St) (i : Nat) (u : Int) : St := { s with held := s.held - u, str := s.str.set i (gi s.str i + u) }
def St.blv (s : St) (i : Nat) (h : Int) : St := { s with bel := s.bel.set i (if h > gi s.bel i then h else gi s.bel i) }
def St.snd (s : St) (i : Nat) (u : Int) : St := { s with snt := s.snt.set i u }
def wide (rs : List Int) : List Nat := (List.range rs.length).filter fun i => decide (0 < gi rs i)
def downh (rs : List Int) (s : St) : List Nat := (wide rs).filter fun i => decide (gi s.snt i = 0) && decide (gi s.bel i = s.ht - 1)
def loL : List Int → Int
  | [] => 0
  | [x] => x
  | x :: y :: l => min x (loL (y :: l))
theorem loL_mem : ∀ {l : List Int}, l ≠ [] → loL l ∈ l
  | [], h => absurd rfl h
  | [x], _ => by simp [loL]
  | x :: y :: l, _ => by
    have := loL_mem (l := y :: l) (by simp)
    show min x (loL (y :: l)) ∈ _
    rw [Int.min_def]
    split
    · simp
    · exact List.mem_cons_of_mem _ this
theorem loL_le : ∀ {l : List Int} {y : Int}, y ∈ l → loL l ≤ y
  | [], y, h => by cases h
  | [x], y, h => by
    rw [show y = x by simpa using h]
    exact Int.le_refl _
  | x :: z :: l, y, h => by
    show min x (loL (z :: l)) ≤ y
    rcases List.mem_cons.mp h with rfl | h
    · omega
    · have := loL_le (l := z :: l) h
      omega
theorem loL_eq {l : List Int} {m : Int} (h1 : m ∈ l) (h2 : ∀ y ∈ l, m ≤ y) : m = loL l := by
  have a := loL_le h1
  have b := h2 _ (loL_mem (List.ne_nil_of_mem h1))
  omega
/-- a push to a neighbour -/
def pushS (e : Ev) (s : St) (i : Nat) (u : Int) : St × List (Int × Wd) := ((s.go i u).snd i u, [(gi e.nb i, .push u s.ht)])
/-- what a house does by itself next -/
def act (e : Ev) (s : St) : Option (St × List (Int × Wd)) :=
  if s.held ≤ 0 then none else
  match downh (rooms e s) s with
  | i :: _ => some (pushS e s i (if gi (rooms e s) i < s.held then gi (rooms e s) i else s.held))
  | [] => if wide (rooms e s) = [] ∨ s.snt.any (fun u => decide (u > 0)) = true then none else
    if loL ((wide (rooms e s)).map fun i => gi s.bel i) + 1 ≤ s.ht ∨ 1000 ≤ loL ((wide (rooms e s)).map fun i => gi s.bel i) + 1 then none else
      some ({ s with ht := loL ((wide (rooms e s)).map fun i => gi s.bel i) + 1 }, e.nb.map fun b => (b, .rise (loL ((wide (rooms e s)).map fun i => gi s.bel i) + 1)))
def acts : Nat → Ev → St → St × List (Int × Wd)
  | 0, _, s => (s, [])
  | n + 1, e, s => match act e s with
    | none => (s, [])
    | some r => ((acts n e r.1).1, r.2 ++ (acts n e r.1).2)
/-- what a word of neighbour number i does, and what is answered -/
def done (s : St) (i : Nat) : Wd → St × List Wd
  | .pour u => (({ s with up := true }).go i (-u), [])
  | .push u h => if h = s.ht + 1 then ((s.blv i h).go i (-u), [.yes]) else (s.blv i h, [.no s.ht])
  | .yes => (s.snd i 0, [])
  | .no h => (((s.go i (-gi s.snt i)).snd i 0).blv i h, [])
  | .rise h => (s.blv i h, [])
/-- whether a word, right by its form, of a neighbour number i can be heard: home is the spring, the sender is the spring -/
def canB (e : Ev) (src : Bool) (s : St) (i : Nat) : Wd → Bool
  | .pour u => (src && !s.up) && decide (u ≤ gi e.inn i + gi s.str i - gi s.snt i)
  | .push u _ => decide (u ≤ gi e.inn i + gi s.str i - gi s.snt i)
  | .yes => decide (gi s.snt i > 0)
  | .no _ => decide (gi s.snt i > 0)
  | .rise _ => true
def canW (e : Ev) (home src : Bool) (s : St) (i : Nat) (w : Wd) : Bool := !(home && !s.up) && canB e src s i w
/-- fuel enough for all that a house does by itself -/
def fuel (e : Ev) : Nat := 2 * e.nb.length + 2
def heardM (e : Ev) (sp mo house : Int) (s : St) (f : Int) (w : Wd) : Option (St × List (Int × Wd)) :=
  if f ∈ e.nb ∧ canW e (decide (house = sp)) (decide (f = sp)) s (e.nb.idxOf f) w = true then
    let r := done s (e.nb.idxOf f) w
    if r.1.up = true ∧ house ≠ sp ∧ house ≠ mo then some ((acts (fuel e) e r.1).1, r.2.map (fun x => (f, x)) ++ (acts (fuel e) e r.1).2) else some (r.1, r.2.map fun x => (f, x))
  else none
theorem done_push {s : St} {i : Nat} {u h : Int} : done s i (.push u h) = if h = s.ht + 1 then ((s.blv i h).go i (-u), [.yes]) else (s.blv i h, [.no s.ht]) := rfl
/-- lengths and signs -/
structure SOk (e : Ev) (s : St) : Prop where
  lo : e.out.length = e.nb.length
  li : e.inn.length = e.nb.length
  l1 : s.str.length = e.nb.length
  l2 : s.bel.length = e.nb.length
  l3 : s.snt.length = e.nb.length
  pos : ∀ u ∈ s.snt, 0 ≤ u
theorem SOk.rl {e : Ev} {s : St} (h : SOk e s) : (rooms e s).length = e.nb.length := by
  unfold rooms
  rw [List.length_zipWith, h.lo, h.l1, Nat.min_self]
theorem rooms_gi {e : Ev} {s : St} (h : SOk e s) {i : Nat} (hi : i < e.nb.length) : gi (rooms e s) i = gi e.out i - gi s.str i := by
  refine gi_of ?_
  unfold rooms
  rw [List.getElem?_zipWith, gi_get (by rw [h.lo]; exact hi), gi_get (by rw [h.l1]; exact hi)]
theorem wide_iff {rs : List Int} {i : Nat} : i ∈ wide rs ↔ i < rs.length ∧ 0 < gi rs i := by
  unfold wide
  simp [List.mem_filter]
theorem downh_iff {rs : List Int} {s : St} {i : Nat} : i ∈ downh rs s ↔ (i < rs.length ∧ 0 < gi rs i) ∧ gi s.snt i = 0 ∧ gi s.bel i = s.ht - 1 := by
  unfold downh
  rw [List.mem_filter, wide_iff, Bool.and_eq_true, decide_eq_true_eq, decide_eq_true_eq]
theorem gi_set_same {l : List Int} {i : Nat} {v : Int} (h : i < l.length) : gi (l.set i v) i = v := gi_of (by rw [List.getElem?_set_self h])
theorem gi_set_ne {l : List Int} {i j : Nat} {v : Int} (h : i ≠ j) : gi (l.set i v) j = gi l j := by
  unfold gi
  rw [List.getD_eq_getElem?_getD, List.getD_eq_getElem?_getD, List.getElem?_set_ne h]
/-- how much is still to do: twice the neighbours to which nothing is sent, and one more where no push is due -/
def zeros (l : List Int) : Nat := l.countP fun u => decide (u = 0)
def rank (e : Ev) (s : St) : Nat := 2 * zeros s.snt + (if downh (rooms e s) s = [] then 1 else 0)
theorem zeros_le (l : List Int) : zeros l ≤ l.length := List.countP_le_length
theorem zeros_set {l : List Int} {i : Nat} {v : Int} (hi : i < l.length) (h0 : gi l i = 0) (hv : v ≠ 0) : zeros (l.set i v) + 1 = zeros l := by
  induction l generalizing i with
  | nil => simp at hi
  | cons x l ih =>
    cases i with
    | zero =>
      have hx : x = 0 := h0
      subst hx
      simp [zeros, List.countP_cons, hv]
    | succ i =>
      have := ih (i := i) (by simpa using hi) h0
      simp only [zeros, List.set_cons_succ, List.countP_cons] at this ⊢
      omega
theorem act_ok {e : Ev} {s : St} (h : SOk e s) {r : St × List (Int × Wd)} (ha : act e s = some r) : SOk e r.1 ∧ rank e r.1 < rank e s := by
  unfold act at ha
  split at ha
  · cases ha
  rename_i hh
  split at ha
  · rename_i i is hd
    have hm : i ∈ downh (rooms e s) s := by
      rw [hd]
      exact List.mem_cons_self
    obtain ⟨⟨hi, hp⟩, hs0, hb⟩ := downh_iff.mp hm
    have hin : i < e.nb.length := by rw [← h.rl]; exact hi
    have hu : 0 < (if gi (rooms e s) i < s.held then gi (rooms e s) i else s.held) := by split <;> omega
    generalize (if gi (rooms e s) i < s.held then gi (rooms e s) i else s.held) = u at ha hu
    cases ha
    refine ⟨⟨h.lo, h.li, ?_, h.l2, ?_, ?_⟩, ?_⟩
    · show (s.str.set i _).length = _
      rw [List.length_set, h.l1]
    · show (s.snt.set i _).length = _
      rw [List.length_set, h.l3]
    · intro v hv
      rcases List.mem_or_eq_of_mem_set hv with z | z
      · exact h.pos v z
      · omega
    · have z := zeros_set (v := u) (by rw [h.l3]; exact hin) hs0 (by omega)
      show 2 * zeros (s.snt.set i u) + _ < 2 * zeros s.snt + _
      rw [if_neg (show ¬ downh (rooms e s) s = [] by rw [hd]; simp)]
      split <;> omega
  · rename_i hd
    split at ha
    · cases ha
    rename_i h1
    rw [not_or] at h1
    obtain ⟨h1, h2⟩ := h1
    split at ha
    · cases ha
    rename_i h3
    cases ha
    refine ⟨⟨h.lo, h.li, h.l1, h.l2, h.l3, h.pos⟩, ?_⟩
    have hne : ((wide (rooms e s)).map fun i => gi s.bel i) ≠ [] := fun z => h1 (List.map_eq_nil_iff.mp z)
    obtain ⟨i, hi, ei⟩ := List.mem_map.mp (loL_mem hne)
    generalize loL ((wide (rooms e s)).map fun i => gi s.bel i) = m at ei h3
    show 2 * zeros s.snt + _ < 2 * zeros s.snt + _
    have hi2 := wide_iff.mp hi
    have hs : gi s.snt i = 0 := by
      have h2' : s.snt.any (fun u => decide (u > 0)) = false := by simpa using h2
      have := List.any_eq_false.mp h2' (gi s.snt i) (List.mem_of_getElem? (gi_get (by rw [h.l3, ← h.rl]; exact hi2.1)))
      have p := h.pos (gi s.snt i) (List.mem_of_getElem? (gi_get (by rw [h.l3, ← h.rl]; exact hi2.1)))
      simp at this
      omega
    rw [if_pos hd, if_neg]
    · omega
    · intro z
      have : i ∈ downh (rooms e s) { s with ht := m + 1 } := downh_iff.mpr ⟨hi2, hs, by show gi s.bel i = m + 1 - 1; omega⟩
      have z' : downh (rooms e s) { s with ht := m + 1 } = [] := z
      rw [z'] at this
      cases this
theorem rank_le {e : Ev} {s : St} (h : SOk e s) : rank e s < fuel e := by
  unfold rank fuel
  have := zeros_le s.snt
  rw [h.l3] at this
  split <;> omega
/-- more fuel does nothing more -/
theorem acts_more {e : Ev} : ∀ (n m : Nat) (s : St), SOk e s → rank e s < n → rank e s < m → acts n e s = acts m e s
  | 0, m, s, _, h, _ => absurd h (Nat.not_lt_zero _)
  | n + 1, 0, s, _, _, h => absurd h (Nat.not_lt_zero _)
  | n + 1, m + 1, s, hs, h1, h2 => by
    unfold acts
    cases ha : act e s with
    | none => rfl
    | some r =>
      obtain ⟨o, hr⟩ := act_ok hs ha
      dsimp only
      rw [acts_more n m r.1 o (by omega) (by omega)]
theorem acts_ok {e : Ev} : ∀ (n : Nat) (s : St), SOk e s → SOk e (acts n e s).1
  | 0, s, h => h
  | n + 1, s, h => by
    unfold acts
    cases ha : act e s with
    | none => exact h
    | some r => exact acts_ok n r.1 (act_ok h ha).1
theorem done_ok {e : Ev} {s : St} (h : SOk e s) (i : Nat) (w : Wd) : SOk e (done s i w).1 := by
  have pz : ∀ u ∈ s.snt.set i 0, 0 ≤ u := fun v hv => by
    rcases List.mem_or_eq_of_mem_set hv with z | z
    · exact h.pos v z
    · omega
  cases w with
  | pour u => exact ⟨h.lo, h.li, by show (s.str.set i _).length = _; rw [List.length_set, h.l1], h.l2, h.l3, h.pos⟩
  | push u k =>
    show SOk e (if k = s.ht + 1 then ((s.blv i k).go i (-u), [Wd.yes]) else (s.blv i k, [Wd.no s.ht])).1
    split
    · exact ⟨h.lo, h.li, by show (s.str.set i _).length = _; rw [List.length_set, h.l1], by show (s.bel.set i _).length = _; rw [List.length_set, h.l2], h.l3, h.pos⟩
    · exact ⟨h.lo, h.li, h.l1, by show (s.bel.set i _).length = _; rw [List.length_set, h.l2], h.l3, h.pos⟩
  | yes => exact ⟨h.lo, h.li, h.l1, h.l2, by show (s.snt.set i 0).length = _; rw [List.length_set, h.l3], pz⟩
  | no k => exact ⟨h.lo, h.li, by show (s.str.set i _).length = _; rw [List.length_set, h.l1], by show (s.bel.set i _).length = _; rw [List.length_set, h.l2], by show (s.snt.set i 0).length = _; rw [List.length_set, h.l3], pz⟩
  | rise k => exact ⟨h.lo, h.li, h.l1, by show (s.bel.set i _).length = _; rw [List.length_set, h.l2], h.l3, h.pos⟩
end Mw

/-! A2 -/
/-! Right webs: neighbours in order, what ties let through. -/
namespace Mw
open PySem L2
def nbL (L : List Tie) (h : Int) : List Int := belowOf L h ++ aboveOf L h
def capOf (L : List Tie) (i j : Int) : Int := (letsOf L i j).getD 0
def evOf (L : List Tie) (h : Int) : Ev := ⟨nbL L h, (nbL L h).map fun b => capOf L h b, (nbL L h).map fun b => capOf L b h⟩
theorem codes_rise {m : Int} {L : List Tie} {a b : Int} (h : Right m L a b) : L.Pairwise fun r q => codeQ r < codeQ q := by
  rw [List.pairwise_iff_getElem]
  intro i j hi hj hij
  have e1 : L[i]? = some L[i] := by simp [hi]
  have e2 : L[i + (j - i - 1) + 1]? = some L[j] := by
    rw [show i + (j - i - 1) + 1 = j by omega]
    simp [hj]
  exact h.rise e1 (j - i - 1) e2
theorem Right.tie {m : Int} {L : List Tie} {a b : Int} (h : Right m L a b) {q : Tie} (hq : q ∈ L) : 0 ≤ q.1 ∧ q.1 < q.2.1 ∧ q.2.1 < m ∧ m ≤ 10 ∧ (0 ≤ q.2.2.1 ∧ q.2.2.1 < 1000000) ∧ 0 ≤ q.2.2.2 ∧ q.2.2.2 < 1000000 := by
  obtain ⟨h1, h2, h3, _⟩ := h.parts
  have z := h3 q hq
  obtain ⟨a, b, c, d⟩ := q
  simp only [TieIn] at z
  show 0 ≤ a ∧ a < b ∧ b < m ∧ m ≤ 10 ∧ (0 ≤ c ∧ c < 1000000) ∧ 0 ≤ d ∧ d < 1000000
  omega
theorem below_lt {L : List Tie} {h x : Int} (hx : x ∈ belowOf L h) : ∃ q ∈ L, q.1 = x ∧ q.2.1 = h := by
  unfold belowOf at hx
  obtain ⟨q, hq, e⟩ := List.mem_map.mp hx
  rw [List.mem_filter, decide_eq_true_eq] at hq
  exact ⟨q, hq.1, e, hq.2⟩
theorem above_lt {L : List Tie} {h x : Int} (hx : x ∈ aboveOf L h) : ∃ q ∈ L, q.1 = h ∧ q.2.1 = x := by
  unfold aboveOf at hx
  obtain ⟨q, hq, e⟩ := List.mem_map.mp hx
  rw [List.mem_filter, decide_eq_true_eq] at hq
  exact ⟨q, hq.1, hq.2, e⟩
theorem nb_sorted {m : Int} {L : List Tie} {a b : Int} (R : Right m L a b) (h : Int) : (nbL L h).Pairwise (· < ·) := by
  unfold nbL
  rw [List.pairwise_append]
  have c := codes_rise R
  refine ⟨?_, ?_, fun x hx y hy => ?_⟩
  · unfold belowOf
    rw [List.pairwise_map]
    have c2 := c.filter (fun q => decide (q.2.1 = h))
    refine (List.Pairwise.and_mem.mp c2).imp ?_
    rintro q r ⟨hq, hr, z⟩
    rw [List.mem_filter, decide_eq_true_eq] at hq hr
    unfold codeQ at z
    omega
  · unfold aboveOf
    rw [List.pairwise_map]
    have c2 := c.filter (fun q => decide (q.1 = h))
    refine (List.Pairwise.and_mem.mp c2).imp ?_
    rintro q r ⟨hq, hr, z⟩
    rw [List.mem_filter, decide_eq_true_eq] at hq hr
    unfold codeQ at z
    omega
  · obtain ⟨q, hq, e1, e2⟩ := below_lt hx
    obtain ⟨r, hr, e3, e4⟩ := above_lt hy
    have := (R.tie hq).2.1
    have := (R.tie hr).2.1
    omega
theorem nb_nodup {m : Int} {L : List Tie} {a b : Int} (R : Right m L a b) (h : Int) : (nbL L h).Nodup := (nb_sorted R h).imp fun z => by omega
theorem nb_eq {m : Int} {L : List Tie} {a b : Int} (R : Right m L a b) {h : Int} {ns : List Int} (hp : ns.Perm (belowOf L h ++ aboveOf L h)) (hs : ns.Pairwise (· ≤ ·)) : ns = nbL L h :=
  hp.eq_of_pairwise (fun a b _ _ z1 z2 => Int.le_antisymm z1 z2) hs ((nb_sorted R h).imp fun z => by omega)
theorem nb_iff {L : List Tie} {h x : Int} : x ∈ nbL L h ↔ ∃ q ∈ L, (q.1 = x ∧ q.2.1 = h) ∨ (q.1 = h ∧ q.2.1 = x) := by
  unfold nbL
  rw [List.mem_append]
  constructor
  · rintro (z | z)
    · obtain ⟨q, hq, e⟩ := below_lt z
      exact ⟨q, hq, .inl e⟩
    · obtain ⟨q, hq, e⟩ := above_lt z
      exact ⟨q, hq, .inr e⟩
  · rintro ⟨q, hq, ⟨e1, e2⟩ | ⟨e1, e2⟩⟩
    · left
      unfold belowOf
      exact List.mem_map.mpr ⟨q, List.mem_filter.mpr ⟨hq, decide_eq_true e2⟩, e1⟩
    · right
      unfold aboveOf
      exact List.mem_map.mpr ⟨q, List.mem_filter.mpr ⟨hq, decide_eq_true e1⟩, e2⟩
theorem nb_symm {L : List Tie} {h x : Int} : x ∈ nbL L h ↔ h ∈ nbL L x := by
  rw [nb_iff, nb_iff]
  constructor <;> rintro ⟨q, hq, z | z⟩
  · exact ⟨q, hq, .inr z⟩
  · exact ⟨q, hq, .inl z⟩
  · exact ⟨q, hq, .inr z⟩
  · exact ⟨q, hq, .inl z⟩
theorem nb_in {m : Int} {L : List Tie} {a b : Int} (R : Right m L a b) {h x : Int} (hx : x ∈ nbL L h) : 0 ≤ x ∧ x < m ∧ 0 ≤ h ∧ h < m ∧ x ≠ h := by
  obtain ⟨q, hq, z⟩ := nb_iff.mp hx
  have := R.tie hq
  rcases z with ⟨e1, e2⟩ | ⟨e1, e2⟩ <;> omega
theorem lets_some {L : List Tie} {h x : Int} (hx : x ∈ nbL L h) : letsOf L h x = some (capOf L h x) := by
  obtain ⟨q, hq, z⟩ := nb_iff.mp hx
  unfold capOf
  cases e : letsOf L h x with
  | some v => rfl
  | none =>
    unfold letsOf at e
    rw [Option.map_eq_none_iff, List.find?_eq_none] at e
    have := e q hq
    rcases z with ⟨e1, e2⟩ | ⟨e1, e2⟩ <;> simp [e1, e2] at this
theorem lets_none {L : List Tie} {h x : Int} (hx : x ∉ nbL L h) : letsOf L h x = none := by
  unfold letsOf
  rw [Option.map_eq_none_iff, List.find?_eq_none]
  intro q hq z
  refine hx (nb_iff.mpr ⟨q, hq, ?_⟩)
  simp only [Bool.or_eq_true, Bool.and_eq_true, beq_iff_eq] at z
  rcases z with z | z
  · exact .inr ⟨z.1, z.2⟩
  · exact .inl ⟨z.1, z.2⟩
theorem cap_in {m : Int} {L : List Tie} {a b : Int} (R : Right m L a b) (h x : Int) : 0 ≤ capOf L h x ∧ capOf L h x < 1000000 := by
  unfold capOf letsOf
  cases e : L.find? (fun q => (q.1 == h && q.2.1 == x) || (q.1 == x && q.2.1 == h)) with
  | none =>
    show (0 : Int) ≤ 0 ∧ (0 : Int) < 1000000
    decide
  | some q =>
    have := R.tie (List.mem_of_find?_eq_some e)
    simp only [Option.map_some, Option.getD_some]
    split
    · exact this.2.2.2.2.1
    · exact this.2.2.2.2.2
theorem rise_len {hi : Int} : ∀ {l : List Int} {lo : Int}, l.Pairwise (· < ·) → (∀ x ∈ l, lo ≤ x ∧ x < hi) → (l.length : Int) ≤ hi - lo ∨ l = []
  | [], _, _, _ => .inr rfl
  | x :: l, lo, h, hb => by
    left
    have hx := hb x (by simp)
    have hp := List.pairwise_cons.mp h
    rcases rise_len (lo := x + 1) hp.2 (fun y hy => ⟨by have := hp.1 y hy; omega, (hb y (List.mem_cons_of_mem _ hy)).2⟩) with z | z
    · rw [List.length_cons]
      omega
    · rw [z]
      simp
      omega
theorem nb_len {m : Int} {L : List Tie} {a b : Int} (R : Right m L a b) (h : Int) : (nbL L h).length ≤ 10 := by
  have hm : m ≤ 10 := R.parts.2.1
  rcases rise_len (lo := 0) (hi := m) (nb_sorted R h) (fun x hx => by
    have := nb_in R hx
    omega) with z | z
  · omega
  · rw [z]
    simp
end Mw

/-! Y2 -/
namespace Mw
open PySem L2
def spThrough (C : Addr) : Sp := fun vs H Q _ => ∃ p m L sp mo v2, vs = [v2] ∧ Tp C p H (.tuple (L.map tieD)) v2 ∧ Right m L sp mo ∧ ∀ r kvs H', Same H H' → H r = none → H' r = some (.dT kvs) → Thr L L.length kvs → Q (.ref r) H'
def spAround : Sp := fun vs H Q _ => ∃ (th : Addr) (h : Int) (kvs : List (List Key × V)) (L : List Tie), vs = [.ref th, .int h] ∧ H th = some (.dT kvs) ∧ Thr L L.length kvs ∧ L.length ≤ 100 ∧ (∀ q ∈ L, q.1 < q.2.1) ∧
  ∀ (r : Addr) (ns : List Int) (H' : Hp), Same H H' → H r = none → FzT H' r (ns.map V.int) → ns.Perm (belowOf L h ++ aboveOf L h) → ns.Pairwise (· ≤ ·) → Q (.ref r) H'
theorem rd_dput {td ty tv : TE} {D : Ends} {σ : L2.St} {H : Hp} (h : tv σ H fun v H1 => td σ H1 fun x H2 => ty σ H2 fun y H3 => ∃ a H4, x = V.ref a ∧ DPut H3 a y v H4 ∧ D.nx σ H4) : sDPut td ty tv D σ H := h
theorem rd_dget {td ty : TE} {σ : L2.St} {H : Hp} {Q : VK} (h : td σ H fun x H1 => ty σ H1 fun y H2 => ∃ a v, x = V.ref a ∧ DGet H2 a y (some v) ∧ Q v H2) : tDGet td ty σ H Q := h
theorem rd_dnotin {td ty : TE} {σ : L2.St} {H : Hp} {Q : VK} (h : ty σ H fun y H1 => td σ H1 fun x H2 => ∃ a o, x = .ref a ∧ DGet H2 a y o ∧ Q (.bl (!o.isSome)) H2) : tDNotIn ty td σ H Q := h
theorem rd_din {td ty : TE} {σ : L2.St} {H : Hp} {Q : VK} (h : ty σ H fun y H1 => td σ H1 fun x H2 => ∃ a o, x = .ref a ∧ DGet H2 a y o ∧ Q (.bl o.isSome) H2) : tDIn ty td σ H Q := h
theorem ties_get {C p : Addr} {H : Hp} {L : List Tie} {xs : List V} (hx : TpAll C p H (L.map tieD) xs) {i : Nat} {y : V} (hi : xs[i]? = some y) : ∃ q ci, L[i]? = some q ∧ y = .ref ci ∧ At p H ci (.tup [.int q.1, .int q.2.1, .int q.2.2.1, .int q.2.2.2]) := by
  obtain ⟨d, hd, td⟩ := hx.get' hi
  rw [List.getElem?_map] at hd
  cases e : L[i]? with
  | none =>
    rw [e] at hd
    cases hd
  | some q =>
    rw [e] at hd
    obtain rfl : tieD q = d := Option.some.inj hd
    obtain ⟨c, ys, rfl, hc, hy⟩ := tp_tup' td
    obtain ⟨x1, x2, x3, x4, rfl, f1, f2, f3, f4⟩ := tpAll4 hy
    cases tp_int' f1
    cases tp_int' f2
    cases tp_int' f3
    cases tp_int' f4
    exact ⟨q, c, rfl, rfl, hc⟩
theorem take_snoc {α : Type} {L : List α} {i : Nat} {q : α} (h : L[i]? = some q) : L.take (i + 1) = L.take i ++ [q] := by
  rw [List.take_add_one, h]
  rfl
section
variable {P : Program} {w : World} {K : PySem.W.Frag} {mg : Str → Option Value} {base : Heap}
local macro_rules | `(tactic| walk_at "rd") => `(tactic| (repeat (first
  | ((with_reducible refine' rd_var ?h0 ?_); (case h0 => rfl))
  | with_reducible refine rd_c ?_
  | with_reducible refine rd_op ?_
  | with_reducible refine rd_nil ?_
  | with_reducible refine rd_cons ?_
  | with_reducible refine rd_tup ?_
  | with_reducible refine rd_lst ?_
  | with_reducible refine rd_ifs ?_
  | with_reducible refine rd_seq ?_
  | with_reducible refine rd_next ?_
  | with_reducible refine rd_ret ?_
  | with_reducible refine rd_asg ?_
  | ((with_reducible refine' rd_gset ?hs ?_); (case hs => ((simp only [L2.start, List.map_cons, List.map_nil, List.length_cons, List.length_nil, List.cons_append, List.nil_append, List.set_cons_zero, List.set_cons_succ, Nat.reduceAdd, Nat.reduceSub, Nat.zero_add, List.reduceReplicate]); rfl)))
  | with_reducible refine rd_drop ?_
  | with_reducible refine rd_test ?_
  | with_reducible refine rd_B ?_
  | with_reducible refine rd_bl ?_
  | with_reducible refine rd_blP ?_
  | with_reducible refine rd_andV ?_
  | with_reducible refine rd_orV ?_
  | with_reducible refine rd_notV ?_
  | with_reducible refine rd_and ?_
  | with_reducible refine rd_or ?_
  | with_reducible refine rd_not ?_
  | with_reducible refine rd_chain ?_
  | with_reducible refine rd_dput ?_
  | with_reducible refine rd_dget ?_
  | with_reducible refine rd_cb ?_
  | with_reducible refine rd_call ?_
  | with_reducible refine rd_un ?_
  | with_reducible refine rd_sl ?_
  | with_reducible refine rd_nopart ?_
  | with_reducible refine rd_part ?_
  | with_reducible refine rd_intP ?_
  | with_reducible refine rd_rU ?_
  | with_reducible refine rd_fld ?_
  | with_reducible refine rd_eqI ?_
  | with_reducible refine rd_neI ?_
  | with_reducible refine rd_mko ?_
  | with_reducible refine rd_bm ?_
  | with_reducible refine rd_gsub ?_
  | with_reducible refine rd_i0 ?_)))
theorem ok_through (T : Tx K mg) (B : Bk K mg T) : FnOk P w K mg base CX0 1 B.through.f B.through.fd ["ties"] (spThrough T.c_Web) := by
  refine B.through.F.ok sc_through (fun vs H Q E h => ?_) (fun cdv A outer s H vs Q E hr h => ?_)
  · obtain ⟨p, m, L, sp, mo, v2, rfl, _⟩ := h
    rfl
  · obtain ⟨p, m, L, sp, mo, v2, rfl, t2, hR, k⟩ := h
    refine ⟨_, (pss_cons (ps_set (i := 1) sc_through.nd rfl (Or.inl rfl) pe_dnewT)
      (pss_cons (ps_for PassesOwn.never rfl (pi_tup (pv 0)) (pg_tup (by rfl) (pgs_cons (pg_name (i := 2) sc_through.nd rfl (Or.inl rfl)) (pgs_cons (pg_name (i := 3) sc_through.nd rfl (Or.inl rfl)) (pgs_cons (pg_name (i := 4) sc_through.nd rfl (Or.inl rfl)) (pgs_cons (pg_name (i := 5) sc_through.nd rfl (Or.inl rfl)) pgs_nil))))) (pss_cons (ps_dput (hu_of hr) (pv 1) (pe_tup (pa_cons (pv 2) (pa_cons (pv 3) pa_nil))) (pv 4) rfl)
      (pss_one (ps_dput (hu_of hr) (pv 1) (pe_tup (pa_cons (pv 3) (pa_cons (pv 2) pa_nil))) (pv 5) rfl))))
      (pss_one (ps_ret (pv 1))))), ?_⟩
    have hL := hR.len
    obtain ⟨ct, xs, rfl, hct, hx⟩ := tp_tup' t2
    have hlen : xs.length = L.length := by
      have := hx.len
      simpa using this.symm
    walk_at "rd"
    intro D nD
    walk_at "rd"
    have s0 := same_new (o := .dT []) nD
    refine ⟨_, rfl, ct, rfl, ⟨xs, SqT.of (s0 _ _ hct.2)⟩, for_tup (K := K) (a := ct) (xs := xs) (fun i σ H1 => Same H H1 ∧ (∃ kvs, H1 D = some (.dT kvs) ∧ Thr L i kvs) ∧ ∃ u1 u2 u3 u4, σ = [some (.ref ct), some (.ref D), u1, u2, u3, u4])
      ⟨s0, ⟨[], upd_same, by rfl, fun j q hj => absurd hj (Nat.not_lt_zero _)⟩, _, _, _, _, rfl⟩ (fun i σ H1 _ hh => SqT.of (hh.1 _ _ hct.2)) ?_ ?_⟩
    · rintro i y σ H1 hi ⟨hs, ⟨kvs, hk, ht⟩, u1, u2, u3, u4, rfl⟩
      obtain ⟨q, ci, hq, rfl, hci⟩ := ties_get hx hi
      have hil : i < L.length := (List.getElem?_eq_some_iff.mp hq).1
      have hkl := ht.len
      refine ⟨ci, _, rfl, SqT.of (hs _ _ hci.2), rfl, _, _, rfl, _, _, rfl, _, _, rfl, _, _, rfl, rfl, ?_⟩
      walk_at "rd"
      refine rd_disp rfl fun n1 hn1 => ?_
      have hk2 : upd H1 n1 (.tup [.int q.1, .int q.2.1]) D = some (.dT kvs) := (upd_ne (ne_of_none hk hn1)).trans hk
      have s2 := hs.trans (same_new (o := .tup [.int q.1, .int q.2.1]) hn1)
      refine ⟨D, _, rfl, DPut.t (k := keyP q.1 q.2.1) hk2 upd_same (Nat.lt_of_le_of_lt (show kvs.length ≤ 300 by omega) (by decide)), ?_⟩
      have s3 : Same H (upd (upd H1 n1 (.tup [.int q.1, .int q.2.1])) D (.dT (putK kvs (keyP q.1 q.2.1) (.int q.2.2.1)))) := fun b o e => (upd_ne (ne_of_none e nD)).trans (s2 b o e)
      walk_at "rd"
      refine rd_disp rfl fun n2 hn2 => ?_
      have hk3 : upd (upd (upd H1 n1 (.tup [.int q.1, .int q.2.1])) D (.dT (putK kvs (keyP q.1 q.2.1) (.int q.2.2.1)))) n2 (.tup [.int q.2.1, .int q.1]) D = some (.dT (putK kvs (keyP q.1 q.2.1) (.int q.2.2.1))) := (upd_ne (ne_of_none upd_same hn2)).trans upd_same
      have s4 := s3.trans (same_new (o := .tup [.int q.2.1, .int q.1]) hn2)
      refine ⟨D, _, rfl, DPut.t (k := keyP q.2.1 q.1) hk3 upd_same (Nat.lt_of_le_of_lt (show (putK kvs (keyP q.1 q.2.1) (V.int q.2.2.1)).length ≤ 300 by have := putK_len (kvs := kvs) (k := keyP q.1 q.2.1) (v := .int q.2.2.1); omega) (by decide)), ?_⟩
      exact ⟨fun b o e => (upd_ne (ne_of_none e nD)).trans (s4 b o e), ⟨_, upd_same, ht.step hR hq⟩, _, _, _, _, rfl⟩
    · rintro σ H1 ⟨hs, ⟨kvs, hk, ht⟩, u1, u2, u3, u4, rfl⟩
      walk_at "rd"
      rw [hlen] at ht
      exact k D kvs H1 hs nD hk ht
theorem ok_around (T : Tx K mg) (B : Bk K mg T) : FnOk P w K mg base CX0 1 B.around.f B.around.fd ["through", "house"] spAround := by
  refine B.around.F.ok sc_around (fun vs H Q E h => ?_) (fun cdv A outer s H vs Q E hr h => ?_)
  · obtain ⟨th, h, kvs, L, rfl, _⟩ := h
    rfl
  · obtain ⟨th, h, kvs, L, rfl, hth, hT, hL, hlt, q⟩ := h
    refine ⟨_, (pss_one (ps_ret (pe_callTy call_tuple_ofF (by rfl) T.b_tuple (by decide +kernel) (pa_cons (pe_callB cr_sortedI (by rfl) T.b_sorted (by decide +kernel) (pa_cons (pe_lock (pe_lc (own := [("one", 2), ("other", 3)]) (g := (gTup K 2 (gCons (gName 2) (gCons (gName 3) gNil)))) rfl sc_around.nd (pi_keys (pv 0)) (blkOk_by (own := [("one", 2), ("other", 3)]) (N := ["through", "house", "one", "other"]) (sc := defScope s_around) (by decide +kernel)) (fun _ _ _ _ _ => (pg_tup (by rfl) (pgs_cons (pg_name (i := 2) sc_around.nd rfl (Or.inl rfl)) (pgs_cons (pg_name (i := 3) sc_around.nd rfl (Or.inl rfl)) pgs_nil)))) (fun _ _ _ _ _ => (pts_one (pt_cmpR op_eq (pv 2) (pv 1) (nomark _)))) (fun _ _ _ _ _ => (pv 3)))) pa_nil)) pa_nil)))), ?_⟩
    walk_at "rd"
    refine ⟨th, _, hth, trivial, fun od => ?_⟩
    have hkl := hT.len
    refine ⟨_, rfl, th, od, rfl, .inr ⟨kvs, upd_same, fun D nD => lc_it walk_keysT
      (fun i H1 => Same (upd H th (.frz od (.dT kvs))) H1 ∧ H1 D = some (.lst ((arOf ((prsOf L).take i) h).map V.int))) ⟨same_new nD, upd_same⟩ (fun i H1 _ hh => hh.1 _ _ upd_same) ?_ ?_⟩⟩
    · rintro i x H1 H2 hi ⟨hs, hacc⟩ ⟨rfl, k, v, t, hk, rfl, ht⟩
      have hkk : (kvs.map (·.1))[i]? = some k := by rw [List.getElem?_map, hk]; rfl
      rw [hT.1, List.take_length, List.getElem?_map] at hkk
      cases ex : (prsOf L)[i]? with
      | none =>
        rw [ex] at hkk
        cases hkk
      | some x =>
        rw [ex] at hkk
        obtain rfl : keyP x.1 x.2 = k := Option.some.inj hkk
        have ht2 : H2 t = some (.tup [.int x.1, .int x.2]) := ht
        refine ⟨t, _, rfl, SqT.of ht2, rfl, _, _, rfl, _, _, rfl, rfl, ?_⟩
        refine ⟨rfl, ?_⟩
        walk_at "rd"
        have es : arOf ((prsOf L).take (i + 1)) h = arOf ((prsOf L).take i) h ++ (if x.1 = h then [x.2] else []) := by
          rw [take_snoc ex]
          unfold arOf
          rw [List.filter_append, List.map_append]
          congr 1
          by_cases c : x.1 = h
          · rw [List.filter_cons_of_pos (by simpa using c), if_pos c]
            rfl
          · rw [List.filter_cons_of_neg (by simpa using c), if_neg c]
            rfl
        refine rd_ite (fun h1 => ?_) (fun h1 => ?_)
        · have h1' : x.1 = h := of_decide_eq_true h1
          walk_at "rd"
          refine ⟨_, hacc, ?_, fun b o e => ?_, ?_⟩
          · refine Nat.lt_of_le_of_lt (?_ : _ ≤ 300) (by decide)
            rw [List.length_map]
            unfold arOf
            rw [List.length_map]
            have := List.length_filter_le (fun y : Int × Int => decide (y.1 = h)) ((prsOf L).take i)
            have := List.length_take_le' i (prsOf L)
            have := prsOf_len L
            omega
          · rw [upd_ne (ne_of_none e nD)]
            exact hs b o e
          · rw [upd_same, es, if_pos h1', List.map_append]
            rfl
        · have h1' : ¬ x.1 = h := of_decide_eq_false h1
          refine ⟨hs, ?_⟩
          rw [es, if_neg h1', List.append_nil]
          exact hacc
    · rintro H1 ⟨hs, hacc⟩
      refine ⟨hs _ _ upd_same, ?_⟩
      have hkn : kvs.length = (prsOf L).length := by
        have := congrArg List.length hT.1
        rw [List.length_map, List.length_map, List.take_length] at this
        exact this
      rw [hkn, List.take_length] at hacc
      have nDt : D ≠ th := fun z => by
        rw [z, upd_same] at nD
        cases nD
      have sG : Same H (upd H1 th (.dT kvs)) := fun b o e => by
        by_cases c : b = th
        · rw [c, upd_same, ← hth, ← c, e]
        · rw [upd_ne c]
          exact hs _ _ ((upd_ne c).trans e)
      have hD' : (upd H1 th (.dT kvs)) D = some (.lst ((arOf (prsOf L) h).map V.int)) := (upd_ne nDt).trans hacc
      generalize upd H1 th (.dT kvs) = G at *
      walk_at "rd"
      refine ⟨D, _, rfl, SqL.of hD', fun ns' l hpm hpw nl => ?_⟩
      walk_at "rd"
      refine ⟨l, _, rfl, SqL.of upd_same, fun t H9 nt s9 ht => ?_⟩
      have s2 := sG.trans (same_new (o := .lst (ns'.map V.int)) nl)
      exact q t ns' _ (s2.trans s9) (s2.free nt) ht (hpm.trans (ar_perm hlt)) hpw
end
end Mw

/-! Y3 -/
namespace Mw
open PySem L2
theorem rd_rng1 {ta : TA} {σ : L2.St} {H : Hp} {R : It → Hp → Prop} (h : ta σ H fun vs H1 => ∃ j : Int, vs = [.int j] ∧ -(2 ^ 62) ≤ j ∧ j < 2 ^ 62 ∧ R (Itr 0 j.toNat) H1) : iRng1 ta σ H R := h
theorem rd_sfld {K : PySem.W.Frag} {ta tv : TE} {f : Str} {D : Ends} {σ : L2.St} {H : Hp} (h : tv σ H fun y H1 => ta σ H1 fun x H2 => ∃ a C dx fs, x = .ref a ∧ H2 a = some (.ins C dx fs) ∧ Cls K C ∧ NoAttr K C f ∧ fs.length < 1000 ∧ D.nx σ (upd H2 a (.ins C dx (putF f y fs)))) : sFld K ta tv f D σ H := h
theorem rd_tyesI {σ : L2.St} {H : Hp} {Q : Bool → Hp → Prop} (q : Q true H) : tYes σ H Q := q
theorem ties_inj : ∀ {A B : List Tie}, A.map tieD = B.map tieD → A = B
  | [], [], _ => rfl
  | [], b :: B, h => by cases h
  | a :: A, [], h => by cases h
  | (a1, a2, a3, a4) :: A, (b1, b2, b3, b4) :: B, h => by
    simp only [List.map_cons, List.cons.injEq, tieD, PyData.tuple.injEq, PyData.int.injEq, and_true] at h
    obtain ⟨⟨h1, h2, h3, h4⟩, h5⟩ := h
    rw [h1, h2, h3, h4, ties_inj h5]
def spWebInit (C CB : Addr) : Sp := fun vs H Q E => ∃ p a dx v1 v2 v3 v4 s t sp mo, vs = [.ref a, v1, v2, v3, v4] ∧ H a = some (.ins C dx []) ∧ Tp C p H s v1 ∧ Tp C p H t v2 ∧ Tp C p H sp v3 ∧ Tp C p H mo v4 ∧
  (webBad s t sp mo = none → ∀ H' dx' v5 v6, H' a = some (.ins C dx' (wf v1 v2 v3 v4 v5 v6)) → (∀ b o, b ≠ a → H b = some o → H' b = some o) → (∀ m L, s = .int m → t = .tuple (L.map tieD) → Ways H' v5 v6 m L (fun b => H b = none)) → Q .non H') ∧ (∀ part, webBad s t sp mo = some part → Raised CB part H E)
section
variable {P : Program} {w : World} {K : PySem.W.Frag} {mg : Str → Option Value} {base : Heap}
local macro_rules | `(tactic| walk_at "rd") => `(tactic| (repeat (first
  | ((with_reducible refine' rd_var ?h0 ?_); (case h0 => rfl))
  | with_reducible refine rd_c ?_
  | with_reducible refine rd_op ?_
  | with_reducible refine rd_nil ?_
  | with_reducible refine rd_cons ?_
  | with_reducible refine rd_tup ?_
  | with_reducible refine rd_lst ?_
  | with_reducible refine rd_ifs ?_
  | with_reducible refine rd_seq ?_
  | with_reducible refine rd_next ?_
  | with_reducible refine rd_ret ?_
  | with_reducible refine rd_asg ?_
  | with_reducible refine rd_gname ?_
  | with_reducible refine rd_drop ?_
  | with_reducible refine rd_test ?_
  | with_reducible refine rd_B ?_
  | with_reducible refine rd_bl ?_
  | with_reducible refine rd_blP ?_
  | with_reducible refine rd_andV ?_
  | with_reducible refine rd_orV ?_
  | with_reducible refine rd_notV ?_
  | with_reducible refine rd_and ?_
  | with_reducible refine rd_or ?_
  | with_reducible refine rd_not ?_
  | with_reducible refine rd_cb ?_
  | with_reducible refine rd_call ?_
  | with_reducible refine rd_un ?_
  | with_reducible refine rd_sl ?_
  | with_reducible refine rd_nopart ?_
  | with_reducible refine rd_part ?_
  | with_reducible refine rd_intP ?_
  | with_reducible refine rd_rU ?_
  | with_reducible refine rd_fld ?_
  | with_reducible refine rd_eqI ?_
  | with_reducible refine rd_neI ?_
  | with_reducible refine rd_mko ?_
  | with_reducible refine rd_i0 ?_)))
theorem ok_Web_init (T : Tx K mg) (B : Bk K mg T) : FnOk P w K mg base (L2.CX P w) 7 B.Web_init.f B.Web_init.fd ["self", "many", "ties", "spring", "mouth"] (spWebInit T.c_Web T.c_BadWeb) := by
  have G_is_number_below := ok_is_number_below (P := P) (w := w) (base := base) T B
  have G_check_many := ok_check_many (P := P) (w := w) (base := base) T B
  have G_check_ties := ok_check_ties (P := P) (w := w) (base := base) T B
  have G_through := ok_through (P := P) (w := w) (base := base) T B
  have G_around := ok_around (P := P) (w := w) (base := base) T B
  have G_BadWeb_init := ok_bad_init (P := P) (w := w) (base := base) T B
  refine B.Web_init.F.okX sc_Web_init (fun vs H Q E h => ?_) (fun cdv A outer s H vs Q E hr h => ?_)
  · obtain ⟨p, a, dx, v1, v2, v3, v4, s, t, sp, mo, rfl, _⟩ := h
    rfl
  · obtain ⟨p, a, dx, v1, v2, v3, v4, s, t, sp, mo, rfl, ha, t1, t2, t3, t4, q1, q0⟩ := h
    refine ⟨_, (pss_cons (ps_expr (pe_call G_check_many (hr.mono (by decide)) rfl B.check_many.m B.check_many.F.kp B.check_many.b .nil (passes_call (takes_of rfl rfl rfl rfl) (fun _ _ _ _ h => h)) (pa_cons (pv 1) pa_nil)))
      (pss_cons (ps_expr (pe_call G_check_ties (hr.mono (by decide)) rfl B.check_ties.m B.check_ties.F.kp B.check_ties.b .nil (passes_call (takes_of rfl rfl rfl rfl) (fun _ _ _ _ h => h)) (pa_cons (pv 1) (pa_cons (pv 2) pa_nil))))
      (pss_cons (ps_if (pt_not (pt_val (pe_call G_is_number_below (hr.mono (by decide)) rfl B.is_number_below.m B.is_number_below.F.kp B.is_number_below.b .nil pass0 (pa_cons (pv 1) (pa_cons (pv 3) pa_nil))))) (pss_one (ps_raise rfl (takes_of rfl rfl rfl rfl) (pmk_oex T.x_BadWeb B.BadWeb_init.a B.BadWeb_init.t G_BadWeb_init (hr.mono (by decide)) B.BadWeb_init.b .nil pass0 rfl T.g_BadWeb (pa_cons pe_str pa_nil)))) pss_nil)
      (pss_cons (ps_if (PW.pt (pw_or (pt_not (pt_val (pe_call G_is_number_below (hr.mono (by decide)) rfl B.is_number_below.m B.is_number_below.F.kp B.is_number_below.b .nil pass0 (pa_cons (pv 1) (pa_cons (pv 4) pa_nil))))) (pw_or1 (pt_cmpR op_eq (pv 4) (pv 3) (nomark _))))) (pss_one (ps_raise rfl (takes_of rfl rfl rfl rfl) (pmk_oex T.x_BadWeb B.BadWeb_init.a B.BadWeb_init.t G_BadWeb_init (hr.mono (by decide)) B.BadWeb_init.b .nil pass0 rfl T.g_BadWeb (pa_cons pe_str pa_nil)))) pss_nil)
      (pss_cons (ps_fld (pv 0) (pv 1) rfl)
      (pss_cons (ps_fld (pv 0) (pv 2) rfl)
      (pss_cons (ps_fld (pv 0) (pv 3) rfl)
      (pss_cons (ps_fld (pv 0) (pv 4) rfl)
      (pss_cons (ps_fld (pv 0) (pe_call G_through (hr.mono (by decide)) rfl B.through.m B.through.F.kp B.through.b .nil pass0 (pa_cons (pv 2) pa_nil)) rfl)
      (pss_one (ps_fld (pv 0) (pe_callTy call_tuple_of (by rfl) T.b_tuple (by decide +kernel) (pa_cons (pe_lc (own := [("house", 5)]) (g := gName 5) rfl sc_Web_init.nd (pi_range1 (by rfl) T.b_range (pa_cons (pv 1) pa_nil)) (blkOk_by (own := [("house", 5)]) (N := ["self", "many", "ties", "spring", "mouth", "house"]) (sc := defScope s_Web_init) (by decide +kernel)) (fun _ _ _ _ _ => pg_name (i := 5) sc_Web_init.nd rfl (Or.inl rfl)) (fun _ _ _ _ _ => pts_nil) (fun _ _ _ _ _ => (pe_call G_around (hr.mono (by decide)) rfl B.around.m B.around.F.kp B.around.b .nil pass0 (pa_cons (show PE _ _ (tFld K (tVar 0) "through") from pe_fld (pv 0) rfl) (pa_cons (pv 5) pa_nil))))) pa_nil)) rfl))))))))))), ?_⟩
    walk_at "rd"
    refine ⟨p, s, v1, rfl, t1, fun h1 => ?_, fun h0 => q0 _ ?_⟩
    · cases s with
      | int m =>
        cases tp_int' t1
        walk_at "rd"
        refine ⟨p, m, t, v2, rfl, t2, fun h2 H1 s1 => ?_, fun k h2 => q0 _ ?_⟩
        · have k1 : Keep p H H1 := Keep.same s1
          walk_at "rd"
          refine ⟨p, m, sp, v3, rfl, Tp.keep k1 _ _ t3, ?_⟩
          walk_at "rd"
          refine rd_ite (fun h3 => ?_) (fun h3 => ?_)
          · walk_at "rd"
            refine bad_made (Raised.mono s1 (q0 _ ?_))
            have e3 : isNb m sp = false := by simpa using h3
            unfold webBad
            simp [h1, h2, e3]
          · have e3 : isNb m sp = true := by simpa using h3
            walk_at "rd"
            refine ⟨p, m, mo, v4, rfl, Tp.keep k1 _ _ t4, ?_⟩
            walk_at "rd"
            refine rd_ite (fun h4 => ?_) (fun h4 => ?_)
            · refine rd_ite (fun _ => ?_) (fun z => by cases z)
              walk_at "rd"
              refine bad_made (Raised.mono s1 (q0 _ ?_))
              have e4 : isNb m mo = false := by simpa using h4
              unfold webBad
              simp [h1, h2, e3, e4]
            · have e4 : isNb m mo = true := by simpa using h4
              cases mo with
              | int mi =>
                cases sp with
                | int si =>
                  cases tp_int' t4
                  cases tp_int' t3
                  walk_at "rd"
                  refine rd_ite (fun h5 => ?_) (fun h5 => ?_)
                  · walk_at "rd"
                    refine bad_made (Raised.mono s1 (q0 _ ?_))
                    have e5 : sameI (.int mi) (.int si) = true := h5
                    unfold webBad
                    simp [h1, h2, e3, e4, e5]
                  · have e5 : sameI (.int mi) (.int si) = false := h5
                    walk_at "rd"
                    refine ⟨_, rfl, .ref a, rfl, a, T.c_Web, dx, [], rfl, s1 _ _ ha, T.W.cl, T.na_many, (by show 0 < 1000; decide), ?_⟩
                    refine ⟨_, rfl, .ref a, rfl, a, T.c_Web, dx, _, rfl, upd_same, T.W.cl, T.na_ties, (by show 1 < 1000; decide), ?_⟩
                    refine ⟨_, rfl, .ref a, rfl, a, T.c_Web, dx, _, rfl, upd_same, T.W.cl, T.na_spring, putF_2 _ _ _ _, ?_⟩
                    refine ⟨_, rfl, .ref a, rfl, a, T.c_Web, dx, _, rfl, upd_same, T.W.cl, T.na_mouth, putF_3 _ _ _ _ _ _, ?_⟩
                    have hbad : webBad (.int m) t (.int si) (.int mi) = none := by
                      unfold webBad
                      simp [h1, h2, e3, e4, e5]
                    obtain ⟨m', L, a', b', em, rfl, ea, eb, hR, hm2, hm10, hin, _⟩ := webBad_none hbad
                    cases em
                    cases ea
                    cases eb
                    rw [wf_put]
                    have hX : ∀ b o, b ≠ a → H1 b = some o → (upd (upd (upd (upd H1 a (.ins T.c_Web dx (putF "many" (V.int m) []))) a (.ins T.c_Web dx (putF "ties" v2 (putF "many" (V.int m) [])))) a (.ins T.c_Web dx (putF "spring" (V.int si) (putF "ties" v2 (putF "many" (V.int m) []))))) a (.ins T.c_Web dx (wf4 (.int m) v2 (.int si) (.int mi)))) b = some o := fun b o n e => by
                      rw [upd_ne n, upd_ne n, upd_ne n, upd_ne n]
                      exact e
                    have hXa := upd_same (H := upd (upd (upd H1 a (.ins T.c_Web dx (putF "many" (V.int m) []))) a (.ins T.c_Web dx (putF "ties" v2 (putF "many" (V.int m) [])))) a (.ins T.c_Web dx (putF "spring" (V.int si) (putF "ties" v2 (putF "many" (V.int m) []))))) (a := a) (o := .ins T.c_Web dx (wf4 (.int m) v2 (.int si) (.int mi)))
                    generalize upd (upd (upd (upd H1 a (.ins T.c_Web dx (putF "many" (V.int m) []))) a (.ins T.c_Web dx (putF "ties" v2 (putF "many" (V.int m) [])))) a (.ins T.c_Web dx (putF "spring" (V.int si) (putF "ties" v2 (putF "many" (V.int m) []))))) a (.ins T.c_Web dx (wf4 (.int m) v2 (.int si) (.int mi))) = X at *
                    have ktX : KT H X := fun b ys e => hX b _ (fun z => by
                      rw [z, ha] at e
                      cases e) (s1 _ _ e)
                    have tX : Tp T.c_Web p X (.tuple (L.map tieD)) v2 := Tp.keepT ktX _ _ (plain_tiesL L) t2
                    dsimp only
                    walk_at "rd"
                    refine rd_sfld ?_
                    walk_at "rd"
                    refine ⟨p, m, L, si, mi, v2, rfl, tX, hR, fun th kvs H5 s5 nth hth hT => ?_⟩
                    walk_at "rd"
                    refine ⟨a, T.c_Web, dx, _, rfl, s5 _ _ hXa, T.W.cl, T.na_through, (by show 4 < 1000; decide), ?_⟩
                    rw [wf_put5]
                    have nat : th ≠ a := (ne_of_none hXa nth).symm
                    have hY : ∀ b o, b ≠ a → H5 b = some o → (upd H5 a (.ins T.c_Web dx (wf5 (.int m) v2 (.int si) (.int mi) (.ref th)))) b = some o := fun b o n e => (upd_ne n).trans e
                    have hYa := upd_same (H := H5) (a := a) (o := .ins T.c_Web dx (wf5 (.int m) v2 (.int si) (.int mi) (.ref th)))
                    have hYt := hY _ _ nat hth
                    generalize upd H5 a (.ins T.c_Web dx (wf5 (.int m) v2 (.int si) (.int mi) (.ref th))) = Y at *
                    dsimp only
                    walk_at "rd"
                    refine rd_sfld ?_
                    walk_at "rd"
                    show iRng1 _ _ _ _
                    refine rd_rng1 ?_
                    walk_at "rd"
                    refine ⟨m, rfl, by omega, by omega, fun D nD => lc_range (lo := 0) (n := m.toNat) (fun i H6 => Same Y H6 ∧ ∃ rs : List Addr, H6 D = some (.lst (rs.map V.ref)) ∧ rs.length = i ∧ ∀ (j : Nat) r, rs[j]? = some r → Y r = none ∧ ∃ ns : List Int, FzT H6 r (ns.map V.int) ∧ ns.Perm (belowOf L j ++ aboveOf L j) ∧ ns.Pairwise (· ≤ ·))
                      ⟨same_new nD, [], upd_same, rfl, fun j r h => by simp at h⟩ ?_ ?_⟩
                    · rintro i H6 hi ⟨hs, rs, hacc, hl, hrs⟩
                      refine ⟨rfl, ?_⟩
                      refine rd_tyesI ?_
                      refine iteT ?_
                      walk_at "rd"
                      refine ⟨a, T.c_Web, dx, _, _, rfl, hs _ _ hYa, T.W.cl, T.na_through, wf5_through _ _ _ _ _, ?_⟩
                      walk_at "rd"
                      refine ⟨th, 0 + (i : Nat), kvs, L, rfl, hs _ _ hYt, hT, hR.len, fun q hq => (hin q hq).2.1, fun r ns H7 s7 nr hr hpm hpw => ?_⟩
                      rw [Int.zero_add] at hpm
                      have hacc7 := s7 _ _ hacc
                      refine ⟨_, hacc7, Nat.lt_of_le_of_lt (show _ ≤ 10 by rw [List.length_map]; omega) (by decide), fun b o e => ?_, rs ++ [r], ?_, by simp [hl], fun j r' hj => ?_⟩
                      · rw [upd_ne (ne_of_none e nD)]
                        exact s7 _ _ (hs b o e)
                      · rw [upd_same, List.map_append]
                        rfl
                      · by_cases c : j < i
                        · rw [List.getElem?_append_left (by omega)] at hj
                          obtain ⟨g1, ns', g2, g3, g4⟩ := hrs j r' hj
                          refine ⟨g1, ns', ?_, g3, g4⟩
                          exact (g2.s s7).up (g2.ne hacc (by intro o z; cases z))
                        · have hji : j = i := by
                            have := (List.getElem?_eq_some_iff.mp hj).1
                            rw [List.length_append] at this
                            simp at this
                            omega
                          subst hji
                          rw [List.getElem?_append_right (by omega), hl] at hj
                          simp at hj
                          subst hj
                          refine ⟨hs.free nr, ns, ?_, hpm, hpw⟩
                          exact hr.up (hr.ne hacc7 (by intro o z; cases z))
                    · rintro H6 ⟨hs, rs, hacc, hl, hrs⟩
                      walk_at "rd"
                      refine ⟨D, _, rfl, .inl ⟨SqL.of hacc, fun ar nar => ?_⟩⟩
                      have s8 := same_new (o := .tup (rs.map V.ref)) nar
                      walk_at "rd"
                      trace_state
                      refine ⟨a, T.c_Web, dx, _, rfl, s8 _ _ (hs _ _ hYa), T.W.cl, T.na_around, (by show 5 < 1000; decide), ?_⟩
                      rw [wf_put6]
                      have fr : ∀ b, Y b = none → H b = none := fun b nb => by
                        cases z : H b with
                        | none => rfl
                        | some o =>
                          exfalso
                          by_cases c : b = a
                          · rw [c, hYa] at nb
                            cases nb
                          · rw [hY b o c (s5 _ _ (hX b o c (s1 _ _ z)))] at nb
                            cases nb
                      have nara : ar ≠ a := (ne_of_none (hs _ _ hYa) nar).symm
                      refine q1 hbad _ dx _ _ upd_same (fun b o n e => ?_) (fun m' L' em eL => ?_)
                      · rw [upd_ne n]
                        exact s8 _ _ (hs _ _ (hY b o n (s5 _ _ (hX b o n (s1 _ _ e)))))
                      · cases em
                        have eLL : L' = L := ties_inj (by simpa using eL.symm)
                        subst eLL
                        have up : ∀ b o, H6 b = some o → b ≠ a → (upd (upd H6 ar (.tup (rs.map V.ref))) a (.ins T.c_Web dx (wf (.int m) v2 (.int si) (.int mi) (.ref th) (.ref ar)))) b = some o := fun b o e n => (upd_ne n).trans (s8 _ _ e)
                        have nth0 : H th = none := by
                          cases z : H th with
                          | none => rfl
                          | some o =>
                            rw [hX th o nat (s1 _ _ z)] at nth
                            cases nth
                        refine ⟨th, ar, kvs, rs, rfl, rfl, up _ _ (hs _ _ hYt) nat, hT, (upd_ne nara).trans upd_same, hl, nth0, fr _ (hs.free nar), fun j r hj => ?_⟩
                        obtain ⟨g1, ns, g2, g3, g4⟩ := hrs j r hj
                        exact ⟨fr _ g1, ns, g2.mp (fun o e => up _ _ e (g2.ne (hs _ _ hYa) (by intro o z; cases z))), g3, g4⟩
                | _ => cases e3
              | _ => cases e4
        · unfold webBad
          simp [h1, h2]
      | _ => cases h1
    · unfold webBad
      cases s <;> simp [h0]
end
end Mw

/-! M7 -/
namespace Mw
open PySem L2
section
variable {C p : Addr} {H H' : Hp} {K : PySem.W.Frag}
/-- a right web's object -/
def WebAt (C p : Addr) (H : Hp) (a : Addr) (m : Int) (L : List Tie) (sp mo : Int) : Prop := ∃ dx v2 v5 v6, At p H a (.ins C dx (wf (.int m) v2 (.int sp) (.int mo) v5 v6)) ∧ Tp C p H (.tuple (L.map tieD)) v2 ∧ Ways H v5 v6 m L (fun b => b ≠ p) ∧ ∀ q ∈ L, q.1 < q.2.1
theorem Ways.keep {v5 v6 : V} {m : Int} {L : List Tie} (k : Keep p H H') (h : Ways H v5 v6 m L (fun b => b ≠ p)) : Ways H' v5 v6 m L (fun b => b ≠ p) := by
  obtain ⟨th, ar, kvs, rs, e1, e2, h1, h2, h3, h4, h5, h6, h7⟩ := h
  refine ⟨th, ar, kvs, rs, e1, e2, k _ _ h5 h1, h2, k _ _ h6 h3, h4, h5, h6, fun j r hj => ?_⟩
  obtain ⟨g1, ns, g2, g3⟩ := h7 j r hj
  obtain ⟨o, o1, o2, o3⟩ := g2
  exact ⟨g1, ns, ⟨o, o1, o2, k _ _ g1 o3⟩, g3⟩
theorem WebAt.keep {a : Addr} {m : Int} {L : List Tie} {sp mo : Int} (k : Keep p H H') (h : WebAt C p H a m L sp mo) : WebAt C p H' a m L sp mo := by
  obtain ⟨dx, v2, v5, v6, ha, t, hwy, hlt⟩ := h
  exact ⟨dx, v2, v5, v6, ha.keep k, Tp.keep k _ _ t, hwy.keep k, hlt⟩
mutual
theorem tp_dp : ∀ (d : PyData) (v : V), d.canLay0 = true → Tp C p H d v → Dp K H v d
  | .none, v, _, h => by
    simp only [Tp] at h
    subst h
    exact .non
  | .bool b, v, _, h => by
    simp only [Tp] at h
    subst h
    exact .bl b
  | .int i, v, _, h => by
    simp only [Tp] at h
    subst h
    exact .int i
  | .str s, v, _, h => by
    simp only [Tp] at h
    subst h
    exact .str s
  | .list ds, v, c, h => by
    simp only [Tp] at h
    obtain ⟨a, xs, rfl, _, ha, r⟩ := h
    exact .lst (SqL.of ha) (tp_dpAll ds xs (by simpa only [PyData.canLay0] using c) r)
  | .tuple ds, v, c, h => by
    simp only [Tp] at h
    obtain ⟨a, xs, rfl, _, ha, r⟩ := h
    exact .tup (SqT.of ha) (tp_dpAll ds xs (by simpa only [PyData.canLay0] using c) r)
  | .dict _, v, c, _ => by simp only [PyData.canLay0] at c; cases c
theorem tp_dpAll : ∀ (ds : List PyData) (xs : List V), PyData.canLayAll0 ds = true → TpAll C p H ds xs → DpAll K H xs ds
  | [], xs, _, h => by
    simp only [TpAll] at h
    subst h
    exact .nil
  | d :: ds, xs, c, h => by
    simp only [TpAll] at h
    obtain ⟨x, r, rfl, h1, h2⟩ := h
    simp only [PyData.canLayAll0, Bool.and_eq_true] at c
    exact .cons (tp_dp d x c.1 h1) (tp_dpAll ds r c.2 h2)
end
theorem lay_ties : ∀ L : List Tie, PyData.canLayAll0 (L.map tieD) = true
  | [] => rfl
  | q :: L => by
    show (PyData.canLay0 (tieD q) && PyData.canLayAll0 (L.map tieD)) = true
    rw [lay_ties L]
    rfl
theorem depth_ties : ∀ L : List Tie, PyData.depthAll (L.map tieD) ≤ 1
  | [] => Nat.zero_le _
  | q :: L => by
    show max (PyData.depth (tieD q)) (PyData.depthAll (L.map tieD)) ≤ 1
    have h := depth_ties L
    have e : PyData.depth (tieD q) = 1 := rfl
    omega
theorem shaped_ties (L : List Tie) : SeqAt.shaped (.tuple (L.map tieD)) = true := by
  show (PyData.canLay0 (.tuple (L.map tieD)) && decide (PyData.depth (.tuple (L.map tieD)) ≤ 64)) = true
  have h := depth_ties L
  have e : PyData.depth (.tuple (L.map tieD)) = PyData.depthAll (L.map tieD) + 1 := rfl
  rw [e, show PyData.canLay0 (.tuple (L.map tieD)) = true from lay_ties L]
  simp
  omega
end
/-- whether two right webs are equal -/
def webEq (m : Int) (L : List Tie) (sp mo m' : Int) (L' : List Tie) (sp' mo' : Int) : Bool := decide (m = m') && (PyData.eqv (.tuple (L.map tieD)) (.tuple (L'.map tieD)) && (decide (sp = sp') && decide (mo = mo')))
def REq (C : Addr) (a : Addr) (y : V) (H : Hp) (r : Bool) : Prop := ∃ p m L sp mo, WebAt C p H a m L sp mo ∧ ((∃ b m' L' sp' mo', y = .ref b ∧ WebAt C p H b m' L' sp' mo' ∧ r = webEq m L sp mo m' L' sp' mo') ∨ ∃ b ys, y = .ref b ∧ H b = some (.tup ys) ∧ r = false)
def spCkHouse (C CN : Addr) : Sp := fun vs H Q E => ∃ p a m L sp mo d x, vs = [.ref a, x] ∧ WebAt C p H a m L sp mo ∧ Tp C p H d x ∧ (isNb m d = true → Q .non H) ∧ (isNb m d = false → E (.ref CN) none H)
def spNeigh (C CN : Addr) : Sp := fun vs H Q E => ∃ p a m L sp mo d x, vs = [.ref a, x] ∧ WebAt C p H a m L sp mo ∧ L.length ≤ 100 ∧ Tp C p H d x ∧ (isNb m d = false → E (.ref CN) none H) ∧
  (∀ h, d = .int h → isNb m d = true → ∀ (r : Addr) (ns : List Int) (H' : Hp), r ≠ p → Same H H' → FzT H' r (ns.map V.int) → ns.Perm (belowOf L h ++ aboveOf L h) → ns.Pairwise (· ≤ ·) → Q (.ref r) H')
def spLets (C CN CT : Addr) : Sp := fun vs H Q E => ∃ p a m L sp mo d e x y, vs = [.ref a, x, y] ∧ WebAt C p H a m L sp mo ∧ Tp C p H d x ∧ Tp C p H e y ∧ (isNb m d = false → E (.ref CN) none H) ∧ (isNb m d = true → isNb m e = false → E (.ref CN) none H) ∧
  (∀ i j, d = .int i → e = .int j → isNb m d = true → isNb m e = true → ∀ H', Same H H' → (∀ v, letsOf L i j = some v → Q (.int v) H') ∧ (letsOf L i j = none → E (.ref CT) none H'))
section
variable {P : Program} {w : World} {K : PySem.W.Frag} {mg : Str → Option Value} {base : Heap}
theorem rd_ixT {H : Hp} {Q : VK} {a : Addr} {xs : List V} {i : Int} {v : V} (h : H a = some (.tup xs)) (e : atI xs i = some v) (q : Q v H) : rIxT K (.ref a) (.int i) H Q := ⟨a, xs, i, v, rfl, rfl, SqT.of h, e, q⟩
theorem rd_ixL {H : Hp} {Q : VK} {a : Addr} {xs : List V} {i : Int} {v : V} (h : H a = some (.lst xs)) (e : atI xs i = some v) (q : Q v H) : rIxL K (.ref a) (.int i) H Q := ⟨a, xs, i, v, rfl, rfl, SqL.of h, e, q⟩
local macro_rules | `(tactic| walk_at "rd") => `(tactic| (repeat (first
  | ((with_reducible refine' rd_var ?h0 ?_); (case h0 => rfl))
  | with_reducible refine rd_c ?_
  | with_reducible refine rd_op ?_
  | with_reducible refine rd_nil ?_
  | with_reducible refine rd_cons ?_
  | with_reducible refine rd_tup ?_
  | with_reducible refine rd_lst ?_
  | with_reducible refine rd_ifs ?_
  | with_reducible refine rd_seq ?_
  | with_reducible refine rd_next ?_
  | with_reducible refine rd_ret ?_
  | with_reducible refine rd_asg ?_
  | with_reducible refine rd_gname ?_
  | with_reducible refine rd_drop ?_
  | with_reducible refine rd_test ?_
  | with_reducible refine rd_B ?_
  | with_reducible refine rd_bl ?_
  | with_reducible refine rd_blP ?_
  | with_reducible refine rd_andV ?_
  | with_reducible refine rd_orV ?_
  | with_reducible refine rd_notV ?_
  | with_reducible refine rd_and ?_
  | with_reducible refine rd_or ?_
  | with_reducible refine rd_not ?_
  | with_reducible refine rd_cb ?_
  | with_reducible refine rd_call ?_
  | with_reducible refine rd_un ?_
  | with_reducible refine rd_sl ?_
  | with_reducible refine rd_nopart ?_
  | with_reducible refine rd_part ?_
  | with_reducible refine rd_intP ?_
  | with_reducible refine rd_rU ?_
  | with_reducible refine rd_fld ?_
  | with_reducible refine rd_eqI ?_
  | with_reducible refine rd_neI ?_
  | with_reducible refine rd_mko ?_
  | with_reducible refine rd_i0 ?_)))
theorem ok_Web_eq (T : Tx K mg) (B : Bk K mg T) : FnOk P w K mg base CX0 1 B.Web_eq.f B.Web_eq.fd ["self", "other"] (spEq2 (REq T.c_Web)) := by
  refine B.Web_eq.F.ok sc_Web_eq (fun vs H Q E h => ?_) (fun cdv A outer s H vs Q E hr h => ?_)
  · obtain ⟨a, y, r, rfl, _⟩ := h
    rfl
  · obtain ⟨a, y, r, rfl, ⟨p, m, L, sp, mo, ⟨dx, v2, v5, v6, ha, t2, hwy, hlt⟩, hy⟩, q⟩ := h
    refine ⟨_, (pss_one (ps_ret (pe_and (pe_callB call_isi (by rfl) T.b_isinstance (by decide +kernel) (pa_cons (pv 1) (pa_cons (pe_glob (v := .ref T.c_Web) (by rfl) T.g_Web rfl) pa_nil))) (pe_and (pe_cmpR op_eq (pe_fld (pv 0) rfl) (pe_fld (pv 1) rfl) (nomark _)) (pe_and (pe_cmpR (op_eqD hr.units) (pe_fld (pv 0) rfl) (pe_fld (pv 1) rfl) (nomark _)) (pe_and (pe_cmpR op_eq (pe_fld (pv 0) rfl) (pe_fld (pv 1) rfl) (nomark _)) (pe_one (pe_cmpR op_eq (pe_fld (pv 0) rfl) (pe_fld (pv 1) rfl) (nomark _))))))))), ?_⟩
    have kWW : PySem.W.kitOne K (.ref T.c_Web) (.ref T.c_Web) = some true := by
      unfold PySem.W.kitOne
      rw [if_pos (by simp)]
    rcases hy with ⟨b, m', L', sp', mo', rfl, ⟨dy, u2, u5, u6, hb, t2', hwy', hlt'⟩, er⟩ | ⟨b, ys, rfl, hb, er⟩
    · walk_at "rd"
      refine ⟨_, _, _, _, _, rfl, .own _, .base (.ins hb.2 T.W.cl T.W.ca T.W.cg T.W.ct T.W.co), kWW, ?_⟩
      walk_at "rd"
      refine iteT ?_
      walk_at "rd"
      refine ⟨a, T.c_Web, dx, _, _, rfl, ha.2, T.W.cl, T.na_many, wf_many _ _ _ _ _ _, ?_⟩
      walk_at "rd"
      refine ⟨b, T.c_Web, dy, _, _, rfl, hb.2, T.W.cl, T.na_many, wf_many _ _ _ _ _ _, ?_⟩
      walk_at "rd"
      unfold webEq at er
      refine rd_ite (fun h1 => ?_) (fun h1 => ?_)
      · rw [h1, Bool.true_and] at er
        walk_at "rd"
        refine ⟨a, T.c_Web, dx, _, _, rfl, ha.2, T.W.cl, T.na_ties, wf_ties _ _ _ _ _ _, ?_⟩
        walk_at "rd"
        refine ⟨b, T.c_Web, dy, _, _, rfl, hb.2, T.W.cl, T.na_ties, wf_ties _ _ _ _ _ _, ?_⟩
        refine ⟨_, _, tp_dp (.tuple (L.map tieD)) _ (lay_ties L) t2, tp_dp (.tuple (L'.map tieD)) _ (lay_ties L') t2', shaped_ties L, shaped_ties L', ?_⟩
        walk_at "rd"
        refine rd_ite (fun h2 => ?_) (fun h2 => ?_)
        · rw [h2, Bool.true_and] at er
          walk_at "rd"
          refine ⟨a, T.c_Web, dx, _, _, rfl, ha.2, T.W.cl, T.na_spring, wf_spring _ _ _ _ _ _, ?_⟩
          walk_at "rd"
          refine ⟨b, T.c_Web, dy, _, _, rfl, hb.2, T.W.cl, T.na_spring, wf_spring _ _ _ _ _ _, ?_⟩
          walk_at "rd"
          refine rd_ite (fun h3 => ?_) (fun h3 => ?_)
          · rw [h3, Bool.true_and] at er
            walk_at "rd"
            refine ⟨a, T.c_Web, dx, _, _, rfl, ha.2, T.W.cl, T.na_mouth, wf_mouth _ _ _ _ _ _, ?_⟩
            walk_at "rd"
            refine ⟨b, T.c_Web, dy, _, _, rfl, hb.2, T.W.cl, T.na_mouth, wf_mouth _ _ _ _ _ _, ?_⟩
            walk_at "rd"
            rw [er] at q
            exact q
          · rw [h3, Bool.false_and] at er
            rw [er] at q
            exact q
        · rw [h2, Bool.false_and] at er
          rw [er] at q
          exact q
      · rw [h1, Bool.false_and] at er
        rw [er] at q
        exact q
    · walk_at "rd"
      refine ⟨_, _, _, _, _, rfl, .own _, .base (.tup hb), T.kTW, ?_⟩
      walk_at "rd"
      rw [er] at q
      exact iteF q
theorem ok_check_house (T : Tx K mg) (B : Bk K mg T) : FnOk P w K mg base (L2.CX P w) 4 B.check_house.f B.check_house.fd ["web", "house"] (spCkHouse T.c_Web T.c_NoHouse) := by
  have G_is_number_below := ok_is_number_below (P := P) (w := w) (base := base) T B
  have G_NoHouse_init := ok_house_init (P := P) (w := w) (base := base) T B
  refine B.check_house.F.okX sc_check_house (fun vs H Q E h => ?_) (fun cdv A outer s H vs Q E hr h => ?_)
  · obtain ⟨p, a, m, L, sp, mo, d, x, rfl, _⟩ := h
    rfl
  · obtain ⟨p, a, m, L, sp, mo, d, x, rfl, ⟨dx, v2, v5, v6, ha, t2, hwy, hlt⟩, hd, q1, q0⟩ := h
    refine ⟨_, (pss_one (ps_if (pt_not (pt_val (pe_call G_is_number_below (hr.mono (by decide)) rfl B.is_number_below.m B.is_number_below.F.kp B.is_number_below.b .nil pass0 (pa_cons (pe_fld (pv 0) rfl) (pa_cons (pv 1) pa_nil))))) (pss_one (ps_raise rfl (takes_of rfl rfl rfl rfl) (pmk_pass T.x_NoHouse B.NoHouse_init.a B.NoHouse_init.t G_NoHouse_init (hr.mono (by decide)) B.NoHouse_init.b pass0 rfl T.g_NoHouse))) pss_nil)), ?_⟩
    walk_at "rd"
    refine ⟨a, T.c_Web, dx, _, _, rfl, ha.2, T.W.cl, T.na_many, wf_many _ _ _ _ _ _, ?_⟩
    walk_at "rd"
    refine ⟨p, m, d, x, rfl, hd, ?_⟩
    walk_at "rd"
    refine rd_ite (fun h1 => ?_) (fun h1 => ?_)
    · intro e he
      exact ⟨⟨e, rfl, rfl, rfl⟩, q0 (by simpa using h1)⟩
    · exact q1 (by simpa using h1)
end
end Mw

/-! M8 -/
namespace Mw
open PySem L2
/-- an eq of two pairs of numbers -/
theorem rd_eq2 {K : PySem.W.Frag} {H : Hp} {Q : VK} {s t : Addr} {a b c d : Int} (h1 : H s = some (.tup [.int a, .int b])) (h2 : H t = some (.tup [.int c, .int d])) (q : Q (.bl (a == c && b == d)) H) : rEqD K (.ref s) (.ref t) H Q := by
  refine ⟨.tuple [.int a, .int b], .tuple [.int c, .int d], .tup (SqT.of h1) (.cons (.int a) (.cons (.int b) .nil)), .tup (SqT.of h2) (.cons (.int c) (.cons (.int d) .nil)), rfl, rfl, ?_⟩
  have e : PyData.eqv (.tuple [.int a, .int b]) (.tuple [.int c, .int d]) = (a == c && b == d) := by
    show (a == c && (b == d && true)) = _
    simp
  rw [e]
  exact q
section
variable {P : Program} {w : World} {K : PySem.W.Frag} {mg : Str → Option Value} {base : Heap}
local macro_rules | `(tactic| walk_at "rd") => `(tactic| (repeat (first
  | ((with_reducible refine' rd_var ?h0 ?_); (case h0 => rfl))
  | with_reducible refine rd_c ?_
  | with_reducible refine rd_op ?_
  | with_reducible refine rd_nil ?_
  | with_reducible refine rd_cons ?_
  | with_reducible refine rd_tup ?_
  | with_reducible refine rd_lst ?_
  | with_reducible refine rd_ifs ?_
  | with_reducible refine rd_seq ?_
  | with_reducible refine rd_next ?_
  | with_reducible refine rd_ret ?_
  | with_reducible refine rd_asg ?_
  | with_reducible refine rd_gname ?_
  | with_reducible refine rd_drop ?_
  | with_reducible refine rd_test ?_
  | with_reducible refine rd_B ?_
  | with_reducible refine rd_bl ?_
  | with_reducible refine rd_blP ?_
  | with_reducible refine rd_andV ?_
  | with_reducible refine rd_orV ?_
  | with_reducible refine rd_notV ?_
  | with_reducible refine rd_and ?_
  | with_reducible refine rd_or ?_
  | with_reducible refine rd_not ?_
  | with_reducible refine rd_cb ?_
  | with_reducible refine rd_call ?_
  | with_reducible refine rd_un ?_
  | with_reducible refine rd_sl ?_
  | with_reducible refine rd_nopart ?_
  | with_reducible refine rd_part ?_
  | with_reducible refine rd_intP ?_
  | with_reducible refine rd_rU ?_
  | with_reducible refine rd_fld ?_
  | with_reducible refine rd_eqI ?_
  | with_reducible refine rd_neI ?_
  | with_reducible refine rd_mko ?_
  | with_reducible refine rd_i0 ?_)))
theorem ok_neighbours (T : Tx K mg) (B : Bk K mg T) : FnOk P w K mg base (L2.CX P w) 5 B.neighbours.f B.neighbours.fd ["web", "house"] (spNeigh T.c_Web T.c_NoHouse) := by
  have G_check_house := ok_check_house (P := P) (w := w) (base := base) T B
  refine B.neighbours.F.okX sc_neighbours (fun vs H Q E h => ?_) (fun cdv A outer s H vs Q E hr h => ?_)
  · obtain ⟨p, a, m, L, sp, mo, d, x, rfl, _⟩ := h
    rfl
  · obtain ⟨p, a, m, L, sp, mo, d, x, rfl, hw, hL, hd, q0, q1⟩ := h
    refine ⟨_, (pss_cons (ps_expr (pe_call G_check_house (hr.mono (by decide)) rfl B.check_house.m B.check_house.F.kp B.check_house.b .nil (passes_call (takes_of rfl rfl rfl rfl) (fun _ _ _ _ h => h)) (pa_cons (pv 0) (pa_cons (pv 1) pa_nil))))
      (pss_one (ps_ret (pe_ix ix_tup (pe_fld (pv 0) rfl) (pv 1) (fun _ _ => rfl))))), ?_⟩
    walk_at "rd"
    refine ⟨p, a, m, L, sp, mo, d, x, rfl, hw, hd, fun h1 => ?_, q0⟩
    obtain ⟨dx, v2, v5, v6, ha, t2, hwy, hlt⟩ := hw
    obtain ⟨th, ar, kvs, rs, rfl, rfl, w1, w2, w3, w4, w5, w6, w7⟩ := hwy
    cases d with
    | int h =>
      cases tp_int' hd
      have hh : 0 ≤ h ∧ h < m := by simpa [isNb] using h1
      obtain ⟨r, hr0⟩ : ∃ r, rs[h.toNat]? = some r := ⟨_, List.getElem?_eq_getElem (by omega)⟩
      obtain ⟨g1, ns, g2, g3, g4⟩ := w7 _ _ hr0
      rw [show ((h.toNat : Nat) : Int) = h by omega] at g3
      walk_at "rd"
      refine ⟨a, T.c_Web, dx, _, _, rfl, ha.2, T.W.cl, T.na_around, wf_around _ _ _ _ _ _, ?_⟩
      walk_at "rd"
      have ea : atI (rs.map V.ref) h = some (.ref r) := by
        have := atI_nat (xs := rs.map V.ref) (j := h.toNat) (v := .ref r) (by rw [List.getElem?_map, hr0]; rfl)
        rwa [show ((h.toNat : Nat) : Int) = h by omega] at this
      refine rd_ixT w3 ea ?_
      exact q1 h rfl h1 r ns H g1 (Same.refl H) g2 g3 g4
    | _ => cases h1
end
end Mw

/-! M9 -/
namespace Mw
open PySem L2
def letsP (i j : Int) (q : Tie) : Bool := (q.1 == i && q.2.1 == j) || (q.1 == j && q.2.1 == i)
theorem find_first {α : Type} {L : List α} {f : α → Bool} {k : Nat} {q : α} (hq : L[k]? = some q) (h1 : f q = true) (h0 : ∀ j r, j < k → L[j]? = some r → f r = false) : L.find? f = some q := by
  rw [List.find?_eq_some_iff_getElem]
  obtain ⟨hk, e⟩ := List.getElem?_eq_some_iff.mp hq
  refine ⟨h1, k, hk, e, fun j hj => ?_⟩
  have hjl : j < L.length := Nat.lt_trans hj hk
  rw [h0 j L[j] hj (by simp [hjl])]
  rfl
theorem find_nothing {α : Type} {L : List α} {f : α → Bool} (h0 : ∀ (j : Nat) r, j < L.length → L[j]? = some r → f r = false) : L.find? f = none := by
  rw [List.find?_eq_none]
  intro r hr
  obtain ⟨j, hj, e⟩ := List.getElem_of_mem hr
  rw [h0 j r hj (by rw [List.getElem?_eq_getElem hj, e])]
  decide
section
variable {P : Program} {w : World} {K : PySem.W.Frag} {mg : Str → Option Value} {base : Heap}
local macro_rules | `(tactic| walk_at "rd") => `(tactic| (repeat (first
  | ((with_reducible refine' rd_var ?h0 ?_); (case h0 => rfl))
  | with_reducible refine rd_c ?_
  | with_reducible refine rd_op ?_
  | with_reducible refine rd_nil ?_
  | with_reducible refine rd_cons ?_
  | with_reducible refine rd_tup ?_
  | with_reducible refine rd_lst ?_
  | with_reducible refine rd_ifs ?_
  | with_reducible refine rd_seq ?_
  | with_reducible refine rd_next ?_
  | with_reducible refine rd_ret ?_
  | with_reducible refine rd_asg ?_
  | ((with_reducible refine' rd_gset ?hs ?_); (case hs => ((simp only [L2.start, List.map_cons, List.map_nil, List.length_cons, List.length_nil, List.cons_append, List.nil_append, List.set_cons_zero, List.set_cons_succ, Nat.reduceAdd, Nat.reduceSub, Nat.zero_add, List.reduceReplicate]); rfl)))
  | with_reducible refine rd_drop ?_
  | with_reducible refine rd_test ?_
  | with_reducible refine rd_B ?_
  | with_reducible refine rd_bl ?_
  | with_reducible refine rd_blP ?_
  | with_reducible refine rd_andV ?_
  | with_reducible refine rd_orV ?_
  | with_reducible refine rd_notV ?_
  | with_reducible refine rd_and ?_
  | with_reducible refine rd_or ?_
  | with_reducible refine rd_not ?_
  | with_reducible refine rd_chain ?_
  | with_reducible refine rd_dput ?_
  | with_reducible refine rd_dget ?_
  | with_reducible refine rd_cb ?_
  | with_reducible refine rd_call ?_
  | with_reducible refine rd_un ?_
  | with_reducible refine rd_sl ?_
  | with_reducible refine rd_nopart ?_
  | with_reducible refine rd_part ?_
  | with_reducible refine rd_intP ?_
  | with_reducible refine rd_rU ?_
  | with_reducible refine rd_fld ?_
  | with_reducible refine rd_eqI ?_
  | with_reducible refine rd_neI ?_
  | with_reducible refine rd_mko ?_
  | with_reducible refine rd_bm ?_
  | with_reducible refine rd_gsub ?_
  | with_reducible refine rd_i0 ?_)))
theorem ok_lets (T : Tx K mg) (B : Bk K mg T) : FnOk P w K mg base (L2.CX P w) 5 B.lets.f B.lets.fd ["web", "one", "other"] (spLets T.c_Web T.c_NoHouse T.c_NoTie) := by
  have G_check_house := ok_check_house (P := P) (w := w) (base := base) T B
  have G_NoTie_init := ok_tie_init (P := P) (w := w) (base := base) T B
  refine B.lets.F.okX sc_lets (fun vs H Q E h => ?_) (fun cdv A outer s H vs Q E hr h => ?_)
  · obtain ⟨p, a, m, L, sp, mo, d, e, x, y, rfl, _⟩ := h
    rfl
  · obtain ⟨p, a, m, L, sp, mo, d, e, x, y, rfl, hw, hd, he, q0, q1, q2⟩ := h
    refine ⟨_, (pss_cons (ps_expr (pe_call G_check_house (hr.mono (by decide)) rfl B.check_house.m B.check_house.F.kp B.check_house.b .nil (passes_call (takes_of rfl rfl rfl rfl) (fun _ _ _ _ h => h)) (pa_cons (pv 0) (pa_cons (pv 1) pa_nil))))
      (pss_cons (ps_expr (pe_call G_check_house (hr.mono (by decide)) rfl B.check_house.m B.check_house.F.kp B.check_house.b .nil (passes_call (takes_of rfl rfl rfl rfl) (fun _ _ _ _ h => h)) (pa_cons (pv 0) (pa_cons (pv 2) pa_nil))))
      (pss_cons (ps_if (pt_cmp (pc_dnotin (hu_of hr) (pe_tup (pa_cons (pv 1) (pa_cons (pv 2) pa_nil))) (pe_fld (pv 0) rfl))) (pss_one (ps_raise rfl (takes_of rfl rfl rfl rfl) (pmk_pass T.x_NoTie B.NoTie_init.a B.NoTie_init.t G_NoTie_init (hr.mono (by decide)) B.NoTie_init.b pass0 rfl T.g_NoTie))) pss_nil)
      (pss_one (ps_ret (pe_dget (hu_of hr) (pe_fld (pv 0) rfl) (pe_tup (pa_cons (pv 1) (pa_cons (pv 2) pa_nil))) (fun _ _ => rfl))))))), ?_⟩
    walk_at "rd"
    refine ⟨p, a, m, L, sp, mo, d, x, rfl, hw, hd, fun h1 => ?_, q0⟩
    walk_at "rd"
    refine ⟨p, a, m, L, sp, mo, e, y, rfl, hw, he, fun h2 => ?_, fun h2 => q1 h1 h2⟩
    obtain ⟨dx, v2, v5, v6, ha, t2, hwy, hlt⟩ := hw
    obtain ⟨th, ar, kvs, rs, rfl, rfl, w1, w2, w3, w4, w5, w6, w7⟩ := hwy
    cases d with
    | int i =>
      cases e with
      | int j =>
        cases tp_int' hd
        cases tp_int' he
        have q3 := q2 i j rfl rfl h1 h2
        have hv := w2.lets hlt i j
        walk_at "rd"
        refine rd_dnotin ?_
        walk_at "rd"
        refine rd_disp rfl fun t1 n1 => ?_
        have s1 := same_new (o := .tup [.int i, .int j]) n1
        walk_at "rd"
        refine ⟨a, T.c_Web, dx, _, _, rfl, s1 _ _ ha.2, T.W.cl, T.na_through, wf_through _ _ _ _ _ _, ?_⟩
        refine ⟨th, (letsOf L i j).map V.int, rfl, .inr ⟨kvs, keyP i j, t1, .inl (s1 _ _ w1), rfl, upd_same, hv.symm⟩, ?_⟩
        walk_at "rd"
        cases z : letsOf L i j with
        | none =>
          refine rd_yes rfl ?_
          walk_at "rd"
          intro e he
          exact ⟨⟨e, rfl, rfl, rfl⟩, (q3 _ s1).2 z⟩
        | some v =>
          refine rd_no rfl ?_
          walk_at "rd"
          refine ⟨a, T.c_Web, dx, _, _, rfl, s1 _ _ ha.2, T.W.cl, T.na_through, wf_through _ _ _ _ _ _, ?_⟩
          walk_at "rd"
          refine rd_disp rfl fun t2 n2 => ?_
          have s2 := s1.trans (same_new (o := .tup [.int i, .int j]) n2)
          refine ⟨th, .int v, rfl, .inr ⟨kvs, keyP i j, t2, .inl (s2 _ _ w1), rfl, upd_same, by rw [hv, z]; rfl⟩, ?_⟩
          exact (q3 _ s2).1 v z
      | _ => cases h2
    | _ => cases h1
end
end Mw

/-! A0 -/
/-! Readings by name. -/
namespace Mw
open PySem L2
section
variable {K : PySem.W.Frag}
end
theorem rd_gset {Q : L2.St → Hp → Prop} {σ σ' : L2.St} {i : Nat} {v : V} {H : Hp} (h : List.set σ i (some v) = σ') (q : Q σ' H) : L2.gName i v σ H Q := by
  subst h
  exact q
theorem rd_chain {r r' : R2} {ta tb tc : TE} {σ : L2.St} {H : Hp} {Q : VK} (h : ta σ H fun x H1 => tb σ H1 fun y H2 => r x y H2 fun z H3 => ∃ k, z = V.bl k ∧ if k = true then tc σ H3 fun w' H4 => r' y w' H4 Q else Q (V.bl false) H3) : tChain r r' ta tb tc σ H Q := h
theorem rd_gsub {to ti : TE} {t : TSet} {v : V} {σ : L2.St} {H : Hp} {Q : L2.St → Hp → Prop} (h : to σ H fun o H1 => ti σ H1 fun i H2 => t o i v H2 fun H3 => Q σ H3) : gSub to ti t v σ H Q := h
theorem rd_setL {a : Addr} {xs : List V} {i : Int} {j : Nat} {v : V} {H : Hp} {Q : Hp → Prop} (h : H a = some (.lst xs)) (e : ixN xs.length i = some j) (q : Q (upd H a (.lst (xs.set j v)))) : rSetL (.ref a) (.int i) v H Q := ⟨a, xs, i, j, rfl, rfl, h, e, q⟩
section
variable {σ : L2.St} {H : Hp} {Q : VK} {K : PySem.W.Frag}
theorem rd_bm {n : String} {r : V → List V → Hp → VK → Prop} {to : TE} {t : TA} (h : to σ H fun x H1 => tyV K n x H1 ∧ t σ H1 fun xs H2 => r x xs H2 Q) : tBM K n r to t σ H Q := h
theorem rd_bm0 {n : String} {r : V → List V → Hp → VK → Prop} {to : TE} (h : to σ H fun x H1 => tyV K n x H1 ∧ r x [] H1 Q) : tBM0 K n r to σ H Q := h
theorem rd_append {l : Addr} {xs : List V} {y : V} (h : H l = some (.lst xs)) (hl : xs.length < sizeLine) (q : Q .non (upd H l (.lst (xs ++ [y])))) : rAppend (.ref l) [y] H Q := ⟨l, xs, y, rfl, rfl, h, hl, q⟩
end
theorem rd_rng2 {ta : TA} {σ : L2.St} {H : Hp} {R : It → Hp → Prop} (h : iRng2 ta σ H R) : iRng2 ta σ H R := h
theorem rd_ilist {K : PySem.W.Frag} {te : TE} {σ : L2.St} {H : Hp} {R : It → Hp → Prop} (h : te σ H fun x H1 => ∃ a, x = .ref a ∧ (∃ xs, SqL K H1 a xs) ∧ R (Itl K a) H1) : iList K te σ H R := h
theorem rd_itup {K : PySem.W.Frag} {te : TE} {σ : L2.St} {H : Hp} {R : It → Hp → Prop} (h : te σ H fun x H1 => ∃ a, x = .ref a ∧ (∃ xs, SqT K H1 a xs) ∧ R (Itt K a) H1) : iTup K te σ H R := h
theorem rd_istr {te : TE} {σ : L2.St} {H : Hp} {R : It → Hp → Prop} (h : te σ H fun v H1 => ∃ x, v = .str x ∧ R (Its x) H1) : iStr te σ H R := h
theorem rd_make {C : Addr} {sp : Sp} {dvs : List V} {E : XK} {t : TA} {σ : L2.St} {H : Hp} {Q : VK} (h : t σ H fun vs H1 => ∀ x dx, H1 x = none → H1 dx = none → dx ≠ x → sp (.ref x :: (vs ++ dvs)) (upd (upd H1 dx (.own x)) x (.ins C dx [])) (fun v H2 => v = .non ∧ Q (.ref x) H2) E) : tMake C sp dvs E t σ H Q := h
theorem mapint_get {U : List Int} {i : Nat} {y : V} (h : (U.map V.int)[i]? = some y) : ∃ u, U[i]? = some u ∧ y = V.int u := by
  rw [List.getElem?_map] at h
  cases e : U[i]? with
  | none =>
    rw [e] at h
    cases h
  | some u =>
    rw [e] at h
    exact ⟨u, rfl, (Option.some.inj h).symm⟩
theorem rd_break {D : Ends} {σ : L2.St} {H : Hp} (h : D.bk σ H) : tBreak D σ H := h
theorem rd_tyes {σ : L2.St} {H : Hp} {Q : Bool → Hp → Prop} (q : Q true H) : tYes σ H Q := q
theorem rd_aug {i : Nat} {te : TE} {ti : TIp} {D : Ends} {σ : L2.St} {H : Hp} {x : V} (h : σ[i]? = some (some x)) (q : te σ H fun y H1 => ti x y H1 fun z H2 => D.nx (σ.set i (some z)) H2) : tAug i te ti D σ H := ⟨x, h, q⟩
theorem rd_callS {sp : Sp} {E : L2.St → XK} {t : TA} {σ : L2.St} {H : Hp} {Q : VK} (h : t σ H fun vs H1 => sp vs H1 Q (E σ)) : tCallS sp E t σ H Q := h
theorem rd_ifx {t : TT} {ta tb : TE} {σ : L2.St} {H : Hp} {Q : VK} (h : t σ H fun c H1 => if c = true then ta σ H1 Q else tb σ H1 Q) : tIf t ta tb σ H Q := h
section
variable {K : PySem.W.Frag}
theorem rd_izip {ta : TA} {σ : L2.St} {H : Hp} {R : It → Hp → Prop} (h : ta σ H fun vs H1 => ∃ a b xs ys, vs = [.ref a, .ref b] ∧ ((SqL K H1 a xs ∧ SqL K H1 b ys ∧ R (Itz K a b) H1) ∨ (SqT K H1 a xs ∧ SqT K H1 b ys ∧ R (RZ.ItzT K a b) H1))) : RZ.iZipA K ta σ H R := h
end
theorem small {n : Nat} (h : n ≤ 1000000) : n ≤ sizeLine := Nat.le_trans h (by decide)
theorem small' {n : Nat} (h : n ≤ 1000000) : n < sizeLine := Nat.lt_of_le_of_lt h (by decide)
/-- what comes next is due for all that S tells: it stands once -/
theorem rd_S {te : TE} {σ : L2.St} {H : Hp} {Q : VK} (S : V → Hp → Prop) (hS : ∀ x H', S x H' → Q x H') (h : ∀ Q' : VK, (∀ x H', S x H' → Q' x H') → te σ H Q') : te σ H Q := h Q hS
theorem fn_no {P : Program} {w : World} {K : PySem.W.Frag} {mg : Str → Option Value} {base : Heap} {CX : CXT} {k : Nat} {f : Addr} {fd : FuncData} {ps : List Str} {sp : Sp} (h : ∀ vs H Q E, ¬ sp vs H Q E) : FnOk P w K mg base CX k f fd ps sp :=
  ⟨fun vs H Q E z => (h _ _ _ _ z).elim, fun A outer s H args us vs Q E hr e0 hb r z => (h _ _ _ _ z).elim⟩
theorem at_of {α : Type} {xs : List α} {i : Int} {j : Nat} {v : α} (e : i = (j : Int)) (h : xs[j]? = some v) : atI xs i = some v := by
  subst e
  exact atI_nat h
theorem at0 {α : Type} {x : α} {xs : List α} : atI (x :: xs) 0 = some x := at_of (j := 0) rfl rfl
theorem at0m {x : Int} {xs : List Int} : atI ((x :: xs).map V.int) 0 = some (V.int x) := at_of (j := 0) rfl rfl
theorem ix_of {n j : Nat} {i : Int} (e : i = (j : Int)) (h : j < n) : ixN n i = some j := by
  subst e
  unfold ixN
  rw [if_pos (by omega), if_pos (by omega), Int.toNat_natCast]
theorem ix0m {x : Int} {xs : List Int} : ixN ((x :: xs).map V.int).length 0 = some 0 := ix_of rfl (by simp)
end Mw

/-! A3 -/
/-! Plain data: tuples, numbers, flags, strings, None; tuples never change. -/
namespace Mw
open PySem L2
theorem KT.mut {a : Addr} {H : Hp} {o u : HO} (h : H a = some u) (hu : ∀ xs, u ≠ .tup xs) : KT H (upd H a o) := fun b xs e => (upd_ne (ne_of e h (fun z => hu xs z.symm))).trans e
theorem KT.keep {p : Addr} {H H' : Hp} {us : List V} (k : Keep p H H') (hp : H p = some (.lst us)) : KT H H' := fun a xs e => k a _ (ne_of e hp (by intro z; cases z)) e
mutual
def Pl (H : Hp) : PyData → V → Prop
  | .none, v => v = .non
  | .bool b, v => v = .bl b
  | .int i, v => v = .int i
  | .str s, v => v = .str s
  | .tuple ds, v => ∃ a xs, v = .ref a ∧ H a = some (.tup xs) ∧ PlAll H ds xs
  | .list _, _ => False
  | .dict _, _ => False
def PlAll (H : Hp) : List PyData → List V → Prop
  | [], xs => xs = []
  | d :: ds, xs => ∃ x r, xs = x :: r ∧ Pl H d x ∧ PlAll H ds r
end
section
variable {H H' : Hp}
mutual
theorem Pl.kt (k : KT H H') : ∀ (d : PyData) (v : V), Pl H d v → Pl H' d v
  | .none, v, h => by simpa only [Pl] using h
  | .bool b, v, h => by simpa only [Pl] using h
  | .int i, v, h => by simpa only [Pl] using h
  | .str s, v, h => by simpa only [Pl] using h
  | .list ds, v, h => by simp only [Pl] at h
  | .dict _, v, h => by simp only [Pl] at h
  | .tuple ds, v, h => by
    simp only [Pl] at h ⊢
    obtain ⟨a, xs, e, ha, r⟩ := h
    exact ⟨a, xs, e, k a _ ha, PlAll.kt k ds xs r⟩
theorem PlAll.kt (k : KT H H') : ∀ (ds : List PyData) (xs : List V), PlAll H ds xs → PlAll H' ds xs
  | [], xs, h => by simpa only [PlAll] using h
  | d :: ds, xs, h => by
    simp only [PlAll] at h ⊢
    obtain ⟨x, r, e, h1, h2⟩ := h
    exact ⟨x, r, e, Pl.kt k d x h1, PlAll.kt k ds r h2⟩
end
theorem Pl.t {d : PyData} {v : V} (h : Pl H d v) (k : KT H H') : Pl H' d v := Pl.kt k d v h
theorem PlAll.t {d : List PyData} {v : List V} (h : PlAll H d v) (k : KT H H') : PlAll H' d v := PlAll.kt k d v h
theorem Pl.s {d : PyData} {v : V} (h : Pl H d v) (k : Same H H') : Pl H' d v := Pl.kt (KT.same k) d v h
theorem PlAll.s {d : List PyData} {v : List V} (h : PlAll H d v) (k : Same H H') : PlAll H' d v := PlAll.kt (KT.same k) d v h
theorem plAll_iff : ∀ (ds : List PyData) (xs : List V), PlAll H ds xs ↔ ds.length = xs.length ∧ ∀ (i : Nat) d x, ds[i]? = some d → xs[i]? = some x → Pl H d x
  | [], xs => by
    simp only [PlAll]
    constructor
    · rintro rfl
      exact ⟨rfl, fun i d x h _ => by simp at h⟩
    · rintro ⟨h, _⟩
      exact List.length_eq_zero_iff.mp h.symm
  | d :: ds, xs => by
    simp only [PlAll]
    constructor
    · rintro ⟨x, r, rfl, h1, h2⟩
      obtain ⟨hl, hi⟩ := (plAll_iff ds r).mp h2
      refine ⟨by simp [hl], fun i d' x' e1 e2 => ?_⟩
      cases i with
      | zero =>
        simp only [List.getElem?_cons_zero, Option.some.injEq] at e1 e2
        subst e1 e2
        exact h1
      | succ i =>
        simp only [List.getElem?_cons_succ] at e1 e2
        exact hi i d' x' e1 e2
    · rintro ⟨hl, hi⟩
      cases xs with
      | nil => simp at hl
      | cons x r => exact ⟨x, r, rfl, hi 0 d x rfl rfl, (plAll_iff ds r).mpr ⟨by simpa using hl, fun i d' x' e1 e2 => hi (i + 1) d' x' (by simpa using e1) (by simpa using e2)⟩⟩
theorem PlAll.len {ds : List PyData} {xs : List V} (h : PlAll H ds xs) : ds.length = xs.length := ((plAll_iff ds xs).mp h).1
theorem PlAll.get {ds : List PyData} {xs : List V} (h : PlAll H ds xs) {i : Nat} {d : PyData} (e : ds[i]? = some d) : ∃ x, xs[i]? = some x ∧ Pl H d x := by
  obtain ⟨hl, hi⟩ := (plAll_iff ds xs).mp h
  have hlt := (List.getElem?_eq_some_iff.mp e).1
  have hx : xs[i]? = some (xs[i]'(by omega)) := by simp [show i < xs.length by omega]
  exact ⟨_, hx, hi i d _ e hx⟩
theorem PlAll.get' {ds : List PyData} {xs : List V} (h : PlAll H ds xs) {i : Nat} {x : V} (e : xs[i]? = some x) : ∃ d, ds[i]? = some d ∧ Pl H d x := by
  obtain ⟨hl, hi⟩ := (plAll_iff ds xs).mp h
  have hlt := (List.getElem?_eq_some_iff.mp e).1
  have hx : ds[i]? = some (ds[i]'(by omega)) := by simp [show i < ds.length by omega]
  exact ⟨_, hx, hi i _ x hx e⟩
theorem PlAll.append {ds es : List PyData} {xs ys : List V} (h1 : PlAll H ds xs) (h2 : PlAll H es ys) : PlAll H (ds ++ es) (xs ++ ys) := by
  induction ds generalizing xs with
  | nil =>
    simp only [PlAll] at h1
    subst h1
    exact h2
  | cons d ds ih =>
    simp only [PlAll] at h1
    obtain ⟨x, r, rfl, a1, a2⟩ := h1
    show PlAll H (d :: (ds ++ es)) (x :: (r ++ ys))
    simp only [PlAll]
    exact ⟨x, _, rfl, a1, ih a2⟩
theorem PlAll.take {ds : List PyData} {xs : List V} (h : PlAll H ds xs) (n : Nat) : PlAll H (ds.take n) (xs.take n) := by
  obtain ⟨hl, hi⟩ := (plAll_iff ds xs).mp h
  refine (plAll_iff _ _).mpr ⟨by rw [List.length_take, List.length_take, hl], fun i d x e f => ?_⟩
  rw [List.getElem?_take] at e f
  split at e
  · rename_i g
    rw [if_pos g] at f
    exact hi i d x e f
  · cases e
theorem PlAll.drop {ds : List PyData} {xs : List V} (h : PlAll H ds xs) (n : Nat) : PlAll H (ds.drop n) (xs.drop n) := by
  obtain ⟨hl, hi⟩ := (plAll_iff ds xs).mp h
  refine (plAll_iff _ _).mpr ⟨by rw [List.length_drop, List.length_drop, hl], fun i d x e f => ?_⟩
  rw [List.getElem?_drop] at e f
  exact hi _ d x e f
theorem plAll_nil : PlAll H [] [] := by simp only [PlAll]
theorem plAll_cons {d : PyData} {ds : List PyData} {x : V} {xs : List V} (h1 : Pl H d x) (h2 : PlAll H ds xs) : PlAll H (d :: ds) (x :: xs) := by
  simp only [PlAll]
  exact ⟨x, xs, rfl, h1, h2⟩
theorem plAll_cons' {d : PyData} {ds : List PyData} {xs : List V} (h : PlAll H (d :: ds) xs) : ∃ x r, xs = x :: r ∧ Pl H d x ∧ PlAll H ds r := by simpa only [PlAll] using h
theorem plAll_nil' {xs : List V} (h : PlAll H [] xs) : xs = [] := by simpa only [PlAll] using h
theorem PlAll.snoc {d : PyData} {ds : List PyData} {x : V} {xs : List V} (h1 : PlAll H ds xs) (h2 : Pl H d x) : PlAll H (ds ++ [d]) (xs ++ [x]) := h1.append (plAll_cons h2 plAll_nil)
theorem pl_int {i : Int} : Pl H (.int i) (.int i) := by simp only [Pl]
theorem pl_str {s : Str} : Pl H (.str s) (.str s) := by simp only [Pl]
theorem pl_bl {b : Bool} : Pl H (.bool b) (.bl b) := by simp only [Pl]
theorem pl_non : Pl H .none .non := by simp only [Pl]
theorem pl_tup {a : Addr} {ds : List PyData} {xs : List V} (h : H a = some (.tup xs)) (r : PlAll H ds xs) : Pl H (.tuple ds) (.ref a) := by
  simp only [Pl]
  exact ⟨a, xs, rfl, h, r⟩
theorem pl_tup' {v : V} {ds : List PyData} (h : Pl H (.tuple ds) v) : ∃ a xs, v = .ref a ∧ H a = some (.tup xs) ∧ PlAll H ds xs := by simpa only [Pl] using h
theorem pl_int' {v : V} {i : Int} (h : Pl H (.int i) v) : v = .int i := by simpa only [Pl] using h
theorem pl_str' {v : V} {i : Str} (h : Pl H (.str i) v) : v = .str i := by simpa only [Pl] using h
theorem pl_bl' {v : V} {i : Bool} (h : Pl H (.bool i) v) : v = .bl i := by simpa only [Pl] using h
theorem pl_ints : ∀ U : List Int, PlAll H (U.map PyData.int) (U.map V.int)
  | [] => plAll_nil
  | u :: U => plAll_cons pl_int (pl_ints U)
theorem pl_ints' : ∀ {U : List Int} {xs : List V}, PlAll H (U.map PyData.int) xs → xs = U.map V.int
  | [], xs, h => plAll_nil' h
  | u :: U, xs, h => by
    obtain ⟨x, r, rfl, h1, h2⟩ := plAll_cons' h
    rw [pl_int' h1, pl_ints' h2]
    rfl
theorem pl_intsD {a : Addr} {U : List Int} (h : H a = some (.tup (U.map V.int))) : Pl H (intsD U) (.ref a) := pl_tup h (pl_ints U)
theorem pl_intsD' {v : V} {U : List Int} (h : Pl H (intsD U) v) : ∃ a, v = .ref a ∧ H a = some (.tup (U.map V.int)) := by
  obtain ⟨a, xs, rfl, ha, hx⟩ := pl_tup' h
  rw [pl_ints' hx] at ha
  exact ⟨a, rfl, ha⟩
/-! with the judged data -/
section
variable {C p : Addr}
mutual
theorem tp_pl : ∀ (d : PyData) (v : V), plainD d = true → Tp C p H d v → Pl H d v
  | .none, v, _, h => by simp only [Tp] at h; simpa only [Pl] using h
  | .bool b, v, _, h => by simp only [Tp] at h; simpa only [Pl] using h
  | .int i, v, _, h => by simp only [Tp] at h; simpa only [Pl] using h
  | .str s, v, _, h => by simp only [Tp] at h; simpa only [Pl] using h
  | .list ds, v, c, _ => by simp only [plainD] at c; cases c
  | .dict _, v, c, _ => by simp only [plainD] at c; cases c
  | .tuple ds, v, c, h => by
    obtain ⟨a, xs, rfl, ha, r⟩ := tp_tup' h
    exact pl_tup ha.2 (tp_plAll ds xs (by simpa only [plainD] using c) r)
theorem tp_plAll : ∀ (ds : List PyData) (xs : List V), plainAll ds = true → TpAll C p H ds xs → PlAll H ds xs
  | [], xs, _, h => by
    simp only [TpAll] at h
    subst h
    exact plAll_nil
  | d :: ds, xs, c, h => by
    simp only [TpAll] at h
    simp only [plainAll, Bool.and_eq_true] at c
    obtain ⟨x, r, rfl, h1, h2⟩ := h
    exact plAll_cons (tp_pl d x c.1 h1) (tp_plAll ds r c.2 h2)
end
mutual
theorem pl_tp {us : List V} (hp : H p = some (.lst us)) : ∀ (d : PyData) (v : V), Pl H d v → Tp C p H d v
  | .none, v, h => by simp only [Pl] at h; simpa only [Tp] using h
  | .bool b, v, h => by simp only [Pl] at h; simpa only [Tp] using h
  | .int i, v, h => by simp only [Pl] at h; simpa only [Tp] using h
  | .str s, v, h => by simp only [Pl] at h; simpa only [Tp] using h
  | .list ds, v, h => by simp only [Pl] at h
  | .dict _, v, h => by simp only [Pl] at h
  | .tuple ds, v, h => by
    obtain ⟨a, xs, rfl, ha, r⟩ := pl_tup' h
    exact tp_tup ⟨ne_of ha hp (by intro z; cases z), ha⟩ (pl_tpAll hp ds xs r)
theorem pl_tpAll {us : List V} (hp : H p = some (.lst us)) : ∀ (ds : List PyData) (xs : List V), PlAll H ds xs → TpAll C p H ds xs
  | [], xs, h => by
    rw [plAll_nil' h]
    exact tpAll_nil
  | d :: ds, xs, h => by
    obtain ⟨x, r, rfl, h1, h2⟩ := plAll_cons' h
    exact tpAll_cons (pl_tp hp d x h1) (pl_tpAll hp ds r h2)
end
end
mutual
theorem pl_dp {K : PySem.W.Frag} : ∀ (d : PyData) (v : V), d.canLay0 = true → Pl H d v → Dp K H v d
  | .none, v, _, h => by
    simp only [Pl] at h
    subst h
    exact .non
  | .bool b, v, _, h => by
    rw [pl_bl' h]
    exact .bl b
  | .int i, v, _, h => by
    rw [pl_int' h]
    exact .int i
  | .str s, v, _, h => by
    rw [pl_str' h]
    exact .str s
  | .list ds, v, _, h => by simp only [Pl] at h
  | .dict _, v, _, h => by simp only [Pl] at h
  | .tuple ds, v, c, h => by
    obtain ⟨a, xs, rfl, ha, r⟩ := pl_tup' h
    exact .tup (SqT.of ha) (pl_dpAll ds xs (by simpa only [PyData.canLay0] using c) r)
theorem pl_dpAll {K : PySem.W.Frag} : ∀ (ds : List PyData) (xs : List V), PyData.canLayAll0 ds = true → PlAll H ds xs → DpAll K H xs ds
  | [], xs, _, h => by
    rw [plAll_nil' h]
    exact .nil
  | d :: ds, xs, c, h => by
    obtain ⟨x, r, rfl, h1, h2⟩ := plAll_cons' h
    simp only [PyData.canLayAll0, Bool.and_eq_true] at c
    exact .cons (pl_dp d x c.1 h1) (pl_dpAll ds r c.2 h2)
end
end
/-- a slice of a tuple: this one, if it is the whole -/
theorem rd_slP {K : PySem.W.Frag} {H : Hp} {Q : VK} {a : Addr} {xs : List V} {lo hi : Option Int} (h : H a = some (.tup xs)) (q : ∀ b H', Same H H' → H' b = some (.tup (cutV xs lo hi)) → Q (.ref b) H') : rSlA K (.ref a) lo hi H Q := by
  refine ⟨a, xs, rfl, SqT.of h, fun z => ?_, fun _ b nb => q b _ (same_new nb) upd_same⟩
  refine q a H (Same.refl H) ?_
  have e : cutV xs lo hi = xs := by
    unfold cutV
    rw [z.1, z.2]
    simp
  rw [e]
  exact h
/-- two tuples, one behind the other -/
theorem rd_catP {K : PySem.W.Frag} {H : Hp} {Q : VK} {a b : Addr} {xs ys : List V} (h1 : H a = some (.tup xs)) (h2 : H b = some (.tup ys)) (hl : xs.length + ys.length ≤ 100000) (q : ∀ c H', Same H H' → H' c = some (.tup (xs ++ ys)) → Q (.ref c) H') : rCatA K (.ref a) (.ref b) H Q := by
  refine ⟨a, b, xs, ys, rfl, rfl, SqT.of h1, SqT.of h2, Nat.le_trans hl (by decide), fun z => ?_, fun _ z => ?_, fun _ _ c nc => q c _ (same_new nc) upd_same⟩
  · refine q b H (Same.refl H) ?_
    rw [z]
    exact h2
  · refine q a H (Same.refl H) ?_
    rw [z, List.append_nil]
    exact h1
theorem cut_from {xs : List V} {i : Nat} (h : i ≤ xs.length) : cutV xs (some (i : Int)) none = xs.drop i := by
  unfold cutV
  rw [HT.sIx_none, HT.sIx_nat, Nat.min_eq_left h, List.take_of_length_le (by rw [List.length_drop]; omega)]
theorem cut_to {xs : List V} {i : Nat} (h : i ≤ xs.length) : cutV xs none (some (i : Int)) = xs.take i := by
  unfold cutV
  rw [HT.sIx_none, HT.sIx_nat, Nat.min_eq_left h]
  simp
end Mw

/-! G1 -/
namespace Mw
open PySem L2
theorem rd_iteN {b : Bool} {A B : Prop} (h : if b = true then A else B) (e : b = false) : B := by
  rw [e] at h
  rw [if_neg Bool.false_ne_true] at h
  exact h
theorem Tp.sm {C p : Addr} {H H' : Hp} {d : PyData} {v : V} (h : Tp C p H d v) (s : Same H H') : Tp C p H' d v := Tp.keep (Keep.same s) d v h
theorem TpAll.sm {C p : Addr} {H H' : Hp} {d : List PyData} {v : List V} (h : TpAll C p H d v) (s : Same H H') : TpAll C p H' d v := TpAll.keep (Keep.same s) d v h
theorem Tp.k {C p : Addr} {H H' : Hp} {d : PyData} {v : V} (h : Tp C p H d v) (s : Keep p H H') : Tp C p H' d v := Tp.keep s d v h
/-- a right web's object, the web right -/
structure WbAt (C p : Addr) (H : Hp) (a : Addr) (m : Int) (L : List Tie) (sp mo : Int) : Prop where
  at_ : WebAt C p H a m L sp mo
  right : Right m L sp mo
theorem WbAt.keep {C p : Addr} {H H' : Hp} {a : Addr} {m : Int} {L : List Tie} {sp mo : Int} (h : WbAt C p H a m L sp mo) (k : Keep p H H') : WbAt C p H' a m L sp mo := ⟨h.1.keep k, h.2⟩
theorem WbAt.s {C p : Addr} {H H' : Hp} {a : Addr} {m : Int} {L : List Tie} {sp mo : Int} (h : WbAt C p H a m L sp mo) (k : Same H H') : WbAt C p H' a m L sp mo := h.keep (Keep.same k)
theorem nb_good {C CN p : Addr} {H : Hp} {a : Addr} {m : Int} {L : List Tie} {sp mo h : Int} {Q : VK} {E : XK} (hw : WbAt C p H a m L sp mo) (h0 : 0 ≤ h) (h1 : h < m) (q : ∀ (r : Addr) H', r ≠ p → Same H H' → FzT H' r ((nbL L h).map V.int) → Q (.ref r) H') : spNeigh C CN [.ref a, .int h] H Q E := by
  have e : isNb m (.int h) = true := by
    show (decide (0 ≤ h) && decide (h < m)) = true
    rw [decide_eq_true h0, decide_eq_true h1]
    rfl
  refine ⟨p, a, m, L, sp, mo, .int h, .int h, rfl, hw.1, hw.2.len, tp_int, (fun z => by rw [e] at z; cases z), fun h' eh _ r ns H' hr s hns hp hs => ?_⟩
  cases eh
  rw [nb_eq hw.2 hp hs] at hns
  exact q r H' hr s hns
theorem lets_good {C CN CT p : Addr} {H : Hp} {a : Addr} {m : Int} {L : List Tie} {sp mo i j : Int} {Q : VK} {E : XK} (hw : WbAt C p H a m L sp mo) (hj : j ∈ nbL L i) (q : ∀ H', Same H H' → Q (.int (capOf L i j)) H') : spLets C CN CT [.ref a, .int i, .int j] H Q E := by
  obtain ⟨b1, b2, b3, b4, b5⟩ := nb_in hw.2 hj
  have e1 : isNb m (.int i) = true := by
    show (decide (0 ≤ i) && decide (i < m)) = true
    rw [decide_eq_true b3, decide_eq_true b4]
    rfl
  have e2 : isNb m (.int j) = true := by
    show (decide (0 ≤ j) && decide (j < m)) = true
    rw [decide_eq_true b1, decide_eq_true b2]
    rfl
  refine ⟨p, a, m, L, sp, mo, .int i, .int j, .int i, .int j, rfl, hw.1, tp_int, tp_int, (fun z => by rw [e1] at z; cases z), (fun _ z => by rw [e2] at z; cases z), fun i' j' ei ej _ _ H' s => ⟨fun v hv => ?_, fun z => ?_⟩⟩
  · cases ei
    cases ej
    rw [lets_some hj] at hv
    cases hv
    exact q H' s
  · cases ei
    cases ej
    rw [lets_some hj] at z
    cases z
def isUn (d : PyData) : Bool := match d with | .int i => (decide (0 ≤ i) && decide (i < 1000000000)) && decide (i > 0) | _ => false
def oneB (g : PyData → Bool) : List PyData → Bool
  | [a] => g a
  | _ => false
def twoB (g h : PyData → Bool) : List PyData → Bool
  | [a, b] => g a && h b
  | _ => false
theorem oneB_no {g : PyData → Bool} {cs : List PyData} (h : cs.length ≠ 1) : oneB g cs = false := by
  unfold oneB
  split
  · simp at h
  · rfl
theorem twoB_no {g k : PyData → Bool} {cs : List PyData} (h : cs.length ≠ 2) : twoB g k cs = false := by
  unfold twoB
  split
  · simp at h
  · rfl
theorem oneB_form {g : PyData → Bool} {cs : List PyData} (h : oneB g cs = true) : ∃ a, cs = [a] ∧ g a = true := by
  unfold oneB at h
  split at h
  · exact ⟨_, rfl, h⟩
  · cases h
theorem twoB_form {g k : PyData → Bool} {cs : List PyData} (h : twoB g k cs = true) : ∃ a b, cs = [a, b] ∧ g a = true ∧ k b = true := by
  unfold twoB at h
  split at h
  · rw [Bool.and_eq_true] at h
    exact ⟨_, _, rfl, h⟩
  · cases h
/-- the numbers of a word of a sort -/
def wdF (s : Str) (cs : List PyData) : Bool :=
  if s = "pour" then oneB isUn cs
  else if s = "push" then twoB isUn (isNb 1000) cs
  else if s = "no" ∨ s = "rise" then oneB (isNb 1000) cs
  else decide (s = "yes") && decide (cs.length = 0)
/-- whether a thing is a word by its form -/
def isWdD : PyData → Bool
  | .tuple (.str s :: cs) => wdF s cs
  | _ => false
theorem isUn_form {d : PyData} (h : isUn d = true) : ∃ u, d = .int u ∧ 0 < u ∧ u < 1000000000 := by
  cases d with
  | int i =>
    simp [isUn] at h
    exact ⟨i, rfl, by omega, by omega⟩
  | _ => cases h
theorem isNb_form {l : Int} {d : PyData} (h : isNb l d = true) : ∃ u, d = .int u ∧ 0 ≤ u ∧ u < l := by
  cases d with
  | int i =>
    simp [isNb] at h
    exact ⟨i, rfl, by omega, by omega⟩
  | _ => cases h
theorem isWd_form {d : PyData} (h : isWdD d = true) : ∃ w : Wd, d = w.d ∧ w.Ok := by
  unfold isWdD at h
  split at h
  · rename_i s cs
    unfold wdF at h
    split at h
    · rename_i e
      subst e
      obtain ⟨a, rfl, h⟩ := oneB_form h
      obtain ⟨u, rfl, h1, h2⟩ := isUn_form h
      exact ⟨.pour u, rfl, h1, h2⟩
    · split at h
      · rename_i e
        subst e
        obtain ⟨a, b, rfl, h, h'⟩ := twoB_form h
        obtain ⟨u, rfl, h3, h4⟩ := isUn_form h
        obtain ⟨v, rfl, h5, h6⟩ := isNb_form h'
        exact ⟨.push u v, rfl, ⟨h3, h4⟩, h5, h6⟩
      · split at h
        · rename_i e
          obtain ⟨a, rfl, h⟩ := oneB_form h
          obtain ⟨u, rfl, h3, h4⟩ := isNb_form h
          rcases e with rfl | rfl
          · exact ⟨.no u, rfl, h3, h4⟩
          · exact ⟨.rise u, rfl, h3, h4⟩
        · rw [Bool.and_eq_true, decide_eq_true_eq, decide_eq_true_eq] at h
          obtain ⟨rfl, h2⟩ := h
          rw [List.length_eq_zero_iff.mp h2]
          exact ⟨.yes, rfl, trivial⟩
  · cases h
section
variable {P : Program} {w : World} {K : PySem.W.Frag} {mg : Str → Option Value} {base : Heap}
local macro_rules | `(tactic| walk_at "rd") => `(tactic| (repeat (first
  | ((with_reducible refine' rd_var ?h0 ?_); (case h0 => rfl))
  | with_reducible refine rd_c ?_
  | with_reducible refine rd_op ?_
  | with_reducible refine rd_nil ?_
  | with_reducible refine rd_cons ?_
  | with_reducible refine rd_tup ?_
  | with_reducible refine rd_lst ?_
  | with_reducible refine rd_ifs ?_
  | with_reducible refine rd_seq ?_
  | with_reducible refine rd_next ?_
  | with_reducible refine rd_ret ?_
  | with_reducible refine rd_asg ?_
  | ((with_reducible refine' rd_gset ?hs ?_); (case hs => ((simp only [L2.start, List.map_cons, List.map_nil, List.length_cons, List.length_nil, List.cons_append, List.nil_append, List.set_cons_zero, List.set_cons_succ, Nat.reduceAdd, Nat.reduceSub, Nat.zero_add, List.reduceReplicate]); rfl)))
  | with_reducible refine rd_drop ?_
  | with_reducible refine rd_test ?_
  | with_reducible refine rd_B ?_
  | with_reducible refine rd_bl ?_
  | with_reducible refine rd_blP ?_
  | with_reducible refine rd_andV ?_
  | with_reducible refine rd_orV ?_
  | with_reducible refine rd_notV ?_
  | with_reducible refine rd_and ?_
  | with_reducible refine rd_or ?_
  | with_reducible refine rd_not ?_
  | with_reducible refine rd_chain ?_
  | with_reducible refine rd_dput ?_
  | with_reducible refine rd_dget ?_
  | with_reducible refine rd_cb ?_
  | with_reducible refine rd_call ?_
  | with_reducible refine rd_un ?_
  | with_reducible refine rd_sl ?_
  | with_reducible refine rd_nopart ?_
  | with_reducible refine rd_part ?_
  | with_reducible refine rd_intP ?_
  | with_reducible refine rd_rU ?_
  | with_reducible refine rd_fld ?_
  | with_reducible refine rd_eqI ?_
  | with_reducible refine rd_neI ?_
  | with_reducible refine rd_mko ?_
  | with_reducible refine rd_bm ?_
  | with_reducible refine rd_gsub ?_
  | with_reducible refine rd_i0 ?_)))
theorem ok_is_units (T : Tx K mg) (B : Bk K mg T) : FnOk P w K mg base CX0 4 B.is_units.f B.is_units.fd ["thing"] (spJ T.c_Web isUn) := by
  have G_is_number_below := ok_is_number_below (P := P) (w := w) (base := base) T B
  refine B.is_units.F.ok sc_is_units (fun vs H Q E h => ?_) (fun cdv A outer s H vs Q E hr h => ?_)
  · obtain ⟨p, d, x, rfl, _⟩ := h
    rfl
  · obtain ⟨p, d, x, rfl, hd, q⟩ := h
    refine ⟨_, (pss_one (ps_ret (pe_and (pe_call G_is_number_below (hr.mono (by decide)) rfl B.is_number_below.m B.is_number_below.F.kp B.is_number_below.b .nil pass0 (pa_cons (pe_glob (v := .int 1000000000) (by rfl) T.g_UNITS_LIMIT ⟨_, rfl⟩) (pa_cons (pv 0) pa_nil))) (pe_one (pe_cmpR op_gt (pv 0) pe_int (nomark _)))))), ?_⟩
    walk_at "rd"
    refine ⟨p, _, d, x, rfl, hd, ?_⟩
    walk_at "rd"
    refine rd_ite (fun h1 => ?_) (fun h1 => ?_)
    · cases d with
      | int i =>
        cases tp_int' hd
        walk_at "rd"
        have e : isUn (.int i) = ((decide (0 ≤ i) && decide (i < 1000000000)) && decide (i > 0)) := rfl
        rw [e, show (decide (0 ≤ i) && decide (i < 1000000000)) = true from h1, Bool.true_and] at q
        exact q
      | _ => cases h1
    · have e : isUn d = false := by
        cases d with
        | int i =>
          show ((decide (0 ≤ i) && decide (i < 1000000000)) && decide (i > 0)) = false
          rw [show (decide (0 ≤ i) && decide (i < 1000000000)) = false from h1, Bool.false_and]
        | _ => rfl
      rw [e] at q
      exact q
theorem ok_is_height (T : Tx K mg) (B : Bk K mg T) : FnOk P w K mg base CX0 4 B.is_height.f B.is_height.fd ["thing"] (spJ T.c_Web (isNb 1000)) := by
  have G_is_number_below := ok_is_number_below (P := P) (w := w) (base := base) T B
  refine B.is_height.F.ok sc_is_height (fun vs H Q E h => ?_) (fun cdv A outer s H vs Q E hr h => ?_)
  · obtain ⟨p, d, x, rfl, _⟩ := h
    rfl
  · obtain ⟨p, d, x, rfl, hd, q⟩ := h
    refine ⟨_, (pss_one (ps_ret (pe_call G_is_number_below (hr.mono (by decide)) rfl B.is_number_below.m B.is_number_below.F.kp B.is_number_below.b .nil pass0 (pa_cons (pe_glob (v := .int 1000) (by rfl) T.g_HEIGHT_LIMIT ⟨_, rfl⟩) (pa_cons (pv 0) pa_nil))))), ?_⟩
    walk_at "rd"
    exact ⟨p, _, d, x, rfl, hd, q⟩
end
end Mw

/-! G2 -/
namespace Mw
open PySem L2
def spJS (C : Addr) (g : PyData → Bool) : Sp := fun vs H Q _ => ∃ p d x, vs = [x] ∧ Tp C p H d x ∧ ∀ H', Same H H' → Q (.bl (g d)) H'
theorem inV_two (s a b : Str) : inV (.str s) [.str a, .str b] = (decide (s = a) || decide (s = b)) := by
  unfold inV
  simp only [List.any_cons, List.any_nil, Bool.or_false, eqV]
  rw [Bool.eq_iff_iff]
  simp [Bool.or_eq_true, beq_iff_eq]
  constructor
  · rintro (z | z)
    · exact .inl z.symm
    · exact .inr z.symm
  · rintro (z | z)
    · exact .inl z.symm
    · exact .inr z.symm
theorem one_of {α : Type} {l : List α} (h : l.length = 1) : ∃ a, l = [a] := by
  match l, h with
  | [a], _ => exact ⟨a, rfl⟩
theorem two_of {α : Type} {l : List α} (h : l.length = 2) : ∃ a b, l = [a, b] := by
  match l, h with
  | [a, b], _ => exact ⟨a, b, rfl⟩
theorem tpAll1 {C p : Addr} {H : Hp} {a : PyData} {xs : List V} (h : TpAll C p H [a] xs) : ∃ x, xs = [x] ∧ Tp C p H a x := by
  simp only [TpAll] at h
  obtain ⟨x, r, rfl, h1, rfl⟩ := h
  exact ⟨x, rfl, h1⟩
theorem tpAll2 {C p : Addr} {H : Hp} {a b : PyData} {xs : List V} (h : TpAll C p H [a, b] xs) : ∃ x y, xs = [x, y] ∧ Tp C p H a x ∧ Tp C p H b y := by
  simp only [TpAll] at h
  obtain ⟨x, r, rfl, h1, y, r', rfl, h2, rfl⟩ := h
  exact ⟨x, y, rfl, h1, h2⟩
theorem isWd_no {c : PyData} {cs : List PyData} (h : isS c = false) : isWdD (.tuple (c :: cs)) = false := by
  cases c <;> first | rfl | cases h
section
variable {P : Program} {w : World} {K : PySem.W.Frag} {mg : Str → Option Value} {base : Heap}
local macro_rules | `(tactic| walk_at "rd") => `(tactic| (repeat (first
  | ((with_reducible refine' rd_var ?h0 ?_); (case h0 => rfl))
  | with_reducible refine rd_c ?_
  | with_reducible refine rd_op ?_
  | with_reducible refine rd_nil ?_
  | with_reducible refine rd_cons ?_
  | with_reducible refine rd_tup ?_
  | with_reducible refine rd_lst ?_
  | with_reducible refine rd_ifs ?_
  | with_reducible refine rd_seq ?_
  | with_reducible refine rd_next ?_
  | with_reducible refine rd_ret ?_
  | with_reducible refine rd_asg ?_
  | ((with_reducible refine' rd_gset ?hs ?_); (case hs => ((simp only [L2.start, List.map_cons, List.map_nil, List.length_cons, List.length_nil, List.cons_append, List.nil_append, List.set_cons_zero, List.set_cons_succ, Nat.reduceAdd, Nat.reduceSub, Nat.zero_add, List.reduceReplicate]); rfl)))
  | with_reducible refine rd_drop ?_
  | with_reducible refine rd_test ?_
  | with_reducible refine rd_B ?_
  | with_reducible refine rd_bl ?_
  | with_reducible refine rd_blP ?_
  | with_reducible refine rd_andV ?_
  | with_reducible refine rd_orV ?_
  | with_reducible refine rd_notV ?_
  | with_reducible refine rd_and ?_
  | with_reducible refine rd_or ?_
  | with_reducible refine rd_not ?_
  | with_reducible refine rd_chain ?_
  | with_reducible refine rd_dput ?_
  | with_reducible refine rd_dget ?_
  | with_reducible refine rd_cb ?_
  | with_reducible refine rd_call ?_
  | with_reducible refine rd_un ?_
  | with_reducible refine rd_sl ?_
  | with_reducible refine rd_nopart ?_
  | with_reducible refine rd_part ?_
  | with_reducible refine rd_intP ?_
  | with_reducible refine rd_rU ?_
  | with_reducible refine rd_fld ?_
  | with_reducible refine rd_eqI ?_
  | with_reducible refine rd_neI ?_
  | with_reducible refine rd_mko ?_
  | with_reducible refine rd_bm ?_
  | with_reducible refine rd_gsub ?_
  | with_reducible refine rd_i0 ?_)))
theorem ok_is_word (T : Tx K mg) (B : Bk K mg T) : FnOk P w K mg base CX0 5 B.is_word.f B.is_word.fd ["thing"] (spJS T.c_Web isWdD) := by
  have G_is_units := ok_is_units (P := P) (w := w) (base := base) T B
  have G_is_height := ok_is_height (P := P) (w := w) (base := base) T B
  refine B.is_word.F.ok sc_is_word (fun vs H Q E h => ?_) (fun cdv A outer s H vs Q E hr h => ?_)
  · obtain ⟨p, d, x, rfl, _⟩ := h
    rfl
  · obtain ⟨p, d, x, rfl, hd, q⟩ := h
    refine ⟨_, (pss_cons (ps_if (PW.pt (pw_or (pt_not (pt_val (pe_callB call_isi (by rfl) T.b_isinstance (by decide +kernel) (pa_cons (pv 0) (pa_cons (pe_bltn (v := .ty "tuple") (by rfl) T.b_tuple (by decide +kernel) rfl) pa_nil))))) (pw_or (pt_cmpR op_eq (pe_callB call_len_seq (by rfl) T.b_len (by decide +kernel) (pa_cons (pv 0) pa_nil)) pe_int (nomark _)) (pw_or1 (pt_not (pt_val (pe_callB call_isi (by rfl) T.b_isinstance (by decide +kernel) (pa_cons (pe_ix ix_tup (pv 0) pe_int (fun _ _ => rfl)) (pa_cons (pe_bltn (v := .ty "str") (by rfl) T.b_str (by decide +kernel) rfl) pa_nil))))))))) (pss_one (ps_ret pe_bl)) pss_nil)
      (pss_cons (ps_set (i := 1) sc_is_word.nd rfl (Or.inl rfl) (pe_ix ix_tup (pv 0) pe_int (fun _ _ => rfl)))
      (pss_cons (ps_set (i := 2) sc_is_word.nd rfl (Or.inl rfl) (pe_slice sl_tupA (pv 0) (po_some pe_int) po_none))
      (pss_cons (ps_if (pt_cmpR op_eq (pv 1) pe_str (nomark _)) (pss_one (ps_ret (pe_and (pe_cmpR op_eq (pe_callB call_len_seq (by rfl) T.b_len (by decide +kernel) (pa_cons (pv 2) pa_nil)) pe_int (nomark _)) (pe_one (pe_call G_is_units (hr.mono (by decide)) rfl B.is_units.m B.is_units.F.kp B.is_units.b .nil pass0 (pa_cons (pe_ix ix_tup (pv 2) pe_int (fun _ _ => rfl)) pa_nil)))))) pss_nil)
      (pss_cons (ps_if (pt_cmpR op_eq (pv 1) pe_str (nomark _)) (pss_one (ps_ret (pe_and (pe_cmpR op_eq (pe_callB call_len_seq (by rfl) T.b_len (by decide +kernel) (pa_cons (pv 2) pa_nil)) pe_int (nomark _)) (pe_and (pe_call G_is_units (hr.mono (by decide)) rfl B.is_units.m B.is_units.F.kp B.is_units.b .nil pass0 (pa_cons (pe_ix ix_tup (pv 2) pe_int (fun _ _ => rfl)) pa_nil)) (pe_one (pe_call G_is_height (hr.mono (by decide)) rfl B.is_height.m B.is_height.F.kp B.is_height.b .nil pass0 (pa_cons (pe_ix ix_tup (pv 2) pe_int (fun _ _ => rfl)) pa_nil))))))) pss_nil)
      (pss_cons (ps_if (pt_cmpR op_in_seq (pv 1) (pe_tup (pa_cons pe_str (pa_cons pe_str pa_nil))) rfl) (pss_one (ps_ret (pe_and (pe_cmpR op_eq (pe_callB call_len_seq (by rfl) T.b_len (by decide +kernel) (pa_cons (pv 2) pa_nil)) pe_int (nomark _)) (pe_one (pe_call G_is_height (hr.mono (by decide)) rfl B.is_height.m B.is_height.F.kp B.is_height.b .nil pass0 (pa_cons (pe_ix ix_tup (pv 2) pe_int (fun _ _ => rfl)) pa_nil)))))) pss_nil)
      (pss_one (ps_ret (pe_and (pe_cmpR op_eq (pv 1) pe_str (nomark _)) (pe_one (pe_cmpR op_eq (pe_callB call_len_seq (by rfl) T.b_len (by decide +kernel) (pa_cons (pv 2) pa_nil)) pe_int (nomark _)))))))))))), ?_⟩
    have q0 := q H (Same.refl H)
    walk_at "rd"
    refine tp_isT T.W hd ?_
    walk_at "rd"
    refine rd_ite (fun h1 => ?_) (fun h1 => ?_)
    · refine rd_yes rfl ?_
      walk_at "rd"
      rw [show isWdD d = false by cases d <;> first | rfl | cases h1] at q0
      exact q0
    · cases d with
      | tuple ds =>
        obtain ⟨a, xs, rfl, ha, hx⟩ := tp_tup' hd
        have lx := hx.len
        walk_at "rd"
        refine ⟨a, _, rfl, .inr (SqT.of ha.2), ?_⟩
        walk_at "rd"
        refine rd_ite (fun h2 => ?_) (fun h2 => ?_)
        · refine rd_yes rfl ?_
          walk_at "rd"
          have e0 : ds = [] := List.length_eq_zero_iff.mp (by have z : (xs.length : Int) = 0 := (by simpa using h2); omega)
          subst e0
          exact q0
        · obtain ⟨c, cs, rfl⟩ : ∃ c cs, ds = c :: cs := by
            cases ds with
            | nil =>
              rw [show xs = [] from List.length_eq_zero_iff.mp (by simpa using lx.symm)] at h2
              cases h2
            | cons c cs => exact ⟨c, cs, rfl⟩
          obtain ⟨v, r, rfl, hv, hrr⟩ := (show ∃ x r, xs = x :: r ∧ Tp T.c_Web p H c x ∧ TpAll T.c_Web p H cs r by simpa only [TpAll] using hx)
          have lr := hrr.len
          walk_at "rd"
          refine rd_ixT ha.2 at0 ?_
          walk_at "rd"
          refine tp_isS T.W hv ?_
          walk_at "rd"
          refine rd_ite (fun h3 => ?_) (fun h3 => ?_)
          · walk_at "rd"
            rw [isWd_no (by simpa using h3)] at q0
            exact q0
          · cases c with
            | str sz =>
              cases tp_str' hv
              walk_at "rd"
              refine rd_ixT ha.2 at0 ?_
              walk_at "rd"
              refine rd_slP ha.2 fun b H1 s1 hb => ?_
              rw [show cutV (V.str sz :: r) (some 1) none = r from cut_from (i := 1) (by simp)] at hb
              have q1 := q H1 s1
              have hrr1 := hrr.sm s1
              clear q0
              rw [show isWdD (.tuple (.str sz :: cs)) = wdF sz cs from rfl] at q1
              unfold wdF at q1
              walk_at "rd"
              refine rd_eq rfl ?_
              walk_at "rd"
              by_cases e1 : sz = "pour"
              · refine rd_yes (decide_eq_true (by rw [e1])) ?_
                rw [if_pos e1] at q1
                walk_at "rd"
                refine ⟨b, _, rfl, .inr (SqT.of hb), ?_⟩
                walk_at "rd"
                refine rd_ite (fun h4 => ?_) (fun h4 => ?_)
                · obtain ⟨a1, rfl⟩ : ∃ a1, cs = [a1] := one_of (by have z : (r.length : Int) = 1 := (by simpa using h4); omega)
                  obtain ⟨v1, rfl, hv1⟩ := tpAll1 hrr1
                  walk_at "rd"
                  refine rd_ixT hb at0 ?_
                  exact ⟨p, a1, v1, rfl, hv1, q1⟩
                · rw [oneB_no (by
                    have : ¬ (r.length : Int) = 1 := by simpa using h4
                    omega)] at q1
                  exact q1
              · refine rd_no (decide_eq_false (fun z => e1 (by injection z))) ?_
                rw [if_neg e1] at q1
                walk_at "rd"
                refine rd_eq rfl ?_
                walk_at "rd"
                by_cases e2 : sz = "push"
                · refine rd_yes (decide_eq_true (by rw [e2])) ?_
                  rw [if_pos e2] at q1
                  walk_at "rd"
                  refine ⟨b, _, rfl, .inr (SqT.of hb), ?_⟩
                  walk_at "rd"
                  refine rd_ite (fun h4 => ?_) (fun h4 => ?_)
                  · obtain ⟨a1, a2, rfl⟩ : ∃ a1 a2, cs = [a1, a2] := two_of (by have z : (r.length : Int) = 2 := (by simpa using h4); omega)
                    obtain ⟨v1, v2, rfl, hv1, hv2⟩ := tpAll2 hrr1
                    walk_at "rd"
                    refine rd_ixT hb at0 ?_
                    refine ⟨p, a1, v1, rfl, hv1, ?_⟩
                    walk_at "rd"
                    refine rd_ite (fun h5 => ?_) (fun h5 => ?_)
                    · rw [show twoB isUn (isNb 1000) [a1, a2] = (isUn a1 && isNb 1000 a2) from rfl, h5, Bool.true_and] at q1
                      walk_at "rd"
                      refine rd_ixT (v := v2) hb (at_of (j := 1) rfl rfl) ?_
                      exact ⟨p, a2, v2, rfl, hv2, q1⟩
                    · rw [show twoB isUn (isNb 1000) [a1, a2] = (isUn a1 && isNb 1000 a2) from rfl, h5, Bool.false_and] at q1
                      exact q1
                  · rw [twoB_no (by
                      have : ¬ (r.length : Int) = 2 := by simpa using h4
                      omega)] at q1
                    exact q1
                · refine rd_no (decide_eq_false (fun z => e2 (by injection z))) ?_
                  rw [if_neg e2] at q1
                  walk_at "rd"
                  refine rd_disp rfl fun t nt => ?_
                  have s2 := same_new (o := .tup [.str "no", .str "rise"]) nt
                  have q2 := q _ (s1.trans s2)
                  rw [show isWdD (.tuple (.str sz :: cs)) = wdF sz cs from rfl] at q2
                  unfold wdF at q2
                  rw [if_neg e1, if_neg e2] at q2
                  have hb2 := s2 _ _ hb
                  have hrr2 := hrr1.sm s2
                  clear q1 hb hrr1
                  refine ⟨t, _, rfl, .inr (SqT.of upd_same), rfl, rfl, ?_⟩
                  rw [inV_two]
                  walk_at "rd"
                  by_cases e3 : sz = "no" ∨ sz = "rise"
                  · refine rd_yes (by rw [if_neg Bool.false_ne_true, Bool.or_eq_true, decide_eq_true_eq, decide_eq_true_eq]; exact e3) ?_
                    rw [if_pos e3] at q2
                    walk_at "rd"
                    refine ⟨b, _, rfl, .inr (SqT.of hb2), ?_⟩
                    walk_at "rd"
                    refine rd_ite (fun h4 => ?_) (fun h4 => ?_)
                    · obtain ⟨a1, rfl⟩ : ∃ a1, cs = [a1] := one_of (by have z : (r.length : Int) = 1 := (by simpa using h4); omega)
                      obtain ⟨v1, rfl, hv1⟩ := tpAll1 hrr2
                      walk_at "rd"
                      refine rd_ixT hb2 at0 ?_
                      exact ⟨p, a1, v1, rfl, hv1, q2⟩
                    · rw [oneB_no (by
                        have : ¬ (r.length : Int) = 1 := by simpa using h4
                        omega)] at q2
                      exact q2
                  · refine rd_no (by
                      rw [if_neg Bool.false_ne_true, Bool.or_eq_false_iff, decide_eq_false_iff_not, decide_eq_false_iff_not]
                      exact ⟨fun z => e3 (.inl z), fun z => e3 (.inr z)⟩) ?_
                    rw [if_neg e3] at q2
                    walk_at "rd"
                    refine rd_eq rfl ?_
                    walk_at "rd"
                    by_cases e4 : sz = "yes"
                    · refine rd_yes (decide_eq_true (by rw [e4])) ?_
                      rw [decide_eq_true e4, Bool.true_and] at q2
                      walk_at "rd"
                      refine ⟨b, _, rfl, .inr (SqT.of hb2), ?_⟩
                      walk_at "rd"
                      rw [show decide ((r.length : Int) = 0) = decide (cs.length = 0) from decide_eq_decide.mpr (by omega)]
                      exact q2
                    · refine rd_no (decide_eq_false (fun z => e4 (by injection z))) ?_
                      rw [decide_eq_false e4, Bool.false_and] at q2
                      exact q2
            | _ => cases h3
      | _ => cases h1
end
end Mw

/-! A4 -/
/-! Comprehensions over zip and enumerate; the place in a tuple. -/
namespace Mw
open PySem L2
theorem lc_zipT {K : PySem.W.Frag} {a b : Addr} {xs ys : List V} {g : TG} {tt : TT} {te : TE} {vs : List Nat} {σ : L2.St} {H1 : Hp} {D : Addr} {Qd : Hp → Prop} (hl : xs.length = ys.length) (Pv : Nat → Hp → Prop) (h0 : Pv 0 (upd H1 D (.lst [])))
    (hq : ∀ i H, Pv i H → SqT K H a xs ∧ SqT K H b ys)
    (hs : ∀ (i : Nat) (x y : V) (t : Addr) (H : Hp), xs[i]? = some x → ys[i]? = some y → Pv i H → H t = none → g (.ref t) (wipe σ vs) (upd H t (.tup [x, y])) fun σ2 H2 => wipe σ2 vs = wipe σ vs ∧
      tt σ2 H2 fun b H3 => if b = true then te σ2 H3 fun y H4 => ∃ acc, H4 D = some (.lst acc) ∧ acc.length < sizeLine ∧ Pv (i + 1) (upd H4 D (.lst (acc ++ [y]))) else Pv (i + 1) H3)
    (hd : ∀ H, Pv xs.length H → Qd H) :
    ∃ W : Nat → Nat → Hp → Prop, (∃ m, W 0 m (upd H1 D (.lst []))) ∧ ∀ i m H, W i m H → (RZ.ItzT K a b).stop i H ∧ Qd H ∨ (RZ.ItzT K a b).go i H ∧ ∃ Nx : Hp → Prop, (∀ H', Nx H' → ∃ m', m' < m ∧ W (i + 1) m' H') ∧
      ∀ x H', (RZ.ItzT K a b).yld i H x H' → g x (wipe σ vs) H' fun σ2 H2 => wipe σ2 vs = wipe σ vs ∧ tt σ2 H2 fun b H3 => if b = true then te σ2 H3 fun y H4 => ∃ acc, H4 D = some (.lst acc) ∧ acc.length < sizeLine ∧ Nx (upd H4 D (.lst (acc ++ [y]))) else Nx H3 := by
  refine ⟨fun i m H => m = xs.length - i ∧ i ≤ xs.length ∧ Pv i H, ⟨_, rfl, Nat.zero_le _, h0⟩, ?_⟩
  rintro i m H ⟨rfl, hi, hP⟩
  obtain ⟨q1, q2⟩ := hq i H hP
  by_cases e : i = xs.length
  · exact .inl ⟨⟨xs, ys, q1, q2, .inl (Nat.le_of_eq e.symm)⟩, hd H (e ▸ hP)⟩
  · have hlt : i < xs.length := by omega
    have hx : xs[i]? = some xs[i] := by simp [hlt]
    have hy : ys[i]? = some (ys[i]'(hl ▸ hlt)) := by simp
    refine .inr ⟨⟨xs, ys, _, _, q1, q2, hx, hy⟩, Pv (i + 1), fun H' h => ⟨xs.length - (i + 1), by omega, rfl, by omega, h⟩, ?_⟩
    rintro v H' ⟨t, x, y, rfl, ht, rfl, ex, ey⟩
    exact hs i x y t H (ex xs q1) (ey ys q2) hP ht
/-- a comprehension over zip of a tuple and a list of one length -/
theorem lc_tz {K : PySem.W.Frag} {a b : Addr} {xs ys : List V} {g : TG} {tt : TT} {te : TE} {vs : List Nat} {σ : L2.St} {H1 : Hp} {D : Addr} {Qd : Hp → Prop} (hl : xs.length = ys.length) (Pv : Nat → Hp → Prop) (h0 : Pv 0 (upd H1 D (.lst [])))
    (hq : ∀ i H, Pv i H → SqT K H a xs ∧ SqL K H b ys)
    (hs : ∀ (i : Nat) (x y : V) (t : Addr) (H : Hp), xs[i]? = some x → ys[i]? = some y → Pv i H → H t = none → g (.ref t) (wipe σ vs) (upd H t (.tup [x, y])) fun σ2 H2 => wipe σ2 vs = wipe σ vs ∧
      tt σ2 H2 fun b H3 => if b = true then te σ2 H3 fun y H4 => ∃ acc, H4 D = some (.lst acc) ∧ acc.length < sizeLine ∧ Pv (i + 1) (upd H4 D (.lst (acc ++ [y]))) else Pv (i + 1) H3)
    (hd : ∀ H, Pv ys.length H → Qd H) :
    ∃ W : Nat → Nat → Hp → Prop, (∃ m, W 0 m (upd H1 D (.lst []))) ∧ ∀ i m H, W i m H → (Itl2 K a b).stop i H ∧ Qd H ∨ (Itl2 K a b).go i H ∧ ∃ Nx : Hp → Prop, (∀ H', Nx H' → ∃ m', m' < m ∧ W (i + 1) m' H') ∧
      ∀ x H', (Itl2 K a b).yld i H x H' → g x (wipe σ vs) H' fun σ2 H2 => wipe σ2 vs = wipe σ vs ∧ tt σ2 H2 fun b H3 => if b = true then te σ2 H3 fun y H4 => ∃ acc, H4 D = some (.lst acc) ∧ acc.length < sizeLine ∧ Nx (upd H4 D (.lst (acc ++ [y]))) else Nx H3 := by
  refine ⟨fun i m H => m = ys.length - i ∧ i ≤ ys.length ∧ Pv i H, ⟨_, rfl, Nat.zero_le _, h0⟩, ?_⟩
  rintro i m H ⟨rfl, hi, hP⟩
  obtain ⟨q1, q2⟩ := hq i H hP
  by_cases e : i = ys.length
  · exact .inl ⟨⟨xs, ys, q1, q2, .inr (Nat.le_of_eq e.symm)⟩, hd H (e ▸ hP)⟩
  · have hlt : i < ys.length := by omega
    have hy : ys[i]? = some ys[i] := by simp [hlt]
    have hx : xs[i]? = some (xs[i]'(by omega)) := by simp
    refine .inr ⟨⟨xs, ys, _, _, q1, q2, hx, hy⟩, Pv (i + 1), fun H' h => ⟨ys.length - (i + 1), by omega, rfl, by omega, h⟩, ?_⟩
    rintro v H' ⟨t, x, y, rfl, ht, rfl, ex, ey⟩
    exact hs i x y t H (ex xs q1) (ey ys q2) hP ht
theorem rd_izipTL {K : PySem.W.Frag} {ta : TA} {σ : L2.St} {H : Hp} {R : It → Hp → Prop} (h : ta σ H fun vs H1 => ∃ a b xs ys, vs = [.ref a, .ref b] ∧ SqT K H1 a xs ∧ SqL K H1 b ys ∧ R (Itl2 K a b) H1) : iZipTL K ta σ H R := h
theorem lc_enum {K : PySem.W.Frag} {a : Addr} {xs : List V} {g : TG} {tt : TT} {te : TE} {vs : List Nat} {σ : L2.St} {H1 : Hp} {D : Addr} {Qd : Hp → Prop} (Pv : Nat → Hp → Prop) (h0 : Pv 0 (upd H1 D (.lst [])))
    (hq : ∀ i H, Pv i H → SqL K H a xs)
    (hs : ∀ (i : Nat) (x : V) (t : Addr) (H : Hp), xs[i]? = some x → Pv i H → H t = none → g (.ref t) (wipe σ vs) (upd H t (.tup [.int (i : Nat), x])) fun σ2 H2 => wipe σ2 vs = wipe σ vs ∧
      tt σ2 H2 fun b H3 => if b = true then te σ2 H3 fun y H4 => ∃ acc, H4 D = some (.lst acc) ∧ acc.length < sizeLine ∧ Pv (i + 1) (upd H4 D (.lst (acc ++ [y]))) else Pv (i + 1) H3)
    (hd : ∀ H, Pv xs.length H → Qd H) :
    ∃ W : Nat → Nat → Hp → Prop, (∃ m, W 0 m (upd H1 D (.lst []))) ∧ ∀ i m H, W i m H → (Ite K a).stop i H ∧ Qd H ∨ (Ite K a).go i H ∧ ∃ Nx : Hp → Prop, (∀ H', Nx H' → ∃ m', m' < m ∧ W (i + 1) m' H') ∧
      ∀ x H', (Ite K a).yld i H x H' → g x (wipe σ vs) H' fun σ2 H2 => wipe σ2 vs = wipe σ vs ∧ tt σ2 H2 fun b H3 => if b = true then te σ2 H3 fun y H4 => ∃ acc, H4 D = some (.lst acc) ∧ acc.length < sizeLine ∧ Nx (upd H4 D (.lst (acc ++ [y]))) else Nx H3 := by
  refine ⟨fun i m H => m = xs.length - i ∧ i ≤ xs.length ∧ Pv i H, ⟨_, rfl, Nat.zero_le _, h0⟩, ?_⟩
  rintro i m H ⟨rfl, hi, hP⟩
  have q1 := hq i H hP
  by_cases e : i = xs.length
  · exact .inl ⟨⟨xs, q1, Nat.le_of_eq e.symm⟩, hd H (e ▸ hP)⟩
  · have hlt : i < xs.length := by omega
    have hx : xs[i]? = some xs[i] := by simp [hlt]
    refine .inr ⟨⟨xs, _, q1, hx⟩, Pv (i + 1), fun H' h => ⟨xs.length - (i + 1), by omega, rfl, by omega, h⟩, ?_⟩
    rintro v H' ⟨t, x, rfl, ht, rfl, ex⟩
    exact hs i x t H (ex xs q1) hP ht
theorem rd_ienum {K : PySem.W.Frag} {ta : TA} {σ : L2.St} {H : Hp} {R : It → Hp → Prop} (h : ta σ H fun vs H1 => ∃ a xs, vs = [.ref a] ∧ SqL K H1 a xs ∧ R (Ite K a) H1) : iEnum K ta σ H R := h
theorem rd_idx {K : PySem.W.Frag} {H : Hp} {Q : VK} {a : Addr} {l : List Int} {x : Int} (h : SqT K H a (l.map V.int)) (hx : x ∈ l) (q : Q (.int (l.idxOf x : Nat)) H) : rTidx K (.ref a) [.int x] H Q := by
  have hi : l.idxOf x < l.length := List.idxOf_lt_length_iff.mpr hx
  refine ⟨a, _, .int x, l.idxOf x, .int x, rfl, rfl, h, rfl, ?_, ?_, ?_, fun m z' hm hz => ?_, q⟩
  · rw [List.all_eq_true]
    intro y hy
    obtain ⟨i, _, rfl⟩ := List.mem_map.mp hy
    rfl
  · rw [List.getElem?_map, List.getElem?_eq_getElem hi, List.getElem_idxOf hi]
    rfl
  · show (x == x) = true
    simp
  · obtain ⟨u, hu, rfl⟩ := mapint_get hz
    show (u == x) = false
    rw [beq_eq_false_iff_ne]
    intro e
    subst e
    have hml := (List.getElem?_eq_some_iff.mp hu)
    obtain ⟨h1, h2⟩ := hml
    have hm' : m < l.findIdx (fun y => y == u) := hm
    have := List.not_of_lt_findIdx hm'
    rw [h2] at this
    simp at this
end Mw

/-! G3 -/
namespace Mw
open PySem L2
theorem pl_st {H : Hp} {s : St} {a b1 b2 b3 : Addr} (h : H a = some (.tup [.str (stgS s.up), .int s.ht, .int s.held, .ref b1, .ref b2, .ref b3])) (h1 : Pl H (intsD s.str) (.ref b1)) (h2 : Pl H (intsD s.bel) (.ref b2)) (h3 : Pl H (intsD s.snt) (.ref b3)) : Pl H s.d (.ref a) :=
  pl_tup h (plAll_cons pl_str (plAll_cons pl_int (plAll_cons pl_int (plAll_cons h1 (plAll_cons h2 (plAll_cons h3 plAll_nil))))))
theorem pl_st' {H : Hp} {s : St} {v : V} (h : Pl H s.d v) : ∃ a b1 b2 b3, v = .ref a ∧ H a = some (.tup [.str (stgS s.up), .int s.ht, .int s.held, .ref b1, .ref b2, .ref b3]) ∧ H b1 = some (.tup (s.str.map V.int)) ∧ H b2 = some (.tup (s.bel.map V.int)) ∧ H b3 = some (.tup (s.snt.map V.int)) := by
  obtain ⟨a, xs, rfl, ha, hx⟩ := pl_tup' h
  obtain ⟨x1, r1, rfl, h1, hx⟩ := plAll_cons' hx
  obtain ⟨x2, r2, rfl, h2, hx⟩ := plAll_cons' hx
  obtain ⟨x3, r3, rfl, h3, hx⟩ := plAll_cons' hx
  obtain ⟨x4, r4, rfl, h4, hx⟩ := plAll_cons' hx
  obtain ⟨x5, r5, rfl, h5, hx⟩ := plAll_cons' hx
  obtain ⟨x6, r6, rfl, h6, hx⟩ := plAll_cons' hx
  have e := plAll_nil' hx
  subst e
  cases pl_str' h1
  cases pl_int' h2
  cases pl_int' h3
  obtain ⟨b1, rfl, g1⟩ := pl_intsD' h4
  obtain ⟨b2, rfl, g2⟩ := pl_intsD' h5
  obtain ⟨b3, rfl, g3⟩ := pl_intsD' h6
  exact ⟨a, b1, b2, b3, rfl, ha, g1, g2, g3⟩
/-- lists of one length -/
structure Ls (s : St) (n : Nat) : Prop where
  l1 : s.str.length = n
  l2 : s.bel.length = n
  l3 : s.snt.length = n
  le : n ≤ 100
theorem set_split (l : List Int) {i : Nat} {u : Int} (h : i < l.length) : l.take i ++ [u] ++ l.drop (i + 1) = l.set i u := by
  rw [List.set_eq_take_append_cons_drop, if_pos h]
  simp
theorem at_gi {l : List Int} {i : Nat} (h : i < l.length) : atI (l.map V.int) (i : Int) = some (.int (gi l i)) := by
  refine atI_nat ?_
  rw [List.getElem?_map, gi_get h]
  rfl
def spPutT : Sp := fun vs H Q _ => ∃ (l : List Int) (i : Nat) (u : Int) (v : V), vs = [v, .int (i : Int), .int u] ∧ Pl H (intsD l) v ∧ i < l.length ∧ l.length ≤ 100 ∧ ∀ r H', Same H H' → Pl H' (intsD (l.set i u)) r → Q r H'
/-- a def that makes a state of a state -/
def spS0 (f : St → St) : Sp := fun vs H Q _ => ∃ (s : St) (n : Nat) (v : V), vs = [v] ∧ Pl H s.d v ∧ Ls s n ∧ ∀ r H', Same H H' → Pl H' (f s).d r → Q r H'
def spS1 (f : St → Nat → St) : Sp := fun vs H Q _ => ∃ (s : St) (n i : Nat) (v : V), vs = [v, .int (i : Int)] ∧ Pl H s.d v ∧ Ls s n ∧ i < n ∧ ∀ r H', Same H H' → Pl H' (f s i).d r → Q r H'
def spS2 (f : St → Nat → Int → St) : Sp := fun vs H Q _ => ∃ (s : St) (n i : Nat) (u : Int) (v : V), vs = [v, .int (i : Int), .int u] ∧ Pl H s.d v ∧ Ls s n ∧ i < n ∧ ∀ r H', Same H H' → Pl H' (f s i u).d r → Q r H'
section
variable {P : Program} {w : World} {K : PySem.W.Frag} {mg : Str → Option Value} {base : Heap}
local macro_rules | `(tactic| walk_at "rd") => `(tactic| (repeat (first
  | ((with_reducible refine' rd_var ?h0 ?_); (case h0 => rfl))
  | with_reducible refine rd_c ?_
  | with_reducible refine rd_op ?_
  | with_reducible refine rd_nil ?_
  | with_reducible refine rd_cons ?_
  | with_reducible refine rd_tup ?_
  | with_reducible refine rd_lst ?_
  | with_reducible refine rd_ifs ?_
  | with_reducible refine rd_seq ?_
  | with_reducible refine rd_next ?_
  | with_reducible refine rd_ret ?_
  | with_reducible refine rd_asg ?_
  | ((with_reducible refine' rd_gset ?hs ?_); (case hs => ((simp only [L2.start, List.map_cons, List.map_nil, List.length_cons, List.length_nil, List.cons_append, List.nil_append, List.set_cons_zero, List.set_cons_succ, Nat.reduceAdd, Nat.reduceSub, Nat.zero_add, List.reduceReplicate]); rfl)))
  | with_reducible refine rd_drop ?_
  | with_reducible refine rd_test ?_
  | with_reducible refine rd_B ?_
  | with_reducible refine rd_bl ?_
  | with_reducible refine rd_blP ?_
  | with_reducible refine rd_andV ?_
  | with_reducible refine rd_orV ?_
  | with_reducible refine rd_notV ?_
  | with_reducible refine rd_and ?_
  | with_reducible refine rd_or ?_
  | with_reducible refine rd_not ?_
  | with_reducible refine rd_chain ?_
  | with_reducible refine rd_dput ?_
  | with_reducible refine rd_dget ?_
  | with_reducible refine rd_cb ?_
  | with_reducible refine rd_call ?_
  | with_reducible refine rd_un ?_
  | with_reducible refine rd_sl ?_
  | with_reducible refine rd_nopart ?_
  | with_reducible refine rd_part ?_
  | with_reducible refine rd_intP ?_
  | with_reducible refine rd_rU ?_
  | with_reducible refine rd_fld ?_
  | with_reducible refine rd_eqI ?_
  | with_reducible refine rd_neI ?_
  | with_reducible refine rd_mko ?_
  | with_reducible refine rd_bm ?_
  | with_reducible refine rd_gsub ?_
  | with_reducible refine rd_i0 ?_)))
theorem ok_put (T : Tx K mg) (B : Bk K mg T) : FnOk P w K mg base CX0 1 B.put.f B.put.fd ["numbers", "at", "number"] spPutT := by
  refine B.put.F.ok sc_put (fun vs H Q E h => ?_) (fun cdv A outer s H vs Q E hr h => ?_)
  · obtain ⟨l, i, u, v, rfl, _⟩ := h
    rfl
  · obtain ⟨l, i, u, v, rfl, hv, hi, hl, q⟩ := h
    obtain ⟨a, rfl, ha⟩ := pl_intsD' hv
    refine ⟨_, (pss_one (ps_ret (pe_op op_catA (pe_op op_catA (pe_slice sl_tupA (pv 0) po_none (po_some (pv 1))) (pe_tup (pa_cons (pv 2) pa_nil))) (pe_slice sl_tupA (pv 0) (po_some (pe_op op_add (pv 1) pe_int)) po_none)))), ?_⟩
    walk_at "rd"
    refine rd_slP ha fun b1 H1 s1 hb1 => ?_
    rw [cut_to (i := i) (by rw [List.length_map]; omega)] at hb1
    walk_at "rd"
    refine rd_disp rfl fun b2 n2 => ?_
    have s2 := same_new (o := .tup [.int u]) n2
    walk_at "rd"
    refine rd_catP (s2 _ _ hb1) upd_same (by simp; omega) fun b3 H3 s3 hb3 => ?_
    walk_at "rd"
    rw [show (i : Int) + 1 = ((i + 1 : Nat) : Int) by omega]
    refine rd_slP (s3 _ _ (s2 _ _ (s1 _ _ ha))) fun b4 H4 s4 hb4 => ?_
    rw [cut_from (i := i + 1) (by rw [List.length_map]; omega)] at hb4
    walk_at "rd"
    refine rd_catP (s4 _ _ hb3) hb4 (by simp; omega) fun b5 H5 s5 hb5 => ?_
    refine q _ H5 ((((s1.trans s2).trans s3).trans s4).trans s5) (pl_intsD ?_)
    rw [hb5, ← set_split l hi]
    simp
theorem ok_woken (T : Tx K mg) (B : Bk K mg T) : FnOk P w K mg base CX0 1 B.woken.f B.woken.fd ["state"] (spS0 fun s => { s with up := true }) := by
  refine B.woken.F.ok sc_woken (fun vs H Q E h => ?_) (fun cdv A outer s H vs Q E hr h => ?_)
  · obtain ⟨st, n, v, rfl, _⟩ := h
    rfl
  · obtain ⟨st, n, v, rfl, hv, hl, q⟩ := h
    obtain ⟨a, b1, b2, b3, rfl, ha, h1, h2, h3⟩ := pl_st' hv
    refine ⟨_, (pss_one (ps_ret (pe_op op_catA (pe_tup (pa_cons pe_str pa_nil)) (pe_slice sl_tupA (pv 0) (po_some pe_int) po_none)))), ?_⟩
    walk_at "rd"
    refine rd_disp rfl fun c1 n1 => ?_
    have s1 := same_new (o := .tup [.str "awake"]) n1
    walk_at "rd"
    refine rd_slP (s1 _ _ ha) fun c2 H2 s2 hc2 => ?_
    rw [show (1 : Int) = ((1 : Nat) : Int) from rfl, cut_from (i := 1) (by simp)] at hc2
    walk_at "rd"
    refine rd_catP (s2 _ _ upd_same) hc2 (by simp) fun c3 H3 s3 hc3 => ?_
    have S := (s1.trans s2).trans s3
    exact q _ H3 S (pl_st (s := { st with up := true }) hc3 (pl_intsD (S _ _ h1)) (pl_intsD (S _ _ h2)) (pl_intsD (S _ _ h3)))
theorem ok_moved (T : Tx K mg) (B : Bk K mg T) : FnOk P w K mg base CX0 2 B.moved.f B.moved.fd ["state", "at", "units"] (spS2 St.go) := by
  have G_put := ok_put (P := P) (w := w) (base := base) T B
  refine B.moved.F.ok sc_moved (fun vs H Q E h => ?_) (fun cdv A outer s H vs Q E hr h => ?_)
  · obtain ⟨st, n, i, u, v, rfl, _⟩ := h
    rfl
  · obtain ⟨st, n, i, u, v, rfl, hv, hl, hi, q⟩ := h
    obtain ⟨a, b1, b2, b3, rfl, ha, h1, h2, h3⟩ := pl_st' hv
    refine ⟨_, (pss_cons (ps_asg (pv 0) (pg_tup (by rfl) (pgs_cons (pg_name (i := 3) sc_moved.nd rfl (Or.inl rfl)) (pgs_cons (pg_name (i := 4) sc_moved.nd rfl (Or.inl rfl)) (pgs_cons (pg_name (i := 5) sc_moved.nd rfl (Or.inl rfl)) (pgs_cons (pg_name (i := 6) sc_moved.nd rfl (Or.inl rfl)) (pgs_cons (pg_name (i := 7) sc_moved.nd rfl (Or.inl rfl)) (pgs_cons (pg_name (i := 8) sc_moved.nd rfl (Or.inl rfl)) pgs_nil))))))))
      (pss_one (ps_ret (pe_tup (pa_cons (pv 3) (pa_cons (pv 4) (pa_cons (pe_op op_sub (pv 5) (pv 2)) (pa_cons (pe_call G_put (hr.mono (by decide)) rfl B.put.m B.put.F.kp B.put.b .nil pass0 (pa_cons (pv 6) (pa_cons (pv 1) (pa_cons (pe_op op_add (pe_ix ix_tup (pv 6) (pv 1) (fun _ _ => rfl)) (pv 2)) pa_nil)))) (pa_cons (pv 7) (pa_cons (pv 8) pa_nil)))))))))), ?_⟩
    walk_at "rd"
    refine ⟨a, _, rfl, SqT.of ha, rfl, _, _, rfl, _, _, rfl, _, _, rfl, _, _, rfl, _, _, rfl, _, _, rfl, rfl, ?_⟩
    walk_at "rd"
    refine rd_ixT h1 (at_gi (by rw [hl.l1]; exact hi)) ?_
    walk_at "rd"
    refine ⟨st.str, i, _, .ref b1, rfl, pl_intsD h1, by rw [hl.l1]; exact hi, by rw [hl.l1]; exact hl.le, fun r H1 s1 hr1 => ?_⟩
    walk_at "rd"
    refine rd_disp rfl fun c nc => ?_
    have s2 := same_new (o := .tup [.str (stgS st.up), .int st.ht, .int (st.held - u), r, .ref b2, .ref b3]) nc
    have S := s1.trans s2
    obtain ⟨b1', rfl, h1'⟩ := pl_intsD' hr1
    exact q _ _ S (pl_st (s := st.go i u) upd_same (pl_intsD (s2 _ _ h1')) (pl_intsD (S _ _ h2)) (pl_intsD (S _ _ h3)))
theorem ok_taken (T : Tx K mg) (B : Bk K mg T) : FnOk P w K mg base CX0 3 B.taken.f B.taken.fd ["state", "at", "units"] (spS2 fun s i u => s.go i (-u)) := by
  have G_moved := ok_moved (P := P) (w := w) (base := base) T B
  refine B.taken.F.ok sc_taken (fun vs H Q E h => ?_) (fun cdv A outer s H vs Q E hr h => ?_)
  · obtain ⟨st, n, i, u, v, rfl, _⟩ := h
    rfl
  · obtain ⟨st, n, i, u, v, rfl, hv, hl, hi, q⟩ := h
    refine ⟨_, (pss_one (ps_ret (pe_call G_moved (hr.mono (by decide)) rfl B.moved.m B.moved.F.kp B.moved.b .nil pass0 (pa_cons (pv 0) (pa_cons (pv 1) (pa_cons (pe_un un_neg (pv 2)) pa_nil)))))), ?_⟩
    walk_at "rd"
    exact ⟨st, n, i, -u, v, rfl, hv, hl, hi, q⟩
theorem ok_held_again (T : Tx K mg) (B : Bk K mg T) : FnOk P w K mg base CX0 3 B.held_again.f B.held_again.fd ["state", "at"] (spS1 fun s i => s.go i (-gi s.snt i)) := by
  have G_moved := ok_moved (P := P) (w := w) (base := base) T B
  refine B.held_again.F.ok sc_held_again (fun vs H Q E h => ?_) (fun cdv A outer s H vs Q E hr h => ?_)
  · obtain ⟨st, n, i, v, rfl, _⟩ := h
    rfl
  · obtain ⟨st, n, i, v, rfl, hv, hl, hi, q⟩ := h
    obtain ⟨a, b1, b2, b3, rfl, ha, h1, h2, h3⟩ := pl_st' hv
    refine ⟨_, (pss_one (ps_ret (pe_call G_moved (hr.mono (by decide)) rfl B.moved.m B.moved.F.kp B.moved.b .nil pass0 (pa_cons (pv 0) (pa_cons (pv 1) (pa_cons (pe_un un_neg (pe_ix ix_tup (pe_ix ix_tup (pv 0) pe_int (fun _ _ => rfl)) (pv 1) (fun _ _ => rfl))) pa_nil)))))), ?_⟩
    walk_at "rd"
    refine rd_ixT ha rfl ?_
    walk_at "rd"
    refine rd_ixT h3 (at_gi (by rw [hl.l3]; exact hi)) ?_
    walk_at "rd"
    exact ⟨st, n, i, _, .ref a, rfl, hv, hl, hi, q⟩
theorem ok_believed (T : Tx K mg) (B : Bk K mg T) : FnOk P w K mg base CX0 2 B.believed.f B.believed.fd ["state", "at", "told"] (spS2 St.blv) := by
  have G_put := ok_put (P := P) (w := w) (base := base) T B
  refine B.believed.F.ok sc_believed (fun vs H Q E h => ?_) (fun cdv A outer s H vs Q E hr h => ?_)
  · obtain ⟨st, n, i, u, v, rfl, _⟩ := h
    rfl
  · obtain ⟨st, n, i, u, v, rfl, hv, hl, hi, q⟩ := h
    obtain ⟨a, b1, b2, b3, rfl, ha, h1, h2, h3⟩ := pl_st' hv
    refine ⟨_, (pss_cons (ps_asg (pv 0) (pg_tup (by rfl) (pgs_cons (pg_name (i := 3) sc_believed.nd rfl (Or.inl rfl)) (pgs_cons (pg_name (i := 4) sc_believed.nd rfl (Or.inl rfl)) (pgs_cons (pg_name (i := 5) sc_believed.nd rfl (Or.inl rfl)) (pgs_cons (pg_name (i := 6) sc_believed.nd rfl (Or.inl rfl)) (pgs_cons (pg_name (i := 7) sc_believed.nd rfl (Or.inl rfl)) (pgs_cons (pg_name (i := 8) sc_believed.nd rfl (Or.inl rfl)) pgs_nil))))))))
      (pss_one (ps_ret (pe_tup (pa_cons (pv 3) (pa_cons (pv 4) (pa_cons (pv 5) (pa_cons (pv 6) (pa_cons (pe_call G_put (hr.mono (by decide)) rfl B.put.m B.put.F.kp B.put.b .nil pass0 (pa_cons (pv 7) (pa_cons (pv 1) (pa_cons (pe_callB (call_max2 rfl) (by rfl) T.b_max (by decide +kernel) (pa_cons (pe_ix ix_tup (pv 7) (pv 1) (fun _ _ => rfl)) (pa_cons (pv 2) pa_nil))) pa_nil)))) (pa_cons (pv 8) pa_nil)))))))))), ?_⟩
    walk_at "rd"
    refine ⟨a, _, rfl, SqT.of ha, rfl, _, _, rfl, _, _, rfl, _, _, rfl, _, _, rfl, _, _, rfl, _, _, rfl, rfl, ?_⟩
    walk_at "rd"
    refine rd_ixT h2 (at_gi (by rw [hl.l2]; exact hi)) ?_
    walk_at "rd"
    refine ⟨_, _, rfl, ?_⟩
    refine ⟨st.bel, i, _, .ref b2, rfl, pl_intsD h2, by rw [hl.l2]; exact hi, by rw [hl.l2]; exact hl.le, fun r H1 s1 hr1 => ?_⟩
    walk_at "rd"
    refine rd_disp rfl fun c nc => ?_
    have s2 := same_new (o := .tup [.str (stgS st.up), .int st.ht, .int st.held, .ref b1, r, .ref b3]) nc
    have S := s1.trans s2
    obtain ⟨b1', rfl, h1'⟩ := pl_intsD' hr1
    exact q _ _ S (pl_st (s := st.blv i u) upd_same (pl_intsD (S _ _ h1)) (pl_intsD (s2 _ _ h1')) (pl_intsD (S _ _ h3)))
theorem ok_sent (T : Tx K mg) (B : Bk K mg T) : FnOk P w K mg base CX0 2 B.sent.f B.sent.fd ["state", "at", "units"] (spS2 St.snd) := by
  have G_put := ok_put (P := P) (w := w) (base := base) T B
  refine B.sent.F.ok sc_sent (fun vs H Q E h => ?_) (fun cdv A outer s H vs Q E hr h => ?_)
  · obtain ⟨st, n, i, u, v, rfl, _⟩ := h
    rfl
  · obtain ⟨st, n, i, u, v, rfl, hv, hl, hi, q⟩ := h
    obtain ⟨a, b1, b2, b3, rfl, ha, h1, h2, h3⟩ := pl_st' hv
    refine ⟨_, (pss_one (ps_ret (pe_op op_catA (pe_slice sl_tupA (pv 0) po_none (po_some pe_int)) (pe_tup (pa_cons (pe_call G_put (hr.mono (by decide)) rfl B.put.m B.put.F.kp B.put.b .nil pass0 (pa_cons (pe_ix ix_tup (pv 0) pe_int (fun _ _ => rfl)) (pa_cons (pv 1) (pa_cons (pv 2) pa_nil)))) pa_nil))))), ?_⟩
    walk_at "rd"
    refine rd_slP ha fun c1 H1 s1 hc1 => ?_
    rw [show (5 : Int) = ((5 : Nat) : Int) from rfl, cut_to (i := 5) (by simp)] at hc1
    walk_at "rd"
    refine rd_ixT (s1 _ _ ha) rfl ?_
    walk_at "rd"
    refine ⟨st.snt, i, u, .ref b3, rfl, pl_intsD (s1 _ _ h3), by rw [hl.l3]; exact hi, by rw [hl.l3]; exact hl.le, fun r H2 s2 hr2 => ?_⟩
    walk_at "rd"
    refine rd_disp rfl fun c nc => ?_
    have s3 := same_new (o := .tup [r]) nc
    walk_at "rd"
    refine rd_catP (s3 _ _ (s2 _ _ hc1)) upd_same (by simp) fun c4 H4 s4 hc4 => ?_
    have S := ((s1.trans s2).trans s3).trans s4
    obtain ⟨b3', rfl, h3'⟩ := pl_intsD' hr2
    exact q _ _ S (pl_st (s := st.snd i u) hc4 (pl_intsD (S _ _ h1)) (pl_intsD (S _ _ h2)) (pl_intsD (s4 _ _ (s3 _ _ h3'))))
theorem ok_answered (T : Tx K mg) (B : Bk K mg T) : FnOk P w K mg base CX0 3 B.answered.f B.answered.fd ["state", "at"] (spS1 fun s i => s.snd i 0) := by
  have G_sent := ok_sent (P := P) (w := w) (base := base) T B
  refine B.answered.F.ok sc_answered (fun vs H Q E h => ?_) (fun cdv A outer s H vs Q E hr h => ?_)
  · obtain ⟨st, n, i, v, rfl, _⟩ := h
    rfl
  · obtain ⟨st, n, i, v, rfl, hv, hl, hi, q⟩ := h
    refine ⟨_, (pss_one (ps_ret (pe_call G_sent (hr.mono (by decide)) rfl B.sent.m B.sent.F.kp B.sent.b .nil pass0 (pa_cons (pv 0) (pa_cons (pv 1) (pa_cons pe_int pa_nil)))))), ?_⟩
    walk_at "rd"
    exact ⟨st, n, i, 0, v, rfl, hv, hl, hi, q⟩
end
end Mw

/-! G4 -/
namespace Mw
open PySem L2
theorem inV_ints (x : Int) (l : List Int) : inV (.int x) (l.map V.int) = decide (x ∈ l) := by
  unfold inV
  rw [Bool.eq_iff_iff, List.any_eq_true, decide_eq_true_eq]
  constructor
  · rintro ⟨y, hy, e⟩
    obtain ⟨i, hi, rfl⟩ := List.mem_map.mp hy
    have : (i == x) = true := e
    rw [← beq_iff_eq.mp this]
    exact hi
  · intro h
    exact ⟨.int x, List.mem_map.mpr ⟨x, h, rfl⟩, by show (x == x) = true; simp⟩
theorem flat_ints (l : List Int) : (l.map V.int).all flatV = true := by
  rw [List.all_eq_true]
  intro y hy
  obtain ⟨i, _, rfl⟩ := List.mem_map.mp hy
  rfl
theorem stg_asleep (b : Bool) : decide (V.str (stgS b) = V.str "asleep") = !b := by cases b <;> rfl
theorem stg_awake (b : Bool) : decide (V.str (stgS b) = V.str "awake") = b := by cases b <;> rfl
theorem SOk.ls {e : Ev} {s : St} (h : SOk e s) (hl : e.nb.length ≤ 100) : Ls s e.nb.length := ⟨h.l1, h.l2, h.l3, hl⟩
theorem ev_len {m : Int} {L : List Tie} {sp mo : Int} (R : Right m L sp mo) (h : Int) : (evOf L h).nb.length ≤ 100 := by
  have := nb_len R h
  show (nbL L h).length ≤ 100
  omega
theorem canB_pour {e : Ev} {src : Bool} {s : St} {i : Nat} {u : Int} : canB e src s i (.pour u) = ((src && !s.up) && decide (u ≤ gi e.inn i + gi s.str i - gi s.snt i)) := rfl
theorem canB_push {e : Ev} {src : Bool} {s : St} {i : Nat} {u k : Int} : canB e src s i (.push u k) = decide (u ≤ gi e.inn i + gi s.str i - gi s.snt i) := rfl
def spRooms (C : Addr) : Sp := fun vs H Q _ => ∃ (p a : Addr) (m : Int) (L : List Tie) (sp mo h : Int) (s : St) (v : V), vs = [.ref a, .int h, v] ∧ WbAt C p H a m L sp mo ∧ 0 ≤ h ∧ h < m ∧ Pl H s.d v ∧ SOk (evOf L h) s ∧
  ∀ r H', Same H H' → H r = none → H' r = some (.lst ((rooms (evOf L h) s).map V.int)) → Q (.ref r) H'
def spCan (C : Addr) : Sp := fun vs H Q _ => ∃ (p a : Addr) (m : Int) (L : List Tie) (sp mo h f : Int) (s : St) (wd : Wd) (v vw : V), vs = [.ref a, .int h, v, .int f, vw] ∧ WbAt C p H a m L sp mo ∧ 0 ≤ h ∧ h < m ∧ Pl H s.d v ∧ SOk (evOf L h) s ∧ Pl H wd.d vw ∧
  ∀ H', Same H H' → Q (.bl (decide (f ∈ nbL L h) && canW (evOf L h) (decide (h = sp)) (decide (f = sp)) s ((nbL L h).idxOf f) wd)) H'
def doneD (r : St × List Wd) : PyData := .tuple [r.1.d, .tuple (r.2.map Wd.d)]
def spDone : Sp := fun vs H Q _ => ∃ (s : St) (n i : Nat) (wd : Wd) (v vw : V), vs = [v, .int (i : Int), vw] ∧ Pl H s.d v ∧ Pl H wd.d vw ∧ Ls s n ∧ i < n ∧ ∀ r H', Same H H' → Pl H' (doneD (done s i wd)) r → Q r H'
theorem pl_two {H : Hp} {a b : PyData} {v : V} (h : Pl H (.tuple [a, b]) v) : ∃ t x y, v = .ref t ∧ H t = some (.tup [x, y]) ∧ Pl H a x ∧ Pl H b y := by
  obtain ⟨t, xs, rfl, ht, hx⟩ := pl_tup' h
  obtain ⟨x, r, rfl, h1, hx⟩ := plAll_cons' hx
  obtain ⟨y, r2, rfl, h2, hx⟩ := plAll_cons' hx
  cases plAll_nil' hx
  exact ⟨t, x, y, rfl, ht, h1, h2⟩
/-- a word as it stands -/
def wdV : Wd → List V
  | .pour u => [.str "pour", .int u]
  | .push u h => [.str "push", .int u, .int h]
  | .yes => [.str "yes"]
  | .no h => [.str "no", .int h]
  | .rise h => [.str "rise", .int h]
theorem pl_wd' {H : Hp} {wd : Wd} {v : V} (h : Pl H wd.d v) : ∃ t, v = .ref t ∧ H t = some (.tup (wdV wd)) := by
  cases wd with
  | pour u =>
    obtain ⟨t, x, y, rfl, ht, h1, h2⟩ := pl_two h
    rw [pl_str' h1, pl_int' h2] at ht
    exact ⟨t, rfl, ht⟩
  | push u k =>
    obtain ⟨t, xs, rfl, ht, hx⟩ := pl_tup' h
    obtain ⟨x, r, rfl, h1, hx⟩ := plAll_cons' hx
    obtain ⟨y, r2, rfl, h2, hx⟩ := plAll_cons' hx
    obtain ⟨z, r3, rfl, h3, hx⟩ := plAll_cons' hx
    cases plAll_nil' hx
    rw [pl_str' h1, pl_int' h2, pl_int' h3] at ht
    exact ⟨t, rfl, ht⟩
  | yes =>
    obtain ⟨t, xs, rfl, ht, hx⟩ := pl_tup' h
    obtain ⟨x, r, rfl, h1, hx⟩ := plAll_cons' hx
    cases plAll_nil' hx
    rw [pl_str' h1] at ht
    exact ⟨t, rfl, ht⟩
  | no k =>
    obtain ⟨t, x, y, rfl, ht, h1, h2⟩ := pl_two h
    rw [pl_str' h1, pl_int' h2] at ht
    exact ⟨t, rfl, ht⟩
  | rise k =>
    obtain ⟨t, x, y, rfl, ht, h1, h2⟩ := pl_two h
    rw [pl_str' h1, pl_int' h2] at ht
    exact ⟨t, rfl, ht⟩
theorem pl_wd {H : Hp} {wd : Wd} {t : Addr} (h : H t = some (.tup (wdV wd))) : Pl H wd.d (.ref t) := by
  cases wd with
  | pour u => exact pl_tup h (plAll_cons pl_str (plAll_cons pl_int plAll_nil))
  | push u k => exact pl_tup h (plAll_cons pl_str (plAll_cons pl_int (plAll_cons pl_int plAll_nil)))
  | yes => exact pl_tup h (plAll_cons pl_str plAll_nil)
  | no k => exact pl_tup h (plAll_cons pl_str (plAll_cons pl_int plAll_nil))
  | rise k => exact pl_tup h (plAll_cons pl_str (plAll_cons pl_int plAll_nil))
section
variable {P : Program} {w : World} {K : PySem.W.Frag} {mg : Str → Option Value} {base : Heap}
local macro_rules | `(tactic| walk_at "rd") => `(tactic| (repeat (first
  | ((with_reducible refine' rd_var ?h0 ?_); (case h0 => rfl))
  | with_reducible refine rd_c ?_
  | with_reducible refine rd_op ?_
  | with_reducible refine rd_nil ?_
  | with_reducible refine rd_cons ?_
  | with_reducible refine rd_tup ?_
  | with_reducible refine rd_lst ?_
  | with_reducible refine rd_ifs ?_
  | with_reducible refine rd_seq ?_
  | with_reducible refine rd_next ?_
  | with_reducible refine rd_ret ?_
  | with_reducible refine rd_asg ?_
  | ((with_reducible refine' rd_gset ?hs ?_); (case hs => ((simp only [L2.start, List.map_cons, List.map_nil, List.length_cons, List.length_nil, List.cons_append, List.nil_append, List.set_cons_zero, List.set_cons_succ, Nat.reduceAdd, Nat.reduceSub, Nat.zero_add, List.reduceReplicate]); rfl)))
  | with_reducible refine rd_drop ?_
  | with_reducible refine rd_test ?_
  | with_reducible refine rd_B ?_
  | with_reducible refine rd_bl ?_
  | with_reducible refine rd_blP ?_
  | with_reducible refine rd_andV ?_
  | with_reducible refine rd_orV ?_
  | with_reducible refine rd_notV ?_
  | with_reducible refine rd_and ?_
  | with_reducible refine rd_or ?_
  | with_reducible refine rd_not ?_
  | with_reducible refine rd_chain ?_
  | with_reducible refine rd_dput ?_
  | with_reducible refine rd_dget ?_
  | with_reducible refine rd_cb ?_
  | with_reducible refine rd_call ?_
  | with_reducible refine rd_un ?_
  | with_reducible refine rd_sl ?_
  | with_reducible refine rd_nopart ?_
  | with_reducible refine rd_part ?_
  | with_reducible refine rd_intP ?_
  | with_reducible refine rd_rU ?_
  | with_reducible refine rd_fld ?_
  | with_reducible refine rd_eqI ?_
  | with_reducible refine rd_neI ?_
  | with_reducible refine rd_mko ?_
  | with_reducible refine rd_bm ?_
  | with_reducible refine rd_gsub ?_
  | with_reducible refine rd_i0 ?_)))
theorem ok_rooms (T : Tx K mg) (B : Bk K mg T) : FnOk P w K mg base CX0 6 B.rooms.f B.rooms.fd ["web", "house", "state"] (spRooms T.c_Web) := by
  have G_neighbours := ok_neighbours (P := P) (w := w) (base := base) T B
  have G_lets := ok_lets (P := P) (w := w) (base := base) T B
  refine B.rooms.F.ok sc_rooms (fun vs H Q E h => ?_) (fun cdv A outer s H vs Q E hr h => ?_)
  · obtain ⟨p, a, m, L, sp, mo, h, st, v, rfl, _⟩ := h
    rfl
  · obtain ⟨p, a, m, L, sp, mo, h, st, v, rfl, hw, h0, h1, hv, hs, q⟩ := h
    obtain ⟨sa, b1, b2, b3, rfl, ha, g1, g2, g3⟩ := pl_st' hv
    refine ⟨_, (pss_one (ps_ret (pe_lc (own := [("other", 3), ("units", 4)]) (g := (gTup K 2 (gCons (gName 3) (gCons (gName 4) gNil)))) rfl sc_rooms.nd (RZ.pi_zipA (by rfl) T.b_zip (pa_cons (pe_call G_neighbours (hr.mono (by decide)) rfl B.neighbours.m B.neighbours.F.kp B.neighbours.b .nil passL (pa_cons (pv 0) (pa_cons (pv 1) pa_nil))) (pa_cons (pe_ix ix_tup (pv 2) pe_int (fun _ _ => rfl)) pa_nil))) (blkOk_by (own := [("other", 3), ("units", 4)]) (N := ["web", "house", "state", "other", "units"]) (sc := defScope s_rooms) (by decide +kernel)) (fun _ _ _ _ _ => (pg_tup (by rfl) (pgs_cons (pg_name (i := 3) sc_rooms.nd rfl (Or.inl rfl)) (pgs_cons (pg_name (i := 4) sc_rooms.nd rfl (Or.inl rfl)) pgs_nil)))) (fun _ _ _ _ _ => pts_nil) (fun _ _ _ _ _ => (pe_op op_sub (pe_call G_lets (hr.mono (by decide)) rfl B.lets.m B.lets.F.kp B.lets.b .nil passL (pa_cons (pv 0) (pa_cons (pv 1) (pa_cons (pv 3) pa_nil)))) (pv 4)))))), ?_⟩
    walk_at "rd"
    refine rd_izip ?_
    walk_at "rd"
    refine nb_good hw h0 h1 fun r H1 hr s1 hr1 => ?_
    walk_at "rd"
    refine rd_ixT (s1 _ _ ha) rfl ?_
    have hlen : ((nbL L h).map V.int).length = (st.str.map V.int).length := by rw [List.length_map, List.length_map, hs.l1]; rfl
    refine ⟨r, b1, _, _, rfl, .inr ⟨hr1.sq, SqT.of (s1 _ _ g1), fun D hD => lc_zipT (K := K) (a := r) (b := b1) (xs := (nbL L h).map V.int) (ys := st.str.map V.int) hlen
      (fun i H2 => Same H1 H2 ∧ H2 D = some (.lst (((rooms (evOf L h) st).take i).map V.int))) ⟨same_new hD, upd_same⟩ (fun i H2 hh => ⟨(hr1.s hh.1).sq, SqT.of (hh.1 _ _ (s1 _ _ g1))⟩) ?_ ?_⟩⟩
    · rintro i y1 y2 t H2 hx hy ⟨hs2, hacc⟩ ht
      obtain ⟨o, ho, rfl⟩ := mapint_get hx
      obtain ⟨u, hu, rfl⟩ := mapint_get hy
      have hi : i < (nbL L h).length := (List.getElem?_eq_some_iff.mp ho).1
      have s3 := hs2.trans (same_new (o := .tup [V.int o, V.int u]) ht)
      have hDt : D ≠ t := ne_of_none hacc ht
      refine ⟨t, _, rfl, SqT.of upd_same, rfl, _, _, rfl, _, _, rfl, rfl, ?_⟩
      refine ⟨rfl, ?_⟩
      refine rd_tyes ?_
      refine rd_yes rfl ?_
      walk_at "rd"
      refine lets_good (hw.s (s1.trans s3)) (List.mem_of_getElem? ho) fun H4 s4 => ?_
      walk_at "rd"
      have hr4 : (rooms (evOf L h) st)[i]? = some (capOf L h o - u) := by
        unfold rooms
        have e1 : (evOf L h).out[i]? = some (capOf L h o) := by
          show ((nbL L h).map fun b => capOf L h b)[i]? = _
          rw [List.getElem?_map, ho]
          rfl
        rw [List.getElem?_zipWith, e1, hu]
      refine ⟨_, s4 _ _ ((upd_ne hDt).trans hacc), small' (by rw [List.length_map, List.length_take]; have := nb_len hw.2 h; omega), fun b' o' eb => (upd_ne (ne_of_none eb hD)).trans (s4 _ _ (s3 b' o' eb)), ?_⟩
      rw [upd_same, take_snoc hr4, List.map_append]
      rfl
    · rintro H2 ⟨hs2, hacc⟩
      rw [show ((nbL L h).map V.int).length = (rooms (evOf L h) st).length by rw [hs.rl, List.length_map]; rfl, List.take_length] at hacc
      exact q D H2 (s1.trans hs2) (s1.free hD) hacc
theorem ok_can_hear (T : Tx K mg) (B : Bk K mg T) : FnOk P w K mg base CX0 6 B.can_hear.f B.can_hear.fd ["web", "house", "state", "sender", "word"] (spCan T.c_Web) := by
  have G_neighbours := ok_neighbours (P := P) (w := w) (base := base) T B
  have G_lets := ok_lets (P := P) (w := w) (base := base) T B
  refine B.can_hear.F.ok sc_can_hear (fun vs H Q E h => ?_) (fun cdv A outer s H vs Q E hr h => ?_)
  · obtain ⟨p, a, m, L, sp, mo, h, f, st, wd, v, vw, rfl, _⟩ := h
    rfl
  · obtain ⟨p, a, m, L, sp, mo, h, f, st, wd, v, vw, rfl, hw, h0, h1, hv, hs, hvw, q⟩ := h
    obtain ⟨sa, b1, b2, b3, rfl, ha, g1, g2, g3⟩ := pl_st' hv
    obtain ⟨ta, rfl, hta⟩ := pl_wd' hvw
    obtain ⟨⟨dx, v2, v5, v6, hwa, t2, hwy, hlt⟩, R⟩ := id hw
    refine ⟨_, (pss_cons (ps_set (i := 5) sc_can_hear.nd rfl (Or.inl rfl) (pe_call G_neighbours (hr.mono (by decide)) rfl B.neighbours.m B.neighbours.F.kp B.neighbours.b .nil passL (pa_cons (pv 0) (pa_cons (pv 1) pa_nil))))
      (C8.pss_cut (ps_if (PW.pt (pw_or (pt_cmpR op_notIn_seq (pv 3) (pv 5) rfl) (pw_or1 (PW.pt (pw_and (pt_cmpR op_eq (pv 1) (pe_fld (pv 0) rfl) (nomark _)) (pw_and1 (pt_cmpR op_eq (pe_ix ix_tup (pv 2) pe_int (fun _ _ => rfl)) pe_str (nomark _)))))))) (pss_one (ps_ret pe_bl)) pss_nil)
      (pss_cons (ps_set (i := 6) sc_can_hear.nd rfl (Or.inl rfl) (pe_bmF PySem.F.slot_tuple_index PySem.F.type_tuple_index mt_tidx (pv 5) (pa_cons (pv 3) pa_nil)))
      (pss_cons (ps_set (i := 7) sc_can_hear.nd rfl (Or.inl rfl) (pe_ix ix_tup (pv 4) pe_int (fun _ _ => rfl)))
      (C8.pss_cut (ps_if (PW.pt (pw_and (pt_cmpR op_eq (pv 7) pe_str (nomark _)) (pw_and1 (PW.pt (pw_or (pt_cmpR op_ne (pv 3) (pe_fld (pv 0) rfl) (nomark _)) (pw_or1 (pt_cmpR op_eq (pe_ix ix_tup (pv 2) pe_int (fun _ _ => rfl)) pe_str (nomark _)))))))) (pss_one (ps_ret pe_bl)) pss_nil)
      (pss_cons (ps_if (pt_cmpR op_in_seq (pv 7) (pe_tup (pa_cons pe_str (pa_cons pe_str pa_nil))) rfl) (pss_one (ps_ret (pe_cmpR op_le (pe_ix ix_tup (pv 4) pe_int (fun _ _ => rfl)) (pe_op op_sub (pe_op op_add (pe_call G_lets (hr.mono (by decide)) rfl B.lets.m B.lets.F.kp B.lets.b .nil passL (pa_cons (pv 0) (pa_cons (pv 3) (pa_cons (pv 1) pa_nil)))) (pe_ix ix_tup (pe_ix ix_tup (pv 2) pe_int (fun _ _ => rfl)) (pv 6) (fun _ _ => rfl))) (pe_ix ix_tup (pe_ix ix_tup (pv 2) pe_int (fun _ _ => rfl)) (pv 6) (fun _ _ => rfl))) (nomark _)))) pss_nil)
      (pss_cons (ps_if (pt_cmpR op_in_seq (pv 7) (pe_tup (pa_cons pe_str (pa_cons pe_str pa_nil))) rfl) (pss_one (ps_ret (pe_cmpR op_gt (pe_ix ix_tup (pe_ix ix_tup (pv 2) pe_int (fun _ _ => rfl)) (pv 6) (fun _ _ => rfl)) pe_int (nomark _)))) pss_nil)
      (pss_one (ps_ret pe_bl))))))))), ?_⟩
    walk_at "rd"
    refine nb_good hw h0 h1 fun r H1 hr s1 hr1 => ?_
    have q1 := q H1 s1
    clear q1
    have hwa1 := s1 _ _ hwa.2
    have ha1 := s1 _ _ ha
    have hta1 := s1 _ _ hta
    have g11 := s1 _ _ g1
    have g31 := s1 _ _ g3
    walk_at "rd"
    refine ⟨fun σ' H' => σ' = [some (.ref a), some (.int h), some (.ref sa), some (.int f), some (.ref ta), some (.ref r), none, none] ∧ H' = H1 ∧ f ∈ nbL L h ∧ (decide (h = sp) && !st.up) = false, ?_, ?_⟩
    · walk_at "rd"
      refine ⟨r, _, rfl, .inr (hr1.sq), rfl, flat_ints _, ?_⟩
      rw [inV_ints]
      walk_at "rd"
      by_cases hf : f ∈ nbL L h
      · rw [decide_eq_true hf, Bool.true_and] at q
        refine rd_no (by rw [if_pos rfl, decide_eq_true hf]; rfl) ?_
        walk_at "rd"
        refine ⟨a, T.c_Web, dx, _, _, rfl, hwa1, T.W.cl, T.na_spring, wf_spring _ _ _ _ _ _, ?_⟩
        walk_at "rd"
        refine rd_ite (fun e1 => ?_) (fun e1 => ?_)
        · walk_at "rd"
          refine rd_ixT ha1 rfl ?_
          walk_at "rd"
          refine rd_eq rfl ?_
          rw [stg_asleep]
          walk_at "rd"
          cases e2 : st.up with
          | false =>
            refine rd_yes rfl ?_
            walk_at "rd"
            have q1 := q H1 s1
            unfold canW at q1
            rw [e1, e2] at q1
            exact q1
          | true =>
            refine rd_no rfl ?_
            walk_at "rd"
            exact ⟨rfl, rfl, hf, by rw [Bool.not_true, Bool.and_false]⟩
        · exact ⟨rfl, rfl, hf, by rw [e1, Bool.false_and]⟩
      · rw [decide_eq_false hf, Bool.false_and] at q
        refine rd_yes (by rw [if_pos rfl, decide_eq_false hf]; rfl) ?_
        walk_at "rd"
        refine rd_yes rfl ?_
        walk_at "rd"
        exact q H1 s1
    · rintro σ' H' ⟨rfl, rfl, hf, hsp⟩
      rw [decide_eq_true hf, Bool.true_and] at q
      have hi : (nbL L h).idxOf f < (nbL L h).length := List.idxOf_lt_length_iff.mpr hf
      generalize hj : (nbL L h).idxOf f = j at hi q
      have q2 : ∀ H2, Same H' H2 → Q (.bl (canB (evOf L h) (decide (f = sp)) st j wd)) H2 := fun H2 s2 => by
        have := q H2 (s1.trans s2)
        unfold canW at this
        rw [hsp, Bool.not_false, Bool.true_and] at this
        exact this
      have hst : st.str.length = (nbL L h).length := hs.l1
      have hsn : st.snt.length = (nbL L h).length := hs.l3
      have q3 := q2 H' (Same.refl H')
      walk_at "rd"
      refine rd_bmF ?_
      walk_at "rd"
      refine ⟨⟨r, _, rfl, hr1⟩, ?_⟩
      walk_at "rd"
      refine rd_idx hr1.sq hf ?_
      rw [hj]
      walk_at "rd"
      have ein : gi (evOf L h).inn j = capOf L f h := by
        refine gi_of ?_
        show ((nbL L h).map fun b => capOf L b h)[j]? = _
        rw [List.getElem?_map, ← hj, List.getElem?_eq_getElem (by rw [hj]; exact hi), List.getElem_idxOf]
        rfl
      have snb : h ∈ nbL L f := nb_symm.mp hf
      cases wd with
      | yes =>
        refine rd_ixT (v := .str "yes") hta1 rfl ?_
        walk_at "rd"
        refine ⟨fun σ2 H2 => σ2 = [some (.ref a), some (.int h), some (.ref sa), some (.int f), some (.ref ta), some (.ref r), some (.int (j : Nat)), some (.str "yes")] ∧ H2 = H', ?_, ?_⟩
        · walk_at "rd"
          refine rd_eq rfl ?_
          walk_at "rd"
          refine rd_no rfl ?_
          exact ⟨rfl, rfl⟩
        · rintro σ2 H2 ⟨rfl, rfl⟩
          walk_at "rd"
          refine rd_disp rfl fun t1 n1 => ?_
          have s2 := same_new (o := .tup [.str "pour", .str "push"]) n1
          refine ⟨t1, _, rfl, .inr (SqT.of upd_same), rfl, rfl, ?_⟩
          walk_at "rd"
          refine rd_no rfl ?_
          walk_at "rd"
          refine rd_disp rfl fun t2 n2 => ?_
          have s3 := s2.trans (same_new (o := .tup [.str "yes", .str "no"]) n2)
          refine ⟨t2, _, rfl, .inr (SqT.of upd_same), rfl, rfl, ?_⟩
          walk_at "rd"
          refine rd_yes rfl ?_
          walk_at "rd"
          refine rd_ixT (s3 _ _ ha1) rfl ?_
          walk_at "rd"
          refine rd_ixT (s3 _ _ g31) (at_gi (by rw [hsn]; exact hi)) ?_
          walk_at "rd"
          exact q2 _ s3
      | no k =>
        refine rd_ixT (v := .str "no") hta1 rfl ?_
        walk_at "rd"
        refine ⟨fun σ2 H2 => σ2 = [some (.ref a), some (.int h), some (.ref sa), some (.int f), some (.ref ta), some (.ref r), some (.int (j : Nat)), some (.str "no")] ∧ H2 = H', ?_, ?_⟩
        · walk_at "rd"
          refine rd_eq rfl ?_
          walk_at "rd"
          refine rd_no rfl ?_
          exact ⟨rfl, rfl⟩
        · rintro σ2 H2 ⟨rfl, rfl⟩
          walk_at "rd"
          refine rd_disp rfl fun t1 n1 => ?_
          have s2 := same_new (o := .tup [.str "pour", .str "push"]) n1
          refine ⟨t1, _, rfl, .inr (SqT.of upd_same), rfl, rfl, ?_⟩
          walk_at "rd"
          refine rd_no rfl ?_
          walk_at "rd"
          refine rd_disp rfl fun t2 n2 => ?_
          have s3 := s2.trans (same_new (o := .tup [.str "yes", .str "no"]) n2)
          refine ⟨t2, _, rfl, .inr (SqT.of upd_same), rfl, rfl, ?_⟩
          walk_at "rd"
          refine rd_yes rfl ?_
          walk_at "rd"
          refine rd_ixT (s3 _ _ ha1) rfl ?_
          walk_at "rd"
          refine rd_ixT (s3 _ _ g31) (at_gi (by rw [hsn]; exact hi)) ?_
          walk_at "rd"
          exact q2 _ s3
      | rise k =>
        refine rd_ixT (v := .str "rise") hta1 rfl ?_
        walk_at "rd"
        refine ⟨fun σ2 H2 => σ2 = [some (.ref a), some (.int h), some (.ref sa), some (.int f), some (.ref ta), some (.ref r), some (.int (j : Nat)), some (.str "rise")] ∧ H2 = H', ?_, ?_⟩
        · walk_at "rd"
          refine rd_eq rfl ?_
          walk_at "rd"
          refine rd_no rfl ?_
          exact ⟨rfl, rfl⟩
        · rintro σ2 H2 ⟨rfl, rfl⟩
          walk_at "rd"
          refine rd_disp rfl fun t1 n1 => ?_
          have s2 := same_new (o := .tup [.str "pour", .str "push"]) n1
          refine ⟨t1, _, rfl, .inr (SqT.of upd_same), rfl, rfl, ?_⟩
          walk_at "rd"
          refine rd_no rfl ?_
          walk_at "rd"
          refine rd_disp rfl fun t2 n2 => ?_
          have s3 := s2.trans (same_new (o := .tup [.str "yes", .str "no"]) n2)
          refine ⟨t2, _, rfl, .inr (SqT.of upd_same), rfl, rfl, ?_⟩
          walk_at "rd"
          refine rd_no rfl ?_
          walk_at "rd"
          exact q2 _ s3
      | push u k =>
        refine rd_ixT (v := .str "push") hta1 rfl ?_
        walk_at "rd"
        refine ⟨fun σ2 H2 => σ2 = [some (.ref a), some (.int h), some (.ref sa), some (.int f), some (.ref ta), some (.ref r), some (.int (j : Nat)), some (.str "push")] ∧ H2 = H', ?_, ?_⟩
        · walk_at "rd"
          refine rd_eq rfl ?_
          walk_at "rd"
          refine rd_no rfl ?_
          exact ⟨rfl, rfl⟩
        · rintro σ2 H2 ⟨rfl, rfl⟩
          walk_at "rd"
          refine rd_disp rfl fun t1 n1 => ?_
          have s2 := same_new (o := .tup [.str "pour", .str "push"]) n1
          refine ⟨t1, _, rfl, .inr (SqT.of upd_same), rfl, rfl, ?_⟩
          walk_at "rd"
          refine rd_yes rfl ?_
          walk_at "rd"
          refine rd_ixT (v := .int u) (s2 _ _ hta1) rfl ?_
          walk_at "rd"
          refine lets_good (hw.s (s1.trans s2)) snb fun H3 s3 => ?_
          have s23 := s2.trans s3
          walk_at "rd"
          refine rd_ixT (s23 _ _ ha1) rfl ?_
          walk_at "rd"
          refine rd_ixT (s23 _ _ g11) (at_gi (by rw [hst]; exact hi)) ?_
          walk_at "rd"
          refine rd_ixT (s23 _ _ ha1) rfl ?_
          walk_at "rd"
          refine rd_ixT (s23 _ _ g31) (at_gi (by rw [hsn]; exact hi)) ?_
          walk_at "rd"
          have q4 := q2 _ s23
          rw [canB_push] at q4
          rw [ein] at q4
          exact q4
      | pour u =>
        refine rd_ixT (v := .str "pour") hta1 rfl ?_
        walk_at "rd"
        refine ⟨fun σ2 H2 => σ2 = [some (.ref a), some (.int h), some (.ref sa), some (.int f), some (.ref ta), some (.ref r), some (.int (j : Nat)), some (.str "pour")] ∧ H2 = H' ∧ f = sp ∧ st.up = false, ?_, ?_⟩
        · walk_at "rd"
          refine rd_eq rfl ?_
          walk_at "rd"
          refine rd_yes rfl ?_
          walk_at "rd"
          refine ⟨a, T.c_Web, dx, _, _, rfl, hwa1, T.W.cl, T.na_spring, wf_spring _ _ _ _ _ _, ?_⟩
          walk_at "rd"
          rw [canB_pour] at q3
          by_cases ef : f = sp
          · refine rd_no (by rw [decide_eq_true ef]; rfl) ?_
            walk_at "rd"
            refine rd_ixT ha1 rfl ?_
            walk_at "rd"
            refine rd_eq rfl ?_
            rw [stg_awake]
            walk_at "rd"
            cases e2 : st.up with
            | true =>
              refine rd_yes rfl ?_
              walk_at "rd"
              rw [e2, Bool.not_true, Bool.and_false, Bool.false_and] at q3
              exact q3
            | false =>
              refine rd_no rfl ?_
              exact ⟨rfl, rfl, ef, rfl⟩
          · refine rd_yes (by rw [decide_eq_false ef]; rfl) ?_
            walk_at "rd"
            refine rd_yes rfl ?_
            walk_at "rd"
            rw [decide_eq_false ef, Bool.false_and, Bool.false_and] at q3
            exact q3
        · rintro σ2 H2 ⟨rfl, rfl, ef, e2⟩
          walk_at "rd"
          refine rd_disp rfl fun t1 n1 => ?_
          have s2 := same_new (o := .tup [.str "pour", .str "push"]) n1
          refine ⟨t1, _, rfl, .inr (SqT.of upd_same), rfl, rfl, ?_⟩
          walk_at "rd"
          refine rd_yes rfl ?_
          walk_at "rd"
          refine rd_ixT (v := .int u) (s2 _ _ hta1) rfl ?_
          walk_at "rd"
          refine lets_good (hw.s (s1.trans s2)) snb fun H3 s3 => ?_
          have s23 := s2.trans s3
          walk_at "rd"
          refine rd_ixT (s23 _ _ ha1) rfl ?_
          walk_at "rd"
          refine rd_ixT (s23 _ _ g11) (at_gi (by rw [hst]; exact hi)) ?_
          walk_at "rd"
          refine rd_ixT (s23 _ _ ha1) rfl ?_
          walk_at "rd"
          refine rd_ixT (s23 _ _ g31) (at_gi (by rw [hsn]; exact hi)) ?_
          walk_at "rd"
          have q4 := q2 _ s23
          rw [canB_pour] at q4
          rw [ein] at q4
          rw [decide_eq_true ef, e2, Bool.not_false, Bool.true_and, Bool.true_and] at q4
          exact q4
end
end Mw

/-! G5 -/
namespace Mw
open PySem L2
theorem pl_pair {H : Hp} {a b : PyData} {t : Addr} {x y : V} (h : H t = some (.tup [x, y])) (h1 : Pl H a x) (h2 : Pl H b y) : Pl H (.tuple [a, b]) (.ref t) := pl_tup h (plAll_cons h1 (plAll_cons h2 plAll_nil))
theorem Ls.go {s : St} {n i : Nat} {u : Int} (h : Ls s n) : Ls (s.go i u) n := ⟨by show (s.str.set i _).length = n; rw [List.length_set, h.l1], h.l2, h.l3, h.le⟩
theorem Ls.blv {s : St} {n i : Nat} {u : Int} (h : Ls s n) : Ls (s.blv i u) n := ⟨h.l1, by show (s.bel.set i _).length = n; rw [List.length_set, h.l2], h.l3, h.le⟩
theorem Ls.snd {s : St} {n i : Nat} {u : Int} (h : Ls s n) : Ls (s.snd i u) n := ⟨h.l1, h.l2, by show (s.snt.set i _).length = n; rw [List.length_set, h.l3], h.le⟩
theorem Ls.up {s : St} {n : Nat} {b : Bool} (h : Ls s n) : Ls { s with up := b } n := ⟨h.l1, h.l2, h.l3, h.le⟩
section
variable {P : Program} {w : World} {K : PySem.W.Frag} {mg : Str → Option Value} {base : Heap}
local macro_rules | `(tactic| walk_at "rd") => `(tactic| (repeat (first
  | ((with_reducible refine' rd_var ?h0 ?_); (case h0 => rfl))
  | with_reducible refine rd_c ?_
  | with_reducible refine rd_op ?_
  | with_reducible refine rd_nil ?_
  | with_reducible refine rd_cons ?_
  | with_reducible refine rd_tup ?_
  | with_reducible refine rd_lst ?_
  | with_reducible refine rd_ifs ?_
  | with_reducible refine rd_seq ?_
  | with_reducible refine rd_next ?_
  | with_reducible refine rd_ret ?_
  | with_reducible refine rd_asg ?_
  | ((with_reducible refine' rd_gset ?hs ?_); (case hs => ((simp only [L2.start, List.map_cons, List.map_nil, List.length_cons, List.length_nil, List.cons_append, List.nil_append, List.set_cons_zero, List.set_cons_succ, Nat.reduceAdd, Nat.reduceSub, Nat.zero_add, List.reduceReplicate]); rfl)))
  | with_reducible refine rd_drop ?_
  | with_reducible refine rd_test ?_
  | with_reducible refine rd_B ?_
  | with_reducible refine rd_bl ?_
  | with_reducible refine rd_blP ?_
  | with_reducible refine rd_andV ?_
  | with_reducible refine rd_orV ?_
  | with_reducible refine rd_notV ?_
  | with_reducible refine rd_and ?_
  | with_reducible refine rd_or ?_
  | with_reducible refine rd_not ?_
  | with_reducible refine rd_chain ?_
  | with_reducible refine rd_dput ?_
  | with_reducible refine rd_dget ?_
  | with_reducible refine rd_cb ?_
  | with_reducible refine rd_call ?_
  | with_reducible refine rd_un ?_
  | with_reducible refine rd_sl ?_
  | with_reducible refine rd_nopart ?_
  | with_reducible refine rd_part ?_
  | with_reducible refine rd_intP ?_
  | with_reducible refine rd_rU ?_
  | with_reducible refine rd_fld ?_
  | with_reducible refine rd_eqI ?_
  | with_reducible refine rd_neI ?_
  | with_reducible refine rd_mko ?_
  | with_reducible refine rd_bm ?_
  | with_reducible refine rd_gsub ?_
  | with_reducible refine rd_i0 ?_)))
theorem ok_done (T : Tx K mg) (B : Bk K mg T) : FnOk P w K mg base CX0 5 B.done.f B.done.fd ["state", "at", "word"] spDone := by
  have G_woken := ok_woken (P := P) (w := w) (base := base) T B
  have G_taken := ok_taken (P := P) (w := w) (base := base) T B
  have G_held_again := ok_held_again (P := P) (w := w) (base := base) T B
  have G_believed := ok_believed (P := P) (w := w) (base := base) T B
  have G_answered := ok_answered (P := P) (w := w) (base := base) T B
  refine B.done.F.ok sc_done (fun vs H Q E h => ?_) (fun cdv A outer s H vs Q E hr h => ?_)
  · obtain ⟨st, n, i, wd, v, vw, rfl, _⟩ := h
    rfl
  · obtain ⟨st, n, i, wd, v, vw, rfl, hv, hvw, hl, hi, q⟩ := h
    obtain ⟨ta, rfl, hta⟩ := pl_wd' hvw
    refine ⟨_, (pss_cons (ps_set (i := 3) sc_done.nd rfl (Or.inl rfl) (pe_ix ix_tup (pv 2) pe_int (fun _ _ => rfl)))
      (pss_cons (ps_if (pt_cmpR op_eq (pv 3) pe_str (nomark _)) (pss_one (ps_ret (pe_tup (pa_cons (pe_call G_taken (hr.mono (by decide)) rfl B.taken.m B.taken.F.kp B.taken.b .nil pass0 (pa_cons (pe_call G_woken (hr.mono (by decide)) rfl B.woken.m B.woken.F.kp B.woken.b .nil pass0 (pa_cons (pv 0) pa_nil)) (pa_cons (pv 1) (pa_cons (pe_ix ix_tup (pv 2) pe_int (fun _ _ => rfl)) pa_nil)))) (pa_cons (pe_tup pa_nil) pa_nil))))) pss_nil)
      (pss_cons (ps_if (pt_cmpR op_eq (pv 3) pe_str (nomark _)) (pss_cons (ps_set (i := 4) sc_done.nd rfl (Or.inl rfl) (pe_call G_believed (hr.mono (by decide)) rfl B.believed.m B.believed.F.kp B.believed.b .nil pass0 (pa_cons (pv 0) (pa_cons (pv 1) (pa_cons (pe_ix ix_tup (pv 2) pe_int (fun _ _ => rfl)) pa_nil)))))
      (pss_cons (ps_if (pt_cmpR op_eq (pe_ix ix_tup (pv 2) pe_int (fun _ _ => rfl)) (pe_op op_add (pe_ix ix_tup (pv 0) pe_int (fun _ _ => rfl)) pe_int) (nomark _)) (pss_one (ps_ret (pe_tup (pa_cons (pe_call G_taken (hr.mono (by decide)) rfl B.taken.m B.taken.F.kp B.taken.b .nil pass0 (pa_cons (pv 4) (pa_cons (pv 1) (pa_cons (pe_ix ix_tup (pv 2) pe_int (fun _ _ => rfl)) pa_nil)))) (pa_cons (pe_tup (pa_cons (pe_tup (pa_cons pe_str pa_nil)) pa_nil)) pa_nil))))) pss_nil)
      (pss_one (ps_ret (pe_tup (pa_cons (pv 4) (pa_cons (pe_tup (pa_cons (pe_tup (pa_cons pe_str (pa_cons (pe_ix ix_tup (pv 0) pe_int (fun _ _ => rfl)) pa_nil))) pa_nil)) pa_nil))))))) pss_nil)
      (pss_cons (ps_if (pt_cmpR op_eq (pv 3) pe_str (nomark _)) (pss_one (ps_ret (pe_tup (pa_cons (pe_call G_answered (hr.mono (by decide)) rfl B.answered.m B.answered.F.kp B.answered.b .nil pass0 (pa_cons (pv 0) (pa_cons (pv 1) pa_nil))) (pa_cons (pe_tup pa_nil) pa_nil))))) pss_nil)
      (pss_cons (ps_if (pt_cmpR op_eq (pv 3) pe_str (nomark _)) (pss_one (ps_ret (pe_tup (pa_cons (pe_call G_believed (hr.mono (by decide)) rfl B.believed.m B.believed.F.kp B.believed.b .nil pass0 (pa_cons (pe_call G_answered (hr.mono (by decide)) rfl B.answered.m B.answered.F.kp B.answered.b .nil pass0 (pa_cons (pe_call G_held_again (hr.mono (by decide)) rfl B.held_again.m B.held_again.F.kp B.held_again.b .nil pass0 (pa_cons (pv 0) (pa_cons (pv 1) pa_nil))) (pa_cons (pv 1) pa_nil))) (pa_cons (pv 1) (pa_cons (pe_ix ix_tup (pv 2) pe_int (fun _ _ => rfl)) pa_nil)))) (pa_cons (pe_tup pa_nil) pa_nil))))) pss_nil)
      (pss_one (ps_ret (pe_tup (pa_cons (pe_call G_believed (hr.mono (by decide)) rfl B.believed.m B.believed.F.kp B.believed.b .nil pass0 (pa_cons (pv 0) (pa_cons (pv 1) (pa_cons (pe_ix ix_tup (pv 2) pe_int (fun _ _ => rfl)) pa_nil)))) (pa_cons (pe_tup pa_nil) pa_nil)))))))))), ?_⟩
    walk_at "rd"
    cases wd with
    | pour u =>
      refine rd_ixT (v := .str "pour") hta rfl ?_
      walk_at "rd"
      refine rd_eq rfl ?_
      walk_at "rd"
      refine rd_yes rfl ?_
      walk_at "rd"
      refine ⟨st, n, v, rfl, hv, hl, fun r1 H1 s1 hr1 => ?_⟩
      walk_at "rd"
      refine rd_ixT (v := .int u) (s1 _ _ hta) rfl ?_
      refine ⟨_, n, i, u, r1, rfl, hr1, hl.up, hi, fun r2 H2 s2 hr2 => ?_⟩
      walk_at "rd"
      refine rd_disp rfl fun t1 n1 => ?_
      have s3 := same_new (o := .tup []) n1
      walk_at "rd"
      refine rd_disp rfl fun t2 n2 => ?_
      have s4 := same_new (o := .tup [r2, .ref t1]) n2
      exact q _ _ (((s1.trans s2).trans s3).trans s4) (pl_pair upd_same ((hr2.s s3).s s4) (pl_tup (s4 _ _ upd_same) plAll_nil))
    | push u k =>
      obtain ⟨sa, b1, b2, b3, rfl, ha, g1, g2, g3⟩ := pl_st' hv
      refine rd_ixT (v := .str "push") hta rfl ?_
      walk_at "rd"
      refine rd_eq rfl ?_
      walk_at "rd"
      refine rd_no rfl ?_
      walk_at "rd"
      refine rd_eq rfl ?_
      walk_at "rd"
      refine rd_yes rfl ?_
      walk_at "rd"
      refine rd_ixT (v := .int k) hta rfl ?_
      refine ⟨st, n, i, k, .ref sa, rfl, hv, hl, hi, fun r1 H1 s1 hr1 => ?_⟩
      walk_at "rd"
      refine rd_ixT (v := .int k) (s1 _ _ hta) rfl ?_
      walk_at "rd"
      refine rd_ixT (v := .int st.ht) (s1 _ _ ha) rfl ?_
      walk_at "rd"
      rw [done_push] at q
      refine rd_ite (fun e => ?_) (fun e => ?_)
      · have e' : k = st.ht + 1 := by simpa using e
        rw [if_pos e'] at q
        walk_at "rd"
        refine rd_ixT (v := .int u) (s1 _ _ hta) rfl ?_
        refine ⟨_, n, i, u, r1, rfl, hr1, hl.blv, hi, fun r2 H2 s2 hr2 => ?_⟩
        walk_at "rd"
        refine rd_disp rfl fun t1 n1 => ?_
        have s3 := same_new (o := .tup [.str "yes"]) n1
        walk_at "rd"
        refine rd_disp rfl fun t2 n2 => ?_
        have s4 := same_new (o := .tup [.ref t1]) n2
        walk_at "rd"
        refine rd_disp rfl fun t3 n3 => ?_
        have s5 := same_new (o := .tup [r2, .ref t2]) n3
        exact q _ _ ((((s1.trans s2).trans s3).trans s4).trans s5) (pl_pair upd_same (((hr2.s s3).s s4).s s5) (pl_tup (s5 _ _ upd_same) (plAll_cons (pl_wd (wd := .yes) (s5 _ _ (s4 _ _ upd_same))) plAll_nil)))
      · have e' : ¬ k = st.ht + 1 := by simpa using e
        rw [if_neg e'] at q
        walk_at "rd"
        refine rd_ixT (v := .int st.ht) (s1 _ _ ha) rfl ?_
        refine rd_disp rfl fun t1 n1 => ?_
        have s3 := same_new (o := .tup [.str "no", .int st.ht]) n1
        walk_at "rd"
        refine rd_disp rfl fun t2 n2 => ?_
        have s4 := same_new (o := .tup [.ref t1]) n2
        walk_at "rd"
        refine rd_disp rfl fun t3 n3 => ?_
        have s5 := same_new (o := .tup [r1, .ref t2]) n3
        exact q _ _ (((s1.trans s3).trans s4).trans s5) (pl_pair upd_same (((hr1.s s3).s s4).s s5) (pl_tup (s5 _ _ upd_same) (plAll_cons (pl_wd (wd := .no st.ht) (s5 _ _ (s4 _ _ upd_same))) plAll_nil)))
    | yes =>
      refine rd_ixT (v := .str "yes") hta rfl ?_
      walk_at "rd"
      refine rd_eq rfl ?_
      walk_at "rd"
      refine rd_no rfl ?_
      walk_at "rd"
      refine rd_eq rfl ?_
      walk_at "rd"
      refine rd_no rfl ?_
      walk_at "rd"
      refine rd_eq rfl ?_
      walk_at "rd"
      refine rd_yes rfl ?_
      walk_at "rd"
      refine ⟨st, n, i, v, rfl, hv, hl, hi, fun r1 H1 s1 hr1 => ?_⟩
      walk_at "rd"
      refine rd_disp rfl fun t1 n1 => ?_
      have s3 := same_new (o := .tup []) n1
      walk_at "rd"
      refine rd_disp rfl fun t2 n2 => ?_
      have s4 := same_new (o := .tup [r1, .ref t1]) n2
      exact q _ _ ((s1.trans s3).trans s4) (pl_pair upd_same ((hr1.s s3).s s4) (pl_tup (s4 _ _ upd_same) plAll_nil))
    | no k =>
      refine rd_ixT (v := .str "no") hta rfl ?_
      walk_at "rd"
      refine rd_eq rfl ?_
      walk_at "rd"
      refine rd_no rfl ?_
      walk_at "rd"
      refine rd_eq rfl ?_
      walk_at "rd"
      refine rd_no rfl ?_
      walk_at "rd"
      refine rd_eq rfl ?_
      walk_at "rd"
      refine rd_no rfl ?_
      walk_at "rd"
      refine rd_eq rfl ?_
      walk_at "rd"
      refine rd_yes rfl ?_
      walk_at "rd"
      refine ⟨st, n, i, v, rfl, hv, hl, hi, fun r1 H1 s1 hr1 => ?_⟩
      walk_at "rd"
      refine ⟨_, n, i, r1, rfl, hr1, hl.go, hi, fun r2 H2 s2 hr2 => ?_⟩
      walk_at "rd"
      refine rd_ixT (v := .int k) (s2 _ _ (s1 _ _ hta)) rfl ?_
      refine ⟨_, n, i, k, r2, rfl, hr2, hl.go.snd, hi, fun r3 H3 s3 hr3 => ?_⟩
      walk_at "rd"
      refine rd_disp rfl fun t1 n1 => ?_
      have s4 := same_new (o := .tup []) n1
      walk_at "rd"
      refine rd_disp rfl fun t2 n2 => ?_
      have s5 := same_new (o := .tup [r3, .ref t1]) n2
      exact q _ _ ((((s1.trans s2).trans s3).trans s4).trans s5) (pl_pair upd_same ((hr3.s s4).s s5) (pl_tup (s5 _ _ upd_same) plAll_nil))
    | rise k =>
      refine rd_ixT (v := .str "rise") hta rfl ?_
      walk_at "rd"
      refine rd_eq rfl ?_
      walk_at "rd"
      refine rd_no rfl ?_
      walk_at "rd"
      refine rd_eq rfl ?_
      walk_at "rd"
      refine rd_no rfl ?_
      walk_at "rd"
      refine rd_eq rfl ?_
      walk_at "rd"
      refine rd_no rfl ?_
      walk_at "rd"
      refine rd_eq rfl ?_
      walk_at "rd"
      refine rd_no rfl ?_
      walk_at "rd"
      refine rd_ixT (v := .int k) hta rfl ?_
      refine ⟨st, n, i, k, v, rfl, hv, hl, hi, fun r1 H1 s1 hr1 => ?_⟩
      walk_at "rd"
      refine rd_disp rfl fun t1 n1 => ?_
      have s3 := same_new (o := .tup []) n1
      walk_at "rd"
      refine rd_disp rfl fun t2 n2 => ?_
      have s4 := same_new (o := .tup [r1, .ref t1]) n2
      exact q _ _ ((s1.trans s3).trans s4) (pl_pair upd_same ((hr1.s s3).s s4) (pl_tup (s4 _ _ upd_same) plAll_nil))
end
end Mw

/-! G6 -/
namespace Mw
open PySem L2
def ndD (x : Int × Wd) : PyData := .tuple [.int x.1, x.2.d]
/-- words to neighbours, in a list at l -/
def NdAt (H : Hp) (l : Addr) (ws : List (Int × Wd)) : Prop := ∃ xs, H l = some (.lst xs) ∧ PlAll H (ws.map ndD) xs
/-- what is told of an act -/
def ActAt (H0 H : Hp) (v : V) : Option (St × List (Int × Wd)) → Prop
  | none => v = .non
  | some r => ∃ t x l, v = .ref t ∧ H t = some (.tup [x, .ref l]) ∧ Pl H r.1.d x ∧ NdAt H l r.2 ∧ H0 l = none
def spAct (C : Addr) : Sp := fun vs H Q _ => ∃ (p a : Addr) (m : Int) (L : List Tie) (sp mo h : Int) (s : St) (v : V), vs = [.ref a, .int h, v] ∧ WbAt C p H a m L sp mo ∧ 0 ≤ h ∧ h < m ∧ Pl H s.d v ∧ SOk (evOf L h) s ∧
  ∀ r H', Same H H' → ActAt H H' r (act (evOf L h) s) → Q r H'
def spPushing (C : Addr) : Sp := fun vs H Q _ => ∃ (p a : Addr) (m : Int) (L : List Tie) (sp mo h : Int) (s : St) (i : Nat) (u : Int) (v : V), vs = [.ref a, .int h, v, .int (i : Int), .int u] ∧ WbAt C p H a m L sp mo ∧ 0 ≤ h ∧ h < m ∧ Pl H s.d v ∧ SOk (evOf L h) s ∧ i < (nbL L h).length ∧
  ∀ r H', Same H H' → ActAt H H' r (some (pushS (evOf L h) s i u)) → Q r H'
def riseS (e : Ev) (s : St) (k : Int) : Option (St × List (Int × Wd)) := if k ≤ s.ht ∨ 1000 ≤ k then none else some ({ s with ht := k }, e.nb.map fun b => (b, .rise k))
def spRising (C : Addr) : Sp := fun vs H Q _ => ∃ (p a : Addr) (m : Int) (L : List Tie) (sp mo h : Int) (s : St) (k : Int) (v : V), vs = [.ref a, .int h, v, .int k] ∧ WbAt C p H a m L sp mo ∧ 0 ≤ h ∧ h < m ∧ Pl H s.d v ∧ SOk (evOf L h) s ∧
  ∀ r H', Same H H' → ActAt H H' r (riseS (evOf L h) s k) → Q r H'
theorem act_rise {e : Ev} {s : St} (h1 : ¬ s.held ≤ 0) (h2 : downh (rooms e s) s = []) (h3 : ¬ (wide (rooms e s) = [] ∨ s.snt.any (fun u => decide (u > 0)) = true)) : act e s = riseS e s (loL ((wide (rooms e s)).map fun i => gi s.bel i) + 1) := by
  unfold act riseS
  rw [if_neg h1, h2]
  simp only [if_neg h3]
theorem pl_nd {H : Hp} {b : Int} {wd : Wd} {t : Addr} {x : V} (h : H t = some (.tup [.int b, x])) (h1 : Pl H wd.d x) : Pl H (ndD (b, wd)) (.ref t) := pl_tup h (plAll_cons pl_int (plAll_cons h1 plAll_nil))
section
variable {P : Program} {w : World} {K : PySem.W.Frag} {mg : Str → Option Value} {base : Heap}
local macro_rules | `(tactic| walk_at "rd") => `(tactic| (repeat (first
  | ((with_reducible refine' rd_var ?h0 ?_); (case h0 => rfl))
  | with_reducible refine rd_c ?_
  | with_reducible refine rd_op ?_
  | with_reducible refine rd_nil ?_
  | with_reducible refine rd_cons ?_
  | with_reducible refine rd_tup ?_
  | with_reducible refine rd_lst ?_
  | with_reducible refine rd_ifs ?_
  | with_reducible refine rd_seq ?_
  | with_reducible refine rd_next ?_
  | with_reducible refine rd_ret ?_
  | with_reducible refine rd_asg ?_
  | ((with_reducible refine' rd_gset ?hs ?_); (case hs => ((simp only [L2.start, List.map_cons, List.map_nil, List.length_cons, List.length_nil, List.cons_append, List.nil_append, List.set_cons_zero, List.set_cons_succ, Nat.reduceAdd, Nat.reduceSub, Nat.zero_add, List.reduceReplicate]); rfl)))
  | with_reducible refine rd_drop ?_
  | with_reducible refine rd_test ?_
  | with_reducible refine rd_B ?_
  | with_reducible refine rd_bl ?_
  | with_reducible refine rd_blP ?_
  | with_reducible refine rd_andV ?_
  | with_reducible refine rd_orV ?_
  | with_reducible refine rd_notV ?_
  | with_reducible refine rd_and ?_
  | with_reducible refine rd_or ?_
  | with_reducible refine rd_not ?_
  | with_reducible refine rd_chain ?_
  | with_reducible refine rd_dput ?_
  | with_reducible refine rd_dget ?_
  | with_reducible refine rd_cb ?_
  | with_reducible refine rd_call ?_
  | with_reducible refine rd_un ?_
  | with_reducible refine rd_sl ?_
  | with_reducible refine rd_nopart ?_
  | with_reducible refine rd_part ?_
  | with_reducible refine rd_intP ?_
  | with_reducible refine rd_rU ?_
  | with_reducible refine rd_fld ?_
  | with_reducible refine rd_eqI ?_
  | with_reducible refine rd_neI ?_
  | with_reducible refine rd_mko ?_
  | with_reducible refine rd_bm ?_
  | with_reducible refine rd_gsub ?_
  | with_reducible refine rd_i0 ?_)))
theorem ok_pushing (T : Tx K mg) (B : Bk K mg T) : FnOk P w K mg base CX0 6 B.pushing.f B.pushing.fd ["web", "house", "state", "at", "units"] (spPushing T.c_Web) := by
  have G_moved := ok_moved (P := P) (w := w) (base := base) T B
  have G_sent := ok_sent (P := P) (w := w) (base := base) T B
  have G_neighbours := ok_neighbours (P := P) (w := w) (base := base) T B
  refine B.pushing.F.ok sc_pushing (fun vs H Q E h => ?_) (fun cdv A outer s H vs Q E hr h => ?_)
  · obtain ⟨p, a, m, L, sp, mo, h, st, i, u, v, rfl, _⟩ := h
    rfl
  · obtain ⟨p, a, m, L, sp, mo, h, st, i, u, v, rfl, hw, h0, h1, hv, hs, hi, q⟩ := h
    have hl := hs.ls (ev_len hw.2 h)
    refine ⟨_, (pss_cons (ps_set (i := 5) sc_pushing.nd rfl (Or.inl rfl) (pe_call G_sent (hr.mono (by decide)) rfl B.sent.m B.sent.F.kp B.sent.b .nil pass0 (pa_cons (pe_call G_moved (hr.mono (by decide)) rfl B.moved.m B.moved.F.kp B.moved.b .nil pass0 (pa_cons (pv 2) (pa_cons (pv 3) (pa_cons (pv 4) pa_nil)))) (pa_cons (pv 3) (pa_cons (pv 4) pa_nil)))))
      (pss_one (ps_ret (pe_tup (pa_cons (pv 5) (pa_cons (pe_lst (pa_cons (pe_tup (pa_cons (pe_ix ix_tup (pe_call G_neighbours (hr.mono (by decide)) rfl B.neighbours.m B.neighbours.F.kp B.neighbours.b .nil passL (pa_cons (pv 0) (pa_cons (pv 1) pa_nil))) (pv 3) (fun _ _ => rfl)) (pa_cons (pe_tup (pa_cons pe_str (pa_cons (pv 4) (pa_cons (pe_ix ix_tup (pv 2) pe_int (fun _ _ => rfl)) pa_nil)))) pa_nil))) pa_nil)) pa_nil)))))), ?_⟩
    obtain ⟨sa, b1, b2, b3, rfl, ha, g1, g2, g3⟩ := pl_st' hv
    walk_at "rd"
    refine ⟨st, _, i, u, .ref sa, rfl, hv, hl, hi, fun r1 H1 s1 hr1 => ?_⟩
    walk_at "rd"
    refine ⟨_, _, i, u, r1, rfl, hr1, hl.go, hi, fun r2 H2 s2 hr2 => ?_⟩
    have s12 := s1.trans s2
    walk_at "rd"
    refine nb_good (hw.s s12) h0 h1 fun r3 H3 hr3 s3 hn3 => ?_
    have s13 := s12.trans s3
    walk_at "rd"
    obtain ⟨o3, o1, o2, o4⟩ := id hn3
    refine ⟨r3, _, _, _, rfl, rfl, hn3.sq, at_gi hi, ?_⟩
    walk_at "rd"
    refine rd_ixT (v := .int st.ht) (s13 _ _ ha) rfl ?_
    refine rd_disp rfl fun t1 n1 => ?_
    have s4 := same_new (o := .tup [.str "push", .int u, .int st.ht]) n1
    walk_at "rd"
    refine rd_disp rfl fun t2 n2 => ?_
    have s5 := same_new (o := .tup [.int (gi (nbL L h) i), .ref t1]) n2
    walk_at "rd"
    refine rd_disp rfl fun t3 n3 => ?_
    have s6 := same_new (o := .lst [.ref t2]) n3
    walk_at "rd"
    refine rd_disp rfl fun t4 n4 => ?_
    have s7 := same_new (o := .tup [r2, .ref t3]) n4
    have S := (((s13.trans s4).trans s5).trans s6).trans s7
    exact q _ _ S ⟨t4, r2, t3, rfl, upd_same, (((((hr2.s s3).s s4).s s5).s s6).s s7), ⟨[.ref t2], s7 _ _ upd_same, plAll_cons (pl_nd (wd := .push u st.ht) (s7 _ _ (s6 _ _ upd_same)) (pl_wd (wd := .push u st.ht) (s7 _ _ (s6 _ _ (s5 _ _ upd_same))))) plAll_nil⟩, ((s13.trans s4).trans s5).free n3⟩
theorem ok_rising (T : Tx K mg) (B : Bk K mg T) : FnOk P w K mg base CX0 6 B.rising.f B.rising.fd ["web", "house", "state", "height"] (spRising T.c_Web) := by
  have G_neighbours := ok_neighbours (P := P) (w := w) (base := base) T B
  refine B.rising.F.ok sc_rising (fun vs H Q E h => ?_) (fun cdv A outer s H vs Q E hr h => ?_)
  · obtain ⟨p, a, m, L, sp, mo, h, st, k, v, rfl, _⟩ := h
    rfl
  · obtain ⟨p, a, m, L, sp, mo, h, st, k, v, rfl, hw, h0, h1, hv, hs, q⟩ := h
    refine ⟨_, (pss_cons (ps_if (PW.pt (pw_or (pt_cmpR op_le (pv 3) (pe_ix ix_tup (pv 2) pe_int (fun _ _ => rfl)) (nomark _)) (pw_or1 (pt_cmpR op_ge (pv 3) (pe_glob (v := .int 1000) (by rfl) T.g_HEIGHT_LIMIT ⟨_, rfl⟩) (nomark _))))) (pss_one (ps_ret pe_non)) pss_nil)
      (pss_cons (ps_setLc (i := 4) (own := [("other", 5)]) (g := gName 5) rfl sc_rising.nd rfl rfl (sw_true rfl rfl rfl (by decide +kernel)) (pi_tup (pe_call G_neighbours (hr.mono (by decide)) rfl B.neighbours.m B.neighbours.F.kp B.neighbours.b .nil passL (pa_cons (pv 0) (pa_cons (pv 1) pa_nil)))) (blkOk_by (own := [("other", 5)]) (N := ["web", "house", "state", "height", "words", "other"]) (sc := defScope s_rising) (by decide +kernel)) (fun _ _ _ _ _ => pg_name (i := 5) sc_rising.nd rfl (Or.inl rfl)) (fun _ _ _ _ _ => pts_nil) (fun _ _ _ _ _ => (pe_tup (pa_cons (pv 5) (pa_cons (pe_tup (pa_cons pe_str (pa_cons (pv 3) pa_nil))) pa_nil)))))
      (pss_one (ps_ret (pe_tup (pa_cons (pe_op op_catA (pe_tup (pa_cons (pe_ix ix_tup (pv 2) pe_int (fun _ _ => rfl)) (pa_cons (pv 3) pa_nil))) (pe_slice sl_tupA (pv 2) (po_some pe_int) po_none)) (pa_cons (pv 4) pa_nil))))))), ?_⟩
    obtain ⟨sa, b1, b2, b3, rfl, ha, g1, g2, g3⟩ := pl_st' hv
    unfold riseS at q
    walk_at "rd"
    refine rd_ixT (v := .int st.ht) ha rfl ?_
    walk_at "rd"
    refine rd_ite (fun e1 => ?_) (fun e1 => ?_)
    · refine rd_yes rfl ?_
      walk_at "rd"
      rw [if_pos (.inl (of_decide_eq_true e1))] at q
      exact q _ _ (Same.refl H) rfl
    · walk_at "rd"
      refine rd_ite (fun e2 => ?_) (fun e2 => ?_)
      · rw [if_pos (.inr (of_decide_eq_true e2))] at q
        walk_at "rd"
        exact q _ _ (Same.refl H) rfl
      · have e1' := of_decide_eq_false e1
        have e2' := of_decide_eq_false e2
        rw [if_neg (by rw [not_or]; exact ⟨e1', e2'⟩)] at q
        walk_at "rd"
        show iTup _ _ _ _ _
        refine rd_itup ?_
        walk_at "rd"
        refine nb_good hw h0 h1 fun r1 H1 hr1 s1 hn1 => ?_
        have hw1 := hn1.sq (K := K)
        refine ⟨r1, rfl, ⟨_, hw1⟩, fun D hD => lc_tup (K := K) (a := r1) (xs := (nbL L h).map V.int) (fun i H2 => Same H1 H2 ∧ ∃ xs, H2 D = some (.lst xs) ∧ PlAll H2 (((((nbL L h).take i).map fun b => (b, Wd.rise k))).map ndD) xs) ⟨same_new hD, [], upd_same, plAll_nil⟩ (fun i H2 _ hh => (hn1.s hh.1).sq) ?_ ?_⟩
        · rintro i y H2 hi ⟨hs2, xs, hacc, hx⟩
          obtain ⟨b, hb, rfl⟩ := mapint_get hi
          refine ⟨rfl, ?_⟩
          refine rd_tyes ?_
          refine rd_yes rfl ?_
          walk_at "rd"
          refine rd_disp rfl fun t1 n1 => ?_
          have s3 := same_new (o := .tup [.str "rise", .int k]) n1
          walk_at "rd"
          refine rd_disp rfl fun t2 n2 => ?_
          have s4 := s3.trans (same_new (o := .tup [.int b, .ref t1]) n2)
          have hDn : ∀ z xs, (upd (upd H2 t1 (.tup [.str "rise", .int k])) t2 (.tup [.int b, .ref t1])) z = some (.tup xs) → z ≠ D := fun z zs e => ne_of e (s4 _ _ hacc) (by intro z; cases z)
          have kt : KT (upd (upd H2 t1 (.tup [.str "rise", .int k])) t2 (.tup [.int b, .ref t1])) (upd (upd (upd H2 t1 (.tup [.str "rise", .int k])) t2 (.tup [.int b, .ref t1])) D (.lst (xs ++ [.ref t2]))) := KT.mut (s4 _ _ hacc) (by intro zs z; cases z)
          have hlen := hx.len
          refine ⟨xs, s4 _ _ hacc, small' (by rw [← hlen, List.length_map, List.length_map, List.length_take]; have := nb_len hw.2 h; omega), fun z o ez => (upd_ne (ne_of_none ez hD)).trans (s4 _ _ (hs2 z o ez)), xs ++ [.ref t2], upd_same, ?_⟩
          rw [take_snoc hb, List.map_append, List.map_append]
          refine ((hx.s s4).t kt).append (plAll_cons ?_ plAll_nil)
          exact (pl_nd (wd := .rise k) upd_same (pl_wd (wd := .rise k) ((same_new (o := .tup [.int b, .ref t1]) n2) _ _ upd_same))).t kt
        · rintro H2 ⟨hs2, xs, hacc, hx⟩
          rw [List.length_map, List.take_length] at hx
          have S2 := s1.trans hs2
          walk_at "rd"
          refine rd_ixT (v := .str (stgS st.up)) (S2 _ _ ha) rfl ?_
          walk_at "rd"
          refine rd_disp rfl fun t1 n1 => ?_
          have s3 := same_new (o := .tup [.str (stgS st.up), .int k]) n1
          walk_at "rd"
          refine rd_slP (s3 _ _ (S2 _ _ ha)) fun t2 H4 s4 ht2 => ?_
          rw [show (2 : Int) = ((2 : Nat) : Int) from rfl, cut_from (i := 2) (by simp)] at ht2
          walk_at "rd"
          refine rd_catP (s4 _ _ upd_same) ht2 (by simp) fun t3 H5 s5 ht3 => ?_
          walk_at "rd"
          refine rd_disp rfl fun t4 n4 => ?_
          have s6 := same_new (o := .tup [.ref t3, .ref D]) n4
          have S5 := (S2.trans s3).trans (s4.trans s5)
          have S6 := S5.trans s6
          refine q _ _ S6 ⟨t4, .ref t3, D, rfl, upd_same, (pl_st (s := { st with ht := k }) ht3 (pl_intsD (S5 _ _ g1)) (pl_intsD (S5 _ _ g2)) (pl_intsD (S5 _ _ g3))).s s6, ⟨xs, s6 _ _ (s5 _ _ (s4 _ _ (s3 _ _ hacc))), hx.s ((s3.trans (s4.trans s5)).trans s6)⟩, s1.free hD⟩
end
end Mw

/-! G7 -/
namespace Mw
open PySem L2
def natV (l : List Nat) : List V := l.map fun (i : Nat) => V.int (i : Int)
theorem wide_take {rs : List Int} {i : Nat} {r : Int} (h : rs[i]? = some r) : (List.range (i + 1)).filter (fun i => decide (0 < gi rs i)) = (List.range i).filter (fun i => decide (0 < gi rs i)) ++ (if 0 < r then [i] else []) := by
  rw [List.range_succ, List.filter_append]
  congr 1
  rw [List.filter_cons, List.filter_nil, gi_of h]
  by_cases c : 0 < r
  · rw [if_pos (decide_eq_true c), if_pos c]
  · rw [if_neg (by rw [decide_eq_false c]; exact Bool.false_ne_true), if_neg c]
theorem filt_take {α : Type} {p : α → Bool} {l : List α} {i : Nat} {x : α} (h : l[i]? = some x) : (l.take (i + 1)).filter p = (l.take i).filter p ++ (if p x = true then [x] else []) := by
  rw [take_snoc h, List.filter_append]
  congr 1
  rw [List.filter_cons, List.filter_nil]
theorem wide_len (rs : List Int) : (wide rs).length ≤ rs.length := by
  unfold wide
  have := List.length_filter_le (fun i => decide (0 < gi rs i)) (List.range rs.length)
  rw [List.length_range] at this
  exact this
theorem downh_len (rs : List Int) (s : St) : (downh rs s).length ≤ rs.length := Nat.le_trans (List.length_filter_le _ _) (wide_len rs)
section
variable {P : Program} {w : World} {K : PySem.W.Frag} {mg : Str → Option Value} {base : Heap}
local macro_rules | `(tactic| walk_at "rd") => `(tactic| (repeat (first
  | ((with_reducible refine' rd_var ?h0 ?_); (case h0 => rfl))
  | with_reducible refine rd_c ?_
  | with_reducible refine rd_op ?_
  | with_reducible refine rd_nil ?_
  | with_reducible refine rd_cons ?_
  | with_reducible refine rd_tup ?_
  | with_reducible refine rd_lst ?_
  | with_reducible refine rd_ifs ?_
  | with_reducible refine rd_seq ?_
  | with_reducible refine rd_next ?_
  | with_reducible refine rd_ret ?_
  | with_reducible refine rd_asg ?_
  | ((with_reducible refine' rd_gset ?hs ?_); (case hs => ((simp only [L2.start, List.map_cons, List.map_nil, List.length_cons, List.length_nil, List.cons_append, List.nil_append, List.set_cons_zero, List.set_cons_succ, Nat.reduceAdd, Nat.reduceSub, Nat.zero_add, List.reduceReplicate]); rfl)))
  | with_reducible refine rd_drop ?_
  | with_reducible refine rd_test ?_
  | with_reducible refine rd_B ?_
  | with_reducible refine rd_bl ?_
  | with_reducible refine rd_blP ?_
  | with_reducible refine rd_andV ?_
  | with_reducible refine rd_orV ?_
  | with_reducible refine rd_notV ?_
  | with_reducible refine rd_and ?_
  | with_reducible refine rd_or ?_
  | with_reducible refine rd_not ?_
  | with_reducible refine rd_chain ?_
  | with_reducible refine rd_dput ?_
  | with_reducible refine rd_dget ?_
  | with_reducible refine rd_cb ?_
  | with_reducible refine rd_call ?_
  | with_reducible refine rd_un ?_
  | with_reducible refine rd_sl ?_
  | with_reducible refine rd_nopart ?_
  | with_reducible refine rd_part ?_
  | with_reducible refine rd_intP ?_
  | with_reducible refine rd_rU ?_
  | with_reducible refine rd_fld ?_
  | with_reducible refine rd_eqI ?_
  | with_reducible refine rd_neI ?_
  | with_reducible refine rd_mko ?_
  | with_reducible refine rd_bm ?_
  | with_reducible refine rd_gsub ?_
  | with_reducible refine rd_i0 ?_)))
theorem ok_next_act (T : Tx K mg) (B : Bk K mg T) : FnOk P w K mg base CX0 8 B.next_act.f B.next_act.fd ["web", "house", "state"] (spAct T.c_Web) := by
  have G_rooms := ok_rooms (P := P) (w := w) (base := base) T B
  have G_pushing := ok_pushing (P := P) (w := w) (base := base) T B
  have G_rising := ok_rising (P := P) (w := w) (base := base) T B
  refine B.next_act.F.ok sc_next_act (fun vs H Q E h => ?_) (fun cdv A outer s H vs Q E hr h => ?_)
  · obtain ⟨p, a, m, L, sp, mo, h, st, v, rfl, _⟩ := h
    rfl
  · obtain ⟨p, a, m, L, sp, mo, h, st, v, rfl, hw, h0, h1, hv, hs, q⟩ := h
    refine ⟨_, (pss_cons (ps_asg (pe_slice sl_tupA (pv 2) (po_some pe_int) po_none) (pg_tup (by rfl) (pgs_cons (pg_name (i := 3) sc_next_act.nd rfl (Or.inr rfl)) (pgs_cons (pg_name (i := 4) sc_next_act.nd rfl (Or.inl rfl)) (pgs_cons (pg_name (i := 5) sc_next_act.nd rfl (Or.inl rfl)) (pgs_cons (pg_name (i := 6) sc_next_act.nd rfl (Or.inr rfl)) (pgs_cons (pg_name (i := 7) sc_next_act.nd rfl (Or.inr rfl)) pgs_nil)))))))
      (pss_cons (ps_if (pt_cmpR op_le (pv 4) pe_int (nomark _)) (pss_one (ps_ret pe_non)) pss_nil)
      (pss_cons (ps_set (i := 8) sc_next_act.nd rfl (Or.inl rfl) (pe_call G_rooms (hr.mono (by decide)) rfl B.rooms.m B.rooms.F.kp B.rooms.b .nil pass0 (pa_cons (pv 0) (pa_cons (pv 1) (pa_cons (pv 2) pa_nil)))))
      (pss_cons (ps_setLc (i := 9) (own := [("at", 11), ("units", 12)]) (g := (gTup K 2 (gCons (gName 11) (gCons (gName 12) gNil)))) rfl sc_next_act.nd rfl rfl (sw_true rfl rfl rfl (by decide +kernel)) (pi_enum (by rfl) T.b_enumerate (pa_cons (pv 8) pa_nil)) (blkOk_by (own := [("at", 11), ("units", 12)]) (N := ["web", "house", "state", "height", "held", "_", "beliefs", "sent", "rooms", "with_room", "downhill", "at", "units"]) (sc := defScope s_next_act) (by decide +kernel)) (fun _ _ _ _ _ => (pg_tup (by rfl) (pgs_cons (pg_name (i := 11) sc_next_act.nd rfl (Or.inl rfl)) (pgs_cons (pg_name (i := 12) sc_next_act.nd rfl (Or.inl rfl)) pgs_nil)))) (fun _ _ _ _ _ => (pts_one (pt_cmpR op_gt (pv 12) pe_int (nomark _)))) (fun _ _ _ _ _ => (pv 11)))
      (pss_cons (ps_setLc (i := 10) (own := [("at", 11)]) (g := gName 11) rfl sc_next_act.nd rfl rfl (sw_true rfl rfl rfl (by decide +kernel)) (pi_list (pv 9)) (blkOk_by (own := [("at", 11)]) (N := ["web", "house", "state", "height", "held", "_", "beliefs", "sent", "rooms", "with_room", "downhill", "at", "units"]) (sc := defScope s_next_act) (by decide +kernel)) (fun _ _ _ _ _ => pg_name (i := 11) sc_next_act.nd rfl (Or.inl rfl)) (fun _ _ _ _ _ => (pts_one (PW.pt (pw_and (pt_cmpR op_eq (pe_ix (r := rIxT K) ix_tup (pv 7) (pv 11) (fun _ _ => rfl)) pe_int (nomark _)) (pw_and1 (pt_cmpR op_eq (pe_ix (r := rIxT K) ix_tup (pv 6) (pv 11) (fun _ _ => rfl)) (pe_op op_sub (pv 3) pe_int) (nomark _))))))) (fun _ _ _ _ _ => (pv 11)))
      (pss_cons (ps_if (pt_truth (pv 10) (by intro _; rfl)) (pss_one (ps_ret (pe_call G_pushing (hr.mono (by decide)) rfl B.pushing.m B.pushing.F.kp B.pushing.b .nil pass0 (pa_cons (pv 0) (pa_cons (pv 1) (pa_cons (pv 2) (pa_cons (pe_ix ix_list (pv 10) pe_int (fun _ _ => rfl)) (pa_cons (pe_callB (call_min2 rfl) (by rfl) T.b_min (by decide +kernel) (pa_cons (pv 4) (pa_cons (pe_ix ix_list (pv 8) (pe_ix ix_list (pv 10) pe_int (fun _ _ => rfl)) (fun _ _ => rfl)) pa_nil))) pa_nil)))))))) pss_nil)
      (pss_cons (ps_if (PW.pt (pw_or (pt_not (pt_truth (pv 9) (by intro _; rfl))) (pw_or1 (pt_val (pe_callB (cr_any rfl) (by rfl) T.b_any (by decide +kernel) (pa_cons (pe_lc (own := [("units", 12)]) (g := gName 12) rfl sc_next_act.nd (pi_tup (pv 7)) (blkOk_by (own := [("units", 12)]) (N := ["web", "house", "state", "height", "held", "_", "beliefs", "sent", "rooms", "with_room", "downhill", "at", "units"]) (sc := defScope s_next_act) (by decide +kernel)) (fun _ _ _ _ _ => pg_name (i := 12) sc_next_act.nd rfl (Or.inl rfl)) (fun _ _ _ _ _ => pts_nil) (fun _ _ _ _ _ => (pe_cmpR op_gt (pv 12) pe_int (nomark _)))) pa_nil)))))) (pss_one (ps_ret pe_non)) pss_nil)
      (pss_one (ps_ret (pe_call G_rising (hr.mono (by decide)) rfl B.rising.m B.rising.F.kp B.rising.b .nil pass0 (pa_cons (pv 0) (pa_cons (pv 1) (pa_cons (pv 2) (pa_cons (pe_op op_add (pe_callB (cr_min rfl) (by rfl) T.b_min (by decide +kernel) (pa_cons (pe_lc (own := [("at", 11)]) (g := gName 11) rfl sc_next_act.nd (pi_list (pv 9)) (blkOk_by (own := [("at", 11)]) (N := ["web", "house", "state", "height", "held", "_", "beliefs", "sent", "rooms", "with_room", "downhill", "at", "units"]) (sc := defScope s_next_act) (by decide +kernel)) (fun _ _ _ _ _ => pg_name (i := 11) sc_next_act.nd rfl (Or.inl rfl)) (fun _ _ _ _ _ => pts_nil) (fun _ _ _ _ _ => (pe_ix (r := rIxT K) ix_tup (pv 6) (pv 11) (fun _ _ => rfl)))) pa_nil)) pe_int) pa_nil)))))))))))))), ?_⟩
    obtain ⟨sa, b1, b2, b3, rfl, ha, g1, g2, g3⟩ := pl_st' hv
    walk_at "rd"
    refine rd_slP ha fun t1 H1 s1 ht1 => ?_
    rw [show (1 : Int) = ((1 : Nat) : Int) from rfl, cut_from (i := 1) (by simp)] at ht1
    refine ⟨t1, _, rfl, SqT.of ht1, rfl, _, _, rfl, _, _, rfl, _, _, rfl, _, _, rfl, _, _, rfl, rfl, ?_⟩
    walk_at "rd"
    refine rd_ite (fun e1 => ?_) (fun e1 => ?_)
    · walk_at "rd"
      refine q _ _ s1 ?_
      unfold act
      rw [if_pos (of_decide_eq_true e1)]
      rfl
    · have e1' : ¬ st.held ≤ 0 := of_decide_eq_false e1
      have hv1 := hv.s s1
      walk_at "rd"
      refine ⟨p, a, m, L, sp, mo, h, st, _, rfl, hw.s s1, h0, h1, hv1, hs, fun r2 H2 s2 nr2 hr2 => ?_⟩
      have s12 := s1.trans s2
      have hrl : (rooms (evOf L h) st).length = (nbL L h).length := hs.rl
      have hnb := nb_len hw.2 h
      generalize hrs : rooms (evOf L h) st = rs at hr2 hrl
      walk_at "rd"
      refine rd_ienum ?_
      walk_at "rd"
      refine ⟨r2, _, rfl, SqL.of hr2, fun D hD => lc_enum (K := K) (a := r2) (xs := rs.map V.int) (fun i H3 => Same H2 H3 ∧ H3 D = some (.lst (natV ((List.range i).filter fun j => decide (0 < gi rs j))))) ⟨same_new hD, upd_same⟩ (fun i H3 hh => SqL.of (hh.1 _ _ hr2)) ?_ ?_⟩
      · rintro i x t H3 hx ⟨hs3, hacc⟩ ht
        obtain ⟨y, hy, rfl⟩ := mapint_get hx
        have hDt : D ≠ t := ne_of_none hacc ht
        have s4 := hs3.trans (same_new (o := .tup [.int (i : Nat), .int y]) ht)
        have hi : i < rs.length := (List.getElem?_eq_some_iff.mp hy).1
        refine ⟨t, _, rfl, SqT.of upd_same, rfl, _, _, rfl, _, _, rfl, rfl, ?_⟩
        refine ⟨rfl, ?_⟩
        walk_at "rd"
        refine rd_ite (fun e2 => ?_) (fun e2 => ?_)
        · have e2' : 0 < y := by simpa using e2
          walk_at "rd"
          refine ⟨_, (upd_ne hDt).trans hacc, small' (by unfold natV; rw [List.length_map]; have := List.length_filter_le (fun j => decide (0 < gi rs j)) (List.range i); rw [List.length_range] at this; omega), fun z o ez => (upd_ne (ne_of_none ez hD)).trans (s4 z o ez), ?_⟩
          rw [upd_same, wide_take hy, if_pos e2']
          unfold natV
          rw [List.map_append]
          rfl
        · have e2' : ¬ 0 < y := by simpa using e2
          refine ⟨s4, ?_⟩
          rw [wide_take hy, if_neg e2', List.append_nil]
          exact (upd_ne hDt).trans hacc
      · rintro H3 ⟨hs3, hacc⟩
        rw [List.length_map] at hacc
        replace hacc : H3 D = some (.lst (natV (wide rs))) := hacc
        have s13 := s12.trans hs3
        have hwl := wide_len rs
        walk_at "rd"
        show iList _ _ _ _ _
        refine rd_ilist ?_
        walk_at "rd"
        refine ⟨D, rfl, ⟨_, SqL.of hacc⟩, fun D2 hD2 => lc_list (K := K) (a := D) (xs := natV (wide rs)) (fun i H4 => Same H3 H4 ∧ H4 D2 = some (.lst (natV (((wide rs).take i).filter fun j => decide (gi st.snt j = 0) && decide (gi st.bel j = st.ht - 1))))) ⟨same_new hD2, upd_same⟩ (fun i H4 _ hh => SqL.of (hh.1 _ _ hacc)) ?_ ?_⟩
        · rintro i x H4 hx ⟨hs4, hacc4⟩
          unfold natV at hx
          rw [List.getElem?_map] at hx
          cases hj : (wide rs)[i]? with
          | none =>
            rw [hj] at hx
            cases hx
          | some j =>
            rw [hj] at hx
            have ex : x = V.int (j : Int) := (Option.some.inj hx).symm
            subst ex
            obtain ⟨hjl, _⟩ := wide_iff.mp (List.mem_of_getElem? hj)
            have s14 := s13.trans hs4
            have lacc : (natV (((wide rs).take i).filter fun j => decide (gi st.snt j = 0) && decide (gi st.bel j = st.ht - 1))).length ≤ 1000000 := by
              unfold natV
              rw [List.length_map]
              have := List.length_filter_le (fun j => decide (gi st.snt j = 0) && decide (gi st.bel j = st.ht - 1)) ((wide rs).take i)
              rw [List.length_take] at this
              omega
            refine ⟨rfl, ?_⟩
            walk_at "rd"
            refine rd_ixT (s14 _ _ g3) (at_gi (by rw [hs.l3]; show j < (nbL L h).length; omega)) ?_
            walk_at "rd"
            refine rd_ite (fun e2 => ?_) (fun e2 => ?_)
            · walk_at "rd"
              refine rd_ixT (s14 _ _ g2) (at_gi (by rw [hs.l2]; show j < (nbL L h).length; omega)) ?_
              walk_at "rd"
              refine rd_ite (fun e3 => ?_) (fun e3 => ?_)
              · walk_at "rd"
                refine ⟨_, hacc4, small' lacc, fun z o ez => (upd_ne (ne_of_none ez hD2)).trans (hs4 z o ez), ?_⟩
                rw [upd_same, filt_take hj, if_pos (by rw [e2, e3]; rfl)]
                unfold natV
                rw [List.map_append]
                rfl
              · refine ⟨hs4, ?_⟩
                rw [filt_take hj, if_neg (by rw [e3, Bool.and_false]; exact Bool.false_ne_true), List.append_nil]
                exact hacc4
            · refine ⟨hs4, ?_⟩
              rw [filt_take hj, if_neg (by rw [e2, Bool.false_and]; exact Bool.false_ne_true), List.append_nil]
              exact hacc4
        · rintro H4 ⟨hs4, hacc4⟩
          rw [show (natV (wide rs)).length = (wide rs).length by unfold natV; rw [List.length_map], List.take_length] at hacc4
          replace hacc4 : H4 D2 = some (.lst (natV (downh rs st))) := hacc4
          have s14 := s13.trans hs4
          have hD4 := hs4 _ _ hacc
          walk_at "rd"
          have tru : ∀ (X : Addr) (l : List Nat) (G : Hp), G X = some (.lst (natV l)) → TruV K (.ref X) G (!l.isEmpty) := fun X l G hX => .inl ⟨_, SqL.of hX, by cases l <;> rfl⟩
          refine ⟨_, tru D2 _ _ hacc4, ?_⟩
          dsimp only
          cases hdn : downh rs st with
          | cons i is =>
            have hm : i ∈ downh rs st := by
              rw [hdn]
              exact List.mem_cons_self
            obtain ⟨⟨hi, hp⟩, _⟩ := downh_iff.mp hm
            refine rd_yes rfl ?_
            rw [hdn] at hacc4
            walk_at "rd"
            refine rd_ixL hacc4 (v := .int (i : Int)) (show atI (V.int (i : Int) :: natV is) 0 = _ from at0) ?_
            walk_at "rd"
            refine rd_ixL hacc4 (v := .int (i : Int)) (show atI (V.int (i : Int) :: natV is) 0 = _ from at0) ?_
            refine rd_ixL (hs4 _ _ (hs3 _ _ hr2)) (at_gi hi) ?_
            walk_at "rd"
            refine ⟨_, _, rfl, ?_⟩
            refine ⟨p, a, m, L, sp, mo, h, st, i, _, _, rfl, hw.s s14, h0, h1, hv.s s14, hs, by omega, fun r5 H5 s5 hr5 => ?_⟩
            refine q _ _ (s14.trans s5) ?_
            have ea : act (evOf L h) st = some (pushS (evOf L h) st i (if gi (rooms (evOf L h) st) i < st.held then gi (rooms (evOf L h) st) i else st.held)) := by
              unfold act
              rw [if_neg e1', hrs, hdn]
            rw [ea, hrs]
            obtain ⟨t, x, l, w1, w2, w3, w4, w5⟩ := hr5
            exact ⟨t, x, l, w1, w2, w3, w4, s14.free w5⟩
          | nil =>
            refine rd_no rfl ?_
            walk_at "rd"
            refine ⟨_, tru D _ _ hD4, ?_⟩
            dsimp only
            by_cases hwn : wide rs = []
            · refine rd_yes (by rw [hwn]; rfl) ?_
              refine rd_yes rfl ?_
              walk_at "rd"
              refine q _ _ s14 ?_
              have ea : act (evOf L h) st = none := by
                unfold act
                rw [if_neg e1', hrs, hdn]
                simp only [if_pos (show wide rs = [] ∨ st.snt.any (fun u => decide (u > 0)) = true from .inl hwn)]
              rw [ea]
              rfl
            · refine rd_no (by cases hx : wide rs with | nil => exact absurd hx hwn | cons _ _ => rfl) ?_
              walk_at "rd"
              show iTup _ _ _ _ _
              refine rd_itup ?_
              walk_at "rd"
              have hg3 := s14 _ _ g3
              refine ⟨b3, rfl, ⟨_, SqT.of hg3⟩, fun D3 hD3 => lc_tup (K := K) (a := b3) (xs := st.snt.map V.int) (fun i H5 => Same H4 H5 ∧ H5 D3 = some (.lst (((st.snt.take i).map fun u => decide (u > 0)).map V.bl))) ⟨same_new hD3, upd_same⟩ (fun i H5 _ hh => SqT.of (hh.1 _ _ hg3)) ?_ ?_⟩
              · rintro i x H5 hx ⟨hs5, hacc5⟩
                obtain ⟨u, hu, rfl⟩ := mapint_get hx
                have hi : i < st.snt.length := (List.getElem?_eq_some_iff.mp hu).1
                have l3 : st.snt.length = (nbL L h).length := hs.l3
                refine ⟨rfl, ?_⟩
                refine rd_tyes ?_
                refine rd_yes rfl ?_
                walk_at "rd"
                refine ⟨_, hacc5, small' (by rw [List.length_map, List.length_map, List.length_take]; omega), fun z o ez => (upd_ne (ne_of_none ez hD3)).trans (hs5 z o ez), ?_⟩
                rw [upd_same, take_snoc hu, List.map_append, List.map_append]
                rfl
              · rintro H5 ⟨hs5, hacc5⟩
                rw [List.length_map, List.take_length] at hacc5
                have s15 := s14.trans hs5
                walk_at "rd"
                refine ⟨D3, _, rfl, SqL.of hacc5, ?_⟩
                have ean : (st.snt.map fun u => decide (u > 0)).any id = st.snt.any fun u => decide (u > 0) := by
                  rw [List.any_map]
                  rfl
                rw [ean]
                walk_at "rd"
                refine rd_ite (fun e5 => ?_) (fun e5 => ?_)
                · walk_at "rd"
                  refine q _ _ s15 ?_
                  have ea : act (evOf L h) st = none := by
                    unfold act
                    rw [if_neg e1', hrs, hdn]
                    simp only [if_pos (show wide rs = [] ∨ st.snt.any (fun u => decide (u > 0)) = true from .inr e5)]
                  rw [ea]
                  rfl
                · walk_at "rd"
                  show iList _ _ _ _ _
                  refine rd_ilist ?_
                  walk_at "rd"
                  have hD5 := hs5 _ _ hD4
                  refine ⟨D, rfl, ⟨_, SqL.of hD5⟩, fun D4 hD4' => lc_list (K := K) (a := D) (xs := natV (wide rs)) (fun i H6 => Same H5 H6 ∧ H6 D4 = some (.lst ((((wide rs).take i).map fun j => gi st.bel j).map V.int))) ⟨same_new hD4', upd_same⟩ (fun i H6 _ hh => SqL.of (hh.1 _ _ hD5)) ?_ ?_⟩
                  · rintro i x H6 hx ⟨hs6, hacc6⟩
                    unfold natV at hx
                    rw [List.getElem?_map] at hx
                    cases hj : (wide rs)[i]? with
                    | none =>
                      rw [hj] at hx
                      cases hx
                    | some j =>
                      rw [hj] at hx
                      have ex : x = V.int (j : Int) := (Option.some.inj hx).symm
                      subst ex
                      obtain ⟨hjl, _⟩ := wide_iff.mp (List.mem_of_getElem? hj)
                      have hi : i < (wide rs).length := (List.getElem?_eq_some_iff.mp hj).1
                      refine ⟨rfl, ?_⟩
                      refine rd_tyes ?_
                      refine rd_yes rfl ?_
                      walk_at "rd"
                      refine rd_ixT (hs6 _ _ (s15 _ _ g2)) (at_gi (by rw [hs.l2]; show j < (nbL L h).length; omega)) ?_
                      refine ⟨_, hacc6, small' (by rw [List.length_map, List.length_map, List.length_take]; omega), fun z o ez => (upd_ne (ne_of_none ez hD4')).trans (hs6 z o ez), ?_⟩
                      rw [upd_same, take_snoc hj, List.map_append, List.map_append]
                      rfl
                  · rintro H6 ⟨hs6, hacc6⟩
                    rw [show (natV (wide rs)).length = (wide rs).length by unfold natV; rw [List.length_map], List.take_length] at hacc6
                    have s16 := s15.trans hs6
                    walk_at "rd"
                    refine ⟨D4, _, rfl, SqL.of hacc6, ?_, fun mm hm1 hm2 => ?_⟩
                    · rw [List.length_map]
                      exact List.length_pos_iff.mpr hwn
                    rw [loL_eq hm1 hm2]
                    walk_at "rd"
                    refine ⟨p, a, m, L, sp, mo, h, st, _, _, rfl, hw.s s16, h0, h1, hv.s s16, hs, fun r7 H7 s7 hr7 => ?_⟩
                    refine q _ _ (s16.trans s7) ?_
                    have ea := act_rise (e := evOf L h) (s := st) e1' (by rw [hrs]; exact hdn) (by rw [hrs, not_or]; exact ⟨hwn, by rw [e5]; exact Bool.false_ne_true⟩)
                    rw [ea, hrs]
                    revert hr7
                    cases riseS (evOf L h) st (loL ((wide rs).map fun j => gi st.bel j) + 1) with
                    | none => exact fun z => z
                    | some rr =>
                      rintro ⟨t, x, l, w1, w2, w3, w4, w5⟩
                      exact ⟨t, x, l, w1, w2, w3, w4, s16.free w5⟩
end
end Mw

/-! G8 -/
namespace Mw
open PySem L2
def spActed (C : Addr) : Sp := fun vs H Q _ => ∃ (p a : Addr) (m : Int) (L : List Tie) (sp mo h : Int) (s : St) (v : V), vs = [.ref a, .int h, v] ∧ WbAt C p H a m L sp mo ∧ 0 ≤ h ∧ h < m ∧ Pl H s.d v ∧ SOk (evOf L h) s ∧
  ∀ r H', Same H H' → ActAt H H' r (some (acts (fuel (evOf L h)) (evOf L h) s)) → Q r H'
theorem acts_some {e : Ev} {s : St} {r : St × List (Int × Wd)} (n : Nat) (ha : act e s = some r) : acts (n + 1) e s = ((acts n e r.1).1, r.2 ++ (acts n e r.1).2) := by
  show (match act e s with | none => (s, []) | some r => ((acts n e r.1).1, r.2 ++ (acts n e r.1).2)) = _
  rw [ha]
theorem acts_none {e : Ev} {s : St} (n : Nat) (ha : act e s = none) : acts (n + 1) e s = (s, []) := by
  show (match act e s with | none => (s, []) | some r => ((acts n e r.1).1, r.2 ++ (acts n e r.1).2)) = _
  rw [ha]
theorem acts_len {e : Ev} : ∀ (n : Nat) (s : St), SOk e s → (acts n e s).2.length ≤ n * (e.nb.length + 1)
  | 0, s, _ => Nat.zero_le _
  | n + 1, s, h => by
    unfold acts
    cases ha : act e s with
    | none => exact Nat.zero_le _
    | some r =>
      have ih := acts_len n r.1 (act_ok h ha).1
      have hr : r.2.length ≤ e.nb.length + 1 := by
        unfold act at ha
        split at ha
        · cases ha
        split at ha
        · cases ha
          show 1 ≤ _
          omega
        · split at ha
          · cases ha
          split at ha
          · cases ha
          cases ha
          show (e.nb.map _).length ≤ _
          rw [List.length_map]
          omega
      show (r.2 ++ (acts n e r.1).2).length ≤ _
      rw [List.length_append, Nat.succ_mul]
      omega
/-- before a round of acts -/
def ActW (e : Ev) (a : Addr) (h : Int) (v : V) (l : Addr) (H : Hp) (s : St) (m : Nat) (σ : L2.St) (H' : Hp) : Prop := ∃ (s' : St) (n : Nat) (o : List (Int × Wd)) (x va : V) (u6 : Option V),
  σ = [some (.ref a), some (.int h), some v, some x, some (.ref l), some va, u6] ∧ Same H H' ∧ SOk e s' ∧ Pl H' s'.d x ∧ NdAt H' l o ∧ m = rank e s' ∧ rank e s' < n ∧ acts (fuel e) e s = ((acts n e s').1, o ++ (acts n e s').2) ∧
  match act e s' with
  | none => va = .non
  | some r => ∃ t y lw, va = .ref t ∧ H' t = some (.tup [y, .ref lw]) ∧ Pl H' r.1.d y ∧ NdAt H' lw r.2 ∧ lw ≠ l
theorem NdAt.s {H H' : Hp} {l : Addr} {ws : List (Int × Wd)} (h : NdAt H l ws) (s : Same H H') : NdAt H' l ws := by
  obtain ⟨xs, h1, h2⟩ := h
  exact ⟨xs, s _ _ h1, h2.s s⟩
theorem NdAt.l {H : Hp} {l : Addr} {ws : List (Int × Wd)} (h : NdAt H l ws) : ∃ xs, H l = some (.lst xs) := by
  obtain ⟨xs, h1, _⟩ := h
  exact ⟨xs, h1⟩
section
variable {P : Program} {w : World} {K : PySem.W.Frag} {mg : Str → Option Value} {base : Heap}
local macro_rules | `(tactic| walk_at "rd") => `(tactic| (repeat (first
  | ((with_reducible refine' rd_var ?h0 ?_); (case h0 => rfl))
  | with_reducible refine rd_c ?_
  | with_reducible refine rd_op ?_
  | with_reducible refine rd_nil ?_
  | with_reducible refine rd_cons ?_
  | with_reducible refine rd_tup ?_
  | with_reducible refine rd_lst ?_
  | with_reducible refine rd_ifs ?_
  | with_reducible refine rd_seq ?_
  | with_reducible refine rd_next ?_
  | with_reducible refine rd_ret ?_
  | with_reducible refine rd_asg ?_
  | ((with_reducible refine' rd_gset ?hs ?_); (case hs => ((simp only [L2.start, List.map_cons, List.map_nil, List.length_cons, List.length_nil, List.cons_append, List.nil_append, List.set_cons_zero, List.set_cons_succ, Nat.reduceAdd, Nat.reduceSub, Nat.zero_add, List.reduceReplicate]); rfl)))
  | with_reducible refine rd_drop ?_
  | with_reducible refine rd_test ?_
  | with_reducible refine rd_B ?_
  | with_reducible refine rd_bl ?_
  | with_reducible refine rd_blP ?_
  | with_reducible refine rd_andV ?_
  | with_reducible refine rd_orV ?_
  | with_reducible refine rd_notV ?_
  | with_reducible refine rd_and ?_
  | with_reducible refine rd_or ?_
  | with_reducible refine rd_not ?_
  | with_reducible refine rd_chain ?_
  | with_reducible refine rd_dput ?_
  | with_reducible refine rd_dget ?_
  | with_reducible refine rd_cb ?_
  | with_reducible refine rd_call ?_
  | with_reducible refine rd_un ?_
  | with_reducible refine rd_sl ?_
  | with_reducible refine rd_nopart ?_
  | with_reducible refine rd_part ?_
  | with_reducible refine rd_intP ?_
  | with_reducible refine rd_rU ?_
  | with_reducible refine rd_fld ?_
  | with_reducible refine rd_eqI ?_
  | with_reducible refine rd_neI ?_
  | with_reducible refine rd_mko ?_
  | with_reducible refine rd_bm ?_
  | with_reducible refine rd_gsub ?_
  | with_reducible refine rd_i0 ?_)))
theorem ok_acted (T : Tx K mg) (B : Bk K mg T) : FnOk P w K mg base CX0 9 B.acted.f B.acted.fd ["web", "house", "state"] (spActed T.c_Web) := by
  have G_next_act := ok_next_act (P := P) (w := w) (base := base) T B
  refine B.acted.F.ok sc_acted (fun vs H Q E h => ?_) (fun cdv A outer s H vs Q E hr h => ?_)
  · obtain ⟨p, a, m, L, sp, mo, h, st, v, rfl, _⟩ := h
    rfl
  · obtain ⟨p, a, m, L, sp, mo, h, st, v, rfl, hw, h0, h1, hv, hs, q⟩ := h
    refine ⟨_, (pss_cons (ps_set (i := 3) sc_acted.nd rfl (Or.inl rfl) (pv 2))
      (pss_cons (ps_set (i := 4) sc_acted.nd rfl (Or.inl rfl) (pe_lst pa_nil))
      (pss_cons (ps_set (i := 5) sc_acted.nd rfl (Or.inl rfl) (pe_call G_next_act (hr.mono (by decide)) rfl B.next_act.m B.next_act.F.kp B.next_act.b .nil pass0 (pa_cons (pv 0) (pa_cons (pv 1) (pa_cons (pv 3) pa_nil)))))
      (pss_cons (ps_while PassesOwn.never (pt_cmpR op_notN (pv 5) pe_non (nomark _)) (pss_cons (ps_asg (pv 5) (pg_tup (by rfl) (pgs_cons (pg_name (i := 3) sc_acted.nd rfl (Or.inl rfl)) (pgs_cons (pg_name (i := 6) sc_acted.nd rfl (Or.inl rfl)) pgs_nil))))
      (pss_cons (ps_expr (pe_bm PySem.F.plainAttrs_list PySem.F.slot_list_extend PySem.F.type_list_extend mt_extend (pv 4) (pa_cons (pv 6) pa_nil)))
      (pss_one (ps_set (i := 5) sc_acted.nd rfl (Or.inl rfl) (pe_call G_next_act (hr.mono (by decide)) rfl B.next_act.m B.next_act.F.kp B.next_act.b .nil pass0 (pa_cons (pv 0) (pa_cons (pv 1) (pa_cons (pv 3) pa_nil)))))))))
      (pss_one (ps_ret (pe_tup (pa_cons (pv 3) (pa_cons (pv 4) pa_nil))))))))), ?_⟩
    walk_at "rd"
    refine rd_disp rfl fun l nl => ?_
    have s1 := same_new (o := .lst []) nl
    walk_at "rd"
    refine ⟨p, a, m, L, sp, mo, h, st, v, rfl, hw.s s1, h0, h1, hv.s s1, hs, fun r1 H1 s2 hr1 => ?_⟩
    walk_at "rd"
    have hnb := nb_len hw.2 h
    have htot : (acts (fuel (evOf L h)) (evOf L h) st).2.length ≤ 1000 := by
      have z := acts_len (fuel (evOf L h)) st hs
      have z2 : (evOf L h).nb.length ≤ 10 := hnb
      have z3 : fuel (evOf L h) ≤ 22 := by unfold fuel; omega
      have : fuel (evOf L h) * ((evOf L h).nb.length + 1) ≤ 22 * 11 := Nat.mul_le_mul z3 (by omega)
      omega
    refine ⟨ActW (evOf L h) a h v l H st, ⟨_, st, fuel (evOf L h), [], v, r1, none, rfl, s1.trans s2, hs, (hv.s s1).s s2, ⟨[], s2 _ _ upd_same, plAll_nil⟩, rfl, rank_le hs, by simp, ?_⟩, ?_⟩
    · revert hr1
      cases act (evOf L h) st with
      | none => exact fun z => z
      | some r =>
        rintro ⟨t, y, lw, w1, w2, w3, w4, w5⟩
        exact ⟨t, y, lw, w1, w2, w3, w4, (ne_of_none upd_same w5).symm⟩
    · rintro k σ H2 ⟨s', n, o, x, va, u6, rfl, S, hs', hx, ho, rfl, hrk, hac, hva⟩
      walk_at "rd"
      refine ⟨rfl, ?_⟩
      walk_at "rd"
      cases ha : act (evOf L h) s' with
      | none =>
        rw [ha] at hva
        dsimp only at hva
        subst hva
        refine rd_no rfl ?_
        walk_at "rd"
        refine rd_disp rfl fun t nt => ?_
        have s3 := same_new (o := .tup [x, .ref l]) nt
        have e1 : acts n (evOf L h) s' = (s', []) := by
          cases n with
          | zero => exact absurd hrk (Nat.not_lt_zero _)
          | succ n => exact acts_none n ha
        rw [e1, List.append_nil] at hac
        refine q _ _ (S.trans s3) ?_
        rw [hac]
        exact ⟨t, x, l, rfl, upd_same, hx.s s3, ho.s s3, nl⟩
      | some r =>
        rw [ha] at hva
        obtain ⟨t, y, lw, rfl, ht, hy, hlw, nlw⟩ := hva
        refine rd_yes rfl ?_
        obtain ⟨hs'', hrk'⟩ := act_ok hs' ha
        refine ⟨fun σ' H' => ∃ m', m' < rank (evOf L h) s' ∧ ActW (evOf L h) a h v l H st m' σ' H', fun _ _ z => z, ?_⟩
        obtain ⟨n, rfl⟩ : ∃ n', n = n' + 1 := ⟨n - 1, by omega⟩
        have hac2 : acts (fuel (evOf L h)) (evOf L h) st = ((acts n (evOf L h) r.1).1, (o ++ r.2) ++ (acts n (evOf L h) r.1).2) := by
          rw [hac, acts_some n ha]
          dsimp only
          rw [List.append_assoc]
        have hlen : (o ++ r.2).length ≤ 1000 := by
          have := congrArg (fun z => z.2.length) hac2
          simp only [List.length_append] at this ⊢
          omega
        walk_at "rd"
        refine ⟨t, _, rfl, SqT.of ht, rfl, _, _, rfl, _, _, rfl, rfl, ?_⟩
        walk_at "rd"
        obtain ⟨xs, hxl, hxs⟩ := ho
        obtain ⟨ys, hyl, hys⟩ := hlw
        refine ⟨.inl ⟨rfl, _, SqL.of hxl⟩, ?_⟩
        walk_at "rd"
        have lx := hxs.len
        have ly := hys.len
        rw [List.length_map] at lx ly
        rw [List.length_append] at hlen
        refine ⟨l, lw, xs, ys, rfl, rfl, hxl, hyl, small (by omega), ?_⟩
        have kt : KT H2 (upd H2 l (.lst (xs ++ ys))) := KT.mut hxl (by intro zs z; cases z)
        have S3 : Same H (upd H2 l (.lst (xs ++ ys))) := fun b o' e => (upd_ne (ne_of_none e nl)).trans (S b o' e)
        have hw3 := hw.s S3
        walk_at "rd"
        refine ⟨p, a, m, L, sp, mo, h, r.1, y, rfl, hw3, h0, h1, hy.t kt, hs'', fun r4 H4 s4 hr4 => ?_⟩
        refine ⟨_, hrk', r.1, n, o ++ r.2, y, r4, _, rfl, S3.trans s4, hs'', (hy.t kt).s s4, ?_, rfl, by omega, hac2, ?_⟩
        · refine ⟨xs ++ ys, s4 _ _ upd_same, ?_⟩
          rw [List.map_append]
          exact ((hxs.append hys).t kt).s s4
        · revert hr4
          cases act (evOf L h) r.1 with
          | none => exact fun z => z
          | some r' =>
            rintro ⟨t', y', lw', w1, w2, w3, w4, w5⟩
            exact ⟨t', y', lw', w1, w2, w3, w4, (ne_of_none upd_same w5).symm⟩
end
end Mw

/-! B1 -/
/-! What always holds of a tie: what both sides know of it, and the words on their way. -/
namespace Mw
open PySem L2
/-- what is heard, from its parts -/
theorem heardM_no {e : Ev} {sp mo h : Int} {s : St} {f : Int} {wd : Wd} (z : (decide (f ∈ e.nb) && canW e (decide (h = sp)) (decide (f = sp)) s (e.nb.idxOf f) wd) = false) : heardM e sp mo h s f wd = none := by
  unfold heardM
  rw [if_neg]
  rintro ⟨h1, h2⟩
  rw [decide_eq_true h1, h2] at z
  cases z
theorem heardM_yes {e : Ev} {sp mo h : Int} {s : St} {f : Int} {wd : Wd} (z : (decide (f ∈ e.nb) && canW e (decide (h = sp)) (decide (f = sp)) s (e.nb.idxOf f) wd) = true) :
    heardM e sp mo h s f wd = some (if (done s (e.nb.idxOf f) wd).1.up = true ∧ h ≠ sp ∧ h ≠ mo then ((acts (fuel e) e (done s (e.nb.idxOf f) wd).1).1, (done s (e.nb.idxOf f) wd).2.map (fun x => (f, x)) ++ (acts (fuel e) e (done s (e.nb.idxOf f) wd).1).2) else ((done s (e.nb.idxOf f) wd).1, (done s (e.nb.idxOf f) wd).2.map fun x => (f, x))) := by
  rw [Bool.and_eq_true, decide_eq_true_eq] at z
  unfold heardM
  rw [if_pos z]
  dsimp only
  split <;> rfl
def isPush : Wd → Bool | .push _ _ => true | _ => false
def isAns : Wd → Bool | .yes => true | .no _ => true | _ => false
def isYes : Wd → Bool | .yes => true | _ => false
def isPour : Wd → Bool | .pour _ => true | _ => false
def npush (W : List Wd) : Nat := W.countP isPush
def nans (W : List Wd) : Nat := W.countP isAns
def pourU : List Wd → Int
  | [] => 0
  | .pour u :: W => u + pourU W
  | _ :: W => pourU W
/-- what is sent and not yet taken on the other side -/
def xx (s : Int) (W : List Wd) : Int := if W.any isYes = true then 0 else s
/-- one way of a tie: units let, the stream as the sender knows it, what it has sent, what the other has sent, the words there and back -/
structure Dir (c f s z : Int) (W V : List Wd) : Prop where
  snn : 0 ≤ s
  cnt : npush W + nans V = if 0 < s then 1 else 0
  val : ∀ u h, Wd.push u h ∈ W → u = s
  cap : f ≤ c
  cap2 : ∀ A w B, W = A ++ w :: B → (isPush w || isPour w) = true → B.any isYes = true → f + z ≤ c
  pos : ∀ u, Wd.pour u ∈ W → 0 < u
structure Pr (cab cba fab fba sab sba : Int) (W V : List Wd) : Prop where
  d1 : Dir cab fab sab sba W V
  d2 : Dir cba fba sba sab V W
  sum : fab + fba = xx sab V + xx sba W + pourU W + pourU V
section
variable {cab cba fab fba sab sba u k : Int} {W V R : List Wd}
theorem Pr.symm (h : Pr cab cba fab fba sab sba W V) : Pr cba cab fba fab sba sab V W := ⟨h.d2, h.d1, by have := h.sum; omega⟩
theorem pourU_nn : ∀ {W : List Wd}, (∀ u, Wd.pour u ∈ W → 0 < u) → 0 ≤ pourU W
  | [], _ => Int.le_refl _
  | w :: W, h => by
    have ih := pourU_nn (W := W) fun u hu => h u (List.mem_cons_of_mem _ hu)
    cases w with
    | pour u =>
      have := h u List.mem_cons_self
      show 0 ≤ u + pourU W
      omega
    | _ => exact ih
theorem pourU_app : ∀ {W V : List Wd}, pourU (W ++ V) = pourU W + pourU V
  | [], V => by simp [pourU]
  | w :: W, V => by
    have ih := pourU_app (W := W) (V := V)
    cases w with
    | pour u =>
      show u + pourU (W ++ V) = u + pourU W + pourU V
      omega
    | _ => exact ih
theorem pourU_none {W : List Wd} (h : ∀ u, Wd.pour u ∉ W) : pourU W = 0 := by
  induction W with
  | nil => rfl
  | cons w W ih =>
    have i2 := ih fun u z => h u (List.mem_cons_of_mem _ z)
    cases w with
    | pour u => exact absurd List.mem_cons_self (h u)
    | _ => exact i2
theorem xx_le {s : Int} {W : List Wd} (h : 0 ≤ s) : 0 ≤ xx s W := by
  unfold xx
  split <;> omega
theorem yes_ans {W : List Wd} (h : W.any isYes = true) : 1 ≤ nans W := by
  obtain ⟨w, hw, e⟩ := List.any_eq_true.mp h
  refine List.countP_pos_iff.mpr ⟨w, hw, ?_⟩
  cases w <;> first | rfl | cases e
theorem no_yes {W : List Wd} (h : nans W = 0) : W.any isYes = false := by
  cases e : W.any isYes with
  | false => rfl
  | true =>
    have := yes_ans e
    omega
theorem no_push {W : List Wd} (h : npush W = 0) {u k : Int} : Wd.push u k ∉ W := fun z => by
  have : 0 < npush W := List.countP_pos_iff.mpr ⟨_, z, rfl⟩
  omega
/-- a longer beginning of what is behind -/
theorem Dir.tail {c f s z : Int} {w : Wd} {W V : List Wd} (h : Dir c f s z (w :: W) V) : ∀ A x B, W = A ++ x :: B → (isPush x || isPour x) = true → B.any isYes = true → f + z ≤ c :=
  fun A x B e h1 h2 => h.cap2 (w :: A) x B (by rw [e]; rfl) h1 h2
/-- what is put behind, and is no yes, and nothing that gives -/
theorem app_cap {c f z : Int} {W : List Wd} {y : Wd} (h : ∀ A x B, W = A ++ x :: B → (isPush x || isPour x) = true → B.any isYes = true → f + z ≤ c) (hy : isYes y = false) : ∀ A x B, W ++ [y] = A ++ x :: B → (isPush x || isPour x) = true → B.any isYes = true → f + z ≤ c := by
  intro A x B e h1 h2
  rcases List.eq_nil_or_concat B with rfl | ⟨B', b, rfl⟩
  · cases h2
  · have e' : W ++ [y] = (A ++ x :: B') ++ [b] := by rw [e]; simp
    obtain ⟨e1, e2⟩ := List.append_inj' e' rfl
    have eb : y = b := by simpa using e2
    subst eb
    refine h A x B' e1 h1 ?_
    rw [List.concat_eq_append, List.any_append] at h2
    simp only [List.any_cons, List.any_nil, hy, Bool.or_false] at h2
    exact h2
theorem Pr.push_bound (h : Pr cab cba fab fba sab sba (.push u k :: R) V) : u = sab ∧ 0 < u ∧ u ≤ cab + fba - sba ∧ nans V = 0 ∧ npush R = 0 := by
  have hu := h.d1.val u k List.mem_cons_self
  have hc := h.d1.cnt
  have hs : 0 < sab := by
    cases Int.lt_or_le 0 sab with
    | inl z => exact z
    | inr z =>
      rw [if_neg (by omega)] at hc
      simp [npush, isPush] at hc
  rw [if_pos hs] at hc
  have hp : npush (.push u k :: R) = npush R + 1 := by simp [npush, isPush, List.countP_cons]
  rw [hp] at hc
  have hsum := h.sum
  have hx : xx sab V = sab := by
    unfold xx
    rw [no_yes (by omega)]
    rfl
  have hpw := pourU_nn h.d1.pos
  have hpv := pourU_nn h.d2.pos
  have hcap := h.d1.cap
  refine ⟨hu, by omega, ?_, by omega, by omega⟩
  by_cases hy : R.any isYes = true
  · have := h.d1.cap2 [] (.push u k) R rfl rfl hy
    have := xx_le (W := (.push u k :: R)) h.d2.snn
    omega
  · have : xx sba (.push u k :: R) = sba := by
      unfold xx
      rw [if_neg]
      rw [List.any_cons]
      simpa [isYes] using hy
    omega
theorem any_app {W : List Wd} {y : Wd} : (W ++ [y]).any isYes = (W.any isYes || isYes y) := by
  rw [List.any_append]
  simp
theorem npush_app {W : List Wd} {y : Wd} : npush (W ++ [y]) = npush W + (if isPush y = true then 1 else 0) := by
  unfold npush
  rw [List.countP_append, List.countP_cons, List.countP_nil]
  omega
theorem nans_app {W : List Wd} {y : Wd} : nans (W ++ [y]) = nans W + (if isAns y = true then 1 else 0) := by
  unfold nans
  rw [List.countP_append, List.countP_cons, List.countP_nil]
  omega
theorem npush_cons {W : List Wd} {y : Wd} : npush (y :: W) = npush W + (if isPush y = true then 1 else 0) := List.countP_cons
theorem nans_cons {W : List Wd} {y : Wd} : nans (y :: W) = nans W + (if isAns y = true then 1 else 0) := List.countP_cons
theorem Pr.take_push_yes (h : Pr cab cba fab fba sab sba (.push u k :: R) V) : Pr cab cba fab (fba - u) sab sba R (V ++ [.yes]) := by
  obtain ⟨hu, h0, hb, hv, hr⟩ := h.push_bound
  have hsum := h.sum
  refine ⟨⟨h.d1.snn, ?_, fun x y z => h.d1.val x y (List.mem_cons_of_mem _ z), h.d1.cap, h.d1.tail, fun x z => h.d1.pos x (List.mem_cons_of_mem _ z)⟩, ⟨h.d2.snn, ?_, fun x y z => h.d2.val x y ?_, by have := h.d2.cap; omega, ?_, fun x z => h.d2.pos x ?_⟩, ?_⟩
  · rw [nans_app, if_pos (show isAns _ = true from rfl), if_pos (by omega), hr, hv]
  · have := h.d2.cnt
    rw [npush_app, if_neg (by simp [isPush])]
    rw [nans_cons, if_neg (by simp [isAns])] at this
    omega
  · simpa using z
  · intro A x B e h1 h2
    have := h.d2.cap
    omega
  · simpa using z
  · have e1 : xx sab (V ++ [.yes]) = 0 := by
      unfold xx
      rw [any_app, if_pos (by simp [isYes])]
    have e2 : xx sab V = sab := by
      unfold xx
      rw [no_yes hv]
      rfl
    have e3 : xx sba (.push u k :: R) = xx sba R := by
      unfold xx
      rw [List.any_cons]
      rfl
    rw [e1, pourU_app]
    rw [e2, e3] at hsum
    have e4 : pourU (.push u k :: R) = pourU R := rfl
    have e5 : pourU [.yes] = 0 := rfl
    omega
theorem Pr.take_push_no {j : Int} (h : Pr cab cba fab fba sab sba (.push u k :: R) V) : Pr cab cba fab fba sab sba R (V ++ [.no j]) := by
  obtain ⟨hu, h0, hb, hv, hr⟩ := h.push_bound
  have hsum := h.sum
  refine ⟨⟨h.d1.snn, ?_, fun x y z => h.d1.val x y (List.mem_cons_of_mem _ z), h.d1.cap, h.d1.tail, fun x z => h.d1.pos x (List.mem_cons_of_mem _ z)⟩, ⟨h.d2.snn, ?_, fun x y z => h.d2.val x y ?_, h.d2.cap, app_cap h.d2.cap2 rfl, fun x z => h.d2.pos x ?_⟩, ?_⟩
  · rw [nans_app, if_pos (show isAns _ = true from rfl), if_pos (by omega), hr, hv]
  · have := h.d2.cnt
    rw [npush_app, if_neg (by simp [isPush])]
    rw [nans_cons, if_neg (by simp [isAns])] at this
    omega
  · simpa using z
  · simpa using z
  · have e1 : xx sab (V ++ [.no j]) = xx sab V := by
      unfold xx
      rw [any_app]
      simp [isYes]
    have e3 : xx sba (.push u k :: R) = xx sba R := by
      unfold xx
      rw [List.any_cons]
      rfl
    rw [e1, pourU_app]
    rw [e3] at hsum
    have e4 : pourU (.push u k :: R) = pourU R := rfl
    have e5 : pourU [.no j] = 0 := rfl
    omega
/-- an answer at the head: something is sent, no push is on its way -/
theorem Pr.ans_bound {w : Wd} (h : Pr cab cba fab fba sab sba (w :: R) V) (hw : isAns w = true) : 0 < sba ∧ npush V = 0 ∧ nans R = 0 := by
  have hc := h.d2.cnt
  rw [nans_cons, if_pos hw] at hc
  cases Int.lt_or_le 0 sba with
  | inl z =>
    rw [if_pos z] at hc
    exact ⟨z, by omega, by omega⟩
  | inr z =>
    rw [if_neg (by omega)] at hc
    omega
theorem Pr.take_yes (h : Pr cab cba fab fba sab sba (.yes :: R) V) : Pr cab cba fab fba sab 0 R V := by
  obtain ⟨h0, hp, hn⟩ := h.ans_bound rfl
  have hsum := h.sum
  have hR := no_yes hn
  refine ⟨⟨h.d1.snn, ?_, fun x y z => h.d1.val x y (List.mem_cons_of_mem _ z), h.d1.cap, ?_, fun x z => h.d1.pos x (List.mem_cons_of_mem _ z)⟩, ⟨Int.le_refl _, ?_, fun x y z => absurd z (no_push hp), h.d2.cap, h.d2.cap2, h.d2.pos⟩, ?_⟩
  · have := h.d1.cnt
    rw [npush_cons, if_neg (by simp [isPush])] at this
    exact this
  · intro A x B e h1 h2
    rw [e, List.any_append, List.any_cons, h2] at hR
    simp at hR
  · rw [if_neg (by omega), hp, hn]
  · have e1 : xx sba (.yes :: R) = 0 := by
      unfold xx
      rw [List.any_cons]
      rfl
    have e2 : xx 0 R = 0 := by
      unfold xx
      split <;> rfl
    have e4 : pourU (.yes :: R) = pourU R := rfl
    rw [e2]
    rw [e1, e4] at hsum
    exact hsum
theorem Pr.take_no (h : Pr cab cba fab fba sab sba (.no k :: R) V) : Pr cab cba fab (fba - sba) sab 0 R V := by
  obtain ⟨h0, hp, hn⟩ := h.ans_bound rfl
  have hsum := h.sum
  have hR := no_yes hn
  refine ⟨⟨h.d1.snn, ?_, fun x y z => h.d1.val x y (List.mem_cons_of_mem _ z), h.d1.cap, ?_, fun x z => h.d1.pos x (List.mem_cons_of_mem _ z)⟩, ⟨Int.le_refl _, ?_, fun x y z => absurd z (no_push hp), by have := h.d2.cap; omega, ?_, h.d2.pos⟩, ?_⟩
  · have := h.d1.cnt
    rw [npush_cons, if_neg (by simp [isPush])] at this
    exact this
  · intro A x B e h1 h2
    rw [e, List.any_append, List.any_cons, h2] at hR
    simp at hR
  · rw [if_neg (by omega), hp, hn]
  · intro A x B e h1 h2
    have := h.d2.cap2 A x B e h1 h2
    omega
  · have e1 : xx sba (.no k :: R) = sba := by
      unfold xx
      rw [List.any_cons, hR]
      rfl
    have e2 : xx 0 R = 0 := by
      unfold xx
      split <;> rfl
    have e4 : pourU (.no k :: R) = pourU R := rfl
    rw [e2]
    rw [e1, e4] at hsum
    omega
theorem Pr.take_rise (h : Pr cab cba fab fba sab sba (.rise k :: R) V) : Pr cab cba fab fba sab sba R V := by
  have hsum := h.sum
  refine ⟨⟨h.d1.snn, ?_, fun x y z => h.d1.val x y (List.mem_cons_of_mem _ z), h.d1.cap, h.d1.tail, fun x z => h.d1.pos x (List.mem_cons_of_mem _ z)⟩, ⟨h.d2.snn, ?_, h.d2.val, h.d2.cap, h.d2.cap2, h.d2.pos⟩, ?_⟩
  · have := h.d1.cnt
    rw [npush_cons, if_neg (by simp [isPush])] at this
    exact this
  · have := h.d2.cnt
    rw [nans_cons, if_neg (by simp [isAns])] at this
    exact this
  · have e3 : xx sba (.rise k :: R) = xx sba R := by
      unfold xx
      rw [List.any_cons]
      rfl
    have e4 : pourU (.rise k :: R) = pourU R := rfl
    rw [e3, e4] at hsum
    exact hsum
theorem Pr.pour_bound (h : Pr cab cba fab fba sab sba (.pour u :: R) V) : 0 < u ∧ u ≤ cab + fba - sba := by
  have h0 := h.d1.pos u List.mem_cons_self
  have hsum := h.sum
  have e4 : pourU (.pour u :: R) = u + pourU R := rfl
  rw [e4] at hsum
  have hpr := pourU_nn (W := R) fun x z => h.d1.pos x (List.mem_cons_of_mem _ z)
  have hpv := pourU_nn h.d2.pos
  have hcap := h.d1.cap
  have hx := xx_le (W := V) h.d1.snn
  refine ⟨h0, ?_⟩
  by_cases hy : R.any isYes = true
  · have := h.d1.cap2 [] (.pour u) R rfl rfl hy
    have := xx_le (W := (.pour u :: R)) h.d2.snn
    omega
  · have : xx sba (.pour u :: R) = sba := by
      unfold xx
      rw [if_neg]
      rw [List.any_cons]
      simpa [isYes] using hy
    omega
theorem Pr.take_pour (h : Pr cab cba fab fba sab sba (.pour u :: R) V) : Pr cab cba fab (fba - u) sab sba R V := by
  have h0 := h.d1.pos u List.mem_cons_self
  have hsum := h.sum
  refine ⟨⟨h.d1.snn, ?_, fun x y z => h.d1.val x y (List.mem_cons_of_mem _ z), h.d1.cap, h.d1.tail, fun x z => h.d1.pos x (List.mem_cons_of_mem _ z)⟩, ⟨h.d2.snn, ?_, h.d2.val, by have := h.d2.cap; omega, ?_, h.d2.pos⟩, ?_⟩
  · have := h.d1.cnt
    rw [npush_cons, if_neg (by simp [isPush])] at this
    exact this
  · have := h.d2.cnt
    rw [nans_cons, if_neg (by simp [isAns])] at this
    exact this
  · intro A x B e h1 h2
    have := h.d2.cap2 A x B e h1 h2
    omega
  · have e3 : xx sba (.pour u :: R) = xx sba R := by
      unfold xx
      rw [List.any_cons]
      rfl
    have e4 : pourU (.pour u :: R) = u + pourU R := rfl
    rw [e3, e4] at hsum
    omega
/-- a push is sent -/
theorem Pr.push (h : Pr cab cba fab fba 0 sba W V) (h0 : 0 < u) (hc : fab + u ≤ cab) (hp : ∀ x, Wd.pour x ∉ W) : Pr cab cba (fab + u) fba u sba (W ++ [.push u k]) V := by
  have hcn := h.d1.cnt
  rw [if_neg (by omega)] at hcn
  have hpW : npush W = 0 := by omega
  have hnV : nans V = 0 := by omega
  have hsum := h.sum
  refine ⟨⟨by omega, ?_, fun x y z => ?_, hc, ?_, fun x z => absurd (by simpa using z) (hp x)⟩, ⟨h.d2.snn, ?_, h.d2.val, h.d2.cap, ?_, h.d2.pos⟩, ?_⟩
  · rw [npush_app, if_pos (show isPush _ = true from rfl), if_pos h0, hpW, hnV]
  · rcases List.mem_append.mp z with z | z
    · exact absurd z (no_push hpW)
    · have : x = u ∧ y = k := by simpa using z
      exact this.1
  · intro A x B e h1 h2
    exfalso
    rcases List.eq_nil_or_concat B with rfl | ⟨B', b, rfl⟩
    · cases h2
    · have e' : W ++ [Wd.push u k] = (A ++ x :: B') ++ [b] := by rw [e]; simp
      obtain ⟨e1, e2⟩ := List.append_inj' e' rfl
      have hx : x ∈ W := by rw [e1]; simp
      cases x with
      | push a b => exact no_push hpW hx
      | pour a => exact hp a hx
      | _ => cases h1
  · have := h.d2.cnt
    rw [nans_app, if_neg (by simp [isAns])]
    exact this
  · intro A x B e h1 h2
    have : V.any isYes = true := by
      rw [e, List.any_append, List.any_cons, h2]
      simp
    rw [no_yes hnV] at this
    cases this
  · have e1 : xx u V = u := by
      unfold xx
      rw [no_yes hnV]
      rfl
    have e2 : xx 0 V = 0 := by
      unfold xx
      split <;> rfl
    have e3 : xx sba (W ++ [.push u k]) = xx sba W := by
      unfold xx
      rw [any_app]
      simp [isYes]
    have e5 : pourU [.push u k] = 0 := rfl
    rw [e1, e3, pourU_app, e5]
    rw [e2] at hsum
    omega
theorem Pr.rise (h : Pr cab cba fab fba sab sba W V) : Pr cab cba fab fba sab sba (W ++ [.rise k]) V := by
  have hsum := h.sum
  refine ⟨⟨h.d1.snn, ?_, fun x y z => h.d1.val x y (by simpa using z), h.d1.cap, app_cap h.d1.cap2 rfl, fun x z => h.d1.pos x (by simpa using z)⟩, ⟨h.d2.snn, ?_, h.d2.val, h.d2.cap, h.d2.cap2, h.d2.pos⟩, ?_⟩
  · have := h.d1.cnt
    rw [npush_app, if_neg (by simp [isPush])]
    exact this
  · have := h.d2.cnt
    rw [nans_app, if_neg (by simp [isAns])]
    exact this
  · have e3 : xx sba (W ++ [.rise k]) = xx sba W := by
      unfold xx
      rw [any_app]
      simp [isYes]
    have e5 : pourU [.rise k] = 0 := rfl
    rw [e3, pourU_app, e5]
    omega
/-- all that is let is poured, where nothing is on its way there -/
theorem Pr.start (h : Pr cab cba fab fba sab sba [] V) (hr : 0 < cab - fab) : Pr cab cba cab fba sab sba [.pour (cab - fab)] V := by
  have hsum := h.sum
  refine ⟨⟨h.d1.snn, ?_, fun x y z => by simp at z, Int.le_refl _, fun A x B e h1 h2 => ?_, fun x z => (by have y : x = cab - fab := (by simpa using z); omega)⟩, ⟨h.d2.snn, ?_, h.d2.val, h.d2.cap, h.d2.cap2, h.d2.pos⟩, ?_⟩
  · have := h.d1.cnt
    rw [npush_cons, if_neg (by simp [isPush])]
    exact this
  · exfalso
    cases A with
    | nil =>
      have : B = [] := by simpa using (List.cons.inj e).2.symm
      rw [this] at h2
      cases h2
    | cons a A =>
      have := (List.cons.inj e).2
      simp at this
  · have := h.d2.cnt
    rw [nans_cons, if_neg (by simp [isAns])]
    exact this
  · have e3 : xx sba [.pour (cab - fab)] = xx sba [] := rfl
    have e5 : pourU [.pour (cab - fab)] = cab - fab + 0 := rfl
    have e6 : pourU [] = 0 := rfl
    rw [e3, e5]
    rw [e6] at hsum
    omega
/-- nothing on its way -/
theorem Pr.first (h1 : fab ≤ cab) (h2 : fba ≤ cba) (h3 : fab + fba = 0) : Pr cab cba fab fba 0 0 [] [] :=
  ⟨⟨Int.le_refl _, rfl, fun x y z => by simp at z, h1, fun A x B e => by simp at e, fun x z => by simp at z⟩, ⟨Int.le_refl _, rfl, fun x y z => by simp at z, h2, fun A x B e => by simp at e, fun x z => by simp at z⟩, h3⟩
end
end Mw

/-! G9 -/
namespace Mw
open PySem L2
/-- what is told of a word that is heard, or of a start -/
def heardD (r : St × List (Int × Wd)) : PyData := .tuple [r.1.d, .tuple (r.2.map ndD)]
def spHeard (C CH CW : Addr) : Sp := fun vs H Q E => ∃ (p a : Addr) (m : Int) (L : List Tie) (sp mo : Int) (dh df dw : PyData) (xh vst xf xw : V), vs = [.ref a, xh, vst, xf, xw] ∧ WbAt C p H a m L sp mo ∧ Tp C p H dh xh ∧ Tp C p H df xf ∧ Tp C p H dw xw ∧
  (isNb m dh = false → E (.ref CH) none H) ∧ (isNb m dh = true → isNb m df = false → E (.ref CH) none H) ∧
  ∀ h f, dh = .int h → df = .int f → isNb m dh = true → isNb m df = true → ∃ s : St, Pl H s.d vst ∧ SOk (evOf L h) s ∧ (isWdD dw = false → ∀ H', Same H H' → E (.ref CW) none H') ∧
    ∀ wd : Wd, dw = wd.d → wd.Ok → (heardM (evOf L h) sp mo h s f wd = none → ∀ H', Same H H' → E (.ref CW) none H') ∧ ∀ r, heardM (evOf L h) sp mo h s f wd = some r → ∀ t H', Same H H' → Pl H' (heardD r) t → Q t H'
theorem wd_isWd {wd : Wd} (h : isWdD wd.d = true) : wd.Ok := by
  cases wd with
  | yes => trivial
  | pour u =>
    have : isUn (.int u) = true := h
    simp [isUn] at this
    exact ⟨by omega, by omega⟩
  | push u k =>
    have : (isUn (.int u) && isNb 1000 (.int k)) = true := h
    simp [isUn, isNb] at this
    exact ⟨⟨by omega, by omega⟩, by omega, by omega⟩
  | no k =>
    have : isNb 1000 (.int k) = true := h
    simp [isNb] at this
    exact ⟨by omega, by omega⟩
  | rise k =>
    have : isNb 1000 (.int k) = true := h
    simp [isNb] at this
    exact ⟨by omega, by omega⟩
theorem wd_plain (wd : Wd) : plainD wd.d = true := by cases wd <;> rfl
theorem done_len (s : St) (i : Nat) (wd : Wd) : (done s i wd).2.length ≤ 1 := by
  cases wd with
  | push u k =>
    rw [done_push]
    split <;> exact Nat.le_refl _
  | _ => exact Nat.zero_le _
section
variable {P : Program} {w : World} {K : PySem.W.Frag} {mg : Str → Option Value} {base : Heap}
local macro_rules | `(tactic| walk_at "rd") => `(tactic| (repeat (first
  | ((with_reducible refine' rd_var ?h0 ?_); (case h0 => rfl))
  | with_reducible refine rd_c ?_
  | with_reducible refine rd_op ?_
  | with_reducible refine rd_nil ?_
  | with_reducible refine rd_cons ?_
  | with_reducible refine rd_tup ?_
  | with_reducible refine rd_lst ?_
  | with_reducible refine rd_ifs ?_
  | with_reducible refine rd_seq ?_
  | with_reducible refine rd_next ?_
  | with_reducible refine rd_ret ?_
  | with_reducible refine rd_asg ?_
  | ((with_reducible refine' rd_gset ?hs ?_); (case hs => ((simp only [L2.start, List.map_cons, List.map_nil, List.length_cons, List.length_nil, List.cons_append, List.nil_append, List.set_cons_zero, List.set_cons_succ, Nat.reduceAdd, Nat.reduceSub, Nat.zero_add, List.reduceReplicate]); rfl)))
  | with_reducible refine rd_drop ?_
  | with_reducible refine rd_test ?_
  | with_reducible refine rd_B ?_
  | with_reducible refine rd_bl ?_
  | with_reducible refine rd_blP ?_
  | with_reducible refine rd_andV ?_
  | with_reducible refine rd_orV ?_
  | with_reducible refine rd_notV ?_
  | with_reducible refine rd_and ?_
  | with_reducible refine rd_or ?_
  | with_reducible refine rd_not ?_
  | with_reducible refine rd_chain ?_
  | with_reducible refine rd_dput ?_
  | with_reducible refine rd_dget ?_
  | with_reducible refine rd_cb ?_
  | with_reducible refine rd_call ?_
  | with_reducible refine rd_un ?_
  | with_reducible refine rd_sl ?_
  | with_reducible refine rd_nopart ?_
  | with_reducible refine rd_part ?_
  | with_reducible refine rd_intP ?_
  | with_reducible refine rd_rU ?_
  | with_reducible refine rd_fld ?_
  | with_reducible refine rd_eqI ?_
  | with_reducible refine rd_neI ?_
  | with_reducible refine rd_mko ?_
  | with_reducible refine rd_bm ?_
  | with_reducible refine rd_gsub ?_
  | with_reducible refine rd_i0 ?_)))
theorem ok_word_init (T : Tx K mg) (B : Bk K mg T) : FnOk P w K mg base CX0 1 B.NoWord_init.f B.NoWord_init.fd ["self"] spPass := by
  refine B.NoWord_init.F.ok sc_NoWord_init (fun vs H Q E h => ?_) (fun cdv A outer s H vs Q E hr h => ?_)
  · obtain ⟨a, rfl, _⟩ := h
    rfl
  · obtain ⟨a, rfl, q⟩ := h
    exact ⟨_, (pss_one ps_pass), q⟩
theorem ok_spring_init (T : Tx K mg) (B : Bk K mg T) : FnOk P w K mg base CX0 1 B.NotSpring_init.f B.NotSpring_init.fd ["self"] spPass := by
  refine B.NotSpring_init.F.ok sc_NotSpring_init (fun vs H Q E h => ?_) (fun cdv A outer s H vs Q E hr h => ?_)
  · obtain ⟨a, rfl, _⟩ := h
    rfl
  · obtain ⟨a, rfl, q⟩ := h
    exact ⟨_, (pss_one ps_pass), q⟩
theorem ok_heard (T : Tx K mg) (B : Bk K mg T) : FnOk P w K mg base (L2.CX P w) 10 B.heard.f B.heard.fd ["web", "house", "state", "sender", "word"] (spHeard T.c_Web T.c_NoHouse T.c_NoWord) := by
  have G_check_house := ok_check_house (P := P) (w := w) (base := base) T B
  have G_is_word := ok_is_word (P := P) (w := w) (base := base) T B
  have G_can_hear := ok_can_hear (P := P) (w := w) (base := base) T B
  have G_neighbours := ok_neighbours (P := P) (w := w) (base := base) T B
  have G_done := ok_done (P := P) (w := w) (base := base) T B
  have G_acted := ok_acted (P := P) (w := w) (base := base) T B
  have G_NoWord_init := ok_word_init (P := P) (w := w) (base := base) T B
  refine B.heard.F.okX sc_heard (fun vs H Q E h => ?_) (fun cdv A outer s H vs Q E hr h => ?_)
  · obtain ⟨p, a, m, L, sp, mo, dh, df, dw, xh, vst, xf, xw, rfl, _⟩ := h
    rfl
  · obtain ⟨p, a, m, L, sp, mo, dh, df, dw, xh, vst, xf, xw, rfl, hw, hdh, hdf, hdw, e1, e2, q⟩ := h
    refine ⟨_, (pss_cons (ps_expr (pe_call G_check_house (hr.mono (by decide)) rfl B.check_house.m B.check_house.F.kp B.check_house.b .nil (passes_call (takes_of rfl rfl rfl rfl) (fun _ _ _ _ h => h)) (pa_cons (pv 0) (pa_cons (pv 1) pa_nil))))
      (pss_cons (ps_expr (pe_call G_check_house (hr.mono (by decide)) rfl B.check_house.m B.check_house.F.kp B.check_house.b .nil (passes_call (takes_of rfl rfl rfl rfl) (fun _ _ _ _ h => h)) (pa_cons (pv 0) (pa_cons (pv 3) pa_nil))))
      (pss_cons (ps_if (PW.pt (pw_or (pt_not (pt_val (pe_call G_is_word (hr.mono (by decide)) rfl B.is_word.m B.is_word.F.kp B.is_word.b .nil pass0 (pa_cons (pv 4) pa_nil)))) (pw_or1 (pt_not (pt_val (pe_call G_can_hear (hr.mono (by decide)) rfl B.can_hear.m B.can_hear.F.kp B.can_hear.b .nil pass0 (pa_cons (pv 0) (pa_cons (pv 1) (pa_cons (pv 2) (pa_cons (pv 3) (pa_cons (pv 4) pa_nil))))))))))) (pss_one (ps_raise rfl (takes_of rfl rfl rfl rfl) (pmk_pass T.x_NoWord B.NoWord_init.a B.NoWord_init.t G_NoWord_init (hr.mono (by decide)) B.NoWord_init.b pass0 rfl T.g_NoWord))) pss_nil)
      (pss_cons (ps_set (i := 5) sc_heard.nd rfl (Or.inl rfl) (pe_bmF PySem.F.slot_tuple_index PySem.F.type_tuple_index mt_tidx (pe_call G_neighbours (hr.mono (by decide)) rfl B.neighbours.m B.neighbours.F.kp B.neighbours.b .nil (passes_call (takes_of rfl rfl rfl rfl) (fun _ _ _ _ h => h)) (pa_cons (pv 0) (pa_cons (pv 1) pa_nil))) (pa_cons (pv 3) pa_nil)))
      (pss_cons (ps_asg (pe_call G_done (hr.mono (by decide)) rfl B.done.m B.done.F.kp B.done.b .nil pass0 (pa_cons (pv 2) (pa_cons (pv 5) (pa_cons (pv 4) pa_nil)))) (pg_tup (by rfl) (pgs_cons (pg_name (i := 6) sc_heard.nd rfl (Or.inl rfl)) (pgs_cons (pg_name (i := 7) sc_heard.nd rfl (Or.inl rfl)) pgs_nil))))
      (pss_cons (ps_setLc (i := 8) (own := [("answer", 10)]) (g := gName 10) rfl sc_heard.nd rfl rfl (sw_true rfl rfl rfl (by decide +kernel)) (pi_tup (pv 7)) (blkOk_by (own := [("answer", 10)]) (N := ["web", "house", "state", "sender", "word", "at", "behind", "answers", "out", "more", "answer"]) (sc := defScope s_heard) (by decide +kernel)) (fun _ _ _ _ _ => pg_name (i := 10) sc_heard.nd rfl (Or.inl rfl)) (fun _ _ _ _ _ => pts_nil) (fun _ _ _ _ _ => (pe_tup (pa_cons (pv 3) (pa_cons (pv 10) pa_nil)))))
      (C8.pss_cut (ps_if (PW.pt (pw_and (pt_cmpR op_eq (pe_ix ix_tup (pv 6) pe_int (fun _ _ => rfl)) pe_str (nomark _)) (pw_and1 (pt_cmpR op_notIn_seq (pv 1) (pe_tup (pa_cons (pe_fld (pv 0) rfl) (pa_cons (pe_fld (pv 0) rfl) pa_nil))) rfl)))) (pss_cons (ps_asg (pe_call G_acted (hr.mono (by decide)) rfl B.acted.m B.acted.F.kp B.acted.b .nil pass0 (pa_cons (pv 0) (pa_cons (pv 1) (pa_cons (pv 6) pa_nil)))) (pg_tup (by rfl) (pgs_cons (pg_name (i := 6) sc_heard.nd rfl (Or.inl rfl)) (pgs_cons (pg_name (i := 9) sc_heard.nd rfl (Or.inl rfl)) pgs_nil))))
      (pss_one (ps_set (i := 8) sc_heard.nd rfl (Or.inl rfl) (pe_op op_cat (pv 8) (pv 9))))) pss_nil)
      (pss_one (ps_ret (pe_tup (pa_cons (pv 6) (pa_cons (pe_callTy call_tuple_of (by rfl) T.b_tuple (by decide +kernel) (pa_cons (pv 8) pa_nil)) pa_nil)))))))))))), ?_⟩
    walk_at "rd"
    refine ⟨p, a, m, L, sp, mo, dh, xh, rfl, hw.1, hdh, fun b1 => ?_, e1⟩
    walk_at "rd"
    refine ⟨p, a, m, L, sp, mo, df, xf, rfl, hw.1, hdf, fun b2 => ?_, e2 b1⟩
    obtain ⟨h, rfl, h0, h1⟩ := isNb_form b1
    obtain ⟨f, rfl, f0, f1⟩ := isNb_form b2
    cases tp_int' hdh
    cases tp_int' hdf
    obtain ⟨st, hst, hs, q0, q⟩ := q h f rfl rfl b1 b2
    clear e1 e2
    walk_at "rd"
    refine ⟨p, dw, xw, rfl, hdw, fun H1 s1 => ?_⟩
    walk_at "rd"
    cases hdwd : isWdD dw with
    | false =>
      refine rd_yes rfl ?_
      refine rd_yes rfl ?_
      walk_at "rd"
      intro e he
      exact ⟨⟨e, rfl, rfl, rfl⟩, q0 hdwd H1 s1⟩
    | true =>
      refine rd_no rfl ?_
      obtain ⟨wd, rfl, hok⟩ := isWd_form hdwd
      obtain ⟨q2, q3⟩ := q wd rfl hok
      clear q q0
      have hpw : Pl H wd.d xw := tp_pl _ _ (wd_plain wd) hdw
      walk_at "rd"
      refine ⟨p, a, m, L, sp, mo, h, f, st, wd, vst, xw, rfl, hw.s s1, h0, h1, hst.s s1, hs, hpw.s s1, fun H2 s2 => ?_⟩
      have s12 := s1.trans s2
      walk_at "rd"
      cases hcan : (decide (f ∈ nbL L h) && canW (evOf L h) (decide (h = sp)) (decide (f = sp)) st ((nbL L h).idxOf f) wd) with
      | false =>
        refine rd_yes rfl ?_
        walk_at "rd"
        intro e he
        exact ⟨⟨e, rfl, rfl, rfl⟩, q2 (heardM_no hcan) H2 s12⟩
      | true =>
        refine rd_no rfl ?_
        have q4 := q3 _ (heardM_yes (e := evOf L h) (mo := mo) hcan)
        clear q2 q3
        rw [Bool.and_eq_true, decide_eq_true_eq] at hcan
        have hf := hcan.1
        have hi : (nbL L h).idxOf f < (nbL L h).length := List.idxOf_lt_length_iff.mpr hf
        walk_at "rd"
        refine rd_bmF ?_
        walk_at "rd"
        refine nb_good (hw.s s12) h0 h1 fun r3 H3 hr3 s3 hn3 => ?_
        have s13 := s12.trans s3
        refine ⟨⟨r3, _, rfl, hn3⟩, ?_⟩
        walk_at "rd"
        refine rd_idx hn3.sq hf ?_
        walk_at "rd"
        refine ⟨st, _, (nbL L h).idxOf f, wd, vst, xw, rfl, hst.s s13, hpw.s s13, hs.ls (ev_len hw.2 h), hi, fun r4 H4 s4 hr4 => ?_⟩
        have s14 := s13.trans s4
        have hdl := done_len st ((nbL L h).idxOf f) wd
        have hs4 := done_ok hs ((nbL L h).idxOf f) wd
        have q5 : ∀ t H', Same H H' → Pl H' (heardD (if (done st ((nbL L h).idxOf f) wd).1.up = true ∧ h ≠ sp ∧ h ≠ mo then ((acts (fuel (evOf L h)) (evOf L h) (done st ((nbL L h).idxOf f) wd).1).1, (done st ((nbL L h).idxOf f) wd).2.map (fun x => (f, x)) ++ (acts (fuel (evOf L h)) (evOf L h) (done st ((nbL L h).idxOf f) wd).1).2) else ((done st ((nbL L h).idxOf f) wd).1, (done st ((nbL L h).idxOf f) wd).2.map fun x => (f, x)))) t → Q t H' := q4
        clear q4
        generalize done st ((nbL L h).idxOf f) wd = dn at hr4 hdl hs4 q5
        obtain ⟨t4, x4, y4, rfl, ht4, hx4, hy4⟩ := pl_two hr4
        obtain ⟨ta, ys, rfl, hta, hys⟩ := pl_tup' hy4
        refine ⟨t4, _, rfl, SqT.of ht4, rfl, _, _, rfl, _, _, rfl, rfl, ?_⟩
        walk_at "rd"
        show iTup _ _ _ _ _
        refine rd_itup ?_
        walk_at "rd"
        refine ⟨ta, rfl, ⟨_, SqT.of hta⟩, fun D hD => lc_tup (K := K) (a := ta) (xs := ys) (fun i H5 => Same H4 H5 ∧ ∃ xs, H5 D = some (.lst xs) ∧ PlAll H5 (((dn.2.take i).map fun x => (f, x)).map ndD) xs) ⟨same_new hD, [], upd_same, plAll_nil⟩ (fun i H5 _ hh => SqT.of (hh.1 _ _ hta)) ?_ ?_⟩
        · rintro i y H5 hy ⟨hs5, xs, hacc, hxs⟩
          obtain ⟨d1, ed1, hd1⟩ := hys.get' hy
          rw [List.getElem?_map] at ed1
          cases ew : dn.2[i]? with
          | none =>
            rw [ew] at ed1
            cases ed1
          | some w1 =>
            rw [ew] at ed1
            obtain rfl : w1.d = d1 := Option.some.inj ed1
            refine ⟨rfl, ?_⟩
            refine rd_tyes ?_
            refine rd_yes rfl ?_
            walk_at "rd"
            refine rd_disp rfl fun t5 n5 => ?_
            have s6 := same_new (o := .tup [.int f, y]) n5
            have kt : KT (upd H5 t5 (.tup [.int f, y])) (upd (upd H5 t5 (.tup [.int f, y])) D (.lst (xs ++ [.ref t5]))) := KT.mut (s6 _ _ hacc) (by intro zs z; cases z)
            have lxs := hxs.len
            refine ⟨xs, s6 _ _ hacc, small' (by rw [← lxs, List.length_map, List.length_map, List.length_take]; omega), fun z o ez => (upd_ne (ne_of_none ez hD)).trans (s6 _ _ (hs5 z o ez)), xs ++ [.ref t5], upd_same, ?_⟩
            rw [take_snoc ew, List.map_append, List.map_append]
            refine ((hxs.s s6).t kt).append (plAll_cons ?_ plAll_nil)
            exact (pl_nd (wd := w1) upd_same ((hd1.s hs5).s s6)).t kt
        · rintro H5 ⟨hs5, xs, hacc, hxs⟩
          have ely := hys.len
          rw [List.length_map] at ely
          rw [← ely, List.take_length] at hxs
          have s15 := s14.trans hs5
          obtain ⟨⟨dx, v2, v5, v6, hwa, t2, hwy, hlt⟩, R⟩ := id (hw.s s15)
          walk_at "rd"
          refine ⟨fun σ' H' => ∃ (v5' v6' v7' : Option V) (xb : V) (lo : Addr) (zs : List V) (u9 : Option V) (sb : St) (ob : List (Int × Wd)), σ' = [some (.ref a), some (.int h), some vst, some (.int f), some xw, v5', some xb, v6', some (.ref lo), v7', u9] ∧ Same H H' ∧ Pl H' sb.d xb ∧ H' lo = some (.lst zs) ∧ PlAll H' (ob.map ndD) zs ∧ ob.length ≤ 2000 ∧ (∀ t H'', Same H H'' → Pl H'' (heardD (sb, ob)) t → Q t H''), ?_, ?_⟩
          · have hx5 := hx4.s hs5
            obtain ⟨sb, c1, c2, c3, rfl, hsb, k1, k2, k3⟩ := pl_st' hx5
            have short : (((dn.2.map fun x => (f, x))).length : Nat) ≤ 1 := by rw [List.length_map]; exact hdl
            have noact : ∀ z : ¬ (dn.1.up = true ∧ h ≠ sp ∧ h ≠ mo), ∀ t H'', Same H H'' → Pl H'' (heardD (dn.1, dn.2.map fun x => (f, x))) t → Q t H'' := fun z t H'' s hp => by
              refine q5 t H'' s ?_
              rw [if_neg z]
              exact hp
            walk_at "rd"
            refine rd_ixT (v := .str (stgS dn.1.up)) hsb rfl ?_
            walk_at "rd"
            refine rd_eq rfl ?_
            rw [stg_awake]
            walk_at "rd"
            refine rd_ite (fun e1 => ?_) (fun e1 => ?_)
            · walk_at "rd"
              refine ⟨a, T.c_Web, dx, _, _, rfl, hwa.2, T.W.cl, T.na_spring, wf_spring _ _ _ _ _ _, ?_⟩
              walk_at "rd"
              refine ⟨a, T.c_Web, dx, _, _, rfl, hwa.2, T.W.cl, T.na_mouth, wf_mouth _ _ _ _ _ _, ?_⟩
              refine rd_disp rfl fun t6 n6 => ?_
              have s6 := same_new (o := .tup [.int sp, .int mo]) n6
              refine ⟨t6, _, rfl, .inr (SqT.of upd_same), rfl, rfl, ?_⟩
              rw [show ([V.int sp, V.int mo] : List V) = [sp, mo].map V.int from rfl, inV_ints, if_pos rfl]
              walk_at "rd"
              by_cases e2 : h ∈ [sp, mo]
              · refine rd_no (by rw [decide_eq_true e2]; rfl) ?_
                refine ⟨_, _, _, _, D, xs, _, dn.1, _, rfl, s15.trans s6, hx5.s s6, s6 _ _ hacc, hxs.s s6, by omega, noact fun z => ?_⟩
                rcases (by simpa using e2 : h = sp ∨ h = mo) with y | y
                · exact z.2.1 y
                · exact z.2.2 y
              · refine rd_yes (by rw [decide_eq_false e2]; rfl) ?_
                have e3 : h ≠ sp ∧ h ≠ mo := by simpa using e2
                walk_at "rd"
                refine ⟨p, a, m, L, sp, mo, h, dn.1, _, rfl, hw.s (s15.trans s6), h0, h1, hx5.s s6, hs4, fun r7 H7 s7 hr7 => ?_⟩
                obtain ⟨t7, x7, l7, rfl, ht7, hx7, ⟨ws, hl7, hws⟩, hn7⟩ := hr7
                refine ⟨t7, _, rfl, SqT.of ht7, rfl, _, _, rfl, _, _, rfl, rfl, ?_⟩
                walk_at "rd"
                have lws := hws.len
                have lxs := hxs.len
                rw [List.length_map] at lws lxs
                have htot : (acts (fuel (evOf L h)) (evOf L h) dn.1).2.length ≤ 1000 := by
                  have z := acts_len (fuel (evOf L h)) dn.1 hs4
                  have z2 : (evOf L h).nb.length ≤ 10 := nb_len hw.2 h
                  have z3 : fuel (evOf L h) ≤ 22 := by unfold fuel; omega
                  have : fuel (evOf L h) * ((evOf L h).nb.length + 1) ≤ 22 * 11 := Nat.mul_le_mul z3 (by omega)
                  omega
                refine ⟨D, l7, xs, ws, rfl, rfl, s7 _ _ (s6 _ _ hacc), hl7, small (by omega), fun D8 n8 => ?_⟩
                have s8 := same_new (o := .lst (xs ++ ws)) n8
                refine ⟨_, _, _, _, D8, _, _, (acts (fuel (evOf L h)) (evOf L h) dn.1).1, (dn.2.map fun x => (f, x)) ++ (acts (fuel (evOf L h)) (evOf L h) dn.1).2, rfl, ((s15.trans s6).trans s7).trans s8, hx7.s s8, upd_same, ?_, by rw [List.length_append]; omega, fun t H'' s hp => ?_⟩
                · rw [List.map_append]
                  exact (((hxs.s s6).s s7).append hws).s s8
                · refine q5 t H'' s ?_
                  rw [if_pos ⟨e1, e3.1, e3.2⟩]
                  exact hp
            · refine ⟨_, _, _, _, D, xs, _, dn.1, _, rfl, s15, hx5, hacc, hxs, by omega, noact fun z => ?_⟩
              rw [z.1] at e1
              cases e1
          · rintro σ' H' ⟨v5', v6', v7', xb, lo, zs, u9, sb, ob, rfl, S, hxb, hlo, hzs, hob, qq⟩
            walk_at "rd"
            have lzs := hzs.len
            refine ⟨lo, _, rfl, .inl ⟨SqL.of hlo, fun t8 n8 => ?_⟩⟩
            have s8 := same_new (o := .tup zs) n8
            walk_at "rd"
            refine rd_disp rfl fun t9 n9 => ?_
            have s9 := same_new (o := .tup [xb, .ref t8]) n9
            refine qq _ _ ((S.trans s8).trans s9) (pl_pair upd_same ((hxb.s s8).s s9) (pl_tup (s9 _ _ upd_same) ((hzs.s s8).s s9)))
end
end Mw

/-! B2 -/
/-! What always holds of a glass: states of all houses, the words on all ways. -/
namespace Mw
open PySem L2
abbrev Sts := Int → St
abbrev Wys := Int → Int → List Wd
def fl (L : List Tie) (S : Sts) (a b : Int) : Int := gi (S a).str ((nbL L a).idxOf b)
def sn (L : List Tie) (S : Sts) (a b : Int) : Int := gi (S a).snt ((nbL L a).idxOf b)
structure GI (m : Int) (L : List Tie) (sp mo : Int) (S : Sts) (W : Wys) : Prop where
  sok : ∀ h, 0 ≤ h → h < m → SOk (evOf L h) (S h)
  pr : ∀ a b, b ∈ nbL L a → Pr (capOf L a b) (capOf L b a) (fl L S a b) (fl L S b a) (sn L S a b) (sn L S b a) (W a b) (W b a)
  off : ∀ a b, b ∉ nbL L a → W a b = []
  rest : (S sp).up = false → ∀ a b, W a b = []
  pour1 : ∀ a b u, Wd.pour u ∈ W a b → a = sp ∧ (S b).up = false
  pour2 : ∀ b, (W sp b).countP isPour ≤ 1
  wake : (S sp).up = false → ∀ b, b ∈ nbL L sp → 0 < capOf L sp b - fl L S sp b → (S b).up = false
def setS (S : Sts) (h : Int) (s : St) : Sts := fun x => if x = h then s else S x
def outTo (o : List (Int × Wd)) (b : Int) : List Wd := (o.filter fun x => decide (x.1 = b)).map (·.2)
def addW (W : Wys) (h : Int) (o : List (Int × Wd)) : Wys := fun a b => if a = h then W a b ++ outTo o b else W a b
def popW (W : Wys) (f h : Int) : Wys := fun a b => if a = f ∧ b = h then (W a b).tail else W a b
theorem setS_same {S : Sts} {h : Int} {s : St} : setS S h s h = s := if_pos rfl
theorem setS_ne {S : Sts} {h x : Int} {s : St} (n : x ≠ h) : setS S h s x = S x := if_neg n
theorem setS_set {S : Sts} {h : Int} {s t : St} : setS (setS S h s) h t = setS S h t := by
  funext x
  unfold setS
  split <;> rfl
theorem setS_id {S : Sts} {h : Int} : setS S h (S h) = S := by
  funext x
  unfold setS
  split
  · rename_i e
    rw [e]
  · rfl
theorem outTo_app {o p : List (Int × Wd)} {b : Int} : outTo (o ++ p) b = outTo o b ++ outTo p b := by
  unfold outTo
  rw [List.filter_append, List.map_append]
theorem addW_app {W : Wys} {h : Int} {o p : List (Int × Wd)} : addW (addW W h o) h p = addW W h (o ++ p) := by
  funext a b
  unfold addW
  split
  · rw [outTo_app, List.append_assoc]
  · rfl
theorem addW_nil {W : Wys} {h : Int} : addW W h [] = W := by
  funext a b
  unfold addW
  split
  · show W a b ++ [] = _
    rw [List.append_nil]
  · rfl
theorem outTo_one {b c : Int} {w : Wd} : outTo [(b, w)] c = if b = c then [w] else [] := by
  unfold outTo
  by_cases e : b = c <;> simp [e]
theorem outTo_all {nb : List Int} {w : Wd} {c : Int} (hn : nb.Nodup) : outTo (nb.map fun b => (b, w)) c = if c ∈ nb then [w] else [] := by
  induction nb with
  | nil => rfl
  | cons x nb ih =>
    have h2 := List.nodup_cons.mp hn
    have ih' := ih h2.2
    rw [List.map_cons, show ((x, w) :: nb.map fun b => (b, w)) = [(x, w)] ++ nb.map fun b => (b, w) from rfl, outTo_app, outTo_one, ih']
    by_cases e : x = c
    · subst e
      rw [if_pos rfl, if_neg h2.1, if_pos List.mem_cons_self]
      rfl
    · rw [if_neg e]
      by_cases e2 : c ∈ nb
      · rw [if_pos e2, if_pos (List.mem_cons_of_mem _ e2)]
        rfl
      · rw [if_neg e2, if_neg (by
          intro z
          rcases List.mem_cons.mp z with z | z
          · exact e z.symm
          · exact e2 z)]
        rfl
section
variable {m : Int} {L : List Tie} {sp mo : Int} {S : Sts} {W : Wys}
theorem idx_inj {L : List Tie} {h b c : Int} (hb : b ∈ nbL L h) (hc : c ∈ nbL L h) (e : (nbL L h).idxOf b = (nbL L h).idxOf c) : b = c := by
  have h1 := List.idxOf_lt_length_iff.mpr hb
  have h2 := List.idxOf_lt_length_iff.mpr hc
  have e1 : (nbL L h)[(nbL L h).idxOf b] = b := List.getElem_idxOf h1
  have e2 : (nbL L h)[(nbL L h).idxOf c] = c := List.getElem_idxOf h2
  rw [← e1, ← e2]
  simp only [e]
/-- the ties behind a change at one house -/
theorem GI.prs (R : Right m L sp mo) (g : GI m L sp mo S W) {h : Int} {s' : St} {W' : Wys}
    (hp : ∀ b, b ∈ nbL L h → Pr (capOf L h b) (capOf L b h) (gi s'.str ((nbL L h).idxOf b)) (fl L S b h) (gi s'.snt ((nbL L h).idxOf b)) (sn L S b h) (W' h b) (W' b h))
    (ho : ∀ a b, a ≠ h → b ≠ h → W' a b = W a b) : ∀ a b, b ∈ nbL L a → Pr (capOf L a b) (capOf L b a) (fl L (setS S h s') a b) (fl L (setS S h s') b a) (sn L (setS S h s') a b) (sn L (setS S h s') b a) (W' a b) (W' b a) := by
  intro a b hb
  have nab := (nb_in R hb).2.2.2.2
  by_cases ea : a = h
  · subst ea
    have := hp b hb
    unfold fl sn
    rw [setS_same, setS_ne nab]
    exact this
  · by_cases eb : b = h
    · subst eb
      have := (hp a (nb_symm.mp hb)).symm
      unfold fl sn
      rw [setS_same, setS_ne ea]
      exact this
    · unfold fl sn
      rw [setS_ne ea, setS_ne eb, ho a b ea eb, ho b a eb ea]
      exact g.pr a b hb
/-- one act of a house keeps all -/
theorem GI.act (R : Right m L sp mo) (g : GI m L sp mo S W) {h : Int} (h0 : 0 ≤ h) (h1 : h < m) (nsp : h ≠ sp) (hup : (S sp).up = true) {r : St × List (Int × Wd)} (ha : Mw.act (evOf L h) (S h) = some r) : GI m L sp mo (setS S h r.1) (addW W h r.2) ∧ r.1.up = (S h).up := by
  have hs := g.sok h h0 h1
  have hok := (act_ok hs ha).1
  have hsp : sp ≠ h := fun z => nsp z.symm
  have hspS : ∀ s, setS S h s sp = S sp := fun s => setS_ne hsp
  have noP : ∀ b x, Wd.pour x ∉ W h b := fun b x z => nsp (g.pour1 h b x z).1
  have addSp : ∀ o b, addW W h o sp b = W sp b := fun o b => if_neg hsp
  unfold Mw.act at ha
  split at ha
  · cases ha
  rename_i hheld
  split at ha
  · rename_i i is hd
    have hm : i ∈ downh (rooms (evOf L h) (S h)) (S h) := by
      rw [hd]
      exact List.mem_cons_self
    obtain ⟨⟨hi, hpos⟩, hs0, hb⟩ := downh_iff.mp hm
    have hin : i < (nbL L h).length := by rw [hs.rl] at hi; exact hi
    rw [rooms_gi hs hin] at hpos ha
    have hu : 0 < (if gi (evOf L h).out i - gi (S h).str i < (S h).held then gi (evOf L h).out i - gi (S h).str i else (S h).held) := by split <;> omega
    have hu2 : (if gi (evOf L h).out i - gi (S h).str i < (S h).held then gi (evOf L h).out i - gi (S h).str i else (S h).held) ≤ gi (evOf L h).out i - gi (S h).str i := by split <;> omega
    generalize (if gi (evOf L h).out i - gi (S h).str i < (S h).held then gi (evOf L h).out i - gi (S h).str i else (S h).held) = u at ha hu hu2
    cases ha
    have hbn : gi (nbL L h) i ∈ nbL L h := List.mem_of_getElem? (gi_get hin)
    have hidx : (nbL L h).idxOf (gi (nbL L h) i) = i := by
      have hlt := List.idxOf_lt_length_iff.mpr hbn
      have e1 := List.getElem_idxOf hlt
      have e2 := (List.getElem?_eq_some_iff.mp (gi_get hin)).2
      exact (List.getElem_inj (nb_nodup R h)).mp (e1.trans e2.symm)
    have hout : gi (evOf L h).out i = capOf L h (gi (nbL L h) i) := by
      refine gi_of ?_
      show ((nbL L h).map fun b => capOf L h b)[i]? = _
      rw [List.getElem?_map, gi_get hin]
      rfl
    generalize hbe : gi (nbL L h) i = b0 at hbn hidx hout
    have ho : (pushS (evOf L h) (S h) i u).2 = [(b0, Wd.push u (S h).ht)] := by
      show [(gi (nbL L h) i, _)] = _
      rw [hbe]
    have l1 : i < (S h).str.length := by rw [hs.l1]; exact hin
    have l3 : i < (S h).snt.length := by rw [hs.l3]; exact hin
    refine ⟨⟨fun x x0 x1 => ?_, g.prs R (fun b hb => ?_) (fun a b na nb => if_neg na), fun a b hab => ?_, fun z => ?_, fun a b x z => ?_, fun b => ?_, fun z b hb1 hb2 => ?_⟩, rfl⟩
    · by_cases e : x = h
      · subst e
        rw [setS_same]
        exact hok
      · rw [setS_ne e]
        exact g.sok x x0 x1
    · have hp := g.pr h b hb
      have nab := (nb_in R hb).2.2.2.2
      have ew : addW W h (pushS (evOf L h) (S h) i u).2 b h = W b h := if_neg nab
      have ew2 : addW W h (pushS (evOf L h) (S h) i u).2 h b = W h b ++ outTo [(b0, Wd.push u (S h).ht)] b := by
        unfold addW
        rw [if_pos rfl, ho]
      rw [ew, ew2, outTo_one]
      show Pr _ _ (gi ((S h).str.set i (gi (S h).str i + u)) _) _ (gi ((S h).snt.set i u) _) _ _ _
      by_cases e : b0 = b
      · subst e
        rw [if_pos rfl, hidx, gi_set_same l1, gi_set_same l3]
        have hf : fl L S h b0 = gi (S h).str i := by unfold fl; rw [hidx]
        have hsn : sn L S h b0 = gi (S h).snt i := by unfold sn; rw [hidx]
        rw [hf, hsn, hs0] at hp
        exact hp.push hu (by omega) (noP b0)
      · have hne : i ≠ (nbL L h).idxOf b := fun z => e (idx_inj hbn hb (by rw [hidx]; exact z))
        rw [if_neg e, List.append_nil, gi_set_ne hne, gi_set_ne hne]
        exact hp
    · unfold addW
      by_cases e : a = h
      · subst e
        rw [if_pos rfl, ho, outTo_one, if_neg (fun z => hab (by rw [← z]; exact hbn)), List.append_nil]
        exact g.off a b hab
      · rw [if_neg e]
        exact g.off a b hab
    · rw [hspS, hup] at z
      cases z
    · unfold addW at z
      by_cases e : a = h
      · subst e
        rw [if_pos rfl, ho, outTo_one] at z
        rcases List.mem_append.mp z with z | z
        · exact absurd z (noP b x)
        · split at z
          · simp at z
          · cases z
      · rw [if_neg e] at z
        obtain ⟨e1, e2⟩ := g.pour1 a b x z
        refine ⟨e1, ?_⟩
        by_cases e3 : b = h
        · subst e3
          rw [setS_same]
          exact e2
        · rw [setS_ne e3]
          exact e2
    · rw [addSp]
      exact g.pour2 b
    · rw [hspS, hup] at z
      cases z
  · split at ha
    · cases ha
    split at ha
    · cases ha
    generalize loL ((wide (rooms (evOf L h) (S h))).map fun i => gi (S h).bel i) + 1 = k at ha
    cases ha
    have ho : ∀ b, outTo ((evOf L h).nb.map fun b => (b, Wd.rise k)) b = if b ∈ nbL L h then [Wd.rise k] else [] := fun b => outTo_all (nb_nodup R h)
    refine ⟨⟨fun x x0 x1 => ?_, g.prs R (fun b hb => ?_) (fun a b na nb => if_neg na), fun a b hab => ?_, fun z => ?_, fun a b x z => ?_, fun b => ?_, fun z b hb1 hb2 => ?_⟩, rfl⟩
    · by_cases e : x = h
      · subst e
        rw [setS_same]
        exact hok
      · rw [setS_ne e]
        exact g.sok x x0 x1
    · have hp := g.pr h b hb
      have nab := (nb_in R hb).2.2.2.2
      have ew : addW W h ((evOf L h).nb.map fun b => (b, Wd.rise k)) b h = W b h := if_neg nab
      have ew2 : addW W h ((evOf L h).nb.map fun b => (b, Wd.rise k)) h b = W h b ++ [Wd.rise k] := by
        unfold addW
        rw [if_pos rfl, ho, if_pos hb]
      show Pr _ _ _ _ _ _ (addW W h ((evOf L h).nb.map fun b => (b, Wd.rise k)) h b) (addW W h ((evOf L h).nb.map fun b => (b, Wd.rise k)) b h)
      rw [ew, ew2]
      exact hp.rise
    · show addW W h ((evOf L h).nb.map fun b => (b, Wd.rise k)) a b = []
      unfold addW
      by_cases e : a = h
      · subst e
        rw [if_pos rfl, ho, if_neg hab, List.append_nil]
        exact g.off a b hab
      · rw [if_neg e]
        exact g.off a b hab
    · rw [hspS, hup] at z
      cases z
    · have z' : Wd.pour x ∈ addW W h ((evOf L h).nb.map fun b => (b, Wd.rise k)) a b := z
      unfold addW at z'
      by_cases e : a = h
      · subst e
        rw [if_pos rfl, ho] at z'
        rcases List.mem_append.mp z' with z' | z'
        · exact absurd z' (noP b x)
        · split at z'
          · simp at z'
          · cases z'
      · rw [if_neg e] at z'
        obtain ⟨e1, e2⟩ := g.pour1 a b x z'
        refine ⟨e1, ?_⟩
        by_cases e3 : b = h
        · subst e3
          rw [setS_same]
          exact e2
        · rw [setS_ne e3]
          exact e2
    · rw [addSp]
      exact g.pour2 b
    · rw [hspS, hup] at z
      cases z
theorem GI.actsN (R : Right m L sp mo) : ∀ (n : Nat) {S : Sts} {W : Wys} (g : GI m L sp mo S W) {h : Int} (_ : 0 ≤ h) (_ : h < m) (_ : h ≠ sp) (_ : (S sp).up = true), GI m L sp mo (setS S h (Mw.acts n (evOf L h) (S h)).1) (addW W h (Mw.acts n (evOf L h) (S h)).2)
  | 0, S, W, g, h, h0, h1, nsp, hup => by
    show GI m L sp mo (setS S h (S h)) (addW W h [])
    rw [setS_id, addW_nil]
    exact g
  | n + 1, S, W, g, h, h0, h1, nsp, hup => by
    unfold Mw.acts
    cases ha : Mw.act (evOf L h) (S h) with
    | none =>
      show GI m L sp mo (setS S h (S h)) (addW W h [])
      rw [setS_id, addW_nil]
      exact g
    | some r =>
      obtain ⟨g2, _⟩ := g.act R h0 h1 nsp hup ha
      have ih := GI.actsN R n g2 h0 h1 nsp (by rw [setS_ne fun z => nsp z.symm]; exact hup)
      rw [setS_same, setS_set, addW_app] at ih
      exact ih
/-- the head of a way can be heard, and what stands then is right -/
theorem GI.take (R : Right m L sp mo) (g : GI m L sp mo S W) {f h : Int} {wd : Wd} {Wr : List Wd} (hW : W f h = wd :: Wr) : ∃ r, heardM (evOf L h) sp mo h (S h) f wd = some r ∧ GI m L sp mo (setS S h r.1) (addW (popW W f h) h r.2) := by
  have hnb : h ∈ nbL L f := by
    by_cases e : h ∈ nbL L f
    · exact e
    · have := g.off f h e
      rw [hW] at this
      cases this
  have hfn : f ∈ nbL L h := nb_symm.mp hnb
  obtain ⟨h0, h1, f0, f1, nhf⟩ := nb_in R hnb
  have hup : (S sp).up = true := by
    cases e : (S sp).up with
    | true => rfl
    | false =>
      have := g.rest e f h
      rw [hW] at this
      cases this
  have hp := g.pr f h hnb
  rw [hW] at hp
  have hs := g.sok h h0 h1
  have hi : (nbL L h).idxOf f < (nbL L h).length := List.idxOf_lt_length_iff.mpr hfn
  have hinn : gi (evOf L h).inn ((nbL L h).idxOf f) = capOf L f h := by
    refine gi_of ?_
    show ((nbL L h).map fun b => capOf L b h)[_]? = _
    rw [List.getElem?_map, List.getElem?_eq_getElem hi, List.getElem_idxOf]
    rfl
  generalize hj : (nbL L h).idxOf f = j at hi hinn
  have l1 : j < (S h).str.length := by rw [hs.l1]; exact hi
  have l3 : j < (S h).snt.length := by rw [hs.l3]; exact hi
  have hfl : fl L S h f = gi (S h).str j := by unfold fl; rw [hj]
  have hsn : sn L S h f = gi (S h).snt j := by unfold sn; rw [hj]
  have home : (decide (h = sp) && !(S h).up) = false := by
    by_cases e : h = sp
    · rw [e, hup, Bool.not_true, Bool.and_false]
    · rw [decide_eq_false e, Bool.false_and]
  -- the word can be heard
  have can : canW (evOf L h) (decide (h = sp)) (decide (f = sp)) (S h) j wd = true := by
    unfold canW
    rw [home, Bool.not_false, Bool.true_and]
    cases wd with
    | pour u =>
      obtain ⟨e1, e2⟩ := g.pour1 f h u (by rw [hW]; exact List.mem_cons_self)
      have := hp.pour_bound
      rw [hfl, hsn] at this
      show ((decide (f = sp) && !(S h).up) && decide _) = true
      rw [decide_eq_true e1, e2, hinn, decide_eq_true (by omega)]
      rfl
    | push u k =>
      have := hp.push_bound
      rw [hfl, hsn] at this
      show decide _ = true
      rw [hinn]
      exact decide_eq_true (by omega)
    | yes =>
      have := hp.ans_bound rfl
      rw [hsn] at this
      exact decide_eq_true (by omega)
    | no k =>
      have := hp.ans_bound rfl
      rw [hsn] at this
      exact decide_eq_true (by omega)
    | rise k => rfl
  have hcan : (decide (f ∈ (evOf L h).nb) && canW (evOf L h) (decide (h = sp)) (decide (f = sp)) (S h) ((evOf L h).nb.idxOf f) wd) = true := by
    rw [Bool.and_eq_true]
    refine ⟨decide_eq_true hfn, ?_⟩
    show canW _ _ _ _ ((nbL L h).idxOf f) _ = true
    rw [hj]
    exact can
  have hM := heardM_yes (mo := mo) hcan
  -- behind what the word does
  have hok := done_ok hs j wd
  have main : Pr (capOf L f h) (capOf L h f) (fl L S f h) (gi (done (S h) j wd).1.str j) (sn L S f h) (gi (done (S h) j wd).1.snt j) Wr (W h f ++ (done (S h) j wd).2) := by
    rw [hfl, hsn] at hp
    cases wd with
    | pour u =>
      show Pr _ _ _ (gi ((S h).str.set j (gi (S h).str j + -u)) j) _ (gi (S h).snt j) _ (W h f ++ [])
      rw [gi_set_same l1, List.append_nil]
      have := hp.take_pour
      rwa [Int.sub_eq_add_neg] at this
    | push u k =>
      rw [done_push]
      split
      · show Pr _ _ _ (gi ((S h).str.set j (gi (S h).str j + -u)) j) _ (gi (S h).snt j) _ (W h f ++ [Wd.yes])
        rw [gi_set_same l1]
        have := hp.take_push_yes
        rwa [Int.sub_eq_add_neg] at this
      · exact hp.take_push_no
    | yes =>
      show Pr _ _ _ (gi (S h).str j) _ (gi ((S h).snt.set j 0) j) _ (W h f ++ [])
      rw [gi_set_same l3, List.append_nil]
      exact hp.take_yes
    | no k =>
      show Pr _ _ _ (gi ((S h).str.set j (gi (S h).str j + -gi (S h).snt j)) j) _ (gi ((S h).snt.set j 0) j) _ (W h f ++ [])
      rw [gi_set_same l1, gi_set_same l3, List.append_nil]
      have := hp.take_no
      rwa [Int.sub_eq_add_neg] at this
    | rise k =>
      show Pr _ _ _ (gi (S h).str j) _ (gi (S h).snt j) _ (W h f ++ [])
      rw [List.append_nil]
      exact hp.take_rise
  have other : ∀ k, j ≠ k → gi (done (S h) j wd).1.str k = gi (S h).str k ∧ gi (done (S h) j wd).1.snt k = gi (S h).snt k := by
    intro k hk
    cases wd with
    | pour u => exact ⟨gi_set_ne hk, rfl⟩
    | push u q =>
      rw [done_push]
      split
      · exact ⟨gi_set_ne hk, rfl⟩
      · exact ⟨rfl, rfl⟩
    | yes => exact ⟨rfl, gi_set_ne hk⟩
    | no q => exact ⟨gi_set_ne hk, gi_set_ne hk⟩
    | rise q => exact ⟨rfl, rfl⟩
  have upw : (∃ u, wd = .pour u) ∨ (done (S h) j wd).1.up = (S h).up := by
    cases wd with
    | pour u => exact .inl ⟨u, rfl⟩
    | push u q =>
      right
      rw [done_push]
      split <;> rfl
    | yes => exact .inr rfl
    | no q => exact .inr rfl
    | rise q => exact .inr rfl
  have upt : (S h).up = true → (done (S h) j wd).1.up = true := fun z => by
    rcases upw with ⟨u, rfl⟩ | y
    · rfl
    · rw [y, z]
  have ansP : ∀ x, Wd.pour x ∉ (done (S h) j wd).2 := by
    intro x z
    cases wd with
    | push u q =>
      rw [done_push] at z
      split at z <;> simp at z
    | _ => cases z
  have anc : (done (S h) j wd).2.countP isPour = 0 := by
    rw [List.countP_eq_zero]
    intro w hw
    cases w with
    | pour x => exact absurd hw (ansP x)
    | _ => exact Bool.false_ne_true
  have outF : ∀ b, outTo ((done (S h) j wd).2.map fun x => (f, x)) b = if f = b then (done (S h) j wd).2 else [] := fun b => by
    unfold outTo
    by_cases e : f = b
    · rw [if_pos e, List.filter_eq_self.mpr (by
        intro x hx
        obtain ⟨y, _, rfl⟩ := List.mem_map.mp hx
        exact decide_eq_true e), List.map_map]
      exact List.map_id' _
    · rw [if_neg e, List.filter_eq_nil_iff.mpr (by
        intro x hx
        obtain ⟨y, _, rfl⟩ := List.mem_map.mp hx
        exact fun z => e (of_decide_eq_true z))]
      rfl
  have nfh : f ≠ h := fun z => nhf z.symm
  have W1fh : addW (popW W f h) h ((done (S h) j wd).2.map fun x => (f, x)) f h = Wr := by
    unfold addW popW
    rw [if_neg nfh, if_pos ⟨rfl, rfl⟩, hW]
    rfl
  have W1h : ∀ b, addW (popW W f h) h ((done (S h) j wd).2.map fun x => (f, x)) h b = W h b ++ (if f = b then (done (S h) j wd).2 else []) := fun b => by
    unfold addW popW
    rw [if_pos rfl, if_neg (fun z => nhf z.1), outF]
  have W1o : ∀ a b, a ≠ h → ¬ (a = f ∧ b = h) → addW (popW W f h) h ((done (S h) j wd).2.map fun x => (f, x)) a b = W a b := fun a b na nb => by
    unfold addW popW
    rw [if_neg na, if_neg nb]
  have gd : GI m L sp mo (setS S h (done (S h) j wd).1) (addW (popW W f h) h ((done (S h) j wd).2.map fun x => (f, x))) := by
    generalize hW1 : addW (popW W f h) h ((done (S h) j wd).2.map fun x => (f, x)) = W1 at W1fh W1h W1o ⊢
    refine ⟨fun x x0 x1 => ?_, g.prs R (fun b hb => ?_) (fun a b na nb => W1o a b na (fun z => nb z.2)), fun a b hab => ?_, fun z => ?_, fun a b x z => ?_, fun b => ?_, fun z => ?_⟩
    · by_cases e : x = h
      · subst e
        rw [setS_same]
        exact hok
      · rw [setS_ne e]
        exact g.sok x x0 x1
    · have nab := (nb_in R hb).2.2.2.2
      by_cases e : f = b
      · subst e
        rw [hj, W1h, if_pos rfl, W1fh]
        exact main.symm
      · have hne : j ≠ (nbL L h).idxOf b := fun z => e (idx_inj hfn hb (by rw [hj]; exact z))
        rw [(other _ hne).1, (other _ hne).2, W1h, if_neg e, List.append_nil, W1o b h nab (fun z => e z.1.symm)]
        exact g.pr h b hb
    · by_cases ea : a = h
      · subst ea
        rw [W1h, g.off a b hab, if_neg (fun z => hab (by rw [← z]; exact hfn))]
        rfl
      · rw [W1o a b ea (fun z => hab (by rw [z.1, z.2]; exact hnb))]
        exact g.off a b hab
    · exfalso
      by_cases e : sp = h
      · subst e
        rw [setS_same, upt hup] at z
        cases z
      · rw [setS_ne e, hup] at z
        cases z
    · -- a pour on a way
      have old : ∀ (q : Wd.pour x ∈ W a b) (nb : b = h → ¬ ∃ u, wd = .pour u), a = sp ∧ (setS S h (done (S h) j wd).1 b).up = false := fun q nb => by
        obtain ⟨e1, e2⟩ := g.pour1 a b x q
        refine ⟨e1, ?_⟩
        by_cases e3 : b = h
        · subst e3
          rw [setS_same]
          rcases upw with y | y
          · exact absurd y (nb rfl)
          · rw [y, e2]
        · rw [setS_ne e3]
          exact e2
      by_cases ea : a = h
      · subst ea
        rw [W1h] at z
        rcases List.mem_append.mp z with z | z
        · refine old z fun eb => ?_
          subst eb
          rw [g.off b b (fun y => (nb_in R y).2.2.2.2 rfl)] at z
          cases z
        · split at z
          · exact absurd z (ansP x)
          · cases z
      · by_cases eb : a = f ∧ b = h
        · obtain ⟨rfl, rfl⟩ := eb
          rw [W1fh] at z
          refine old (by rw [hW]; exact List.mem_cons_of_mem _ z) fun _ y => ?_
          obtain ⟨u, rfl⟩ := y
          have hsp := (g.pour1 a b u (by rw [hW]; exact List.mem_cons_self)).1
          subst hsp
          have h2 := g.pour2 b
          rw [hW, List.countP_cons, if_pos (show isPour (Wd.pour u) = true from rfl)] at h2
          have : 0 < Wr.countP isPour := List.countP_pos_iff.mpr ⟨_, z, rfl⟩
          omega
        · rw [W1o a b ea eb] at z
          refine old z fun e3 y => ?_
          obtain ⟨u, rfl⟩ := y
          obtain ⟨e1, _⟩ := g.pour1 a b x z
          obtain ⟨e2, _⟩ := g.pour1 f h u (by rw [hW]; exact List.mem_cons_self)
          exact eb ⟨by rw [e1, e2], e3⟩
    · by_cases ea : sp = h
      · rw [ea, W1h, List.countP_append]
        have := g.pour2 b
        rw [ea] at this
        split
        · rw [anc]
          omega
        · exact this
      · by_cases eb : sp = f ∧ b = h
        · obtain ⟨e1, e2⟩ := eb
          rw [e1, e2, W1fh]
          have := g.pour2 h
          rw [e1, hW, List.countP_cons] at this
          omega
        · rw [W1o sp b ea eb]
          exact g.pour2 b
    · exfalso
      by_cases e : sp = h
      · subst e
        rw [setS_same, upt hup] at z
        cases z
      · rw [setS_ne e, hup] at z
        cases z
  have hM' : heardM (evOf L h) sp mo h (S h) f wd = some (if (done (S h) j wd).1.up = true ∧ h ≠ sp ∧ h ≠ mo then ((Mw.acts (fuel (evOf L h)) (evOf L h) (done (S h) j wd).1).1, (done (S h) j wd).2.map (fun x => (f, x)) ++ (Mw.acts (fuel (evOf L h)) (evOf L h) (done (S h) j wd).1).2) else ((done (S h) j wd).1, (done (S h) j wd).2.map fun x => (f, x))) := by
    have := hM
    rw [show (evOf L h).nb.idxOf f = j from hj] at this
    exact this
  refine ⟨_, hM', ?_⟩
  split
  · rename_i hc
    have upS : (setS S h (done (S h) j wd).1 sp).up = true := by
      rw [setS_ne fun z => hc.2.1 z.symm]
      exact hup
    have ga := GI.actsN R (fuel (evOf L h)) gd h0 h1 hc.2.1 upS
    rw [setS_same, setS_set, addW_app] at ga
    exact ga
  · exact gd
end
end Mw

/-! B3 -/
/-! The glass at its start, heights along a run, words that are right by form. -/
namespace Mw
open PySem L2
def startM (e : Ev) (s : St) : St × List (Int × Wd) := ({ s with up := true, held := s.held - (rooms e s).sum, str := List.zipWith (fun a b => a + b) s.str (rooms e s) }, (((e.nb.zip (rooms e s)).filter fun x => decide (0 < x.2)).map fun x => (x.1, .pour x.2)))
def Wd.top (k : Int) : Wd → Prop
  | .push _ h => 0 ≤ h ∧ h ≤ k
  | .no h => 0 ≤ h ∧ h ≤ k
  | .rise h => 0 ≤ h ∧ h ≤ k
  | _ => True
theorem Wd.top.mono {k j : Int} {w : Wd} (h : w.top k) (le : k ≤ j) : w.top j := by
  cases w with
  | pour u => trivial
  | yes => trivial
  | push u q => exact ⟨h.1, Int.le_trans h.2 le⟩
  | no q => exact ⟨h.1, Int.le_trans h.2 le⟩
  | rise q => exact ⟨h.1, Int.le_trans h.2 le⟩
structure HB (k m : Int) (S : Sts) (W : Wys) : Prop where
  ht : ∀ h, 0 ≤ h → h < m → 0 ≤ (S h).ht ∧ (S h).ht ≤ k
  bel : ∀ h, 0 ≤ h → h < m → ∀ x ∈ (S h).bel, 0 ≤ x ∧ x ≤ k
  wd : ∀ a b w, w ∈ W a b → w.top k
theorem act_hb {e : Ev} {s : St} {k : Int} (hs : SOk e s) (hb : ∀ x ∈ s.bel, 0 ≤ x ∧ x ≤ k) (hh : 0 ≤ s.ht ∧ s.ht ≤ k + 1) {r : St × List (Int × Wd)} (ha : act e s = some r) : (0 ≤ r.1.ht ∧ r.1.ht ≤ k + 1) ∧ r.1.bel = s.bel ∧ ∀ x ∈ r.2, x.2.top (k + 1) := by
  unfold act at ha
  split at ha
  · cases ha
  split at ha
  · rename_i i is hd
    generalize (if gi (rooms e s) i < s.held then gi (rooms e s) i else s.held) = u at ha
    cases ha
    refine ⟨hh, rfl, fun x hx => ?_⟩
    rw [show (pushS e s _ u).2 = [(gi e.nb _, Wd.push u s.ht)] from rfl] at hx
    rw [List.mem_singleton] at hx
    subst hx
    exact hh
  · split at ha
    · cases ha
    rename_i h1
    rw [not_or] at h1
    split at ha
    · cases ha
    have hne : ((wide (rooms e s)).map fun i => gi s.bel i) ≠ [] := fun z => h1.1 (List.map_eq_nil_iff.mp z)
    obtain ⟨i, hi, ei⟩ := List.mem_map.mp (loL_mem hne)
    have hi2 := wide_iff.mp hi
    have hm : gi s.bel i ∈ s.bel := List.mem_of_getElem? (gi_get (by rw [hs.l2, ← hs.rl]; exact hi2.1))
    have hk := hb _ hm
    rw [ei] at hk
    generalize loL ((wide (rooms e s)).map fun i => gi s.bel i) = q at ha hk
    cases ha
    refine ⟨⟨by show 0 ≤ q + 1; omega, by show q + 1 ≤ k + 1; omega⟩, rfl, fun x hx => ?_⟩
    obtain ⟨b, _, rfl⟩ := List.mem_map.mp hx
    exact ⟨by omega, by omega⟩
theorem acts_hb {e : Ev} {k : Int} : ∀ (n : Nat) {s : St} (_ : SOk e s) (_ : ∀ x ∈ s.bel, 0 ≤ x ∧ x ≤ k) (_ : 0 ≤ s.ht ∧ s.ht ≤ k + 1), (0 ≤ (acts n e s).1.ht ∧ (acts n e s).1.ht ≤ k + 1) ∧ (acts n e s).1.bel = s.bel ∧ ∀ x ∈ (acts n e s).2, x.2.top (k + 1)
  | 0, s, hs, hb, hh => ⟨hh, rfl, fun x hx => by cases hx⟩
  | n + 1, s, hs, hb, hh => by
    unfold acts
    cases ha : act e s with
    | none => exact ⟨hh, rfl, fun x hx => by cases hx⟩
    | some r =>
      obtain ⟨a1, a2, a3⟩ := act_hb hs hb hh ha
      have ih := acts_hb n (act_ok hs ha).1 (by rw [a2]; exact hb) a1
      refine ⟨ih.1, ih.2.1.trans a2, fun x hx => ?_⟩
      rcases List.mem_append.mp hx with z | z
      · exact a3 x z
      · exact ih.2.2 x z
theorem done_hb {s : St} {k : Int} {i : Nat} {w : Wd} (hb : ∀ x ∈ s.bel, 0 ≤ x ∧ x ≤ k) (hh : 0 ≤ s.ht ∧ s.ht ≤ k) (hw : w.top k) : (done s i w).1.ht = s.ht ∧ (∀ x ∈ (done s i w).1.bel, 0 ≤ x ∧ x ≤ k) ∧ ∀ x ∈ (done s i w).2, x.top k := by
  have bl : ∀ (t : St) (h : Int), t.bel = s.bel → 0 ≤ h ∧ h ≤ k → ∀ x ∈ (t.blv i h).bel, 0 ≤ x ∧ x ≤ k := by
    intro t h et hk x hx
    rw [show (t.blv i h).bel = t.bel.set i (if h > gi t.bel i then h else gi t.bel i) from rfl, et] at hx
    by_cases hi : i < s.bel.length
    · rcases List.mem_or_eq_of_mem_set hx with z | z
      · exact hb x z
      · rw [z]
        split
        · exact hk
        · exact hb _ (List.mem_of_getElem? (gi_get hi))
    · rw [List.set_eq_of_length_le (by omega)] at hx
      exact hb x hx
  cases w with
  | pour u => exact ⟨rfl, hb, fun x hx => by cases hx⟩
  | yes => exact ⟨rfl, hb, fun x hx => by cases hx⟩
  | push u q =>
    rw [done_push]
    split
    · exact ⟨rfl, bl s q rfl hw, fun x hx => by rw [List.mem_singleton.mp hx]; trivial⟩
    · exact ⟨rfl, bl s q rfl hw, fun x hx => by rw [List.mem_singleton.mp hx]; exact hh⟩
  | no q => exact ⟨rfl, bl _ q rfl hw, fun x hx => by cases hx⟩
  | rise q => exact ⟨rfl, bl s q rfl hw, fun x hx => by cases hx⟩
theorem heardM_form {e : Ev} {sp mo h : Int} {s : St} {f : Int} {wd : Wd} {r : St × List (Int × Wd)} (z : heardM e sp mo h s f wd = some r) : r = ((done s (e.nb.idxOf f) wd).1, (done s (e.nb.idxOf f) wd).2.map fun x => (f, x)) ∨
    r = ((acts (fuel e) e (done s (e.nb.idxOf f) wd).1).1, (done s (e.nb.idxOf f) wd).2.map (fun x => (f, x)) ++ (acts (fuel e) e (done s (e.nb.idxOf f) wd).1).2) := by
  unfold heardM at z
  split at z
  · dsimp only at z
    split at z
    · exact .inr (Option.some.inj z).symm
    · exact .inl (Option.some.inj z).symm
  · cases z
theorem mem_outTo {o : List (Int × Wd)} {b : Int} {w : Wd} (h : w ∈ outTo o b) : (b, w) ∈ o := by
  unfold outTo at h
  obtain ⟨x, hx, rfl⟩ := List.mem_map.mp h
  rw [List.mem_filter, decide_eq_true_eq] at hx
  rw [← hx.2]
  exact hx.1
theorem outTo_len {o : List (Int × Wd)} {b : Int} : (outTo o b).length ≤ o.length := by
  unfold outTo
  rw [List.length_map]
  exact List.length_filter_le _ _
theorem acts_out {e : Ev} : ∀ (n : Nat) (s : St) (_ : SOk e s), ∀ x ∈ (acts n e s).2, x.1 ∈ e.nb
  | 0, s, hs => fun x hx => by cases hx
  | n + 1, s, hs => by
    unfold acts
    cases ha : act e s with
    | none => exact fun x hx => by cases hx
    | some r =>
      intro x hx
      rcases List.mem_append.mp hx with z | z
      · unfold act at ha
        split at ha
        · cases ha
        split at ha
        · rename_i i is hd
          have hm : i ∈ downh (rooms e s) s := by
            rw [hd]
            exact List.mem_cons_self
          have hi := (downh_iff.mp hm).1.1
          generalize (if gi (rooms e s) i < s.held then gi (rooms e s) i else s.held) = u at ha
          cases ha
          rw [show (pushS e s _ u).2 = [(gi e.nb _, Wd.push u s.ht)] from rfl, List.mem_singleton] at z
          rw [z]
          exact List.mem_of_getElem? (gi_get (by rw [← hs.rl]; exact hi))
        · split at ha
          · cases ha
          split at ha
          · cases ha
          cases ha
          obtain ⟨b, hb, rfl⟩ := List.mem_map.mp z
          exact hb
      · exact acts_out n r.1 (act_ok hs ha).1 x z
section
variable {m : Int} {L : List Tie} {sp mo : Int} {S : Sts} {W : Wys} {k : Int}
theorem HB.mono {j : Int} (h : HB k m S W) (le : k ≤ j) : HB j m S W := ⟨fun a b c => ⟨(h.ht a b c).1, Int.le_trans (h.ht a b c).2 le⟩, fun a b c x hx => ⟨(h.bel a b c x hx).1, Int.le_trans (h.bel a b c x hx).2 le⟩, fun a b w hw => (h.wd a b w hw).mono le⟩
theorem HB.take (R : Right m L sp mo) (g : GI m L sp mo S W) (hb : HB k m S W) {f h : Int} {wd : Wd} {Wr : List Wd} (hW : W f h = wd :: Wr) (h0 : 0 ≤ h) (h1 : h < m) {r : St × List (Int × Wd)} (hr : heardM (evOf L h) sp mo h (S h) f wd = some r) : HB (k + 1) m (setS S h r.1) (addW (popW W f h) h r.2) := by
  have hs := g.sok h h0 h1
  have hwd : wd.top k := hb.wd f h wd (by rw [hW]; exact List.mem_cons_self)
  obtain ⟨d1, d2, d3⟩ := done_hb (i := (nbL L h).idxOf f) (hb.bel h h0 h1) (hb.ht h h0 h1) hwd
  have hs2 := done_ok hs ((nbL L h).idxOf f) wd
  have hh := hb.ht h h0 h1
  obtain ⟨a1, a2, a3⟩ := acts_hb (fuel (evOf L h)) hs2 d2 (by rw [d1]; omega)
  have an : ∀ x ∈ (done (S h) ((nbL L h).idxOf f) wd).2.map (fun x => (f, x)), x.2.top (k + 1) := fun x hx => by
    obtain ⟨y, hy, rfl⟩ := List.mem_map.mp hx
    exact (d3 y hy).mono (by omega)
  have key : (0 ≤ r.1.ht ∧ r.1.ht ≤ k + 1) ∧ (∀ x ∈ r.1.bel, 0 ≤ x ∧ x ≤ k) ∧ ∀ x ∈ r.2, x.2.top (k + 1) := by
    rcases heardM_form hr with e | e
    · rw [e]
      have hd : 0 ≤ (done (S h) ((nbL L h).idxOf f) wd).1.ht ∧ (done (S h) ((nbL L h).idxOf f) wd).1.ht ≤ k + 1 := by
        rw [d1]
        omega
      exact ⟨hd, d2, an⟩
    · rw [e]
      refine ⟨a1, by rw [show (acts (fuel (evOf L h)) (evOf L h) (done (S h) ((evOf L h).nb.idxOf f) wd).1).1.bel = _ from a2]; exact d2, fun x hx => ?_⟩
      rcases List.mem_append.mp hx with z | z
      · exact an x z
      · exact a3 x z
  refine ⟨fun x x0 x1 => ?_, fun x x0 x1 y hy => ?_, fun a b w hw => ?_⟩
  · by_cases e : x = h
    · rw [e, setS_same]
      exact key.1
    · rw [setS_ne e]
      exact ((hb.mono (by omega)).ht x x0 x1)
  · by_cases e : x = h
    · rw [e, setS_same] at hy
      have := key.2.1 y hy
      omega
    · rw [setS_ne e] at hy
      exact (hb.mono (by omega)).bel x x0 x1 y hy
  · have pop : ∀ w, w ∈ popW W f h a b → w.top (k + 1) := fun w hw => by
      unfold popW at hw
      refine (hb.wd a b w ?_).mono (by omega)
      split at hw
      · exact List.mem_of_mem_tail hw
      · exact hw
    unfold addW at hw
    split at hw
    · rcases List.mem_append.mp hw with z | z
      · exact pop w z
      · exact key.2.2 _ (mem_outTo z)
    · exact pop w hw
theorem GI.near (R : Right m L sp mo) (g : GI m L sp mo S W) {f h : Int} (hf : f ∈ nbL L h) : 0 ≤ gi (S h).snt ((nbL L h).idxOf f) ∧ gi (S h).str ((nbL L h).idxOf f) ≤ capOf L h f := by
  have hp := g.pr h f hf
  exact ⟨hp.d1.snn, hp.d1.cap⟩
theorem GI.nb_of (g : GI m L sp mo S W) {f h : Int} {wd : Wd} {Wr : List Wd} (hW : W f h = wd :: Wr) : f ∈ nbL L h := by
  refine nb_symm.mpr ?_
  by_cases e : h ∈ nbL L f
  · exact e
  · have := g.off f h e
    rw [hW] at this
    cases this
/-- the head of a way is right by its form -/
theorem GI.head_ok (R : Right m L sp mo) (g : GI m L sp mo S W) (hb : HB k m S W) (hk : k < 1000) {f h : Int} {wd : Wd} {Wr : List Wd} (hW : W f h = wd :: Wr) : wd.Ok := by
  have hfn := g.nb_of hW
  have hp := g.pr f h (nb_symm.mp hfn)
  rw [hW] at hp
  have c1 := cap_in R f h
  have c2 := cap_in R h f
  have f2 : fl L S h f ≤ capOf L h f := hp.d2.cap
  have s2 : 0 ≤ sn L S h f := hp.d2.snn
  have hwd : wd.top k := hb.wd f h wd (by rw [hW]; exact List.mem_cons_self)
  cases wd with
  | pour u =>
    have := hp.pour_bound
    exact ⟨by omega, by omega⟩
  | yes => trivial
  | push u q =>
    have := hp.push_bound
    have h2 : 0 ≤ q ∧ q ≤ k := hwd
    exact ⟨⟨by omega, by omega⟩, by omega, by omega⟩
  | no q =>
    have h2 : 0 ≤ q ∧ q ≤ k := hwd
    exact ⟨by omega, by omega⟩
  | rise q =>
    have h2 : 0 ≤ q ∧ q ≤ k := hwd
    exact ⟨by omega, by omega⟩
theorem outTo_pours {nb rs : List Int} (hn : nb.Nodup) (hl : rs.length = nb.length) (b : Int) : outTo (((nb.zip rs).filter fun x => decide (0 < x.2)).map fun x => (x.1, Wd.pour x.2)) b = if b ∈ nb ∧ 0 < gi rs (nb.idxOf b) then [Wd.pour (gi rs (nb.idxOf b))] else [] := by
  induction nb generalizing rs with
  | nil => rfl
  | cons x nb ih =>
    cases rs with
    | nil => simp at hl
    | cons r rs =>
      have h2 := List.nodup_cons.mp hn
      have ih' := ih h2.2 (rs := rs) (by simpa using hl)
      rw [List.zip_cons_cons]
      by_cases e : x = b
      · subst e
        have ix : (x :: nb).idxOf x = 0 := List.idxOf_cons_self
        rw [if_neg (fun z => h2.1 z.1)] at ih'
        rw [ix]
        by_cases hr : 0 < r
        · rw [List.filter_cons_of_pos (by simpa using hr), List.map_cons, show ∀ l : List (Int × Wd), ((x, Wd.pour r) :: l) = [(x, Wd.pour r)] ++ l from fun _ => rfl, outTo_app, outTo_one, if_pos rfl, ih', if_pos ⟨List.mem_cons_self, hr⟩]
          rfl
        · rw [List.filter_cons_of_neg (by simpa using hr), ih', if_neg (fun z => hr z.2)]
      · have ix : (x :: nb).idxOf b = nb.idxOf b + 1 := by rw [List.idxOf_cons, beq_false_of_ne e]; rfl
        have iff : (b ∈ x :: nb ∧ 0 < gi (r :: rs) (nb.idxOf b + 1)) ↔ (b ∈ nb ∧ 0 < gi rs (nb.idxOf b)) := by
          rw [List.mem_cons]
          constructor
          · rintro ⟨z | z, h⟩
            · exact absurd z.symm e
            · exact ⟨z, h⟩
          · rintro ⟨z, h⟩
            exact ⟨.inr z, h⟩
        rw [ix]
        have e2 : gi (r :: rs) (nb.idxOf b + 1) = gi rs (nb.idxOf b) := rfl
        by_cases hr : 0 < r
        · rw [List.filter_cons_of_pos (by simpa using hr), List.map_cons, show ∀ l : List (Int × Wd), ((x, Wd.pour r) :: l) = [(x, Wd.pour r)] ++ l from fun _ => rfl, outTo_app, outTo_one, if_neg e, ih', List.nil_append]
          by_cases y : b ∈ nb ∧ 0 < gi rs (nb.idxOf b)
          · rw [if_pos y, if_pos (iff.mpr y), e2]
          · rw [if_neg y, if_neg (fun z => y (iff.mp z))]
        · rw [List.filter_cons_of_neg (by simpa using hr), ih']
          by_cases y : b ∈ nb ∧ 0 < gi rs (nb.idxOf b)
          · rw [if_pos y, if_pos (iff.mpr y), e2]
          · rw [if_neg y, if_neg (fun z => y (iff.mp z))]
theorem start_ok {e : Ev} {s : St} (hs : SOk e s) : SOk e (startM e s).1 := ⟨hs.lo, hs.li, by show (List.zipWith _ s.str (rooms e s)).length = _; rw [List.length_zipWith, hs.rl, hs.l1, Nat.min_self], hs.l2, hs.l3, hs.pos⟩
theorem gi_zip {as bs : List Int} {i : Nat} (h1 : i < as.length) (h2 : i < bs.length) : gi (List.zipWith (fun a b => a + b) as bs) i = gi as i + gi bs i := by
  refine gi_of ?_
  rw [List.getElem?_zipWith, gi_get h1, gi_get h2]
theorem GI.out_gi (hs : SOk (evOf L a) s) {b : Int} (hb : b ∈ nbL L a) : gi (rooms (evOf L a) s) ((nbL L a).idxOf b) = capOf L a b - gi s.str ((nbL L a).idxOf b) := by
  have hi := List.idxOf_lt_length_iff.mpr hb
  rw [rooms_gi hs hi]
  have : gi (evOf L a).out ((nbL L a).idxOf b) = capOf L a b := by
    refine gi_of ?_
    show ((nbL L a).map fun b => capOf L a b)[_]? = _
    rw [List.getElem?_map, List.getElem?_eq_getElem hi, List.getElem_idxOf]
    rfl
  rw [this]
theorem GI.start (R : Right m L sp mo) (g : GI m L sp mo S W) (h0 : 0 ≤ sp) (h1 : sp < m) (hup : (S sp).up = false) : GI m L sp mo (setS S sp (startM (evOf L sp) (S sp)).1) (addW W sp (startM (evOf L sp) (S sp)).2) := by
  have hs := g.sok sp h0 h1
  have hW := g.rest hup
  have o : ∀ b, addW W sp (startM (evOf L sp) (S sp)).2 sp b = if b ∈ nbL L sp ∧ 0 < gi (rooms (evOf L sp) (S sp)) ((nbL L sp).idxOf b) then [Wd.pour (gi (rooms (evOf L sp) (S sp)) ((nbL L sp).idxOf b))] else [] := fun b => by
    unfold addW
    rw [if_pos rfl, hW, List.nil_append]
    exact outTo_pours (nb_nodup R sp) hs.rl b
  have oo : ∀ a b, a ≠ sp → addW W sp (startM (evOf L sp) (S sp)).2 a b = [] := fun a b z => by
    unfold addW
    rw [if_neg z, hW]
  have hok := start_ok hs
  refine ⟨fun x x0 x1 => ?_, g.prs R (fun b hb => ?_) (fun a b na nb => by rw [oo a b na, hW]), fun a b hab => ?_, fun z => ?_, fun a b u hu => ?_, fun b => ?_, fun z => ?_⟩
  · by_cases e : x = sp
    · rw [e, setS_same]
      exact hok
    · rw [setS_ne e]
      exact g.sok x x0 x1
  · have nab := (nb_in R hb).2.2.2.2
    have hp := g.pr sp b hb
    rw [hW, hW] at hp
    have hi := List.idxOf_lt_length_iff.mpr hb
    have hg := GI.out_gi hs hb
    rw [o b, oo b sp nab]
    show Pr _ _ (gi (List.zipWith _ (S sp).str (rooms (evOf L sp) (S sp))) _) _ (gi (S sp).snt _) _ _ _
    rw [gi_zip (by rw [hs.l1]; exact hi) (by rw [hs.rl]; exact hi), hg]
    have hc : fl L S sp b ≤ capOf L sp b := hp.d1.cap
    have ef : fl L S sp b = gi (S sp).str ((nbL L sp).idxOf b) := rfl
    rw [ef] at hp hc
    have es : sn L S sp b = gi (S sp).snt ((nbL L sp).idxOf b) := rfl
    rw [es] at hp
    rw [show gi (S sp).str ((nbL L sp).idxOf b) + (capOf L sp b - gi (S sp).str ((nbL L sp).idxOf b)) = capOf L sp b by omega]
    by_cases y : 0 < capOf L sp b - gi (S sp).str ((nbL L sp).idxOf b)
    · rw [if_pos ⟨hb, y⟩]
      exact hp.start y
    · rw [if_neg (fun z => y z.2)]
      have : gi (S sp).str ((nbL L sp).idxOf b) = capOf L sp b := by omega
      rw [this] at hp
      exact hp
  · by_cases e : a = sp
    · subst e
      rw [o b, if_neg (fun z => hab z.1)]
    · exact oo a b e
  · rw [setS_same] at z
    cases z
  · by_cases e : a = sp
    · subst e
      refine ⟨rfl, ?_⟩
      rw [o b] at hu
      split at hu
      · rename_i y
        have nab := (nb_in R y.1).2.2.2.2
        rw [setS_ne nab]
        refine g.wake hup b y.1 ?_
        have := y.2
        rw [GI.out_gi hs y.1] at this
        exact this
      · cases hu
    · rw [oo a b e] at hu
      cases hu
  · rw [o b]
    split
    · exact Nat.le_refl _
    · exact Nat.zero_le _
  · rw [setS_same] at z
    cases z
theorem HB.start (hb : HB k m S W) : HB k m (setS S sp (startM (evOf L sp) (S sp)).1) (addW W sp (startM (evOf L sp) (S sp)).2) := by
  refine ⟨fun x x0 x1 => ?_, fun x x0 x1 y hy => ?_, fun a b w hw => ?_⟩
  · by_cases e : x = sp
    · subst e
      rw [setS_same]
      exact hb.ht x x0 x1
    · rw [setS_ne e]
      exact hb.ht x x0 x1
  · by_cases e : x = sp
    · subst e
      rw [setS_same] at hy
      exact hb.bel x x0 x1 y hy
    · rw [setS_ne e] at hy
      exact hb.bel x x0 x1 y hy
  · unfold addW at hw
    split at hw
    · rcases List.mem_append.mp hw with z | z
      · exact hb.wd a b w z
      · obtain ⟨x, _, e⟩ := List.mem_map.mp (mem_outTo z)
        cases e
        trivial
    · exact hb.wd a b w hw
/-! ### the first glass -/
def zs (L : List Tie) (h : Int) : List Int := List.replicate (nbL L h).length 0
def begM (m : Int) (L : List Tie) (sp h : Int) : St := if h = sp then ⟨false, m, 0, zs L h, zs L h, zs L h⟩ else ⟨!(decide (sp ∈ nbL L h ∧ 0 < capOf L sp h)), 0, 0, zs L h, (nbL L h).map (fun o => if o = sp then m else 0), zs L h⟩
theorem begM_str {h : Int} : (begM m L sp h).str = zs L h := by
  unfold begM
  split <;> rfl
theorem begM_snt {h : Int} : (begM m L sp h).snt = zs L h := by
  unfold begM
  split <;> rfl
theorem gi_zs {h : Int} {i : Nat} : gi (zs L h) i = 0 := by
  unfold gi zs
  rw [List.getD_eq_getElem?_getD, List.getElem?_replicate]
  split <;> rfl
theorem GI.first (R : Right m L sp mo) : GI m L sp mo (begM m L sp) (fun _ _ => []) := by
  refine ⟨fun h h0 h1 => ?_, fun a b hb => ?_, fun _ _ _ => rfl, fun _ _ _ => rfl, fun a b u hu => (by cases hu), fun b => Nat.zero_le _, fun z b hb hr => ?_⟩
  · refine ⟨?_, ?_, ?_, ?_, ?_, ?_⟩
    · exact List.length_map ..
    · exact List.length_map ..
    · rw [begM_str]
      exact List.length_replicate
    · unfold begM
      split
      · exact List.length_replicate
      · exact List.length_map ..
    · rw [begM_snt]
      exact List.length_replicate
    · rw [begM_snt]
      intro u hu
      rw [(List.mem_replicate.mp hu).2]
      exact Int.le_refl _
  · have z : ∀ a b, fl L (begM m L sp) a b = 0 := fun a b => by unfold fl; rw [begM_str, gi_zs]
    have z2 : ∀ a b, sn L (begM m L sp) a b = 0 := fun a b => by unfold sn; rw [begM_snt, gi_zs]
    rw [z, z, z2, z2]
    exact Pr.first (cap_in R a b).1 (cap_in R b a).1 rfl
  · have nab := (nb_in R hb).2.2.2.2
    have e : fl L (begM m L sp) sp b = 0 := by unfold fl; rw [begM_str, gi_zs]
    rw [e] at hr
    unfold begM
    rw [if_neg nab]
    show (!(decide (sp ∈ nbL L b ∧ 0 < capOf L sp b))) = false
    rw [decide_eq_true ⟨nb_symm.mp hb, by omega⟩]
    rfl
theorem HB.first (h0 : 0 ≤ m) : HB m m (begM m L sp) (fun _ _ => []) := by
  refine ⟨fun h x0 x1 => ?_, fun h x0 x1 x hx => ?_, fun a b w hw => by cases hw⟩
  · unfold begM
    split
    · exact ⟨h0, Int.le_refl _⟩
    · exact ⟨Int.le_refl _, h0⟩
  · unfold begM at hx
    split at hx
    · rw [(List.mem_replicate.mp hx).2]
      exact ⟨Int.le_refl _, h0⟩
    · obtain ⟨o, _, rfl⟩ := List.mem_map.mp hx
      split
      · exact ⟨h0, Int.le_refl _⟩
      · exact ⟨Int.le_refl _, h0⟩
end
end Mw

/-! G10 -/
namespace Mw
open PySem L2
def poursM (nb rs : List Int) : List (Int × Wd) := ((nb.zip rs).filter fun x => decide (0 < x.2)).map fun x => (x.1, .pour x.2)
def spStarted (C CH CS : Addr) : Sp := fun vs H Q E => ∃ (p a : Addr) (m : Int) (L : List Tie) (sp mo : Int) (dh : PyData) (xh vst : V), vs = [.ref a, xh, vst] ∧ WbAt C p H a m L sp mo ∧ Tp C p H dh xh ∧ (isNb m dh = false → E (.ref CH) none H) ∧
  ∀ h, dh = .int h → isNb m dh = true → ∃ s : St, Pl H s.d vst ∧ SOk (evOf L h) s ∧ (h ≠ sp ∨ s.up = true → E (.ref CS) none H) ∧ (h = sp → s.up = false → ∀ t H', Same H H' → Pl H' (heardD (startM (evOf L h) s)) t → Q t H')
theorem pours_take {nb rs : List Int} {i : Nat} {b r : Int} (h1 : nb[i]? = some b) (h2 : rs[i]? = some r) : poursM (nb.take (i + 1)) (rs.take (i + 1)) = poursM (nb.take i) (rs.take i) ++ (if 0 < r then [(b, .pour r)] else []) := by
  unfold poursM
  have hl : (nb.take i).length = (rs.take i).length := by
    have := (List.getElem?_eq_some_iff.mp h1).1
    have := (List.getElem?_eq_some_iff.mp h2).1
    rw [List.length_take, List.length_take]
    omega
  rw [take_snoc h1, take_snoc h2, List.zip_append hl, List.filter_append, List.map_append]
  congr 1
  by_cases c : 0 < r
  · simp [c]
  · simp [c]
section
variable {P : Program} {w : World} {K : PySem.W.Frag} {mg : Str → Option Value} {base : Heap}
local macro_rules | `(tactic| walk_at "rd") => `(tactic| (repeat (first
  | ((with_reducible refine' rd_var ?h0 ?_); (case h0 => rfl))
  | with_reducible refine rd_c ?_
  | with_reducible refine rd_op ?_
  | with_reducible refine rd_nil ?_
  | with_reducible refine rd_cons ?_
  | with_reducible refine rd_tup ?_
  | with_reducible refine rd_lst ?_
  | with_reducible refine rd_ifs ?_
  | with_reducible refine rd_seq ?_
  | with_reducible refine rd_next ?_
  | with_reducible refine rd_ret ?_
  | with_reducible refine rd_asg ?_
  | ((with_reducible refine' rd_gset ?hs ?_); (case hs => ((simp only [L2.start, List.map_cons, List.map_nil, List.length_cons, List.length_nil, List.cons_append, List.nil_append, List.set_cons_zero, List.set_cons_succ, Nat.reduceAdd, Nat.reduceSub, Nat.zero_add, List.reduceReplicate]); rfl)))
  | with_reducible refine rd_drop ?_
  | with_reducible refine rd_test ?_
  | with_reducible refine rd_B ?_
  | with_reducible refine rd_bl ?_
  | with_reducible refine rd_blP ?_
  | with_reducible refine rd_andV ?_
  | with_reducible refine rd_orV ?_
  | with_reducible refine rd_notV ?_
  | with_reducible refine rd_and ?_
  | with_reducible refine rd_or ?_
  | with_reducible refine rd_not ?_
  | with_reducible refine rd_chain ?_
  | with_reducible refine rd_dput ?_
  | with_reducible refine rd_dget ?_
  | with_reducible refine rd_cb ?_
  | with_reducible refine rd_call ?_
  | with_reducible refine rd_un ?_
  | with_reducible refine rd_sl ?_
  | with_reducible refine rd_nopart ?_
  | with_reducible refine rd_part ?_
  | with_reducible refine rd_intP ?_
  | with_reducible refine rd_rU ?_
  | with_reducible refine rd_fld ?_
  | with_reducible refine rd_eqI ?_
  | with_reducible refine rd_neI ?_
  | with_reducible refine rd_mko ?_
  | with_reducible refine rd_bm ?_
  | with_reducible refine rd_gsub ?_
  | with_reducible refine rd_i0 ?_)))
theorem ok_started (T : Tx K mg) (B : Bk K mg T) : FnOk P w K mg base (L2.CX P w) 7 B.started.f B.started.fd ["web", "house", "state"] (spStarted T.c_Web T.c_NoHouse T.c_NotSpring) := by
  have G_check_house := ok_check_house (P := P) (w := w) (base := base) T B
  have G_rooms := ok_rooms (P := P) (w := w) (base := base) T B
  have G_neighbours := ok_neighbours (P := P) (w := w) (base := base) T B
  have G_NotSpring_init := ok_spring_init (P := P) (w := w) (base := base) T B
  refine B.started.F.okX sc_started (fun vs H Q E h => ?_) (fun cdv A outer s H vs Q E hr h => ?_)
  · obtain ⟨p, a, m, L, sp, mo, dh, xh, vst, rfl, _⟩ := h
    rfl
  · obtain ⟨p, a, m, L, sp, mo, dh, xh, vst, rfl, hw, hdh, e1, q⟩ := h
    refine ⟨_, (pss_cons (ps_expr (pe_call G_check_house (hr.mono (by decide)) rfl B.check_house.m B.check_house.F.kp B.check_house.b .nil (passes_call (takes_of rfl rfl rfl rfl) (fun _ _ _ _ h => h)) (pa_cons (pv 0) (pa_cons (pv 1) pa_nil))))
      (pss_cons (ps_if (PW.pt (pw_or (pt_cmpR op_ne (pv 1) (pe_fld (pv 0) rfl) (nomark _)) (pw_or1 (pt_cmpR op_ne (pe_ix ix_tup (pv 2) pe_int (fun _ _ => rfl)) pe_str (nomark _))))) (pss_one (ps_raise rfl (takes_of rfl rfl rfl rfl) (pmk_pass T.x_NotSpring B.NotSpring_init.a B.NotSpring_init.t G_NotSpring_init (hr.mono (by decide)) B.NotSpring_init.b pass0 rfl T.g_NotSpring))) pss_nil)
      (pss_cons (ps_set (i := 3) sc_started.nd rfl (Or.inl rfl) (pe_call G_rooms (hr.mono (by decide)) rfl B.rooms.m B.rooms.F.kp B.rooms.b .nil pass0 (pa_cons (pv 0) (pa_cons (pv 1) (pa_cons (pv 2) pa_nil)))))
      (pss_cons (ps_setLc (i := 4) (own := [("other", 12), ("units", 13)]) (g := (gTup K 2 (gCons (gName 12) (gCons (gName 13) gNil)))) rfl sc_started.nd rfl rfl (sw_true rfl rfl rfl (by decide +kernel)) (pi_zipTL (by rfl) T.b_zip (pa_cons (pe_call G_neighbours (hr.mono (by decide)) rfl B.neighbours.m B.neighbours.F.kp B.neighbours.b .nil (passes_call (takes_of rfl rfl rfl rfl) (fun _ _ _ _ h => h)) (pa_cons (pv 0) (pa_cons (pv 1) pa_nil))) (pa_cons (pv 3) pa_nil))) (blkOk_by (own := [("other", 12), ("units", 13)]) (N := ["web", "house", "state", "rooms", "pours", "_", "height", "held", "streams", "beliefs", "sent", "filled", "other", "units", "more"]) (sc := defScope s_started) (by decide +kernel)) (fun _ _ _ _ _ => (pg_tup (by rfl) (pgs_cons (pg_name (i := 12) sc_started.nd rfl (Or.inl rfl)) (pgs_cons (pg_name (i := 13) sc_started.nd rfl (Or.inl rfl)) pgs_nil)))) (fun _ _ _ _ _ => (pts_one (pt_cmpR op_gt (pv 13) pe_int (nomark _)))) (fun _ _ _ _ _ => (pe_tup (pa_cons (pv 12) (pa_cons (pe_tup (pa_cons pe_str (pa_cons (pv 13) pa_nil))) pa_nil)))))
      (pss_cons (ps_asg (pv 2) (pg_tup (by rfl) (pgs_cons (pg_name (i := 5) sc_started.nd rfl (Or.inl rfl)) (pgs_cons (pg_name (i := 6) sc_started.nd rfl (Or.inl rfl)) (pgs_cons (pg_name (i := 7) sc_started.nd rfl (Or.inl rfl)) (pgs_cons (pg_name (i := 8) sc_started.nd rfl (Or.inl rfl)) (pgs_cons (pg_name (i := 9) sc_started.nd rfl (Or.inl rfl)) (pgs_cons (pg_name (i := 10) sc_started.nd rfl (Or.inl rfl)) pgs_nil))))))))
      (pss_cons (ps_set (i := 11) sc_started.nd rfl (Or.inl rfl) (pe_callTy call_tuple_of (by rfl) T.b_tuple (by decide +kernel) (pa_cons (pe_lc (own := [("units", 13), ("more", 14)]) (g := (gTup K 2 (gCons (gName 13) (gCons (gName 14) gNil)))) rfl sc_started.nd (pi_zipTL (by rfl) T.b_zip (pa_cons (pv 8) (pa_cons (pv 3) pa_nil))) (blkOk_by (own := [("units", 13), ("more", 14)]) (N := ["web", "house", "state", "rooms", "pours", "_", "height", "held", "streams", "beliefs", "sent", "filled", "other", "units", "more"]) (sc := defScope s_started) (by decide +kernel)) (fun _ _ _ _ _ => (pg_tup (by rfl) (pgs_cons (pg_name (i := 13) sc_started.nd rfl (Or.inl rfl)) (pgs_cons (pg_name (i := 14) sc_started.nd rfl (Or.inl rfl)) pgs_nil)))) (fun _ _ _ _ _ => pts_nil) (fun _ _ _ _ _ => (pe_op op_add (pv 13) (pv 14)))) pa_nil)))
      (pss_one (ps_ret (pe_tup (pa_cons (pe_tup (pa_cons pe_str (pa_cons (pv 6) (pa_cons (pe_op op_sub (pv 7) (pe_callB (cr_sum rfl) (by rfl) T.b_sum (by decide +kernel) (pa_cons (pv 3) pa_nil))) (pa_cons (pv 11) (pa_cons (pv 9) (pa_cons (pv 10) pa_nil))))))) (pa_cons (pe_callTy call_tuple_of (by rfl) T.b_tuple (by decide +kernel) (pa_cons (pv 4) pa_nil)) pa_nil))))))))))), ?_⟩
    walk_at "rd"
    refine ⟨p, a, m, L, sp, mo, dh, xh, rfl, hw.1, hdh, fun b1 => ?_, e1⟩
    obtain ⟨h, rfl, h0, h1⟩ := isNb_form b1
    cases tp_int' hdh
    obtain ⟨st, hst, hs, q0, q1⟩ := q h rfl b1
    clear e1 q
    obtain ⟨⟨dx, v2, v5, v6, hwa, t2, hwy, hlt⟩, R⟩ := id hw
    obtain ⟨sa, c1, c2, c3, rfl, ha, g1, g2, g3⟩ := pl_st' hst
    walk_at "rd"
    refine ⟨a, T.c_Web, dx, _, _, rfl, hwa.2, T.W.cl, T.na_spring, wf_spring _ _ _ _ _ _, ?_⟩
    walk_at "rd"
    by_cases eh : h = sp
    · refine rd_no (by rw [decide_eq_true eh]; rfl) ?_
      walk_at "rd"
      refine rd_ixT (v := .str (stgS st.up)) ha rfl ?_
      walk_at "rd"
      refine rd_ne rfl ?_
      rw [stg_asleep]
      walk_at "rd"
      cases eu : st.up with
      | true =>
        refine rd_yes rfl ?_
        walk_at "rd"
        intro e he
        exact ⟨⟨e, rfl, rfl, rfl⟩, q0 (.inr eu)⟩
      | false =>
        refine rd_no rfl ?_
        have q2 := q1 eh eu
        clear q0 q1
        walk_at "rd"
        refine ⟨p, a, m, L, sp, mo, h, st, _, rfl, hw, h0, h1, hst, hs, fun r1 H1 s1 nr1 hr1 => ?_⟩
        have hrl : (rooms (evOf L h) st).length = (nbL L h).length := hs.rl
        have hnb := nb_len R h
        unfold startM at q2
        generalize hrs : rooms (evOf L h) st = rs at hr1 hrl q2
        walk_at "rd"
        refine rd_izipTL ?_
        walk_at "rd"
        refine nb_good (hw.s s1) h0 h1 fun r2 H2 hr2 s2 hn2 => ?_
        have s12 := s1.trans s2
        walk_at "rd"
        refine ⟨r2, r1, _, _, rfl, hn2.sq, SqL.of (s2 _ _ hr1), fun D hD => lc_tz (K := K) (a := r2) (b := r1) (xs := (nbL L h).map V.int) (ys := rs.map V.int) (by rw [List.length_map, List.length_map, hrl])
          (fun i H3 => Same H2 H3 ∧ ∃ xs, H3 D = some (.lst xs) ∧ PlAll H3 ((poursM ((nbL L h).take i) (rs.take i)).map ndD) xs) ⟨same_new hD, [], upd_same, plAll_nil⟩ (fun i H3 hh => ⟨(hn2.s hh.1).sq, SqL.of (hh.1 _ _ (s2 _ _ hr1))⟩) ?_ ?_⟩
        · rintro i y1 y2 t H3 hx hy ⟨hs3, xs, hacc, hxs⟩ ht
          obtain ⟨b, hb, rfl⟩ := mapint_get hx
          obtain ⟨r, hr, rfl⟩ := mapint_get hy
          have hi : i < (nbL L h).length := (List.getElem?_eq_some_iff.mp hb).1
          have s4 := same_new (o := .tup [V.int b, V.int r]) ht
          have hDt : D ≠ t := ne_of_none hacc ht
          have lxs := hxs.len
          have lp : (poursM ((nbL L h).take i) (rs.take i)).length ≤ 10 := by
            unfold poursM
            rw [List.length_map]
            have := List.length_filter_le (fun x : Int × Int => decide (0 < x.2)) (((nbL L h).take i).zip (rs.take i))
            rw [List.length_zip, List.length_take, List.length_take] at this
            omega
          rw [List.length_map] at lxs
          refine ⟨t, _, rfl, SqT.of upd_same, rfl, _, _, rfl, _, _, rfl, rfl, ?_⟩
          refine ⟨rfl, ?_⟩
          walk_at "rd"
          refine rd_ite (fun e2 => ?_) (fun e2 => ?_)
          · have e2' : 0 < r := by simpa using e2
            walk_at "rd"
            refine rd_disp rfl fun t5 n5 => ?_
            have s5 := s4.trans (same_new (o := .tup [.str "pour", .int r]) n5)
            walk_at "rd"
            refine rd_disp rfl fun t6 n6 => ?_
            have s6' := same_new (o := .tup [.int b, .ref t5]) n6
            have s6 := s5.trans s6'
            have kt : KT (upd (upd (upd H3 t (.tup [V.int b, V.int r])) t5 (.tup [.str "pour", .int r])) t6 (.tup [.int b, .ref t5])) (upd (upd (upd (upd H3 t (.tup [V.int b, V.int r])) t5 (.tup [.str "pour", .int r])) t6 (.tup [.int b, .ref t5])) D (.lst (xs ++ [.ref t6]))) := KT.mut (s6 _ _ hacc) (by intro zs z; cases z)
            refine ⟨xs, s6 _ _ hacc, small' (by omega), fun z o ez => (upd_ne (ne_of_none ez hD)).trans (s6 _ _ (hs3 z o ez)), xs ++ [.ref t6], upd_same, ?_⟩
            rw [pours_take hb hr, if_pos e2', List.map_append]
            refine ((hxs.s s6).t kt).append (plAll_cons ?_ plAll_nil)
            exact (pl_nd (wd := .pour r) upd_same (pl_wd (wd := .pour r) (s6' _ _ upd_same))).t kt
          · have e2' : ¬ 0 < r := by simpa using e2
            refine ⟨fun z o ez => s4 _ _ (hs3 z o ez), xs, s4 _ _ hacc, ?_⟩
            rw [pours_take hb hr, if_neg e2', List.append_nil]
            exact hxs.s s4
        · rintro H3 ⟨hs3, xs, hacc, hxs⟩
          rw [List.length_map, List.take_length, hrl, List.take_length] at hxs
          have s13 := s12.trans hs3
          have hr3 := hs3 _ _ (s2 _ _ hr1)
          have lst : st.str.length = (nbL L h).length := hs.l1
          have lxs := hxs.len
          have lp : (poursM (nbL L h) rs).length ≤ 10 := by
            unfold poursM
            rw [List.length_map]
            have := List.length_filter_le (fun x : Int × Int => decide (0 < x.2)) ((nbL L h).zip rs)
            rw [List.length_zip] at this
            omega
          rw [List.length_map] at lxs
          walk_at "rd"
          refine ⟨sa, _, rfl, SqT.of (s13 _ _ ha), rfl, _, _, rfl, _, _, rfl, _, _, rfl, _, _, rfl, _, _, rfl, _, _, rfl, rfl, ?_⟩
          walk_at "rd"
          refine rd_izipTL ?_
          walk_at "rd"
          have hg1 := s13 _ _ g1
          refine ⟨c1, r1, _, _, rfl, SqT.of hg1, SqL.of hr3, fun D2 hD2 => lc_tz (K := K) (a := c1) (b := r1) (xs := st.str.map V.int) (ys := rs.map V.int) (by rw [List.length_map, List.length_map, hrl, lst])
            (fun i H4 => Same H3 H4 ∧ H4 D2 = some (.lst (((List.zipWith (fun a b => a + b) st.str rs).take i).map V.int))) ⟨same_new hD2, upd_same⟩ (fun i H4 hh => ⟨SqT.of (hh.1 _ _ hg1), SqL.of (hh.1 _ _ hr3)⟩) ?_ ?_⟩
          · rintro i y1 y2 t H4 hx hy ⟨hs4, hacc4⟩ ht
            obtain ⟨b, hb, rfl⟩ := mapint_get hx
            obtain ⟨r, hr, rfl⟩ := mapint_get hy
            have hi : i < st.str.length := (List.getElem?_eq_some_iff.mp hb).1
            have s5 := hs4.trans (same_new (o := .tup [V.int b, V.int r]) ht)
            have hDt : D2 ≠ t := ne_of_none hacc4 ht
            refine ⟨t, _, rfl, SqT.of upd_same, rfl, _, _, rfl, _, _, rfl, rfl, ?_⟩
            refine ⟨rfl, ?_⟩
            refine rd_tyes ?_
            refine rd_yes rfl ?_
            walk_at "rd"
            have ez : (List.zipWith (fun a b => a + b) st.str rs)[i]? = some (b + r) := by
              rw [List.getElem?_zipWith, hb, hr]
            refine ⟨_, (upd_ne hDt).trans hacc4, small' (by rw [List.length_map, List.length_take]; omega), fun z o ez => (upd_ne (ne_of_none ez hD2)).trans (s5 z o ez), ?_⟩
            rw [upd_same, take_snoc ez, List.map_append]
            rfl
          · rintro H4 ⟨hs4, hacc4⟩
            rw [List.length_map, show rs.length = (List.zipWith (fun a b => a + b) st.str rs).length by rw [List.length_zipWith]; omega, List.take_length] at hacc4
            have s14 := s13.trans hs4
            walk_at "rd"
            refine ⟨D2, _, rfl, .inl ⟨SqL.of hacc4, fun t5 n5 => ?_⟩⟩
            have s5 := same_new (o := .tup ((List.zipWith (fun a b => a + b) st.str rs).map V.int)) n5
            walk_at "rd"
            refine ⟨r1, rs, rfl, SqL.of (s5 _ _ (hs4 _ _ hr3)), ?_⟩
            walk_at "rd"
            refine rd_disp rfl fun t6 n6 => ?_
            have s6 := same_new (o := .tup [.str "awake", .int st.ht, .int (st.held - rs.sum), .ref t5, .ref c2, .ref c3]) n6
            walk_at "rd"
            refine ⟨D, xs, rfl, .inl ⟨SqL.of (s6 _ _ (s5 _ _ (hs4 _ _ hacc))), fun t7 n7 => ?_⟩⟩
            have s7 := same_new (o := .tup xs) n7
            walk_at "rd"
            refine rd_disp rfl fun t8 n8 => ?_
            have s8 := same_new (o := .tup [.ref t6, .ref t7]) n8
            have S5 := s14.trans s5
            have S6 := S5.trans s6
            refine q2 _ _ ((S6.trans s7).trans s8) (pl_pair upd_same ?_ (pl_tup (s8 _ _ upd_same) ((((((hxs.s hs4).s s5).s s6).s s7)).s s8)))
            exact ((pl_st (s := { st with up := true, held := st.held - rs.sum, str := List.zipWith (fun a b => a + b) st.str rs }) upd_same (pl_intsD (s6 _ _ upd_same)) (pl_intsD (S6 _ _ g2)) (pl_intsD (S6 _ _ g3))).s s7).s s8
    · refine rd_yes (by rw [decide_eq_false eh]; rfl) ?_
      refine rd_yes rfl ?_
      walk_at "rd"
      intro e he
      exact ⟨⟨e, rfl, rfl, rfl⟩, q0 (.inl eh)⟩
end
end Mw

/-! L1 -/
namespace Mw
open PySem L2
def HandAt (p l : Addr) (H : Hp) : Prop := ∃ (ns : List Int) (i : Nat) (c z t : Int), H p = some (.lst [.ref l, .int (i : Nat), .int c, .int z, .int t]) ∧ l ≠ p ∧ H l = some (.lst (ns.map V.int)) ∧ 0 ≤ c ∧ 0 ≤ z ∧ z < 2147483647
theorem HandAt.keep {p l : Addr} {H H' : Hp} (s : Same H H') (h : HandAt p l H) : HandAt p l H' := by
  obtain ⟨ns, i, c, z, t, h1, h2, h3, r⟩ := h
  exact ⟨ns, i, c, z, t, s _ _ h1, h2, s _ _ h3, r⟩
theorem HandAt.there {p l : Addr} {H : Hp} (h : HandAt p l H) : ∃ us, H p = some (.lst us) := by
  obtain ⟨ns, i, c, z, t, h1, _⟩ := h
  exact ⟨_, h1⟩
theorem HandAt.there2 {p l : Addr} {H : Hp} (h : HandAt p l H) : ∃ us, H l = some (.lst us) := by
  obtain ⟨ns, i, c, z, t, h1, h2, h3, _⟩ := h
  exact ⟨_, h3⟩
theorem HandAt.ne {p l0 q : Addr} {H : Hp} (h : HandAt p l0 H) (n : H q = none) : q ≠ p := by
  obtain ⟨u, hu⟩ := h.there
  exact (ne_of_none hu n).symm
theorem HandAt.put {p l0 l : Addr} {H : Hp} {o : HO} (h : HandAt p l0 H) (n1 : l ≠ p) (n2 : l ≠ l0) : HandAt p l0 (upd H l o) := by
  obtain ⟨ns, i, c, z, t, h1, h2, h3, r⟩ := h
  exact ⟨ns, i, c, z, t, (upd_ne n1.symm).trans h1, h2, (upd_ne n2.symm).trans h3, r⟩
theorem HandAt.kt {p l : Addr} {H H' : Hp} (h : HandAt p l H) (k : Keep p H H') : KT H H' := by
  obtain ⟨us, hu⟩ := h.there
  exact KT.keep k hu
def spHand (K : PySem.W.Frag) : Sp := fun vs H Q _ => ∃ (a : Addr) (ns : List Int), vs = [.ref a] ∧ SqL K H a (ns.map V.int) ∧ ∀ p l H', H p = none → H l = none → HandAt p l H' → Same H H' → Q (.ref p) H'
def spTake : Sp := fun vs H Q _ => ∃ (p l : Addr) (m : Int), vs = [.ref p, .int m] ∧ 1 ≤ m ∧ m < 1073741824 ∧ HandAt p l H ∧ ∀ r H', 0 ≤ r → r < m → HandAt p l H' → Keep p H H' → Q (.int r) H'
section
variable {P : Program} {w : World} {K : PySem.W.Frag} {mg : Str → Option Value} {base : Heap}
local macro_rules | `(tactic| walk_at "rd") => `(tactic| (repeat (first
  | ((with_reducible refine' rd_var ?h0 ?_); (case h0 => rfl))
  | with_reducible refine rd_c ?_
  | with_reducible refine rd_op ?_
  | with_reducible refine rd_nil ?_
  | with_reducible refine rd_cons ?_
  | with_reducible refine rd_tup ?_
  | with_reducible refine rd_lst ?_
  | with_reducible refine rd_ifs ?_
  | with_reducible refine rd_seq ?_
  | with_reducible refine rd_next ?_
  | with_reducible refine rd_ret ?_
  | with_reducible refine rd_asg ?_
  | ((with_reducible refine' rd_gset ?hs ?_); (case hs => ((simp only [L2.start, List.map_cons, List.map_nil, List.length_cons, List.length_nil, List.cons_append, List.nil_append, List.set_cons_zero, List.set_cons_succ, Nat.reduceAdd, Nat.reduceSub, Nat.zero_add, List.reduceReplicate]); rfl)))
  | with_reducible refine rd_drop ?_
  | with_reducible refine rd_test ?_
  | with_reducible refine rd_B ?_
  | with_reducible refine rd_bl ?_
  | with_reducible refine rd_blP ?_
  | with_reducible refine rd_andV ?_
  | with_reducible refine rd_orV ?_
  | with_reducible refine rd_notV ?_
  | with_reducible refine rd_and ?_
  | with_reducible refine rd_or ?_
  | with_reducible refine rd_not ?_
  | with_reducible refine rd_chain ?_
  | with_reducible refine rd_dput ?_
  | with_reducible refine rd_dget ?_
  | with_reducible refine rd_cb ?_
  | with_reducible refine rd_call ?_
  | with_reducible refine rd_un ?_
  | with_reducible refine rd_sl ?_
  | with_reducible refine rd_nopart ?_
  | with_reducible refine rd_part ?_
  | with_reducible refine rd_intP ?_
  | with_reducible refine rd_rU ?_
  | with_reducible refine rd_fld ?_
  | with_reducible refine rd_eqI ?_
  | with_reducible refine rd_neI ?_
  | with_reducible refine rd_mko ?_
  | with_reducible refine rd_bm ?_
  | with_reducible refine rd_gsub ?_
  | with_reducible refine rd_i0 ?_)))
theorem ok_law_draw (T : Tx K mg) (B : Bk K mg T) : FnOk P w K mg base CX0 1 B.law_draw.f B.law_draw.fd ["hand", "many"] spTake := by
  refine B.law_draw.F.ok sc_law_draw (fun vs H Q E h => ?_) (fun cdv A outer s H vs Q E hr h => ?_)
  · obtain ⟨p, l, m, rfl, _⟩ := h
    rfl
  · obtain ⟨p, l, m, rfl, h1, h2, ⟨ns, i, c, z, t, hp, hlp, hl, hc, hz0, hz1⟩, q⟩ := h
    refine ⟨_, (C8.pss_cut (ps_if (PW.pt (pw_and (pt_cmpR op_eq (pe_ix ix_list (pv 0) pe_int (fun _ _ => rfl)) pe_int (nomark _)) (pw_and1 (pt_cmpR op_lt (pe_ix ix_list (pv 0) pe_int (fun _ _ => rfl)) (pe_callB call_len_seq (by rfl) T.b_len (by decide +kernel) (pa_cons (pe_ix ix_list (pv 0) pe_int (fun _ _ => rfl)) pa_nil)) (nomark _))))) (pss_cons (ps_set (i := 2) sc_law_draw.nd rfl (Or.inl rfl) (pe_ix ix_list (pe_ix ix_list (pv 0) pe_int (fun _ _ => rfl)) (pe_ix ix_list (pv 0) pe_int (fun _ _ => rfl)) (fun _ _ => rfl)))
      (pss_cons (ps_asg (pe_op op_add (pe_ix ix_list (pv 0) pe_int (fun _ _ => rfl)) pe_int) (pg_sub (pv 0) pe_int set_list))
      (pss_cons (ps_asg (pe_op op_mod (pe_callTy call_int1 (by rfl) T.b_int (by decide +kernel) (pa_cons (pe_op op_add (pe_op op_add (pe_op op_mul (pe_ix ix_list (pv 0) pe_int (fun _ _ => rfl)) pe_int) (pe_op op_mul (pv 2) pe_int)) pe_int) pa_nil)) pe_int) (pg_sub (pv 0) pe_int set_list))
      (pss_one (ps_if (pt_cmpR op_ge (pv 2) (pe_op op_pow pe_int pe_int) (nomark _)) (pss_one (ps_asg (pv 2) (pg_sub (pv 0) pe_int set_list))) pss_nil))))) pss_nil)
      (C8.pss_cut (ps_if (pt_cmpR op_gt (pe_ix ix_list (pv 0) pe_int (fun _ _ => rfl)) pe_int (nomark _)) (pss_cons (ps_set (i := 3) sc_law_draw.nd rfl (Or.inl rfl) (pe_op op_modN (pe_callTy call_int1 (by rfl) T.b_int (by decide +kernel) (pa_cons (pe_ix ix_list (pv 0) pe_int (fun _ _ => rfl)) pa_nil)) (pv 1)))
      (pss_cons (ps_asg (pe_op op_fdivN (pe_ix ix_list (pv 0) pe_int (fun _ _ => rfl)) (pv 1)) (pg_sub (pv 0) pe_int set_list))
      (pss_one (ps_ret (pv 3))))) pss_nil)
      (pss_cons (ps_asg (pe_op op_add (pe_ix ix_list (pv 0) pe_int (fun _ _ => rfl)) pe_int) (pg_sub (pv 0) pe_int set_list))
      (pss_cons (ps_set (i := 4) sc_law_draw.nd rfl (Or.inl rfl) (pe_op op_mod (pe_callTy call_int1 (by rfl) T.b_int (by decide +kernel) (pa_cons (pe_op op_mul (pe_callTy call_int1 (by rfl) T.b_int (by decide +kernel) (pa_cons (pe_op op_add (pe_ix ix_list (pv 0) pe_int (fun _ _ => rfl)) (pe_op op_mul pe_int (pe_ix ix_list (pv 0) pe_int (fun _ _ => rfl)))) pa_nil)) pe_int) pa_nil)) pe_int))
      (pss_cons (ps_set (i := 4) sc_law_draw.nd rfl (Or.inl rfl) (pe_op op_mod (pe_callTy call_int1 (by rfl) T.b_int (by decide +kernel) (pa_cons (pe_op op_mul (pv 4) (pe_op op_add (pe_op op_fdiv (pv 4) pe_int) pe_int)) pa_nil)) pe_int))
      (pss_cons (ps_set (i := 4) sc_law_draw.nd rfl (Or.inl rfl) (pe_op op_mod (pe_callTy call_int1 (by rfl) T.b_int (by decide +kernel) (pa_cons (pe_op op_mul (pv 4) (pe_op op_add (pe_op op_fdiv (pv 4) pe_int) pe_int)) pa_nil)) pe_int))
      (pss_one (ps_ret (pe_op op_modN (pe_callTy call_int1 (by rfl) T.b_int (by decide +kernel) (pa_cons (pe_op op_fdiv (pv 4) pe_int) pa_nil)) (pv 1)))))))))), ?_⟩
    walk_at "rd"
    have nat1 : ∀ k : Nat, (k : Int) + 1 = ((k + 1 : Nat) : Int) := fun k => by omega
    -- behind the first if: the hand, whatever was taken
    refine ⟨fun σ1 H1 => ∃ (i1 : Nat) (c1 z1 : Int) (u : Option V), σ1 = [some (.ref p), some (.int m), u, none, none] ∧ H1 p = some (.lst [.ref l, .int (i1 : Nat), .int c1, .int z1, .int t]) ∧ H1 l = some (.lst (ns.map V.int)) ∧ 0 ≤ c1 ∧ 0 ≤ z1 ∧ z1 < 2147483647 ∧ Keep p H H1, ?_, ?_⟩
    · walk_at "rd"
      refine rd_ixL hp rfl ?_
      walk_at "rd"
      refine rd_ite (fun h3 => ?_) (fun h3 => ?_)
      · walk_at "rd"
        refine rd_ixL hp rfl ?_
        walk_at "rd"
        refine rd_ixL hp rfl ?_
        refine ⟨l, _, rfl, .inl (SqL.of hl), ?_⟩
        walk_at "rd"
        refine rd_ite (fun h4 => ?_) (fun h4 => ?_)
        · have hi : i < ns.length := by
            simp only [decide_eq_true_eq, List.length_map] at h4
            omega
          walk_at "rd"
          refine rd_ixL hp rfl ?_
          walk_at "rd"
          refine rd_ixL hp rfl ?_
          walk_at "rd"
          refine rd_ixL (v := .int ns[i]) hl (atI_nat (by simp [hi])) ?_
          walk_at "rd"
          refine rd_ixL hp rfl ?_
          walk_at "rd"
          refine rd_setL hp rfl ?_
          walk_at "rd"
          refine rd_ixL upd_same rfl ?_
          walk_at "rd"
          refine rd_iC (.inl ⟨by omega, by omega⟩) ?_
          walk_at "rd"
          refine rd_iC (.inr ⟨by decide, by decide⟩) ?_
          walk_at "rd"
          refine .inl ⟨_, rfl, ?_⟩
          walk_at "rd"
          refine rd_iC (show (0 : Int) < 2147483629 by decide) ?_
          walk_at "rd"
          refine rd_setL upd_same rfl ?_
          generalize hz : (z * 69621 + ns[i] * 16 + 11) % 2147483629 = z2
          have b1 : 0 ≤ z2 := hz ▸ Int.emod_nonneg _ (by decide)
          have b2 : z2 < 2147483629 := hz ▸ Int.emod_lt_of_pos _ (by decide)
          walk_at "rd"
          refine rd_iC ⟨by decide, by decide, by decide⟩ ?_
          walk_at "rd"
          have nl : ∀ o o' : HO, (upd (upd H p o) p o') l = some (.lst (ns.map V.int)) := fun o o' => by rw [upd_ne hlp, upd_ne hlp]; exact hl
          refine rd_ite (fun h5 => ?_) (fun h5 => ?_)
          · walk_at "rd"
            refine rd_setL upd_same rfl ?_
            refine ⟨i + 1, ns[i], z2, _, rfl, by rw [upd_same, ← nat1]; rfl, ?_, ?_, b1, by omega, ((Keep.mut.trans Keep.mut).trans Keep.mut)⟩
            · rw [upd_ne hlp]
              exact nl _ _
            · have : (10 : Int) ^ (18 : Int).toNat ≤ ns[i] := by simpa using h5
              have e : (10 : Int) ^ (18 : Int).toNat = 1000000000000000000 := by decide
              omega
          · refine ⟨i + 1, c, z2, _, rfl, by rw [upd_same, ← nat1]; rfl, nl _ _, hc, b1, by omega, (Keep.mut.trans Keep.mut)⟩
        · exact ⟨i, c, z, _, rfl, hp, hl, hc, hz0, hz1, Keep.refl⟩
      · exact ⟨i, c, z, _, rfl, hp, hl, hc, hz0, hz1, Keep.refl⟩
    · rintro σ1 H1 ⟨i1, c1, z1, u, rfl, hp1, hl1, hc1, hz1', hz1'', k1⟩
      refine ⟨fun σ2 H2 => σ2 = [some (.ref p), some (.int m), u, none, none] ∧ H2 = H1, ?_, ?_⟩
      · walk_at "rd"
        refine rd_ixL hp1 rfl ?_
        walk_at "rd"
        refine rd_ite (fun h3 => ?_) (fun h3 => ?_)
        · walk_at "rd"
          refine rd_ixL hp1 rfl ?_
          refine .inl ⟨_, rfl, ?_⟩
          walk_at "rd"
          refine rd_iC (show m ≠ 0 by omega) ?_
          walk_at "rd"
          refine rd_ixL hp1 rfl ?_
          walk_at "rd"
          refine rd_iC (show m ≠ 0 ∧ m.natAbs < 1073741824 by omega) ?_
          walk_at "rd"
          refine rd_setL hp1 rfl ?_
          walk_at "rd"
          refine q _ _ ?_ ?_ ⟨ns, i1, _, z1, _, upd_same, hlp, (upd_ne hlp).trans hl1, ?_, hz1', hz1''⟩ (k1.trans Keep.mut)
          · rw [Int.fmod_eq_emod_of_nonneg _ (by omega)]
            exact Int.emod_nonneg _ (by omega)
          · rw [Int.fmod_eq_emod_of_nonneg _ (by omega)]
            exact Int.emod_lt_of_pos _ (by omega)
          · rw [Int.fdiv_eq_ediv_of_nonneg _ (by omega)]
            exact Int.ediv_nonneg hc1 (by omega)
        · exact ⟨rfl, rfl⟩
      · rintro σ2 H2 ⟨rfl, rfl⟩
        walk_at "rd"
        refine rd_ixL hp1 rfl ?_
        walk_at "rd"
        refine rd_setL hp1 rfl ?_
        walk_at "rd"
        refine rd_ixL upd_same rfl ?_
        walk_at "rd"
        refine rd_ixL upd_same rfl ?_
        walk_at "rd"
        refine rd_iC (.inl ⟨by omega, by omega⟩) ?_
        walk_at "rd"
        refine .inl ⟨_, rfl, ?_⟩
        walk_at "rd"
        refine rd_iC (.inr ⟨by decide, by decide⟩) ?_
        walk_at "rd"
        refine .inl ⟨_, rfl, ?_⟩
        walk_at "rd"
        refine rd_iC (show (0 : Int) < 2147483647 by decide) ?_
        generalize hz : ((z1 + 7919 * (t + 1)) * 48271) % 2147483647 = z2
        have b1 : 0 ≤ z2 := hz ▸ Int.emod_nonneg _ (by decide)
        have b2 : z2 < 2147483647 := hz ▸ Int.emod_lt_of_pos _ (by decide)
        walk_at "rd"
        refine rd_iC (show (0 : Int) < 1009 ∧ (1009 : Int) < 1073741824 by decide) ?_
        walk_at "rd"
        refine rd_iC (.inl ⟨by omega, by omega⟩) ?_
        walk_at "rd"
        refine .inl ⟨_, rfl, ?_⟩
        walk_at "rd"
        refine rd_iC (show (0 : Int) < 2147483647 by decide) ?_
        generalize hn : (z2 * (z2 / 1009 + 69621)) % 2147483647 = n1
        have b3 : 0 ≤ n1 := hn ▸ Int.emod_nonneg _ (by decide)
        have b4 : n1 < 2147483647 := hn ▸ Int.emod_lt_of_pos _ (by decide)
        walk_at "rd"
        refine rd_iC (show (0 : Int) < 2003 ∧ (2003 : Int) < 1073741824 by decide) ?_
        walk_at "rd"
        refine rd_iC (.inl ⟨by omega, by omega⟩) ?_
        walk_at "rd"
        refine .inl ⟨_, rfl, ?_⟩
        walk_at "rd"
        refine rd_iC (show (0 : Int) < 2147483399 by decide) ?_
        walk_at "rd"
        refine rd_iC (show (0 : Int) < 16 ∧ (16 : Int) < 1073741824 by decide) ?_
        refine .inl ⟨_, rfl, ?_⟩
        walk_at "rd"
        refine rd_iC (show m ≠ 0 by omega) ?_
        refine q _ _ ?_ ?_ ⟨ns, i1, c1, z1, _, upd_same, hlp, (upd_ne hlp).trans hl1, hc1, hz1', hz1''⟩ (k1.trans Keep.mut)
        · rw [Int.fmod_eq_emod_of_nonneg _ (by omega)]
          exact Int.emod_nonneg _ (by omega)
        · rw [Int.fmod_eq_emod_of_nonneg _ (by omega)]
          exact Int.emod_lt_of_pos _ (by omega)
theorem ok_law_lot (T : Tx K mg) (B : Bk K mg T) : FnOk P w K mg base CX0 2 B.law_lot.f B.law_lot.fd ["hand", "span"] (fun vs H Q _ => ∃ (p l : Addr) (m : Int), vs = [.ref p, .int m] ∧ 2 ≤ m ∧ m ≤ 1000000 ∧ HandAt p l H ∧ ∀ r H', 0 ≤ r → r < m → HandAt p l H' → Keep p H H' → Q (.int r) H') := by
  have G_law_draw := ok_law_draw (P := P) (w := w) (base := base) T B
  refine B.law_lot.F.ok sc_law_lot (fun vs H Q E h => ?_) (fun cdv A outer s H vs Q E hr h => ?_)
  · obtain ⟨p, l, m, rfl, _⟩ := h
    rfl
  · obtain ⟨p, l, m, rfl, h1, h2, hh, q⟩ := h
    refine ⟨_, (pss_one (ps_ret (pe_ix ix_list (pe_lst (pa_cons pe_int (pa_cons pe_int (pa_cons (pe_call G_law_draw (hr.mono (by decide)) rfl B.law_draw.m B.law_draw.F.kp B.law_draw.b .nil pass0 (pa_cons (pv 0) (pa_cons (pv 1) pa_nil))) (pa_cons (pe_call G_law_draw (hr.mono (by decide)) rfl B.law_draw.m B.law_draw.F.kp B.law_draw.b .nil pass0 (pa_cons (pv 0) (pa_cons (pv 1) pa_nil))) pa_nil))))) (pe_call G_law_draw (hr.mono (by decide)) rfl B.law_draw.m B.law_draw.F.kp B.law_draw.b .nil pass0 (pa_cons (pv 0) (pa_cons pe_int pa_nil))) (fun _ _ => rfl)))), ?_⟩
    walk_at "rd"
    refine ⟨p, l, m, rfl, by omega, by omega, hh, fun r1 H1 a0 a1 hh1 k1 => ?_⟩
    walk_at "rd"
    refine ⟨p, l, m, rfl, by omega, by omega, hh1, fun r2 H2 b0 b1 hh2 k2 => ?_⟩
    walk_at "rd"
    refine rd_disp rfl fun t nt => ?_
    have s1 := same_new (o := .lst [.int 0, .int 1, .int r1, .int r2]) nt
    walk_at "rd"
    refine ⟨p, l, 4, rfl, by omega, by omega, hh2.keep s1, fun r3 H3 c0 c1 hh3 k3 => ?_⟩
    have nk := hh2.ne nt
    have K3 := k1.trans (k2.trans ((Keep.same s1).trans k3))
    have ht := k3 _ _ nk upd_same
    have : r3 = 0 ∨ r3 = 1 ∨ r3 = 2 ∨ r3 = 3 := by omega
    rcases this with rfl | rfl | rfl | rfl
    · exact rd_ixL ht rfl (q _ _ (by omega) (by omega) hh3 K3)
    · exact rd_ixL ht rfl (q _ _ (by omega) (by omega) hh3 K3)
    · exact rd_ixL ht rfl (q _ _ a0 a1 hh3 K3)
    · exact rd_ixL ht rfl (q _ _ b0 b1 hh3 K3)
end
end Mw

/-! L2a -/
namespace Mw
open PySem L2
theorem cut_int (ns : List Int) (lo hi : Option Int) : ∃ ms : List Int, cutV (ns.map V.int) lo hi = ms.map V.int ∧ ms.length ≤ ns.length := by
  refine ⟨(ns.drop (HT.sIx ns.length 0 lo)).take (HT.sIx ns.length ns.length hi - HT.sIx ns.length 0 lo), ?_, ?_⟩
  · unfold cutV
    rw [List.length_map, List.map_take, List.map_drop]
  · rw [List.length_take, List.length_drop]
    omega
theorem cut_len63 (ns : List Int) : (cutV (ns.map V.int) none (some 63)).length ≤ 63 := by
  unfold cutV
  rw [List.length_take]
  have : HT.sIx (ns.map V.int).length (ns.map V.int).length (some 63) ≤ 63 := by
    show (if (63 : Int) < 0 then ((63 : Int) + ((ns.map V.int).length : Int)).toNat else min (63 : Int).toNat (ns.map V.int).length) ≤ 63
    rw [if_neg (by decide)]
    exact Nat.min_le_left _ _
  omega
section
variable {P : Program} {w : World} {K : PySem.W.Frag} {mg : Str → Option Value} {base : Heap}
local macro_rules | `(tactic| walk_at "rd") => `(tactic| (repeat (first
  | ((with_reducible refine' rd_var ?h0 ?_); (case h0 => rfl))
  | with_reducible refine rd_c ?_
  | with_reducible refine rd_op ?_
  | with_reducible refine rd_nil ?_
  | with_reducible refine rd_cons ?_
  | with_reducible refine rd_tup ?_
  | with_reducible refine rd_lst ?_
  | with_reducible refine rd_ifs ?_
  | with_reducible refine rd_seq ?_
  | with_reducible refine rd_next ?_
  | with_reducible refine rd_ret ?_
  | with_reducible refine rd_asg ?_
  | ((with_reducible refine' rd_gset ?hs ?_); (case hs => ((simp only [L2.start, List.map_cons, List.map_nil, List.length_cons, List.length_nil, List.cons_append, List.nil_append, List.set_cons_zero, List.set_cons_succ, Nat.reduceAdd, Nat.reduceSub, Nat.zero_add, List.reduceReplicate]); rfl)))
  | with_reducible refine rd_drop ?_
  | with_reducible refine rd_test ?_
  | with_reducible refine rd_B ?_
  | with_reducible refine rd_bl ?_
  | with_reducible refine rd_blP ?_
  | with_reducible refine rd_andV ?_
  | with_reducible refine rd_orV ?_
  | with_reducible refine rd_notV ?_
  | with_reducible refine rd_and ?_
  | with_reducible refine rd_or ?_
  | with_reducible refine rd_not ?_
  | with_reducible refine rd_chain ?_
  | with_reducible refine rd_dput ?_
  | with_reducible refine rd_dget ?_
  | with_reducible refine rd_cb ?_
  | with_reducible refine rd_call ?_
  | with_reducible refine rd_un ?_
  | with_reducible refine rd_sl ?_
  | with_reducible refine rd_nopart ?_
  | with_reducible refine rd_part ?_
  | with_reducible refine rd_intP ?_
  | with_reducible refine rd_rU ?_
  | with_reducible refine rd_fld ?_
  | with_reducible refine rd_eqI ?_
  | with_reducible refine rd_neI ?_
  | with_reducible refine rd_mko ?_
  | with_reducible refine rd_bm ?_
  | with_reducible refine rd_gsub ?_
  | with_reducible refine rd_i0 ?_)))
theorem ok_law_hand (T : Tx K mg) (B : Bk K mg T) : FnOk P w K mg base CX0 1 B.law_hand.f B.law_hand.fd ["script"] (spHand K) := by
  refine B.law_hand.F.ok sc_law_hand (fun vs H Q E h => ?_) (fun cdv A outer s H vs Q E hr h => ?_)
  · obtain ⟨a, ns, rfl, _⟩ := h
    rfl
  · obtain ⟨a, ns, rfl, ha, q⟩ := h
    refine ⟨_, (pss_one (ps_ret (pe_lst (pa_cons (pe_lc (own := [("cell", 1)]) (g := gName 1) rfl sc_law_hand.nd (pi_list (pe_slice sl_list (pv 0) po_none (po_some pe_int))) (blkOk_by (own := [("cell", 1)]) (N := ["script", "cell"]) (sc := defScope s_law_hand) (by decide +kernel)) (fun _ _ _ _ _ => pg_name (i := 1) sc_law_hand.nd rfl (Or.inl rfl)) (fun _ _ _ _ _ => pts_nil) (fun _ _ _ _ _ => (pe_callTy call_int1 (by rfl) T.b_int (by decide +kernel) (pa_cons (pv 1) pa_nil)))) (pa_cons pe_int (pa_cons pe_int (pa_cons (pe_op op_add pe_int (pe_callB call_len_seq (by rfl) T.b_len (by decide +kernel) (pa_cons (pe_slice sl_list (pv 0) po_none (po_some pe_int)) pa_nil))) (pa_cons pe_int pa_nil)))))))), ?_⟩
    walk_at "rd"
    show iList _ _ _ _ _
    refine rd_ilist ?_
    walk_at "rd"
    refine ⟨a, _, rfl, ha, fun b nb => ?_⟩
    obtain ⟨cs, ec, hcs⟩ := cut_int ns none (some 63)
    have l63 := cut_len63 ns
    rw [ec] at l63 ⊢
    rw [List.length_map] at l63
    have s1 := same_new (o := .lst (cs.map V.int)) nb
    refine ⟨b, rfl, ⟨_, SqL.of upd_same⟩, fun D hD => lc_list (K := K) (a := b) (xs := cs.map V.int) (fun i H2 => Same H H2 ∧ H2 b = some (.lst (cs.map V.int)) ∧ H2 D = some (.lst ((cs.take i).map V.int)))
      ⟨s1.trans (same_new hD), (upd_ne (ne_of_none upd_same hD)).trans upd_same, upd_same⟩ (fun i H2 _ hh => SqL.of hh.2.1) ?_ ?_⟩
    · rintro i y H2 hi ⟨hs2, hb2, hacc⟩
      obtain ⟨m, hm, rfl⟩ := mapint_get hi
      refine ⟨rfl, ?_⟩
      refine rd_tyes ?_
      refine rd_yes rfl ?_
      walk_at "rd"
      refine .inl ⟨_, rfl, ?_⟩
      have nD : H D = none := s1.free hD
      have nbD : b ≠ D := ne_of_none (upd_same (H := H) (a := b) (o := .lst (cs.map V.int))) hD
      refine ⟨_, hacc, small' (by rw [List.length_map, List.length_take]; omega), fun b o eb => (upd_ne (ne_of_none eb nD)).trans (hs2 b o eb), (upd_ne nbD).trans hb2, ?_⟩
      rw [upd_same, take_snoc hm, List.map_append]
      rfl
    · rintro H2 ⟨hs2, hb2, hacc⟩
      rw [List.length_map, List.take_length] at hacc
      walk_at "rd"
      refine ⟨a, _, rfl, Same.seq hs2 ha, fun c nc => ?_⟩
      rw [ec]
      have s3 := hs2.trans (same_new (o := .lst (cs.map V.int)) nc)
      refine ⟨c, _, rfl, .inl (SqL.of upd_same), ?_⟩
      walk_at "rd"
      refine rd_disp rfl fun p hp => ?_
      have nD : H D = none := s1.free hD
      have hDp : (upd H2 c (.lst (cs.map V.int))) D = some (.lst (cs.map V.int)) := (upd_ne (ne_of_none hacc nc)).trans hacc
      have n1 : D ≠ p := ne_of_none hDp hp
      rw [List.length_map]
      exact q p D _ (s3.free hp) nD ⟨cs, 0, 0, 1 + (cs.length : Int), 0, upd_same, n1, (upd_ne n1).trans hDp, Int.le_refl 0, by omega, by omega⟩ (s3.trans (same_new hp))
end
end Mw

/-! L3 -/
namespace Mw
open PySem L2
def planD (m : Int) (L : List Tie) (sp mo : Int) : PyData := .tuple [.int m, .tuple (L.map tieD), .int sp, .int mo]
theorem pl_plan {H : Hp} {m : Int} {L : List Tie} {sp mo : Int} {v : V} (h : Pl H (planD m L sp mo) v) : ∃ a c xs, v = .ref a ∧ H a = some (.tup [.int m, .ref c, .int sp, .int mo]) ∧ H c = some (.tup xs) ∧ PlAll H (L.map tieD) xs := by
  obtain ⟨a, xs, rfl, ha, hx⟩ := pl_tup' h
  obtain ⟨x1, r1, rfl, h1, hx⟩ := plAll_cons' hx
  obtain ⟨x2, r2, rfl, h2, hx⟩ := plAll_cons' hx
  obtain ⟨x3, r3, rfl, h3, hx⟩ := plAll_cons' hx
  obtain ⟨x4, r4, rfl, h4, hx⟩ := plAll_cons' hx
  cases plAll_nil' hx
  cases pl_int' h1
  cases pl_int' h3
  cases pl_int' h4
  obtain ⟨c, ys, rfl, hc, hy⟩ := pl_tup' h2
  exact ⟨a, c, ys, rfl, ha, hc, hy⟩
theorem pl_tie {H : Hp} {q : Tie} {v : V} (h : Pl H (tieD q) v) : ∃ a, v = .ref a ∧ H a = some (.tup [.int q.1, .int q.2.1, .int q.2.2.1, .int q.2.2.2]) := by
  obtain ⟨a, xs, rfl, ha, hx⟩ := pl_tup' h
  obtain ⟨x1, r1, rfl, h1, hx⟩ := plAll_cons' hx
  obtain ⟨x2, r2, rfl, h2, hx⟩ := plAll_cons' hx
  obtain ⟨x3, r3, rfl, h3, hx⟩ := plAll_cons' hx
  obtain ⟨x4, r4, rfl, h4, hx⟩ := plAll_cons' hx
  cases plAll_nil' hx
  cases pl_int' h1
  cases pl_int' h2
  cases pl_int' h3
  cases pl_int' h4
  exact ⟨a, rfl, ha⟩
theorem ties_at {H : Hp} {L : List Tie} {xs : List V} (h : PlAll H (L.map tieD) xs) {i : Nat} {y : V} (e : xs[i]? = some y) : ∃ q a, L[i]? = some q ∧ y = .ref a ∧ H a = some (.tup [.int q.1, .int q.2.1, .int q.2.2.1, .int q.2.2.2]) := by
  obtain ⟨d, ed, hd⟩ := h.get' e
  rw [List.getElem?_map] at ed
  cases eq : L[i]? with
  | none =>
    rw [eq] at ed
    cases ed
  | some q =>
    rw [eq] at ed
    obtain rfl : tieD q = d := Option.some.inj ed
    obtain ⟨a, ea, ha⟩ := pl_tie hd
    exact ⟨q, a, rfl, ea, ha⟩
theorem fm_take {α : Type} {L : List α} {f : α → Bool} {g : α → Int} {i : Nat} {q : α} (e : L[i]? = some q) : ((L.take (i + 1)).filter f).map g = ((L.take i).filter f).map g ++ (if f q = true then [g q] else []) := by
  rw [take_snoc e, List.filter_append, List.map_append]
  congr 1
  by_cases h : f q = true <;> simp [h]
def spLBeside : Sp := fun vs H Q _ => ∃ (m : Int) (L : List Tie) (sp mo h : Int) (v : V), vs = [v, .int h] ∧ Pl H (planD m L sp mo) v ∧ Right m L sp mo ∧ ∀ r H', Same H H' → H r = none → H' r = some (.lst ((nbL L h).map V.int)) → Q (.ref r) H'
def spLLets : Sp := fun vs H Q _ => ∃ (m : Int) (L : List Tie) (sp mo i j : Int) (v : V), vs = [v, .int i, .int j] ∧ Pl H (planD m L sp mo) v ∧ ∀ H', Same H H' → Q (.int (capOf L i j)) H'
def spLWith : Sp := fun vs H Q _ => ∃ (l : List Int) (i : Nat) (u : Int) (a : Addr), vs = [.ref a, .int (i : Int), .int u] ∧ H a = some (.tup (l.map V.int)) ∧ i < l.length ∧ l.length ≤ 100 ∧ ∀ r H', Same H H' → H' r = some (.tup ((l.set i u).map V.int)) → Q (.ref r) H'
theorem cap_cons {L : List Tie} {q : Tie} {i j : Int} : capOf (q :: L) i j = if (q.1 == i && q.2.1 == j) = true then q.2.2.1 else if (q.1 == j && q.2.1 == i) = true then q.2.2.2 else capOf L i j := by
  unfold capOf letsOf
  rw [List.find?_cons]
  generalize e1 : (q.1 == i && q.2.1 == j) = b1
  generalize e2 : (q.1 == j && q.2.1 == i) = b2
  cases b1 with
  | true =>
    show (if (q.1 == i && q.2.1 == j) = true then q.2.2.1 else q.2.2.2) = _
    rw [if_pos e1]
    rfl
  | false =>
    cases b2 with
    | true =>
      show (if (q.1 == i && q.2.1 == j) = true then q.2.2.1 else q.2.2.2) = _
      rw [if_neg (by rw [e1]; exact Bool.false_ne_true)]
      rfl
    | false => rfl
theorem cap_drop {L : List Tie} {n : Nat} {q : Tie} (e : L[n]? = some q) {i j : Int} : capOf (L.drop n) i j = if (q.1 == i && q.2.1 == j) = true then q.2.2.1 else if (q.1 == j && q.2.1 == i) = true then q.2.2.2 else capOf (L.drop (n + 1)) i j := by
  have hl := (List.getElem?_eq_some_iff.mp e).1
  have e2 : L.drop n = q :: L.drop (n + 1) := by
    rw [List.drop_eq_getElem_cons hl, (List.getElem?_eq_some_iff.mp e).2]
  rw [e2, cap_cons]
section
variable {P : Program} {w : World} {K : PySem.W.Frag} {mg : Str → Option Value} {base : Heap}
local macro_rules | `(tactic| walk_at "rd") => `(tactic| (repeat (first
  | ((with_reducible refine' rd_var ?h0 ?_); (case h0 => rfl))
  | with_reducible refine rd_c ?_
  | with_reducible refine rd_op ?_
  | with_reducible refine rd_nil ?_
  | with_reducible refine rd_cons ?_
  | with_reducible refine rd_tup ?_
  | with_reducible refine rd_lst ?_
  | with_reducible refine rd_ifs ?_
  | with_reducible refine rd_seq ?_
  | with_reducible refine rd_next ?_
  | with_reducible refine rd_ret ?_
  | with_reducible refine rd_asg ?_
  | ((with_reducible refine' rd_gset ?hs ?_); (case hs => ((simp only [L2.start, List.map_cons, List.map_nil, List.length_cons, List.length_nil, List.cons_append, List.nil_append, List.set_cons_zero, List.set_cons_succ, Nat.reduceAdd, Nat.reduceSub, Nat.zero_add, List.reduceReplicate]); rfl)))
  | with_reducible refine rd_drop ?_
  | with_reducible refine rd_test ?_
  | with_reducible refine rd_B ?_
  | with_reducible refine rd_bl ?_
  | with_reducible refine rd_blP ?_
  | with_reducible refine rd_andV ?_
  | with_reducible refine rd_orV ?_
  | with_reducible refine rd_notV ?_
  | with_reducible refine rd_and ?_
  | with_reducible refine rd_or ?_
  | with_reducible refine rd_not ?_
  | with_reducible refine rd_chain ?_
  | with_reducible refine rd_dput ?_
  | with_reducible refine rd_dget ?_
  | with_reducible refine rd_cb ?_
  | with_reducible refine rd_call ?_
  | with_reducible refine rd_un ?_
  | with_reducible refine rd_sl ?_
  | with_reducible refine rd_nopart ?_
  | with_reducible refine rd_part ?_
  | with_reducible refine rd_intP ?_
  | with_reducible refine rd_rU ?_
  | with_reducible refine rd_fld ?_
  | with_reducible refine rd_eqI ?_
  | with_reducible refine rd_neI ?_
  | with_reducible refine rd_mko ?_
  | with_reducible refine rd_bm ?_
  | with_reducible refine rd_gsub ?_
  | with_reducible refine rd_i0 ?_)))
theorem ok_law_beside (T : Tx K mg) (B : Bk K mg T) : FnOk P w K mg base CX0 1 B.law_beside.f B.law_beside.fd ["web", "house"] spLBeside := by
  refine B.law_beside.F.ok sc_law_beside (fun vs H Q E h => ?_) (fun cdv A outer s H vs Q E hr h => ?_)
  · obtain ⟨m, L, sp, mo, h, v, rfl, _⟩ := h
    rfl
  · obtain ⟨m, L, sp, mo, h, v, rfl, hv, R, q⟩ := h
    obtain ⟨a, c, xs, rfl, ha, hc, hx⟩ := pl_plan hv
    have hl := hx.len
    rw [List.length_map] at hl
    refine ⟨_, (pss_one (ps_ret (pe_callB cr_sortedI (by rfl) T.b_sorted (by decide +kernel) (pa_cons (pe_op op_cat (pe_lc (own := [("tie", 2)]) (g := gName 2) rfl sc_law_beside.nd (pi_tup (pe_ix ix_tup (pv 0) pe_int (fun _ _ => rfl))) (blkOk_by (own := [("tie", 2)]) (N := ["web", "house", "tie"]) (sc := defScope s_law_beside) (by decide +kernel)) (fun _ _ _ _ _ => pg_name (i := 2) sc_law_beside.nd rfl (Or.inl rfl)) (fun _ _ _ _ _ => (pts_one (pt_cmpR op_eq (pe_ix (r := rIxT K) ix_tup (pv 2) pe_int (fun _ _ => rfl)) (pv 1) (nomark _)))) (fun _ _ _ _ _ => (pe_ix (r := rIxT K) ix_tup (pv 2) pe_int (fun _ _ => rfl)))) (pe_lc (own := [("tie", 2)]) (g := gName 2) rfl sc_law_beside.nd (pi_tup (pe_ix ix_tup (pv 0) pe_int (fun _ _ => rfl))) (blkOk_by (own := [("tie", 2)]) (N := ["web", "house", "tie"]) (sc := defScope s_law_beside) (by decide +kernel)) (fun _ _ _ _ _ => pg_name (i := 2) sc_law_beside.nd rfl (Or.inl rfl)) (fun _ _ _ _ _ => (pts_one (pt_cmpR op_eq (pe_ix (r := rIxT K) ix_tup (pv 2) pe_int (fun _ _ => rfl)) (pv 1) (nomark _)))) (fun _ _ _ _ _ => (pe_ix (r := rIxT K) ix_tup (pv 2) pe_int (fun _ _ => rfl))))) pa_nil)))), ?_⟩
    have hb10 := nb_len R h
    have lab : (belowOf L h).length + (aboveOf L h).length ≤ 10 := by
      unfold nbL at hb10
      rw [List.length_append] at hb10
      exact hb10
    have fl : ∀ (f : Tie → Bool) (g : Tie → Int) (i : Nat), (((L.take i).filter f).map g).length ≤ L.length := fun f g i => by
      rw [List.length_map]
      exact Nat.le_trans (List.length_filter_le _ _) (by rw [List.length_take]; omega)
    have hL := R.len
    walk_at "rd"
    refine rd_itup ?_
    walk_at "rd"
    refine rd_ixT ha rfl ?_
    refine ⟨c, rfl, ⟨_, SqT.of hc⟩, fun D hD => lc_tup (K := K) (a := c) (xs := xs) (fun i H2 => Same H H2 ∧ H2 D = some (.lst ((((L.take i).filter fun q => decide (q.1 = h)).map fun q => q.2.1).map V.int)))
      ⟨same_new hD, upd_same⟩ (fun i H2 _ hh => SqT.of (hh.1 _ _ hc)) ?_ ?_⟩
    · rintro i y H2 hi ⟨hs2, hacc⟩
      obtain ⟨q1, t, eq1, rfl, ht⟩ := ties_at hx hi
      refine ⟨rfl, ?_⟩
      walk_at "rd"
      refine rd_ixT (hs2 _ _ ht) rfl ?_
      walk_at "rd"
      refine rd_ite (fun z => ?_) (fun z => ?_)
      · walk_at "rd"
        refine rd_ixT (hs2 _ _ ht) rfl ?_
        refine ⟨_, hacc, small' (by rw [List.length_map]; have := fl (fun q => decide (q.1 = h)) (fun q => q.2.1) i; omega), fun b o eb => (upd_ne (ne_of_none eb hD)).trans (hs2 b o eb), ?_⟩
        rw [upd_same, fm_take eq1, if_pos z, List.map_append]
        rfl
      · refine ⟨hs2, ?_⟩
        rw [fm_take eq1, if_neg (by rw [z]; exact Bool.false_ne_true), List.append_nil]
        exact hacc
    · rintro H2 ⟨hs2, hacc⟩
      rw [← hl, List.take_length] at hacc
      walk_at "rd"
      refine rd_itup ?_
      walk_at "rd"
      refine rd_ixT (hs2 _ _ ha) rfl ?_
      refine ⟨c, rfl, ⟨_, SqT.of (hs2 _ _ hc)⟩, fun D2 hD2 => lc_tup (K := K) (a := c) (xs := xs) (fun i H3 => Same H2 H3 ∧ H3 D2 = some (.lst ((((L.take i).filter fun q => decide (q.2.1 = h)).map fun q => q.1).map V.int)))
        ⟨same_new hD2, upd_same⟩ (fun i H3 _ hh => SqT.of (hh.1 _ _ (hs2 _ _ hc))) ?_ ?_⟩
      · rintro i y H3 hi ⟨hs3, hacc3⟩
        obtain ⟨q1, t, eq1, rfl, ht⟩ := ties_at hx hi
        have ht3 := hs3 _ _ (hs2 _ _ ht)
        refine ⟨rfl, ?_⟩
        walk_at "rd"
        refine rd_ixT ht3 rfl ?_
        walk_at "rd"
        refine rd_ite (fun z => ?_) (fun z => ?_)
        · walk_at "rd"
          refine rd_ixT ht3 rfl ?_
          refine ⟨_, hacc3, small' (by rw [List.length_map]; have := fl (fun q => decide (q.2.1 = h)) (fun q => q.1) i; omega), fun b o eb => (upd_ne (ne_of_none eb hD2)).trans (hs3 b o eb), ?_⟩
          rw [upd_same, fm_take eq1, if_pos z, List.map_append]
          rfl
        · refine ⟨hs3, ?_⟩
          rw [fm_take eq1, if_neg (by rw [z]; exact Bool.false_ne_true), List.append_nil]
          exact hacc3
      · rintro H3 ⟨hs3, hacc3⟩
        rw [← hl, List.take_length] at hacc3
        replace hacc : H2 D = some (.lst ((aboveOf L h).map V.int)) := hacc
        replace hacc3 : H3 D2 = some (.lst ((belowOf L h).map V.int)) := hacc3
        walk_at "rd"
        refine ⟨D, D2, _, _, rfl, rfl, hs3 _ _ hacc, hacc3, small (by rw [List.length_map, List.length_map]; omega), fun D3 n3 => ?_⟩
        have s4 := same_new (o := .lst ((aboveOf L h).map V.int ++ (belowOf L h).map V.int)) n3
        walk_at "rd"
        refine ⟨D3, aboveOf L h ++ belowOf L h, rfl, SqL.of (by rw [List.map_append]; exact upd_same), fun ys r hp hs nr => ?_⟩
        have e : ys = nbL L h := nb_eq R (hp.trans List.perm_append_comm) hs
        subst e
        have S := (hs2.trans hs3).trans s4
        exact q r _ (S.trans (same_new nr)) (S.free nr) upd_same
theorem ok_law_lets (T : Tx K mg) (B : Bk K mg T) : FnOk P w K mg base CX0 1 B.law_lets.f B.law_lets.fd ["web", "one", "other"] spLLets := by
  refine B.law_lets.F.ok sc_law_lets (fun vs H Q E h => ?_) (fun cdv A outer s H vs Q E hr h => ?_)
  · obtain ⟨m, L, sp, mo, i, j, v, rfl, _⟩ := h
    rfl
  · obtain ⟨m, L, sp, mo, i, j, v, rfl, hv, q⟩ := h
    obtain ⟨a, c, xs, rfl, ha, hc, hx⟩ := pl_plan hv
    have hl := hx.len
    rw [List.length_map] at hl
    refine ⟨_, (pss_cons (ps_for PassesOwn.never rfl (pi_tup (pe_ix ix_tup (pv 0) pe_int (fun _ _ => rfl))) (pg_tup (by rfl) (pgs_cons (pg_name (i := 3) sc_law_lets.nd rfl (Or.inl rfl)) (pgs_cons (pg_name (i := 4) sc_law_lets.nd rfl (Or.inl rfl)) (pgs_cons (pg_name (i := 5) sc_law_lets.nd rfl (Or.inl rfl)) (pgs_cons (pg_name (i := 6) sc_law_lets.nd rfl (Or.inl rfl)) pgs_nil))))) (pss_cons (ps_if (pt_cmpR (op_eqD hr.units) (pe_tup (pa_cons (pv 3) (pa_cons (pv 4) pa_nil))) (pe_tup (pa_cons (pv 1) (pa_cons (pv 2) pa_nil))) (nomark _)) (pss_one (ps_ret (pv 5))) pss_nil)
      (pss_one (ps_if (pt_cmpR (op_eqD hr.units) (pe_tup (pa_cons (pv 4) (pa_cons (pv 3) pa_nil))) (pe_tup (pa_cons (pv 1) (pa_cons (pv 2) pa_nil))) (nomark _)) (pss_one (ps_ret (pv 6))) pss_nil))))
      (pss_one (ps_ret pe_int))), ?_⟩
    walk_at "rd"
    refine rd_itup ?_
    walk_at "rd"
    refine rd_ixT ha rfl ?_
    refine ⟨c, rfl, ⟨_, SqT.of hc⟩, for_tup (K := K) (a := c) (xs := xs) (fun n σ H1 => Same H H1 ∧ capOf (L.drop n) i j = capOf L i j ∧ ∃ u1 u2 u3 u4, σ = [some (.ref a), some (.int i), some (.int j), u1, u2, u3, u4])
      ⟨Same.refl H, rfl, _, _, _, _, rfl⟩ (fun n σ H1 _ hh => SqT.of (hh.1 _ _ hc)) ?_ ?_⟩
    · rintro n y σ H1 hi ⟨hs, hcap, u1, u2, u3, u4, rfl⟩
      obtain ⟨q1, t, eq1, rfl, ht⟩ := ties_at hx hi
      rw [cap_drop eq1] at hcap
      refine ⟨t, _, rfl, SqT.of (hs _ _ ht), rfl, _, _, rfl, _, _, rfl, _, _, rfl, _, _, rfl, rfl, ?_⟩
      walk_at "rd"
      refine rd_disp rfl fun t1 n1 => ?_
      walk_at "rd"
      refine rd_disp rfl fun t2 n2 => ?_
      have s2 := (same_new (o := .tup [.int q1.1, .int q1.2.1]) n1).trans (same_new (o := .tup [.int i, .int j]) n2)
      walk_at "rd"
      refine rd_eq2 ((upd_ne (ne_of_none upd_same n2)).trans upd_same) upd_same ?_
      walk_at "rd"
      refine rd_ite (fun z => ?_) (fun z => ?_)
      · walk_at "rd"
        rw [if_pos z] at hcap
        rw [hcap]
        exact q _ (hs.trans s2)
      · rw [if_neg (by rw [z]; exact Bool.false_ne_true)] at hcap
        walk_at "rd"
        refine rd_disp rfl fun t3 n3 => ?_
        walk_at "rd"
        refine rd_disp rfl fun t4 n4 => ?_
        have s4 := (same_new (o := .tup [.int q1.2.1, .int q1.1]) n3).trans (same_new (o := .tup [.int i, .int j]) n4)
        walk_at "rd"
        refine rd_eq2 ((upd_ne (ne_of_none upd_same n4)).trans upd_same) upd_same ?_
        walk_at "rd"
        have ez : (q1.2.1 == i && q1.1 == j) = (q1.1 == j && q1.2.1 == i) := Bool.and_comm _ _
        rw [ez]
        refine rd_ite (fun z2 => ?_) (fun z2 => ?_)
        · walk_at "rd"
          rw [if_pos z2] at hcap
          rw [hcap]
          exact q _ ((hs.trans s2).trans s4)
        · rw [if_neg (by rw [z2]; exact Bool.false_ne_true)] at hcap
          exact ⟨(hs.trans s2).trans s4, hcap, _, _, _, _, rfl⟩
    · rintro σ H1 ⟨hs, hcap, u1, u2, u3, u4, rfl⟩
      rw [← hl, List.drop_length] at hcap
      walk_at "rd"
      have := q H1 hs
      rw [← hcap] at this
      exact this
theorem ok_law_with (T : Tx K mg) (B : Bk K mg T) : FnOk P w K mg base CX0 1 B.law_with.f B.law_with.fd ["row", "at", "item"] spLWith := by
  refine B.law_with.F.ok sc_law_with (fun vs H Q E h => ?_) (fun cdv A outer s H vs Q E hr h => ?_)
  · obtain ⟨l, i, u, a, rfl, _⟩ := h
    rfl
  · obtain ⟨l, i, u, a, rfl, ha, hi, hl, q⟩ := h
    refine ⟨_, (pss_one (ps_ret (pe_op op_catA (pe_op op_catA (pe_slice sl_tupA (pv 0) po_none (po_some (pv 1))) (pe_tup (pa_cons (pv 2) pa_nil))) (pe_slice sl_tupA (pv 0) (po_some (pe_op op_add (pv 1) pe_int)) po_none)))), ?_⟩
    walk_at "rd"
    refine rd_slP ha fun b1 H1 s1 hb1 => ?_
    rw [cut_to (i := i) (by rw [List.length_map]; omega)] at hb1
    walk_at "rd"
    refine rd_disp rfl fun b2 n2 => ?_
    have s2 := same_new (o := .tup [.int u]) n2
    walk_at "rd"
    refine rd_catP (s2 _ _ hb1) upd_same (by simp; omega) fun b3 H3 s3 hb3 => ?_
    walk_at "rd"
    rw [show (i : Int) + 1 = ((i + 1 : Nat) : Int) by omega]
    refine rd_slP (s3 _ _ (s2 _ _ (s1 _ _ ha))) fun b4 H4 s4 hb4 => ?_
    rw [cut_from (i := i + 1) (by rw [List.length_map]; omega)] at hb4
    walk_at "rd"
    refine rd_catP (s4 _ _ hb3) hb4 (by simp; omega) fun b5 H5 s5 hb5 => ?_
    refine q _ H5 ((((s1.trans s2).trans s3).trans s4).trans s5) ?_
    rw [hb5, ← set_split l hi]
    simp
end
end Mw

/-! L4 -/
namespace Mw
open PySem L2
/-- all but some places stays, tuples too -/
def Fx (ps : List Addr) (H H' : Hp) : Prop := (∀ b o, b ∉ ps → H b = some o → H' b = some o) ∧ KT H H'
theorem Fx.same {ps : List Addr} {H H' : Hp} (s : Same H H') : Fx ps H H' := ⟨fun b o _ e => s b o e, KT.same s⟩
theorem Fx.trans {ps : List Addr} {H H1 H2 : Hp} (x : Fx ps H H1) (y : Fx ps H1 H2) : Fx ps H H2 := ⟨fun b o n e => y.1 b o n (x.1 b o n e), fun a xs e => y.2 a xs (x.2 a xs e)⟩
theorem Fx.mut {ps : List Addr} {a : Addr} {H : Hp} {xs : List V} {o : HO} (h : H a = some (.lst xs)) (m : a ∈ ps) : Fx ps H (upd H a o) := ⟨fun b u n e => (upd_ne (fun z => n (by rw [z]; exact m))).trans e, KT.mut h (by intro zs z; cases z)⟩
theorem Fx.sub {ps qs : List Addr} {H H' : Hp} (x : Fx ps H H') (h : ∀ a ∈ ps, a ∈ qs) : Fx qs H H' := ⟨fun b o n e => x.1 b o (fun z => n (h b z)) e, x.2⟩
theorem Fx.fresh {ps : List Addr} {H0 H H' : Hp} (s : Same H0 H) (x : Fx ps H H') (n : ∀ a ∈ ps, H0 a = none) : Same H0 H' := fun b o e => x.1 b o (fun z => by rw [n b z] at e; cases e) (s b o e)
def LSt (H : Hp) (s : Addr) (t : St) : Prop := ∃ c1 c2 c3, H s = some (.lst [.str (stgS t.up), .int t.ht, .int t.held, .ref c1, .ref c2, .ref c3]) ∧ H c1 = some (.tup (t.str.map V.int)) ∧ H c2 = some (.tup (t.bel.map V.int)) ∧ H c3 = some (.tup (t.snt.map V.int))
def LOut (H : Hp) (o : Addr) (out : List (Int × Wd)) : Prop := ∃ xs, H o = some (.lst xs) ∧ PlAll H (out.map ndD) xs
theorem LSt.fx {ps : List Addr} {H H' : Hp} {s : Addr} {t : St} (h : LSt H s t) (x : Fx ps H H') (n : s ∉ ps) : LSt H' s t := by
  obtain ⟨c1, c2, c3, h0, h1, h2, h3⟩ := h
  exact ⟨c1, c2, c3, x.1 _ _ n h0, x.2 _ _ h1, x.2 _ _ h2, x.2 _ _ h3⟩
theorem LSt.s {H H' : Hp} {s : Addr} {t : St} (h : LSt H s t) (x : Same H H') : LSt H' s t := h.fx (ps := []) (Fx.same x) (by simp)
theorem LOut.fx {ps : List Addr} {H H' : Hp} {o : Addr} {t : List (Int × Wd)} (h : LOut H o t) (x : Fx ps H H') (n : o ∉ ps) : LOut H' o t := by
  obtain ⟨xs, h1, h2⟩ := h
  exact ⟨xs, x.1 _ _ n h1, h2.t x.2⟩
theorem LOut.s {H H' : Hp} {o : Addr} {t : List (Int × Wd)} (h : LOut H o t) (x : Same H H') : LOut H' o t := h.fx (ps := []) (Fx.same x) (by simp)
theorem rd_setLs {a : Addr} {xs : List V} {i : Int} {j : Nat} {v : V} {H : Hp} {Q : Hp → Prop} (h : H a = some (.lst xs)) (e : ixN xs.length i = some j) (q : ∀ H', H' = upd H a (.lst (xs.set j v)) → Q H') : rSetL (.ref a) (.int i) v H Q := rd_setL h e (q _ rfl)
def toldD (r : St × List (Int × Wd)) : PyData := .tuple [.str "told", r.1.d, .tuple (r.2.map ndD)]
def refD (s : Str) : PyData := .tuple [.str "refused", .str s]
def dueS (L : List Tie) (sp h : Int) (st : St) : PyData := if h = sp ∧ st.up = false then toldD (startM (evOf L h) st) else refD "spring"
def spLBel : Sp := fun vs H Q _ => ∃ (s : Addr) (t : St) (i : Nat) (h : Int), vs = [.ref s, .int (i : Int), .int h] ∧ LSt H s t ∧ i < t.bel.length ∧ t.bel.length ≤ 100 ∧ ∀ H', Fx [s] H H' → LSt H' s (t.blv i h) → Q .non H'
def spLRoom : Sp := fun vs H Q _ => ∃ (m : Int) (L : List Tie) (sp mo h : Int) (v : V) (s : Addr) (t : St) (i : Nat), vs = [v, .int h, .ref s, .int (i : Int)] ∧ Pl H (planD m L sp mo) v ∧ Right m L sp mo ∧ LSt H s t ∧ i < (nbL L h).length ∧ t.str.length = (nbL L h).length ∧ ∀ H', Same H H' → Q (.int (capOf L h (gi (nbL L h) i) - gi t.str i)) H'
def spLStarted : Sp := fun vs H Q _ => ∃ (m : Int) (L : List Tie) (sp mo h : Int) (v vst : V) (st : St), vs = [v, .int h, vst] ∧ Pl H (planD m L sp mo) v ∧ Right m L sp mo ∧ Pl H st.d vst ∧ SOk (evOf L h) st ∧
  (h = sp → st.up = false → ∀ i, i < (nbL L h).length → 0 ≤ gi (rooms (evOf L h) st) i) ∧ ∀ t H', Same H H' → Pl H' (dueS L sp h st) t → Q t H'
theorem ev_out {L : List Tie} {h : Int} {i : Nat} (hi : i < (nbL L h).length) : gi (evOf L h).out i = capOf L h (gi (nbL L h) i) := by
  refine gi_of ?_
  show ((nbL L h).map fun b => capOf L h b)[i]? = _
  rw [List.getElem?_map, gi_get hi]
  rfl
/-- the streams when i of them are filled -/
def strI (str rs : List Int) (i : Nat) : List Int := List.zipWith (fun a b => a + b) (str.take i) (rs.take i) ++ str.drop i
theorem strI_0 {str rs : List Int} : strI str rs 0 = str := rfl
theorem strI_all {str rs : List Int} (h : str.length = rs.length) : strI str rs rs.length = List.zipWith (fun a b => a + b) str rs := by
  unfold strI
  rw [List.take_length, ← h, List.take_length, List.drop_length, List.append_nil]
theorem strI_step {str rs : List Int} {i : Nat} (h1 : i < str.length) (h2 : i < rs.length) : strI str rs (i + 1) = (strI str rs i).set i (gi str i + gi rs i) := by
  unfold strI
  have hl : (List.zipWith (fun a b => a + b) (str.take i) (rs.take i)).length = i := by
    rw [List.length_zipWith, List.length_take, List.length_take]
    omega
  rw [take_snoc (gi_get h1), take_snoc (gi_get h2), List.zipWith_append (by rw [List.length_take, List.length_take]; omega), List.set_append_right _ _ (by omega), hl, Nat.sub_self]
  rw [show str.drop i = str[i] :: str.drop (i + 1) from List.drop_eq_getElem_cons h1, List.set_cons_zero]
  simp
theorem strI_gi {str rs : List Int} {i : Nat} (h1 : i < str.length) (h2 : i < rs.length) : gi (strI str rs i) i = gi str i := by
  unfold strI
  refine gi_of ?_
  have hl : (List.zipWith (fun a b => a + b) (str.take i) (rs.take i)).length = i := by
    rw [List.length_zipWith, List.length_take, List.length_take]
    omega
  rw [List.getElem?_append_right (by omega), hl, Nat.sub_self, List.getElem?_drop, Nat.add_zero]
  exact gi_get h1
theorem strI_len {str rs : List Int} {i : Nat} (h1 : i ≤ str.length) (h2 : i ≤ rs.length) : (strI str rs i).length = str.length := by
  unfold strI
  rw [List.length_append, List.length_zipWith, List.length_take, List.length_take, List.length_drop]
  omega
theorem sum_take {rs : List Int} {i : Nat} (h : i < rs.length) : (rs.take (i + 1)).sum = (rs.take i).sum + gi rs i := by
  rw [take_snoc (gi_get h), List.sum_append]
  simp
section
variable {P : Program} {w : World} {K : PySem.W.Frag} {mg : Str → Option Value} {base : Heap}
local macro_rules | `(tactic| walk_at "rd") => `(tactic| (repeat (first
  | ((with_reducible refine' rd_var ?h0 ?_); (case h0 => rfl))
  | with_reducible refine rd_c ?_
  | with_reducible refine rd_op ?_
  | with_reducible refine rd_nil ?_
  | with_reducible refine rd_cons ?_
  | with_reducible refine rd_tup ?_
  | with_reducible refine rd_lst ?_
  | with_reducible refine rd_ifs ?_
  | with_reducible refine rd_seq ?_
  | with_reducible refine rd_next ?_
  | with_reducible refine rd_ret ?_
  | with_reducible refine rd_asg ?_
  | ((with_reducible refine' rd_gset ?hs ?_); (case hs => ((simp only [L2.start, List.map_cons, List.map_nil, List.length_cons, List.length_nil, List.cons_append, List.nil_append, List.set_cons_zero, List.set_cons_succ, Nat.reduceAdd, Nat.reduceSub, Nat.zero_add, List.reduceReplicate]); rfl)))
  | with_reducible refine rd_drop ?_
  | with_reducible refine rd_test ?_
  | with_reducible refine rd_B ?_
  | with_reducible refine rd_bl ?_
  | with_reducible refine rd_blP ?_
  | with_reducible refine rd_andV ?_
  | with_reducible refine rd_orV ?_
  | with_reducible refine rd_notV ?_
  | with_reducible refine rd_and ?_
  | with_reducible refine rd_or ?_
  | with_reducible refine rd_not ?_
  | with_reducible refine rd_chain ?_
  | with_reducible refine rd_dput ?_
  | with_reducible refine rd_dget ?_
  | with_reducible refine rd_cb ?_
  | with_reducible refine rd_call ?_
  | with_reducible refine rd_un ?_
  | with_reducible refine rd_sl ?_
  | with_reducible refine rd_nopart ?_
  | with_reducible refine rd_part ?_
  | with_reducible refine rd_intP ?_
  | with_reducible refine rd_rU ?_
  | with_reducible refine rd_fld ?_
  | with_reducible refine rd_eqI ?_
  | with_reducible refine rd_neI ?_
  | with_reducible refine rd_mko ?_
  | with_reducible refine rd_bm ?_
  | with_reducible refine rd_gsub ?_
  | with_reducible refine rd_i0 ?_)))
theorem ok_law_believes (T : Tx K mg) (B : Bk K mg T) : FnOk P w K mg base CX0 2 B.law_believes.f B.law_believes.fd ["s", "at", "height"] spLBel := by
  have G_law_with := ok_law_with (P := P) (w := w) (base := base) T B
  refine B.law_believes.F.ok sc_law_believes (fun vs H Q E h => ?_) (fun cdv A outer s H vs Q E hr h => ?_)
  · obtain ⟨s, t, i, h, rfl, _⟩ := h
    rfl
  · obtain ⟨sa, t, i, h, rfl, ⟨c1, c2, c3, h0, h1, h2, h3⟩, hi, hl, q⟩ := h
    refine ⟨_, (pss_one (ps_asg (pe_call G_law_with (hr.mono (by decide)) rfl B.law_with.m B.law_with.F.kp B.law_with.b .nil pass0 (pa_cons (pe_ix ix_list (pv 0) pe_int (fun _ _ => rfl)) (pa_cons (pv 1) (pa_cons (pe_callB (call_max2 rfl) (by rfl) T.b_max (by decide +kernel) (pa_cons (pe_ix ix_tup (pe_ix ix_list (pv 0) pe_int (fun _ _ => rfl)) (pv 1) (fun _ _ => rfl)) (pa_cons (pv 2) pa_nil))) pa_nil)))) (pg_sub (pv 0) pe_int set_list))), ?_⟩
    walk_at "rd"
    refine rd_ixL h0 rfl ?_
    walk_at "rd"
    refine rd_ixL h0 rfl ?_
    walk_at "rd"
    refine rd_ixT h2 (at_gi hi) ?_
    walk_at "rd"
    refine ⟨_, _, rfl, ?_⟩
    refine ⟨t.bel, i, _, c2, rfl, h2, hi, hl, fun r H1 s1 hr1 => ?_⟩
    walk_at "rd"
    refine rd_setL (s1 _ _ h0) rfl ?_
    have hm := Fx.mut (ps := [sa]) (s1 _ _ h0) (o := .lst ([V.str (stgS t.up), .int t.ht, .int t.held, .ref c1, .ref c2, .ref c3].set 4 (.ref r))) (by simp)
    exact q _ ((Fx.same s1).trans hm) ⟨c1, r, c3, upd_same, hm.2 _ _ (s1 _ _ h1), hm.2 _ _ hr1, hm.2 _ _ (s1 _ _ h3)⟩
theorem ok_law_room (T : Tx K mg) (B : Bk K mg T) : FnOk P w K mg base CX0 2 B.law_room.f B.law_room.fd ["web", "house", "s", "at"] spLRoom := by
  have G_law_lets := ok_law_lets (P := P) (w := w) (base := base) T B
  have G_law_beside := ok_law_beside (P := P) (w := w) (base := base) T B
  refine B.law_room.F.ok sc_law_room (fun vs H Q E h => ?_) (fun cdv A outer s H vs Q E hr h => ?_)
  · obtain ⟨m, L, sp, mo, h, v, s, t, i, rfl, _⟩ := h
    rfl
  · obtain ⟨m, L, sp, mo, h, v, sa, t, i, rfl, hv, R, ⟨c1, c2, c3, h0, h1, h2, h3⟩, hi, hl, q⟩ := h
    refine ⟨_, (pss_one (ps_ret (pe_op op_sub (pe_call G_law_lets (hr.mono (by decide)) rfl B.law_lets.m B.law_lets.F.kp B.law_lets.b .nil pass0 (pa_cons (pv 0) (pa_cons (pv 1) (pa_cons (pe_ix ix_list (pe_call G_law_beside (hr.mono (by decide)) rfl B.law_beside.m B.law_beside.F.kp B.law_beside.b .nil pass0 (pa_cons (pv 0) (pa_cons (pv 1) pa_nil))) (pv 3) (fun _ _ => rfl)) pa_nil)))) (pe_ix ix_tup (pe_ix ix_list (pv 2) pe_int (fun _ _ => rfl)) (pv 3) (fun _ _ => rfl))))), ?_⟩
    walk_at "rd"
    refine ⟨m, L, sp, mo, h, v, rfl, hv, R, fun r H1 s1 nr hr1 => ?_⟩
    walk_at "rd"
    refine rd_ixL hr1 (at_gi hi) ?_
    refine ⟨m, L, sp, mo, h, gi (nbL L h) i, v, rfl, hv.s s1, fun H2 s2 => ?_⟩
    have s12 := s1.trans s2
    walk_at "rd"
    refine rd_ixL (s12 _ _ h0) rfl ?_
    walk_at "rd"
    refine rd_ixT (s12 _ _ h1) (at_gi (by omega)) ?_
    walk_at "rd"
    exact q H2 s12
theorem ok_law_started (T : Tx K mg) (B : Bk K mg T) : FnOk P w K mg base CX0 3 B.law_started.f B.law_started.fd ["web", "house", "state"] spLStarted := by
  have G_law_with := ok_law_with (P := P) (w := w) (base := base) T B
  have G_law_beside := ok_law_beside (P := P) (w := w) (base := base) T B
  have G_law_room := ok_law_room (P := P) (w := w) (base := base) T B
  refine B.law_started.F.ok sc_law_started (fun vs H Q E h => ?_) (fun cdv A outer s H vs Q E hr h => ?_)
  · obtain ⟨m, L, sp, mo, h, v, vst, st, rfl, _⟩ := h
    rfl
  · obtain ⟨m, L, sp, mo, h, v, vst, st, rfl, hv, R, hst, hs, hpos, q⟩ := h
    obtain ⟨wa, wc, wx, rfl, hwa, hwc, hwx⟩ := pl_plan hv
    obtain ⟨sa, b1, b2, b3, rfl, hsa, g1, g2, g3⟩ := pl_st' hst
    refine ⟨_, (pss_cons (ps_if (PW.pt (pw_or (pt_cmpR op_ne (pv 1) (pe_ix ix_tup (pv 0) pe_int (fun _ _ => rfl)) (nomark _)) (pw_or1 (pt_cmpR op_ne (pe_ix ix_tup (pv 2) pe_int (fun _ _ => rfl)) pe_str (nomark _))))) (pss_one (ps_ret (pe_tup (pa_cons pe_str (pa_cons pe_str pa_nil))))) pss_nil)
      (pss_cons (ps_set (i := 3) sc_law_started.nd rfl (Or.inl rfl) (pe_callTy call_list_of (by rfl) T.b_list (by decide +kernel) (pa_cons (pv 2) pa_nil)))
      (pss_cons (ps_set (i := 4) sc_law_started.nd rfl (Or.inl rfl) (pe_lst pa_nil))
      (pss_cons (ps_asg pe_str (pg_sub (pv 3) pe_int set_list))
      (pss_cons (ps_set (i := 5) sc_law_started.nd rfl (Or.inl rfl) (pe_call G_law_beside (hr.mono (by decide)) rfl B.law_beside.m B.law_beside.F.kp B.law_beside.b .nil pass0 (pa_cons (pv 0) (pa_cons (pv 1) pa_nil))))
      (pss_cons (ps_for PassesOwn.never rfl (pi_range1 (by rfl) T.b_range (pa_cons (pe_callB call_len_seq (by rfl) T.b_len (by decide +kernel) (pa_cons (pv 5) pa_nil)) pa_nil)) (pg_name (i := 6) sc_law_started.nd rfl (Or.inl rfl)) (pss_cons (ps_set (i := 7) sc_law_started.nd rfl (Or.inl rfl) (pe_call G_law_room (hr.mono (by decide)) rfl B.law_room.m B.law_room.F.kp B.law_room.b .nil pass0 (pa_cons (pv 0) (pa_cons (pv 1) (pa_cons (pv 3) (pa_cons (pv 6) pa_nil))))))
      (pss_one (ps_if (pt_cmpR op_gt (pv 7) pe_int (nomark _)) (pss_cons (ps_expr (pe_bm PySem.F.plainAttrs_list PySem.F.slot_list_append PySem.F.type_list_append mt_append (pv 4) (pa_cons (pe_tup (pa_cons (pe_ix ix_list (pv 5) (pv 6) (fun _ _ => rfl)) (pa_cons (pe_tup (pa_cons pe_str (pa_cons (pv 7) pa_nil))) pa_nil))) pa_nil)))
      (pss_cons (ps_asg (pe_call G_law_with (hr.mono (by decide)) rfl B.law_with.m B.law_with.F.kp B.law_with.b .nil pass0 (pa_cons (pe_ix ix_list (pv 3) pe_int (fun _ _ => rfl)) (pa_cons (pv 6) (pa_cons (pe_op op_add (pe_ix ix_tup (pe_ix ix_list (pv 3) pe_int (fun _ _ => rfl)) (pv 6) (fun _ _ => rfl)) (pv 7)) pa_nil)))) (pg_sub (pv 3) pe_int set_list))
      (pss_one (ps_asg (pe_op op_sub (pe_ix ix_list (pv 3) pe_int (fun _ _ => rfl)) (pv 7)) (pg_sub (pv 3) pe_int set_list))))) pss_nil))))
      (pss_one (ps_ret (pe_tup (pa_cons pe_str (pa_cons (pe_callTy call_tuple_of (by rfl) T.b_tuple (by decide +kernel) (pa_cons (pv 3) pa_nil)) (pa_cons (pe_callTy call_tuple_of (by rfl) T.b_tuple (by decide +kernel) (pa_cons (pv 4) pa_nil)) pa_nil)))))))))))), ?_⟩
    have no : ¬ (h = sp ∧ st.up = false) → ∀ t H', Same H H' → H' t = some (.tup [.str "refused", .str "spring"]) → Q (.ref t) H' := fun z t H' s ht => by
      refine q _ H' s ?_
      unfold dueS
      rw [if_neg z]
      exact pl_tup ht (plAll_cons pl_str (plAll_cons pl_str plAll_nil))
    walk_at "rd"
    refine rd_ixT hwa rfl ?_
    walk_at "rd"
    by_cases eh : h = sp
    · refine rd_no (by rw [decide_eq_true eh]; rfl) ?_
      walk_at "rd"
      refine rd_ixT hsa rfl ?_
      walk_at "rd"
      refine rd_ne rfl ?_
      rw [stg_asleep]
      walk_at "rd"
      cases eu : st.up with
      | true =>
        refine rd_yes rfl ?_
        walk_at "rd"
        refine rd_disp rfl fun t nt => ?_
        exact no (fun z => by rw [z.2] at eu; cases eu) t _ (same_new nt) upd_same
      | false =>
        refine rd_no rfl ?_
        have hpos := hpos eh eu
        have q2 : ∀ t H', Same H H' → Pl H' (toldD (startM (evOf L h) st)) t → Q t H' := fun t H' s p => by
          refine q t H' s ?_
          unfold dueS
          rw [if_pos ⟨eh, eu⟩]
          exact p
        clear q no
        have hrl : (rooms (evOf L h) st).length = (nbL L h).length := hs.rl
        have hrg : ∀ i, i < (nbL L h).length → gi (rooms (evOf L h) st) i = capOf L h (gi (nbL L h) i) - gi st.str i := fun i hi => by rw [rooms_gi hs hi, ev_out hi]
        have hsl : st.str.length = (nbL L h).length := hs.l1
        have hnb := nb_len R h
        unfold startM at q2
        generalize rooms (evOf L h) st = rs at hrl hrg hpos q2
        replace q2 : ∀ t H', Same H H' → Pl H' (toldD ({ st with up := true, held := st.held - rs.sum, str := List.zipWith (fun a b => a + b) st.str rs }, poursM (nbL L h) rs)) t → Q t H' := q2
        walk_at "rd"
        refine ⟨sa, _, rfl, .inr (SqT.of hsa), fun s nsx => ?_⟩
        have s1 := same_new (o := .lst [.str (stgS st.up), .int st.ht, .int st.held, .ref b1, .ref b2, .ref b3]) nsx
        walk_at "rd"
        refine rd_disp rfl fun o no => ?_
        have s2 := same_new (o := .lst []) no
        have nso : s ≠ o := ne_of_none upd_same no
        have Hs2 : (upd (upd H s (.lst [.str (stgS st.up), .int st.ht, .int st.held, .ref b1, .ref b2, .ref b3])) o (.lst [])) s = some (.lst [.str (stgS st.up), .int st.ht, .int st.held, .ref b1, .ref b2, .ref b3]) := (upd_ne nso).trans upd_same
        have no0 : H o = none := s1.free no
        have ho2 : (upd (upd H s (.lst [.str (stgS st.up), .int st.ht, .int st.held, .ref b1, .ref b2, .ref b3])) o (.lst [])) o = some (.lst []) := upd_same
        walk_at "rd"
        generalize (upd (upd H s (.lst [.str (stgS st.up), .int st.ht, .int st.held, .ref b1, .ref b2, .ref b3])) o (.lst [])) = H2 at Hs2 s2 ho2 ⊢
        have s02 : Same H H2 := s1.trans s2
        refine rd_setLs Hs2 rfl fun H3 e3 => ?_
        replace e3 : H3 = upd H2 s (.lst [.str "awake", .int st.ht, .int st.held, .ref b1, .ref b2, .ref b3]) := e3
        have F3 : Fx [s, o] H2 H3 := by
          rw [e3]
          exact Fx.mut Hs2 (by simp)
        have s03 : Same H H3 := Fx.fresh s02 F3 (by intro a ha; rcases List.mem_cons.mp ha with rfl | ha <;> simp_all)
        have l3 : LSt H3 s { st with up := true } := ⟨b1, b2, b3, by rw [e3]; exact upd_same, s03 _ _ g1, s03 _ _ g2, s03 _ _ g3⟩
        have o3 : LOut H3 o [] := ⟨[], by rw [e3]; exact (upd_ne nso.symm).trans ho2, plAll_nil⟩
        clear e3
        walk_at "rd"
        refine ⟨m, L, sp, mo, h, .ref wa, rfl, hv.s s03, R, fun r H4 s4 nr hr4 => ?_⟩
        have s04 := s03.trans s4
        walk_at "rd"
        show iRng1 _ _ _ _
        refine rd_rng1 ?_
        walk_at "rd"
        refine ⟨r, _, rfl, .inl (SqL.of hr4), ?_⟩
        have nrs : r ≠ s := by
          obtain ⟨c1, c2, c3, z, _⟩ := l3
          exact (ne_of_none z nr).symm
        have nro : r ≠ o := by
          obtain ⟨xs, z, _⟩ := o3
          exact (ne_of_none z nr).symm
        rw [List.length_map]
        refine ⟨_, rfl, by omega, by omega, for_range (lo := 0) (n := (((nbL L h).length : Nat) : Int).toNat) (fun i σ H5 => Fx [s, o] H4 H5 ∧ LSt H5 s { st with up := true, held := st.held - (rs.take i).sum, str := strI st.str rs i } ∧ LOut H5 o (poursM ((nbL L h).take i) (rs.take i)) ∧ ∃ u1 u2, σ = [some (.ref wa), some (.int h), some (.ref sa), some (.ref s), some (.ref o), some (.ref r), u1, u2])
          ⟨Fx.same (Same.refl _), ?_, o3.s s4, _, _, rfl⟩ ?_ ?_⟩
        · have := l3.s s4
          rw [strI_0, show st.held - (rs.take 0).sum = st.held by simp]
          exact this
        · rintro i σ H5 hn ⟨F5, l5, o5, u1, u2, rfl⟩
          have hi : i < (nbL L h).length := by omega
          have hir : i < rs.length := by omega
          have his : i < st.str.length := by omega
          have s05 : Same H H5 := Fx.fresh s04 F5 (by intro a ha; rcases List.mem_cons.mp ha with rfl | ha <;> simp_all)
          have hr5 : H5 r = some (.lst ((nbL L h).map V.int)) := F5.1 _ _ (by simp [nrs, nro]) hr4
          walk_at "rd"
          rw [show (0 : Int) + (i : Int) = (i : Int) by omega]
          refine ⟨m, L, sp, mo, h, .ref wa, s, _, i, rfl, hv.s s05, R, l5, hi, ?_, fun H6 s6 => ?_⟩
          · show (strI st.str rs i).length = _
            rw [strI_len (by omega) (by omega)]
            omega
          rw [strI_gi his hir, ← hrg i hi]
          walk_at "rd"
          have s06 := s05.trans s6
          have l6 := l5.s s6
          obtain ⟨xs, hox, hxs⟩ := o5.s s6
          have lxs := hxs.len
          have lp : (poursM ((nbL L h).take i) (rs.take i)).length ≤ 10 := by
            unfold poursM
            rw [List.length_map]
            have := List.length_filter_le (fun x : Int × Int => decide (0 < x.2)) (((nbL L h).take i).zip (rs.take i))
            rw [List.length_zip, List.length_take, List.length_take] at this
            omega
          rw [List.length_map] at lxs
          refine rd_ite (fun e2 => ?_) (fun e2 => ?_)
          · have e2' : 0 < gi rs i := by simpa using e2
            walk_at "rd"
            refine ⟨.inl ⟨rfl, xs, SqL.of hox⟩, ?_⟩
            walk_at "rd"
            refine rd_ixL (s6 _ _ hr5) (at_gi hi) ?_
            walk_at "rd"
            refine rd_disp rfl fun t5 n5 => ?_
            walk_at "rd"
            refine rd_disp rfl fun t6 n6 => ?_
            have s7 := same_new (o := .tup [.str "pour", .int (gi rs i)]) n5
            have s8 := same_new (o := .tup [.int (gi (nbL L h) i), .ref t5]) n6
            have s68 := s7.trans s8
            walk_at "rd"
            refine rd_append (s68 _ _ hox) (small' (by omega)) ?_
            have l8 := l6.s s68
            have o9 : ∀ ws, ws = xs → True := fun _ _ => trivial
            have m9 := Fx.mut (ps := [s, o]) (s68 _ _ hox) (o := .lst (xs ++ [.ref t6])) (by simp)
            have po : PlAll (upd (upd (upd H6 t5 (.tup [.str "pour", .int (gi rs i)])) t6 (.tup [.int (gi (nbL L h) i), .ref t5])) o (.lst (xs ++ [.ref t6]))) ((poursM ((nbL L h).take (i + 1)) (rs.take (i + 1))).map ndD) (xs ++ [.ref t6]) := by
              rw [pours_take (gi_get hi) (gi_get hir), if_pos e2', List.map_append]
              refine ((hxs.s s68).t m9.2).append (plAll_cons ?_ plAll_nil)
              exact (pl_nd (wd := .pour (gi rs i)) upd_same (pl_wd (wd := .pour (gi rs i)) (s8 _ _ upd_same))).t m9.2
            have l9 := l8.fx (ps := [o]) (Fx.mut (s68 _ _ hox) (o := .lst (xs ++ [.ref t6])) (by simp)) (by simp [nso])
            have F9 : Fx [s, o] H4 _ := ((F5.trans (Fx.same s6)).trans (Fx.same s68)).trans m9
            have hoo : (upd (upd (upd H6 t5 (.tup [.str "pour", .int (gi rs i)])) t6 (.tup [.int (gi (nbL L h) i), .ref t5])) o (.lst (xs ++ [.ref t6]))) o = some (.lst (xs ++ [.ref t6])) := upd_same
            generalize (upd (upd (upd H6 t5 (.tup [.str "pour", .int (gi rs i)])) t6 (.tup [.int (gi (nbL L h) i), .ref t5])) o (.lst (xs ++ [.ref t6]))) = H9 at *
            obtain ⟨c1, c2, c3, k0, k1, k2, k3⟩ := l9
            walk_at "rd"
            refine rd_ixL k0 rfl ?_
            walk_at "rd"
            refine rd_ixL k0 rfl ?_
            walk_at "rd"
            refine rd_ixT k1 (at_gi (by show i < (strI st.str rs i).length; rw [strI_len (by omega) (by omega)]; omega)) ?_
            walk_at "rd"
            refine ⟨strI st.str rs i, i, _, c1, rfl, k1, by rw [strI_len (by omega) (by omega)]; omega, by rw [strI_len (by omega) (by omega)]; omega, fun r3 Ha sa' hr3 => ?_⟩
            walk_at "rd"
            refine rd_setL (sa' _ _ k0) rfl ?_
            have mb := Fx.mut (ps := [s, o]) (sa' _ _ k0) (o := .lst ([V.str (stgS true), .int st.ht, .int (st.held - (rs.take i).sum), .ref c1, .ref c2, .ref c3].set 3 (.ref r3))) (by simp)
            walk_at "rd"
            refine rd_ixL upd_same rfl ?_
            walk_at "rd"
            refine rd_setL upd_same rfl ?_
            have mc := Fx.mut (ps := [s, o]) (H := upd Ha s (.lst ([V.str (stgS true), .int st.ht, .int (st.held - (rs.take i).sum), .ref c1, .ref c2, .ref c3].set 3 (.ref r3)))) upd_same (o := .lst (([V.str (stgS true), .int st.ht, .int (st.held - (rs.take i).sum), .ref c1, .ref c2, .ref c3].set 3 (.ref r3)).set 2 (.int (st.held - (rs.take i).sum - gi rs i)))) (by simp)
            have F := mb.trans mc
            refine ⟨F9.trans ((Fx.same sa').trans F), ⟨r3, c2, c3, ?_, ?_, F.2 _ _ (sa' _ _ k2), F.2 _ _ (sa' _ _ k3)⟩, ⟨xs ++ [.ref t6], ?_, ?_⟩, _, _, rfl⟩
            · rw [upd_same, sum_take hir]
              show some (HO.lst [V.str (stgS true), .int st.ht, .int (st.held - (rs.take i).sum - gi rs i), .ref r3, .ref c2, .ref c3]) = _
              rw [show st.held - ((rs.take i).sum + gi rs i) = st.held - (rs.take i).sum - gi rs i by omega]
            · have := F.2 _ _ hr3
              rw [strI_gi his hir] at this
              rw [strI_step his hir]
              exact this
            · exact (upd_ne nso.symm).trans ((upd_ne nso.symm).trans (sa' _ _ hoo))
            · exact (po.s sa').t F.2
          · have e2' : ¬ 0 < gi rs i := by simpa using e2
            have e0 : gi rs i = 0 := by have := hpos i hi; omega
            refine ⟨F5.trans (Fx.same s6), ?_, ?_, _, _, rfl⟩
            · rw [sum_take hir, strI_step his hir, e0, Int.add_zero, Int.add_zero]
              rw [show (strI st.str rs i).set i (gi st.str i) = strI st.str rs i by
                have := strI_gi (str := st.str) (rs := rs) his hir
                rw [← this]
                have hlt : i < (strI st.str rs i).length := by rw [strI_len (by omega) (by omega)]; omega
                have := (List.getElem?_eq_some_iff.mp (gi_get hlt)).2
                rw [← this]
                exact List.set_getElem_self hlt]
              exact l6
            · rw [pours_take (gi_get hi) (gi_get hir), if_neg e2', List.append_nil]
              exact ⟨xs, hox, hxs⟩
        · rintro σ H5 ⟨F5, l5, ⟨xs, hox, hxs⟩, u1, u2, rfl⟩
          rw [Int.toNat_natCast, ← hrl, strI_all (by omega), List.take_length] at l5
          rw [Int.toNat_natCast, List.take_length, ← hrl, List.take_length] at hxs
          have s05 : Same H H5 := Fx.fresh s04 F5 (by intro a ha; rcases List.mem_cons.mp ha with rfl | ha <;> simp_all)
          obtain ⟨c1, c2, c3, k0, k1, k2, k3⟩ := l5
          walk_at "rd"
          refine ⟨s, _, rfl, .inl ⟨SqL.of k0, fun t6 n6 => ?_⟩⟩
          have s6 := same_new (o := .tup [.str (stgS true), .int st.ht, .int (st.held - rs.sum), .ref c1, .ref c2, .ref c3]) n6
          walk_at "rd"
          refine ⟨o, _, rfl, .inl ⟨SqL.of (s6 _ _ hox), fun t7 n7 => ?_⟩⟩
          have s7 := same_new (o := .tup xs) n7
          walk_at "rd"
          refine rd_disp rfl fun t8 n8 => ?_
          have s8 := same_new (o := .tup [.str "told", .ref t6, .ref t7]) n8
          have s78 := s7.trans s8
          refine q2 _ _ (((s05.trans s6).trans s7).trans s8) (pl_tup upd_same (plAll_cons pl_str (plAll_cons ?_ (plAll_cons (pl_tup (s8 _ _ upd_same) (((hxs.s s6).s s7).s s8)) plAll_nil))))
          exact (pl_st (s := { st with up := true, held := st.held - rs.sum, str := List.zipWith (fun a b => a + b) st.str rs }) (s78 _ _ upd_same) (pl_intsD (s78 _ _ (s6 _ _ k1))) (pl_intsD (s78 _ _ (s6 _ _ k2))) (pl_intsD (s78 _ _ (s6 _ _ k3))))
    · refine rd_yes (by rw [decide_eq_false eh]; rfl) ?_
      refine rd_yes rfl ?_
      walk_at "rd"
      refine rd_disp rfl fun t nt => ?_
      exact no (fun z => eh z.1) t _ (same_new nt) upd_same
end
end Mw

/-! L5 -/
namespace Mw
open PySem L2
def spLActs : Sp := fun vs H Q _ => ∃ (m : Int) (L : List Tie) (sp mo h : Int) (v : V) (s o : Addr) (st : St) (out : List (Int × Wd)), vs = [v, .int h, .ref s, .ref o] ∧ Pl H (planD m L sp mo) v ∧ Right m L sp mo ∧ LSt H s st ∧ LOut H o out ∧ s ≠ o ∧ out.length ≤ 1000 ∧ SOk (evOf L h) st ∧
  ∀ H', Fx [s, o] H H' → LSt H' s (acts (fuel (evOf L h)) (evOf L h) st).1 → LOut H' o (out ++ (acts (fuel (evOf L h)) (evOf L h) st).2) → Q .non H'
section
variable {H H' : Hp} {s : Addr} {t : St} {c1 c2 c3 : Addr} {u : Int} {r : Addr} {l : List Int}
theorem lst_up (k0 : H s = some (.lst [.str (stgS t.up), .int t.ht, .int t.held, .ref c1, .ref c2, .ref c3])) (k1 : H c1 = some (.tup (t.str.map V.int))) (k2 : H c2 = some (.tup (t.bel.map V.int))) (k3 : H c3 = some (.tup (t.snt.map V.int)))
    (e : H' = upd H s (.lst ([V.str (stgS t.up), .int t.ht, .int t.held, .ref c1, .ref c2, .ref c3].set 0 (.str "awake")))) : LSt H' s { t with up := true } ∧ Fx [s] H H' := by
  have F : Fx [s] H H' := by rw [e]; exact Fx.mut k0 (by simp)
  exact ⟨⟨c1, c2, c3, by rw [e]; exact upd_same, F.2 _ _ k1, F.2 _ _ k2, F.2 _ _ k3⟩, F⟩
theorem lst_ht (k0 : H s = some (.lst [.str (stgS t.up), .int t.ht, .int t.held, .ref c1, .ref c2, .ref c3])) (k1 : H c1 = some (.tup (t.str.map V.int))) (k2 : H c2 = some (.tup (t.bel.map V.int))) (k3 : H c3 = some (.tup (t.snt.map V.int)))
    (e : H' = upd H s (.lst ([V.str (stgS t.up), .int t.ht, .int t.held, .ref c1, .ref c2, .ref c3].set 1 (.int u)))) : LSt H' s { t with ht := u } ∧ Fx [s] H H' := by
  have F : Fx [s] H H' := by rw [e]; exact Fx.mut k0 (by simp)
  exact ⟨⟨c1, c2, c3, by rw [e]; exact upd_same, F.2 _ _ k1, F.2 _ _ k2, F.2 _ _ k3⟩, F⟩
theorem lst_held (k0 : H s = some (.lst [.str (stgS t.up), .int t.ht, .int t.held, .ref c1, .ref c2, .ref c3])) (k1 : H c1 = some (.tup (t.str.map V.int))) (k2 : H c2 = some (.tup (t.bel.map V.int))) (k3 : H c3 = some (.tup (t.snt.map V.int)))
    (e : H' = upd H s (.lst ([V.str (stgS t.up), .int t.ht, .int t.held, .ref c1, .ref c2, .ref c3].set 2 (.int u)))) : LSt H' s { t with held := u } ∧ Fx [s] H H' := by
  have F : Fx [s] H H' := by rw [e]; exact Fx.mut k0 (by simp)
  exact ⟨⟨c1, c2, c3, by rw [e]; exact upd_same, F.2 _ _ k1, F.2 _ _ k2, F.2 _ _ k3⟩, F⟩
theorem lst_str (k0 : H s = some (.lst [.str (stgS t.up), .int t.ht, .int t.held, .ref c1, .ref c2, .ref c3])) (k1 : H c1 = some (.tup (t.str.map V.int))) (k2 : H c2 = some (.tup (t.bel.map V.int))) (k3 : H c3 = some (.tup (t.snt.map V.int))) (hr : H r = some (.tup (l.map V.int)))
    (e : H' = upd H s (.lst ([V.str (stgS t.up), .int t.ht, .int t.held, .ref c1, .ref c2, .ref c3].set 3 (.ref r)))) : LSt H' s { t with str := l } ∧ Fx [s] H H' := by
  have F : Fx [s] H H' := by rw [e]; exact Fx.mut k0 (by simp)
  exact ⟨⟨r, c2, c3, by rw [e]; exact upd_same, F.2 _ _ hr, F.2 _ _ k2, F.2 _ _ k3⟩, F⟩
theorem lst_snt (k0 : H s = some (.lst [.str (stgS t.up), .int t.ht, .int t.held, .ref c1, .ref c2, .ref c3])) (k1 : H c1 = some (.tup (t.str.map V.int))) (k2 : H c2 = some (.tup (t.bel.map V.int))) (k3 : H c3 = some (.tup (t.snt.map V.int))) (hr : H r = some (.tup (l.map V.int)))
    (e : H' = upd H s (.lst ([V.str (stgS t.up), .int t.ht, .int t.held, .ref c1, .ref c2, .ref c3].set 5 (.ref r)))) : LSt H' s { t with snt := l } ∧ Fx [s] H H' := by
  have F : Fx [s] H H' := by rw [e]; exact Fx.mut k0 (by simp)
  exact ⟨⟨c1, c2, r, by rw [e]; exact upd_same, F.2 _ _ k1, F.2 _ _ k2, F.2 _ _ hr⟩, F⟩
theorem rd_appendS {xs : List V} {y : V} {Q : VK} (h : H s = some (.lst xs)) (hl : xs.length ≤ 1000000) (q : ∀ H', H' = upd H s (.lst (xs ++ [y])) → Q .non H') : rAppend (.ref s) [y] H Q := rd_append h (small' hl) (q _ rfl)
theorem out_put {out : List (Int × Wd)} {xs : List V} {y : V} {x : Int × Wd} (h : H s = some (.lst xs)) (p : PlAll H (out.map ndD) xs) (hy : Pl H (ndD x) y) (e : H' = upd H s (.lst (xs ++ [y]))) : LOut H' s (out ++ [x]) ∧ Fx [s] H H' := by
  have F : Fx [s] H H' := by rw [e]; exact Fx.mut h (by simp)
  refine ⟨⟨xs ++ [y], by rw [e]; exact upd_same, ?_⟩, F⟩
  rw [List.map_append]
  exact (p.t F.2).append (plAll_cons (hy.t F.2) plAll_nil)
theorem any_pos {l : List Int} (h : ∀ u ∈ l, 0 ≤ u) : l.any (fun u => decide (u ≠ 0)) = l.any fun u => decide (u > 0) := by
  induction l with
  | nil => rfl
  | cons x l ih =>
    rw [List.any_cons, List.any_cons, ih fun u hu => h u (List.mem_cons_of_mem _ hu)]
    congr 1
    have := h x (by simp)
    exact decide_eq_decide.mpr (by omega)
end
section
variable {P : Program} {w : World} {K : PySem.W.Frag} {mg : Str → Option Value} {base : Heap}
local macro_rules | `(tactic| walk_at "rd") => `(tactic| (repeat (first
  | ((with_reducible refine' rd_var ?h0 ?_); (case h0 => rfl))
  | with_reducible refine rd_c ?_
  | with_reducible refine rd_op ?_
  | with_reducible refine rd_nil ?_
  | with_reducible refine rd_cons ?_
  | with_reducible refine rd_tup ?_
  | with_reducible refine rd_lst ?_
  | with_reducible refine rd_ifs ?_
  | with_reducible refine rd_seq ?_
  | with_reducible refine rd_next ?_
  | with_reducible refine rd_ret ?_
  | with_reducible refine rd_asg ?_
  | ((with_reducible refine' rd_gset ?hs ?_); (case hs => ((simp only [L2.start, List.map_cons, List.map_nil, List.length_cons, List.length_nil, List.cons_append, List.nil_append, List.set_cons_zero, List.set_cons_succ, Nat.reduceAdd, Nat.reduceSub, Nat.zero_add, List.reduceReplicate]); rfl)))
  | with_reducible refine rd_drop ?_
  | with_reducible refine rd_test ?_
  | with_reducible refine rd_B ?_
  | with_reducible refine rd_bl ?_
  | with_reducible refine rd_blP ?_
  | with_reducible refine rd_andV ?_
  | with_reducible refine rd_orV ?_
  | with_reducible refine rd_notV ?_
  | with_reducible refine rd_and ?_
  | with_reducible refine rd_or ?_
  | with_reducible refine rd_not ?_
  | with_reducible refine rd_chain ?_
  | with_reducible refine rd_dput ?_
  | with_reducible refine rd_dget ?_
  | with_reducible refine rd_cb ?_
  | with_reducible refine rd_call ?_
  | with_reducible refine rd_un ?_
  | with_reducible refine rd_sl ?_
  | with_reducible refine rd_nopart ?_
  | with_reducible refine rd_part ?_
  | with_reducible refine rd_intP ?_
  | with_reducible refine rd_rU ?_
  | with_reducible refine rd_fld ?_
  | with_reducible refine rd_eqI ?_
  | with_reducible refine rd_neI ?_
  | with_reducible refine rd_mko ?_
  | with_reducible refine rd_bm ?_
  | with_reducible refine rd_gsub ?_
  | with_reducible refine rd_i0 ?_)))
theorem ok_law_acts (T : Tx K mg) (B : Bk K mg T) : FnOk P w K mg base CX0 3 B.law_acts.f B.law_acts.fd ["web", "house", "s", "out"] spLActs := by
  have G_law_with := ok_law_with (P := P) (w := w) (base := base) T B
  have G_law_beside := ok_law_beside (P := P) (w := w) (base := base) T B
  have G_law_lets := ok_law_lets (P := P) (w := w) (base := base) T B
  refine B.law_acts.F.ok sc_law_acts (fun vs H Q E h => ?_) (fun cdv A outer s H vs Q E hr h => ?_)
  · obtain ⟨m, L, sp, mo, h, v, s, o, st, out, rfl, _⟩ := h
    rfl
  · obtain ⟨m, L, sp, mo, h, v, sa, o, st, out, rfl, hv, R, hst, hout, nso, hol, hs, q⟩ := h
    have hnb := nb_len R h
    have hfu : fuel (evOf L h) ≤ 22 := by
      unfold fuel
      have : (evOf L h).nb.length ≤ 10 := hnb
      omega
    have hrk := rank_le hs
    rw [acts_more (fuel (evOf L h)) 60 st hs hrk (by omega)] at q
    refine ⟨_, (pss_cons (ps_set (i := 4) sc_law_acts.nd rfl (Or.inl rfl) (pe_call G_law_beside (hr.mono (by decide)) rfl B.law_beside.m B.law_beside.F.kp B.law_beside.b .nil pass0 (pa_cons (pv 0) (pa_cons (pv 1) pa_nil))))
      (pss_cons (ps_set (i := 6) sc_law_acts.nd rfl (Or.inr rfl) (pe_lc (own := [("other", 5)]) (g := gName 5) rfl sc_law_acts.nd (pi_list (pv 4)) (blkOk_by (own := [("other", 5)]) (N := ["web", "house", "s", "out", "beside", "other", "lets_out", "turn", "at", "rooms", "free", "units", "height"]) (sc := defScope s_law_acts) (by decide +kernel)) (fun _ _ _ _ _ => pg_name (i := 5) sc_law_acts.nd rfl (Or.inl rfl)) (fun _ _ _ _ _ => pts_nil) (fun _ _ _ _ _ => (pe_call G_law_lets (hr.mono (by decide)) rfl B.law_lets.m B.law_lets.F.kp B.law_lets.b .nil pass0 (pa_cons (pv 0) (pa_cons (pv 1) (pa_cons (pv 5) pa_nil)))))))
      (pss_one (ps_for PassesOwn.never rfl (pi_range1 (by rfl) T.b_range (pa_cons pe_int pa_nil)) (pg_name (i := 7) sc_law_acts.nd rfl (Or.inl rfl)) (pss_cons (ps_setLc (i := 9) (own := [("at", 8)]) (g := gName 8) rfl sc_law_acts.nd rfl rfl (sw_true rfl rfl rfl (by decide +kernel)) (pi_range1 (by rfl) T.b_range (pa_cons (pe_callB call_len_seq (by rfl) T.b_len (by decide +kernel) (pa_cons (pv 4) pa_nil)) pa_nil)) (blkOk_by (own := [("at", 8)]) (N := ["web", "house", "s", "out", "beside", "other", "lets_out", "turn", "at", "rooms", "free", "units", "height"]) (sc := defScope s_law_acts) (by decide +kernel)) (fun _ _ _ _ _ => pg_name (i := 8) sc_law_acts.nd rfl (Or.inl rfl)) (fun _ _ _ _ _ => (pts_one (pt_cmpR op_gt (pe_ix (r := rIxL K) ix_list (pv 6) (pv 8) (fun _ _ => rfl)) (pe_ix (r := rIxT K) ix_tup (pe_ix (r := rIxL K) ix_list (pv 2) pe_int (fun _ _ => rfl)) (pv 8) (fun _ _ => rfl)) (nomark _)))) (fun _ _ _ _ _ => (pv 8)))
      (pss_cons (ps_setLc (i := 10) (own := [("at", 8)]) (g := gName 8) rfl sc_law_acts.nd rfl rfl (sw_true rfl rfl rfl (by decide +kernel)) (pi_list (pv 9)) (blkOk_by (own := [("at", 8)]) (N := ["web", "house", "s", "out", "beside", "other", "lets_out", "turn", "at", "rooms", "free", "units", "height"]) (sc := defScope s_law_acts) (by decide +kernel)) (fun _ _ _ _ _ => pg_name (i := 8) sc_law_acts.nd rfl (Or.inl rfl)) (fun _ _ _ _ _ => (pts_one (PW.pt (pw_and (pt_cmpR op_eq (pe_ix (r := rIxT K) ix_tup (pe_ix (r := rIxL K) ix_list (pv 2) pe_int (fun _ _ => rfl)) (pv 8) (fun _ _ => rfl)) pe_int (nomark _)) (pw_and1 (pt_cmpR op_eq (pe_ix (r := rIxT K) ix_tup (pe_ix (r := rIxL K) ix_list (pv 2) pe_int (fun _ _ => rfl)) (pv 8) (fun _ _ => rfl)) (pe_op op_sub (pe_ix (r := rIxL K) ix_list (pv 2) pe_int (fun _ _ => rfl)) pe_int) (nomark _))))))) (fun _ _ _ _ _ => (pv 8)))
      (pss_cons (ps_if (PW.pt (pw_or (pt_cmpR op_le (pe_ix ix_list (pv 2) pe_int (fun _ _ => rfl)) pe_int (nomark _)) (pw_or1 (pt_cmpR op_eq (pe_callB call_len_seq (by rfl) T.b_len (by decide +kernel) (pa_cons (pv 9) pa_nil)) pe_int (nomark _))))) (pss_one ps_break) pss_nil)
      (pss_one (ps_if (pt_cmpR op_gt (pe_callB call_len_seq (by rfl) T.b_len (by decide +kernel) (pa_cons (pv 10) pa_nil)) pe_int (nomark _)) (pss_cons (ps_set (i := 8) sc_law_acts.nd rfl (Or.inl rfl) (pe_ix ix_list (pv 10) pe_int (fun _ _ => rfl)))
      (pss_cons (ps_set (i := 11) sc_law_acts.nd rfl (Or.inl rfl) (pe_callB (call_min2 rfl) (by rfl) T.b_min (by decide +kernel) (pa_cons (pe_ix ix_list (pv 2) pe_int (fun _ _ => rfl)) (pa_cons (pe_op op_sub (pe_ix ix_list (pv 6) (pv 8) (fun _ _ => rfl)) (pe_ix ix_tup (pe_ix ix_list (pv 2) pe_int (fun _ _ => rfl)) (pv 8) (fun _ _ => rfl))) pa_nil))))
      (pss_cons (ps_expr (pe_bm PySem.F.plainAttrs_list PySem.F.slot_list_append PySem.F.type_list_append mt_append (pv 3) (pa_cons (pe_tup (pa_cons (pe_ix ix_list (pv 4) (pv 8) (fun _ _ => rfl)) (pa_cons (pe_tup (pa_cons pe_str (pa_cons (pv 11) (pa_cons (pe_ix ix_list (pv 2) pe_int (fun _ _ => rfl)) pa_nil)))) pa_nil))) pa_nil)))
      (pss_cons (ps_asg (pe_op op_sub (pe_ix ix_list (pv 2) pe_int (fun _ _ => rfl)) (pv 11)) (pg_sub (pv 2) pe_int set_list))
      (pss_cons (ps_asg (pe_call G_law_with (hr.mono (by decide)) rfl B.law_with.m B.law_with.F.kp B.law_with.b .nil pass0 (pa_cons (pe_ix ix_list (pv 2) pe_int (fun _ _ => rfl)) (pa_cons (pv 8) (pa_cons (pe_op op_add (pe_ix ix_tup (pe_ix ix_list (pv 2) pe_int (fun _ _ => rfl)) (pv 8) (fun _ _ => rfl)) (pv 11)) pa_nil)))) (pg_sub (pv 2) pe_int set_list))
      (pss_one (ps_asg (pe_call G_law_with (hr.mono (by decide)) rfl B.law_with.m B.law_with.F.kp B.law_with.b .nil pass0 (pa_cons (pe_ix ix_list (pv 2) pe_int (fun _ _ => rfl)) (pa_cons (pv 8) (pa_cons (pv 11) pa_nil)))) (pg_sub (pv 2) pe_int set_list)))))))) (pss_cons (ps_set (i := 12) sc_law_acts.nd rfl (Or.inl rfl) (pe_op op_add pe_int (pe_callB (cr_min rfl) (by rfl) T.b_min (by decide +kernel) (pa_cons (pe_lc (own := [("at", 8)]) (g := gName 8) rfl sc_law_acts.nd (pi_list (pv 9)) (blkOk_by (own := [("at", 8)]) (N := ["web", "house", "s", "out", "beside", "other", "lets_out", "turn", "at", "rooms", "free", "units", "height"]) (sc := defScope s_law_acts) (by decide +kernel)) (fun _ _ _ _ _ => pg_name (i := 8) sc_law_acts.nd rfl (Or.inl rfl)) (fun _ _ _ _ _ => pts_nil) (fun _ _ _ _ _ => (pe_ix (r := rIxT K) ix_tup (pe_ix (r := rIxL K) ix_list (pv 2) pe_int (fun _ _ => rfl)) (pv 8) (fun _ _ => rfl)))) pa_nil))))
      (pss_cons (ps_if (PW.pt (pw_or (pt_val (pe_callB (cr_any rfl) (by rfl) T.b_any (by decide +kernel) (pa_cons (pe_lc (own := [("units", 11)]) (g := gName 11) rfl sc_law_acts.nd (pi_tup (pe_ix ix_list (pv 2) pe_int (fun _ _ => rfl))) (blkOk_by (own := [("units", 11)]) (N := ["web", "house", "s", "out", "beside", "other", "lets_out", "turn", "at", "rooms", "free", "units", "height"]) (sc := defScope s_law_acts) (by decide +kernel)) (fun _ _ _ _ _ => pg_name (i := 11) sc_law_acts.nd rfl (Or.inl rfl)) (fun _ _ _ _ _ => pts_nil) (fun _ _ _ _ _ => (pe_cmpR op_ne (pv 11) pe_int (nomark _)))) pa_nil))) (pw_or (pt_cmpR op_le (pv 12) (pe_ix ix_list (pv 2) pe_int (fun _ _ => rfl)) (nomark _)) (pw_or1 (pt_cmpR op_ge (pv 12) pe_int (nomark _)))))) (pss_one ps_break) pss_nil)
      (pss_cons (ps_asg (pv 12) (pg_sub (pv 2) pe_int set_list))
      (pss_one (ps_for PassesOwn.never rfl (pi_list (pv 4)) (pg_name (i := 5) sc_law_acts.nd rfl (Or.inl rfl)) (pss_one (ps_expr (pe_bm PySem.F.plainAttrs_list PySem.F.slot_list_append PySem.F.type_list_append mt_append (pv 3) (pa_cons (pe_tup (pa_cons (pv 5) (pa_cons (pe_tup (pa_cons pe_str (pa_cons (pv 12) pa_nil))) pa_nil))) pa_nil)))))))))))))))))), ?_⟩
    walk_at "rd"
    refine ⟨m, L, sp, mo, h, v, rfl, hv, R, fun r H1 s1 nr hr1 => ?_⟩
    walk_at "rd"
    show iList _ _ _ _ _
    refine rd_ilist ?_
    walk_at "rd"
    refine ⟨r, rfl, ⟨_, SqL.of hr1⟩, fun D hD => lc_list (K := K) (a := r) (xs := (nbL L h).map V.int) (fun i H2 => Same H1 H2 ∧ H2 D = some (.lst ((((nbL L h).take i).map fun b => capOf L h b).map V.int))) ⟨same_new hD, upd_same⟩ (fun i H2 _ hh => SqL.of (hh.1 _ _ hr1)) ?_ ?_⟩
    · rintro i x H2 hx ⟨hs2, hacc⟩
      obtain ⟨b, hb, rfl⟩ := mapint_get hx
      have hi := (List.getElem?_eq_some_iff.mp hb).1
      refine ⟨rfl, ?_⟩
      refine rd_tyes ?_
      refine rd_yes rfl ?_
      walk_at "rd"
      refine ⟨m, L, sp, mo, h, b, v, rfl, (hv.s s1).s hs2, fun H3 s3 => ?_⟩
      refine ⟨_, s3 _ _ hacc, small' (by rw [List.length_map, List.length_map, List.length_take]; omega), fun z o ez => (upd_ne (ne_of_none ez hD)).trans (s3 _ _ (hs2 z o ez)), ?_⟩
      rw [upd_same, take_snoc hb, List.map_append, List.map_append]
      rfl
    · rintro H2 ⟨hs2, hlo⟩
      rw [List.length_map, List.take_length] at hlo
      have s02 := s1.trans hs2
      have hst2 := hst.s s02
      have hout2 := hout.s s02
      have hr2 := hs2 _ _ hr1
      have nDs : D ≠ sa := by
        obtain ⟨c1, c2, c3, z, _⟩ := hst.s s1
        exact (ne_of_none z hD).symm
      have nDo : D ≠ o := by
        obtain ⟨xs, z, _⟩ := hout.s s1
        exact (ne_of_none z hD).symm
      have nrs : r ≠ sa := by
        obtain ⟨c1, c2, c3, z, _⟩ := hst
        exact (ne_of_none z nr).symm
      have nro : r ≠ o := by
        obtain ⟨xs, z, _⟩ := hout
        exact (ne_of_none z nr).symm
      have hlo' : H2 D = some (.lst ((evOf L h).out.map V.int)) := hlo
      clear hlo
      walk_at "rd"
      dsimp only
      walk_at "rd"
      show iRng1 _ _ _ _
      refine rd_rng1 ?_
      walk_at "rd"
      refine ⟨_, rfl, by omega, by omega, for_range (lo := 0) (n := (60 : Int).toNat) (fun k σ H3 => ∃ st1 out1, Fx [sa, o] H2 H3 ∧ LSt H3 sa st1 ∧ LOut H3 o (out ++ out1) ∧ SOk (evOf L h) st1 ∧ acts 60 (evOf L h) st = ((acts (60 - k) (evOf L h) st1).1, out1 ++ (acts (60 - k) (evOf L h) st1).2) ∧ out1.length ≤ 11 * k ∧ ∃ u5 u7 u8 u9 u10 u11 u12, σ = [some v, some (.int h), some (.ref sa), some (.ref o), some (.ref r), u5, some (.ref D), u7, u8, u9, u10, u11, u12])
        ⟨st, [], Fx.same (Same.refl _), hst2, by rw [List.append_nil]; exact hout2, hs, rfl, Nat.le_refl _, _, _, _, _, _, _, _, rfl⟩ ?_ ?_⟩
      · rintro k σ H3 hk ⟨st1, out1, F3, l3, o3, hs1, hac, hol1, u5, u7, u8, u9, u10, u11, u12, rfl⟩
        have hk60 : k < 60 := by simpa using hk
        have hr3 := F3.1 _ _ (by simp [nrs, nro]) hr2
        have hD3 := F3.1 _ _ (by simp [nDs, nDo]) hlo'
        have hol3 : (evOf L h).out.length = (nbL L h).length := hs1.lo
        obtain ⟨kk, hkk⟩ : ∃ kk, 60 - k = kk + 1 := ⟨59 - k, by omega⟩
        have hkk2 : 60 - (k + 1) = kk := by omega
        rw [hkk] at hac
        have aft : ∀ H', Fx [sa, o] H3 H' → act (evOf L h) st1 = none → LSt H' sa st1 → LOut H' o (out ++ out1) → Q .non H' := fun H' F' ea l' o' => by
          rw [acts_none _ ea] at hac
          rw [hac] at q
          refine q H' (((Fx.same s02).trans F3).trans F') l' ?_
          rw [List.append_nil]
          exact o'
        have hrl : (rooms (evOf L h) st1).length = (nbL L h).length := hs1.rl
        have hrg : ∀ i, i < (nbL L h).length → gi (rooms (evOf L h) st1) i = gi (evOf L h).out i - gi st1.str i := fun i hi => rooms_gi hs1 hi
        have hl1 : st1.str.length = (nbL L h).length := hs1.l1
        have hl2 : st1.bel.length = (nbL L h).length := hs1.l2
        have hl3 : st1.snt.length = (nbL L h).length := hs1.l3
        generalize hrs : rooms (evOf L h) st1 = rs at hrl hrg
        obtain ⟨c1, c2, c3, k0, k1, k2, k3⟩ := id l3
        walk_at "rd"
        show iRng1 _ _ _ _
        refine rd_rng1 ?_
        walk_at "rd"
        refine ⟨r, _, rfl, .inl (SqL.of hr3), ?_⟩
        rw [List.length_map]
        refine ⟨_, rfl, by omega, by omega, fun D1 hD1 => lc_range (lo := 0) (n := (((nbL L h).length : Nat) : Int).toNat) (fun i H4 => Same H3 H4 ∧ H4 D1 = some (.lst (natV ((List.range i).filter fun j => decide (0 < gi rs j))))) ⟨same_new hD1, upd_same⟩ ?_ ?_⟩
        · rintro i H4 hn ⟨hs4, hacc⟩
          have hi : i < (nbL L h).length := by omega
          have hir : i < rs.length := by omega
          refine ⟨rfl, ?_⟩
          rw [show (0 : Int) + (i : Int) = (i : Int) by omega]
          walk_at "rd"
          refine rd_ixL (hs4 _ _ hD3) (at_gi (by omega)) ?_
          walk_at "rd"
          refine rd_ixL (hs4 _ _ k0) rfl ?_
          walk_at "rd"
          refine rd_ixT (hs4 _ _ k1) (at_gi (by omega)) ?_
          walk_at "rd"
          have hg := hrg i hi
          have lacc : (natV ((List.range i).filter fun j => decide (0 < gi rs j))).length ≤ 1000000 := by
            unfold natV
            rw [List.length_map]
            have := List.length_filter_le (fun j => decide (0 < gi rs j)) (List.range i)
            rw [List.length_range] at this
            omega
          refine rd_ite (fun e2 => ?_) (fun e2 => ?_)
          · have e2' : 0 < gi rs i := by
              have := of_decide_eq_true e2
              omega
            walk_at "rd"
            refine ⟨_, hacc, small' lacc, fun z o ez => (upd_ne (ne_of_none ez hD1)).trans (hs4 z o ez), ?_⟩
            rw [upd_same, wide_take (gi_get hir), if_pos e2']
            unfold natV
            rw [List.map_append]
            rfl
          · have e2' : ¬ 0 < gi rs i := by
              have := of_decide_eq_false e2
              omega
            refine ⟨hs4, ?_⟩
            rw [wide_take (gi_get hir), if_neg e2', List.append_nil]
            exact hacc
        · rintro H4 ⟨hs4, hacc⟩
          rw [Int.toNat_natCast, ← hrl] at hacc
          replace hacc : H4 D1 = some (.lst (natV (wide rs))) := hacc
          have hwl := wide_len rs
          have nD1s : D1 ≠ sa := (ne_of_none k0 hD1).symm
          have nD1o : D1 ≠ o := by
            obtain ⟨xs, z, _⟩ := o3
            exact (ne_of_none z hD1).symm
          walk_at "rd"
          show iList _ _ _ _ _
          refine rd_ilist ?_
          walk_at "rd"
          refine ⟨D1, rfl, ⟨_, SqL.of hacc⟩, fun D2 hD2 => lc_list (K := K) (a := D1) (xs := natV (wide rs)) (fun i H5 => Same H4 H5 ∧ H5 D2 = some (.lst (natV (((wide rs).take i).filter fun j => decide (gi st1.snt j = 0) && decide (gi st1.bel j = st1.ht - 1))))) ⟨same_new hD2, upd_same⟩ (fun i H5 _ hh => SqL.of (hh.1 _ _ hacc)) ?_ ?_⟩
          · rintro i x H5 hx ⟨hs5, hacc5⟩
            unfold natV at hx
            rw [List.getElem?_map] at hx
            cases hj : (wide rs)[i]? with
            | none =>
              rw [hj] at hx
              cases hx
            | some j =>
              rw [hj] at hx
              have ex : x = V.int (j : Int) := (Option.some.inj hx).symm
              subst ex
              obtain ⟨hjl, _⟩ := wide_iff.mp (List.mem_of_getElem? hj)
              have s35 := hs4.trans hs5
              have lacc : (natV (((wide rs).take i).filter fun j => decide (gi st1.snt j = 0) && decide (gi st1.bel j = st1.ht - 1))).length ≤ 1000000 := by
                unfold natV
                rw [List.length_map]
                have := List.length_filter_le (fun j => decide (gi st1.snt j = 0) && decide (gi st1.bel j = st1.ht - 1)) ((wide rs).take i)
                rw [List.length_take] at this
                omega
              refine ⟨rfl, ?_⟩
              walk_at "rd"
              refine rd_ixL (s35 _ _ k0) rfl ?_
              walk_at "rd"
              refine rd_ixT (s35 _ _ k3) (at_gi (by omega)) ?_
              walk_at "rd"
              refine rd_ite (fun e2 => ?_) (fun e2 => ?_)
              · walk_at "rd"
                refine rd_ixL (s35 _ _ k0) rfl ?_
                walk_at "rd"
                refine rd_ixT (s35 _ _ k2) (at_gi (by omega)) ?_
                walk_at "rd"
                refine rd_ixL (s35 _ _ k0) rfl ?_
                walk_at "rd"
                refine rd_ite (fun e3 => ?_) (fun e3 => ?_)
                · walk_at "rd"
                  refine ⟨_, hacc5, small' lacc, fun z o ez => (upd_ne (ne_of_none ez hD2)).trans (hs5 z o ez), ?_⟩
                  rw [upd_same, filt_take hj, if_pos (by rw [e2, e3]; rfl)]
                  unfold natV
                  rw [List.map_append]
                  rfl
                · refine ⟨hs5, ?_⟩
                  rw [filt_take hj, if_neg (by rw [e3, Bool.and_false]; exact Bool.false_ne_true), List.append_nil]
                  exact hacc5
              · refine ⟨hs5, ?_⟩
                rw [filt_take hj, if_neg (by rw [e2, Bool.false_and]; exact Bool.false_ne_true), List.append_nil]
                exact hacc5
          · rintro H5 ⟨hs5, hacc5⟩
            rw [show (natV (wide rs)).length = (wide rs).length by unfold natV; rw [List.length_map], List.take_length] at hacc5
            replace hacc5 : H5 D2 = some (.lst (natV (downh rs st1))) := hacc5
            have hW5 := hs5 _ _ hacc
            have s35 := hs4.trans hs5
            have l5 := l3.s s35
            have o5 := o3.s s35
            have lnw : (natV (wide rs)).length = (wide rs).length := by unfold natV; rw [List.length_map]
            have lnd : (natV (downh rs st1)).length = (downh rs st1).length := by unfold natV; rw [List.length_map]
            walk_at "rd"
            refine rd_ixL (s35 _ _ k0) rfl ?_
            walk_at "rd"
            refine rd_ite (fun e1 => ?_) (fun e1 => ?_)
            · walk_at "rd"
              refine aft _ (Fx.same s35) ?_ l5 o5
              unfold act
              rw [if_pos (of_decide_eq_true e1)]
            · have e1' : ¬ st1.held ≤ 0 := of_decide_eq_false e1
              walk_at "rd"
              refine ⟨D1, _, rfl, .inl (SqL.of hW5), ?_⟩
              walk_at "rd"
              rw [lnw]
              by_cases hwn : wide rs = []
              · refine rd_yes (by rw [hwn]; rfl) ?_
                walk_at "rd"
                refine aft _ (Fx.same s35) ?_ l5 o5
                have hdn : downh rs st1 = [] := by
                  unfold downh
                  rw [hwn]
                  rfl
                unfold act
                rw [if_neg e1', hrs, hdn]
                simp only [if_pos (show wide rs = [] ∨ st1.snt.any (fun u => decide (u > 0)) = true from .inl hwn)]
              · refine rd_no (by
                  have : (wide rs).length ≠ 0 := fun z => hwn (List.length_eq_zero_iff.mp z)
                  exact decide_eq_false (by omega)) ?_
                walk_at "rd"
                refine ⟨D2, _, rfl, .inl (SqL.of hacc5), ?_⟩
                walk_at "rd"
                rw [lnd]
                cases hdn : downh rs st1 with
                | cons i is =>
                  have hm : i ∈ downh rs st1 := by
                    rw [hdn]
                    exact List.mem_cons_self
                  obtain ⟨⟨hi, hp⟩, _⟩ := downh_iff.mp hm
                  have hin : i < (nbL L h).length := by omega
                  have hg := hrg i hin
                  have ea : act (evOf L h) st1 = some (pushS (evOf L h) st1 i (if gi rs i < st1.held then gi rs i else st1.held)) := by
                    unfold act
                    rw [if_neg e1', hrs, hdn]
                  have hs1' := (act_ok hs1 ea).1
                  rw [acts_some _ ea] at hac
                  clear aft
                  rw [hdn] at hacc5
                  refine rd_yes (by simp) ?_
                  walk_at "rd"
                  refine rd_ixL hacc5 (v := .int (i : Int)) (show atI (V.int (i : Int) :: natV is) 0 = _ from at0) ?_
                  walk_at "rd"
                  refine rd_ixL (s35 _ _ k0) rfl ?_
                  walk_at "rd"
                  refine rd_ixL (s35 _ _ hD3) (at_gi (by omega)) ?_
                  walk_at "rd"
                  refine rd_ixL (s35 _ _ k0) rfl ?_
                  walk_at "rd"
                  refine rd_ixT (s35 _ _ k1) (at_gi (by omega)) ?_
                  walk_at "rd"
                  refine ⟨_, _, rfl, ?_⟩
                  rw [← hg]
                  generalize (if gi rs i < st1.held then gi rs i else st1.held) = u at ea hs1' hac ⊢
                  obtain ⟨xs, hox, hxs⟩ := o5
                  have lxs := hxs.len
                  rw [List.length_map, List.length_append] at lxs
                  walk_at "rd"
                  refine ⟨.inl ⟨rfl, xs, SqL.of hox⟩, ?_⟩
                  walk_at "rd"
                  refine rd_ixL (s35 _ _ hr3) (at_gi hin) ?_
                  walk_at "rd"
                  refine rd_ixL (s35 _ _ k0) rfl ?_
                  refine rd_disp rfl fun t5 n5 => ?_
                  walk_at "rd"
                  refine rd_disp rfl fun t6 n6 => ?_
                  have s7 := same_new (o := .tup [.str "push", .int u, .int st1.ht]) n5
                  have s8 := same_new (o := .tup [.int (gi (nbL L h) i), .ref t5]) n6
                  have s68 := s7.trans s8
                  have hnd := pl_nd (wd := .push u st1.ht) (upd_same (H := upd H5 t5 (.tup [.str "push", .int u, .int st1.ht])) (a := t6) (o := .tup [.int (gi (nbL L h) i), .ref t5])) (pl_wd (wd := .push u st1.ht) (s8 _ _ upd_same))
                  have l6 := l5.s s68
                  have hxs6 := hxs.s s68
                  have hox6 := s68 _ _ hox
                  have S6 : Same H3 _ := s35.trans s68
                  generalize upd (upd H5 t5 (.tup [.str "push", .int u, .int st1.ht])) t6 (.tup [.int (gi (nbL L h) i), .ref t5]) = H6 at hnd l6 hxs6 hox6 S6 ⊢
                  walk_at "rd"
                  refine rd_appendS hox6 (by omega) fun H7 e7 => ?_
                  obtain ⟨o7, F7⟩ := out_put hox6 hxs6 hnd e7
                  have l7 := l6.fx F7 (by simpa using nso)
                  obtain ⟨a1, a2, a3, p0, p1, p2, p3⟩ := l7
                  walk_at "rd"
                  refine rd_ixL p0 rfl ?_
                  walk_at "rd"
                  refine rd_setLs p0 rfl fun H8 e8 => ?_
                  obtain ⟨l8, F8⟩ := lst_held p0 p1 p2 p3 e8
                  obtain ⟨a1, a2, a3, p0, p1, p2, p3⟩ := l8
                  walk_at "rd"
                  refine rd_ixL p0 rfl ?_
                  walk_at "rd"
                  refine rd_ixL p0 rfl ?_
                  walk_at "rd"
                  refine rd_ixT p1 (at_gi (by show i < st1.str.length; omega)) ?_
                  walk_at "rd"
                  refine ⟨st1.str, i, _, a1, rfl, p1, by omega, by omega, fun r3 H9 s9 hr3' => ?_⟩
                  walk_at "rd"
                  refine rd_setLs (s9 _ _ p0) rfl fun Ha ea' => ?_
                  obtain ⟨la, Fa⟩ := lst_str (t := { st1 with held := st1.held - u }) (s9 _ _ p0) (s9 _ _ p1) (s9 _ _ p2) (s9 _ _ p3) hr3' ea'
                  obtain ⟨a1, a2, a3, p0, p1, p2, p3⟩ := la
                  walk_at "rd"
                  refine rd_ixL p0 rfl ?_
                  walk_at "rd"
                  refine ⟨st1.snt, i, u, a3, rfl, p3, by omega, by omega, fun r4 Hb sb hr4 => ?_⟩
                  walk_at "rd"
                  refine rd_setLs (sb _ _ p0) rfl fun Hc ec => ?_
                  obtain ⟨lc, Fc⟩ := lst_snt (t := { st1 with held := st1.held - u, str := st1.str.set i (gi st1.str i + u) }) (sb _ _ p0) (sb _ _ p1) (sb _ _ p2) (sb _ _ p3) hr4 ec
                  have FS : Fx [sa] H7 Hc := (F8.trans (Fx.same s9)).trans (Fa.trans ((Fx.same sb).trans Fc))
                  refine ⟨(pushS (evOf L h) st1 i u).1, out1 ++ (pushS (evOf L h) st1 i u).2, F3.trans ((Fx.same S6).trans ((F7.sub (by simp)).trans (FS.sub (by simp)))), lc, ?_, hs1', ?_, ?_, _, _, _, _, _, _, _, rfl⟩
                  · rw [← List.append_assoc]
                    exact o7.fx FS (by simpa using nso.symm)
                  · rw [hac, hkk2, List.append_assoc]
                  · show (out1 ++ [_]).length ≤ _
                    rw [List.length_append, List.length_singleton]
                    omega
                | nil =>
                  refine rd_no (by simp) ?_
                  walk_at "rd"
                  show iList _ _ _ _ _
                  refine rd_ilist ?_
                  walk_at "rd"
                  refine ⟨D1, rfl, ⟨_, SqL.of hW5⟩, fun D4 hD4' => lc_list (K := K) (a := D1) (xs := natV (wide rs)) (fun i H6 => Same H5 H6 ∧ H6 D4 = some (.lst ((((wide rs).take i).map fun j => gi st1.bel j).map V.int))) ⟨same_new hD4', upd_same⟩ (fun i H6 _ hh => SqL.of (hh.1 _ _ hW5)) ?_ ?_⟩
                  · rintro i x H6 hx ⟨hs6, hacc6⟩
                    unfold natV at hx
                    rw [List.getElem?_map] at hx
                    cases hj : (wide rs)[i]? with
                    | none =>
                      rw [hj] at hx
                      cases hx
                    | some j =>
                      rw [hj] at hx
                      have ex : x = V.int (j : Int) := (Option.some.inj hx).symm
                      subst ex
                      obtain ⟨hjl, _⟩ := wide_iff.mp (List.mem_of_getElem? hj)
                      have hi : i < (wide rs).length := (List.getElem?_eq_some_iff.mp hj).1
                      refine ⟨rfl, ?_⟩
                      refine rd_tyes ?_
                      refine rd_yes rfl ?_
                      walk_at "rd"
                      refine rd_ixL (hs6 _ _ (s35 _ _ k0)) rfl ?_
                      walk_at "rd"
                      refine rd_ixT (hs6 _ _ (s35 _ _ k2)) (at_gi (by omega)) ?_
                      refine ⟨_, hacc6, small' (by rw [List.length_map, List.length_map, List.length_take]; omega), fun z o ez => (upd_ne (ne_of_none ez hD4')).trans (hs6 z o ez), ?_⟩
                      rw [upd_same, take_snoc hj, List.map_append, List.map_append]
                      rfl
                  · rintro H6 ⟨hs6, hacc6⟩
                    rw [lnw, List.take_length] at hacc6
                    have s36 := s35.trans hs6
                    walk_at "rd"
                    refine ⟨D4, _, rfl, SqL.of hacc6, ?_, fun mm hm1 hm2 => ?_⟩
                    · rw [List.length_map]
                      exact List.length_pos_iff.mpr hwn
                    rw [loL_eq hm1 hm2]
                    walk_at "rd"
                    show iTup _ _ _ _ _
                    refine rd_itup ?_
                    walk_at "rd"
                    have hg3 := s36 _ _ k3
                    refine rd_ixL (s36 _ _ k0) rfl ?_
                    refine ⟨c3, rfl, ⟨_, SqT.of hg3⟩, fun D3 hD3 => lc_tup (K := K) (a := c3) (xs := st1.snt.map V.int) (fun i H7 => Same H6 H7 ∧ H7 D3 = some (.lst (((st1.snt.take i).map fun u => decide (u ≠ 0)).map V.bl))) ⟨same_new hD3, upd_same⟩ (fun i H7 _ hh => SqT.of (hh.1 _ _ hg3)) ?_ ?_⟩
                    · rintro i x H7 hx ⟨hs7, hacc7⟩
                      obtain ⟨u, hu, rfl⟩ := mapint_get hx
                      have hi : i < st1.snt.length := (List.getElem?_eq_some_iff.mp hu).1
                      refine ⟨rfl, ?_⟩
                      refine rd_tyes ?_
                      refine rd_yes rfl ?_
                      walk_at "rd"
                      refine ⟨_, hacc7, small' (by rw [List.length_map, List.length_map, List.length_take]; omega), fun z o ez => (upd_ne (ne_of_none ez hD3)).trans (hs7 z o ez), ?_⟩
                      rw [upd_same, take_snoc hu, List.map_append, List.map_append, show (!decide (u = 0)) = decide (u ≠ 0) by simp]
                      rfl
                    · rintro H7 ⟨hs7, hacc7⟩
                      rw [List.length_map, List.take_length] at hacc7
                      have s37 := s36.trans hs7
                      walk_at "rd"
                      refine ⟨D3, _, rfl, SqL.of hacc7, ?_⟩
                      have ean : (st1.snt.map fun u => decide (u ≠ 0)).any id = st1.snt.any fun u => decide (u > 0) := by
                        rw [List.any_map, ← any_pos hs1.pos]
                        rfl
                      rw [ean]
                      have l7 := l3.s s37
                      have o7 := o3.s s37
                      have ear := fun z => act_rise (e := evOf L h) (s := st1) e1' (by rw [hrs]; exact hdn) (by rw [hrs, not_or]; exact ⟨hwn, z⟩)
                      rw [hrs] at ear
                      walk_at "rd"
                      refine rd_ite (fun e5 => ?_) (fun e5 => ?_)
                      · walk_at "rd"
                        refine aft _ (Fx.same s37) ?_ l7 o7
                        unfold act
                        rw [if_neg e1', hrs, hdn]
                        simp only [if_pos (show wide rs = [] ∨ st1.snt.any (fun u => decide (u > 0)) = true from .inr e5)]
                      · have ear := ear (by rw [e5]; exact Bool.false_ne_true)
                        rw [Int.add_comm] at ear
                        generalize 1 + loL ((wide rs).map fun j => gi st1.bel j) = kh at ear ⊢
                        walk_at "rd"
                        refine rd_ixL (s37 _ _ k0) rfl ?_
                        walk_at "rd"
                        refine rd_ite (fun e6 => ?_) (fun e6 => ?_)
                        · walk_at "rd"
                          refine aft _ (Fx.same s37) ?_ l7 o7
                          rw [ear]
                          unfold riseS
                          rw [if_pos (.inl (of_decide_eq_true e6))]
                        · walk_at "rd"
                          refine rd_ite (fun e8 => ?_) (fun e8 => ?_)
                          · walk_at "rd"
                            refine aft _ (Fx.same s37) ?_ l7 o7
                            rw [ear]
                            unfold riseS
                            rw [if_pos (.inr (of_decide_eq_true e8))]
                          · have n6 := of_decide_eq_false e6
                            have n8 := of_decide_eq_false e8
                            have ea : act (evOf L h) st1 = some ({ st1 with ht := kh }, (nbL L h).map fun b => (b, Wd.rise kh)) := by
                              rw [ear]
                              unfold riseS
                              rw [if_neg (by rw [not_or]; exact ⟨n6, n8⟩)]
                              rfl
                            have hs1' := (act_ok hs1 ea).1
                            rw [acts_some _ ea] at hac
                            walk_at "rd"
                            refine rd_setLs (s37 _ _ k0) rfl fun H8 e9 => ?_
                            obtain ⟨l8, F8⟩ := lst_ht (s37 _ _ k0) (s37 _ _ k1) (s37 _ _ k2) (s37 _ _ k3) e9
                            have o8 := o7.fx F8 (by simpa using nso.symm)
                            have hr8 := F8.1 _ _ (by simpa using nrs) (s37 _ _ hr3)
                            walk_at "rd"
                            dsimp only
                            walk_at "rd"
                            show iList _ _ _ _ _
                            refine rd_ilist ?_
                            walk_at "rd"
                            refine ⟨r, rfl, ⟨_, SqL.of hr8⟩, for_list (K := K) (a := r) (xs := (nbL L h).map V.int) (fun i σ H9 => Fx [o] H8 H9 ∧ LOut H9 o (out ++ out1 ++ ((nbL L h).take i).map fun b => (b, Wd.rise kh)) ∧ ∃ u5, σ = [some v, some (.int h), some (.ref sa), some (.ref o), some (.ref r), u5, some (.ref D), some (.int (0 + (k : Int))), u8, some (.ref D1), some (.ref D2), u11, some (.int kh)])
                              ⟨Fx.same (Same.refl _), by rw [List.take_zero, List.map_nil, List.append_nil]; exact o8, _, rfl⟩ (fun i σ H9 _ hh => SqL.of (hh.1.1 _ _ (by simpa using nro) hr8)) ?_ ?_⟩
                            · rintro i x σ H9 hx ⟨F9, ⟨xs, hox, hxs⟩, u5', rfl⟩
                              obtain ⟨b, hb, rfl⟩ := mapint_get hx
                              have lxs := hxs.len
                              rw [List.length_map, List.length_append, List.length_append, List.length_map, List.length_take] at lxs
                              walk_at "rd"
                              refine ⟨.inl ⟨rfl, xs, SqL.of hox⟩, ?_⟩
                              walk_at "rd"
                              refine rd_disp rfl fun t5 n5 => ?_
                              walk_at "rd"
                              refine rd_disp rfl fun t6 n6 => ?_
                              have s7' := same_new (o := .tup [.str "rise", .int kh]) n5
                              have s8' := same_new (o := .tup [.int b, .ref t5]) n6
                              have s68 := s7'.trans s8'
                              have hnd := pl_nd (wd := .rise kh) (upd_same (H := upd H9 t5 (.tup [.str "rise", .int kh])) (a := t6) (o := .tup [.int b, .ref t5])) (pl_wd (wd := .rise kh) (s8' _ _ upd_same))
                              walk_at "rd"
                              refine rd_appendS (s68 _ _ hox) (by omega) fun Ha e7 => ?_
                              obtain ⟨oa, Fa⟩ := out_put (s68 _ _ hox) (hxs.s s68) hnd e7
                              refine ⟨F9.trans ((Fx.same s68).trans Fa), ?_, _, rfl⟩
                              rw [take_snoc hb, List.map_append, ← List.append_assoc]
                              exact oa
                            · rintro σ H9 ⟨F9, o9, u5', rfl⟩
                              rw [List.length_map, List.take_length] at o9
                              refine ⟨{ st1 with ht := kh }, out1 ++ (nbL L h).map fun b => (b, Wd.rise kh), F3.trans ((Fx.same s37).trans ((F8.sub (by simp)).trans (F9.sub (by simp)))), l8.fx F9 (by simpa using nso), ?_, hs1', ?_, ?_, _, _, _, _, _, _, _, rfl⟩
                              · rw [← List.append_assoc]
                                exact o9
                              · rw [hac, hkk2, List.append_assoc]
                              · rw [List.length_append, List.length_map]
                                omega
      · rintro σ H3 ⟨st1, out1, F3, l3, o3, hs1, hac, hol1, u5, u7, u8, u9, u10, u11, u12, rfl⟩
        replace hac : acts 60 (evOf L h) st = (st1, out1 ++ []) := hac
        rw [hac] at q
        refine q H3 ((Fx.same s02).trans F3) l3 ?_
        rw [List.append_nil]
        exact o3
end
end Mw

/-! L6 -/
namespace Mw
open PySem L2
def nmW : Wd → Str
  | .pour _ => "pour"
  | .push _ _ => "push"
  | .yes => "yes"
  | .no _ => "no"
  | .rise _ => "rise"
def numsW : Wd → List V
  | .pour u => [.int u]
  | .push u h => [.int u, .int h]
  | .yes => []
  | .no h => [.int h]
  | .rise h => [.int h]
theorem pl_word {H : Hp} {w : Wd} {v : V} (h : Pl H w.d v) : ∃ a, v = .ref a ∧ H a = some (.tup (.str (nmW w) :: numsW w)) := by
  cases w with
  | yes =>
    obtain ⟨a, xs, rfl, ha, hx⟩ := pl_tup' h
    obtain ⟨x1, r1, rfl, h1, hx⟩ := plAll_cons' hx
    cases plAll_nil' hx
    cases pl_str' h1
    exact ⟨a, rfl, ha⟩
  | push u k =>
    obtain ⟨a, xs, rfl, ha, hx⟩ := pl_tup' h
    obtain ⟨x1, r1, rfl, h1, hx⟩ := plAll_cons' hx
    obtain ⟨x2, r2, rfl, h2, hx⟩ := plAll_cons' hx
    obtain ⟨x3, r3, rfl, h3, hx⟩ := plAll_cons' hx
    cases plAll_nil' hx
    cases pl_str' h1
    cases pl_int' h2
    cases pl_int' h3
    exact ⟨a, rfl, ha⟩
  | pour u =>
    obtain ⟨a, xs, rfl, ha, hx⟩ := pl_tup' h
    obtain ⟨x1, r1, rfl, h1, hx⟩ := plAll_cons' hx
    obtain ⟨x2, r2, rfl, h2, hx⟩ := plAll_cons' hx
    cases plAll_nil' hx
    cases pl_str' h1
    cases pl_int' h2
    exact ⟨a, rfl, ha⟩
  | no u =>
    obtain ⟨a, xs, rfl, ha, hx⟩ := pl_tup' h
    obtain ⟨x1, r1, rfl, h1, hx⟩ := plAll_cons' hx
    obtain ⟨x2, r2, rfl, h2, hx⟩ := plAll_cons' hx
    cases plAll_nil' hx
    cases pl_str' h1
    cases pl_int' h2
    exact ⟨a, rfl, ha⟩
  | rise u =>
    obtain ⟨a, xs, rfl, ha, hx⟩ := pl_tup' h
    obtain ⟨x1, r1, rfl, h1, hx⟩ := plAll_cons' hx
    obtain ⟨x2, r2, rfl, h2, hx⟩ := plAll_cons' hx
    cases plAll_nil' hx
    cases pl_str' h1
    cases pl_int' h2
    exact ⟨a, rfl, ha⟩
theorem all_flat {l : List Int} : (l.map V.int).all flatV = true := by
  induction l with
  | nil => rfl
  | cons x l ih => exact ih
theorem rd_idxL {K : PySem.W.Frag} {H : Hp} {Q : VK} {a : Addr} {l : List Int} {x : Int} (h : H a = some (.lst (l.map V.int))) (hx : x ∈ l) (q : Q (.int (l.idxOf x : Nat)) H) : rIndex K (.ref a) [.int x] H Q := by
  have hi : l.idxOf x < l.length := List.idxOf_lt_length_iff.mpr hx
  refine ⟨a, _, .int x, l.idxOf x, .int x, rfl, rfl, SqL.of h, rfl, all_flat, ?_, ?_, fun m z' hm hz => ?_, q⟩
  · rw [List.getElem?_map, List.getElem?_eq_getElem hi, List.getElem_idxOf hi]
    rfl
  · unfold eqV
    simp
  · obtain ⟨u, hu, rfl⟩ := mapint_get hz
    show (u == x) = false
    rw [beq_eq_false_iff_ne]
    intro e
    subst e
    obtain ⟨h1, h2⟩ := List.getElem?_eq_some_iff.mp hu
    have hm' : m < l.findIdx (fun y => y == u) := hm
    have := List.not_of_lt_findIdx hm'
    rw [h2] at this
    simp at this
def spLIsThen : Sp := fun vs H Q _ => ∃ (m : Int) (L : List Tie) (sp mo h f : Int) (v vst vw : V) (st : St) (wd : Wd), vs = [v, .int h, vst, .int f, vw] ∧ Pl H (planD m L sp mo) v ∧ Right m L sp mo ∧ Pl H st.d vst ∧ SOk (evOf L h) st ∧ Pl H wd.d vw ∧
  ∀ H', Same H H' → Q (.bl (decide (f ∈ nbL L h) && canW (evOf L h) (decide (h = sp)) (decide (f = sp)) st ((nbL L h).idxOf f) wd)) H'
def spLDoes : Sp := fun vs H Q _ => ∃ (v vw : V) (s o : Addr) (st : St) (out : List (Int × Wd)) (f : Int) (i n : Nat) (wd : Wd), vs = [v, .ref s, .ref o, .int f, .int (i : Int), vw] ∧ LSt H s st ∧ LOut H o out ∧ s ≠ o ∧ out.length ≤ 1000 ∧ Ls st n ∧ i < n ∧ Pl H wd.d vw ∧
  ∀ H', Fx [s, o] H H' → LSt H' s (done st i wd).1 → LOut H' o (out ++ (done st i wd).2.map fun x => (f, x)) → Q .non H'
section
variable {P : Program} {w : World} {K : PySem.W.Frag} {mg : Str → Option Value} {base : Heap}
local macro_rules | `(tactic| walk_at "rd") => `(tactic| (repeat (first
  | ((with_reducible refine' rd_var ?h0 ?_); (case h0 => rfl))
  | with_reducible refine rd_c ?_
  | with_reducible refine rd_op ?_
  | with_reducible refine rd_nil ?_
  | with_reducible refine rd_cons ?_
  | with_reducible refine rd_tup ?_
  | with_reducible refine rd_lst ?_
  | with_reducible refine rd_ifs ?_
  | with_reducible refine rd_seq ?_
  | with_reducible refine rd_next ?_
  | with_reducible refine rd_ret ?_
  | with_reducible refine rd_asg ?_
  | ((with_reducible refine' rd_gset ?hs ?_); (case hs => ((simp only [L2.start, List.map_cons, List.map_nil, List.length_cons, List.length_nil, List.cons_append, List.nil_append, List.set_cons_zero, List.set_cons_succ, Nat.reduceAdd, Nat.reduceSub, Nat.zero_add, List.reduceReplicate]); rfl)))
  | with_reducible refine rd_drop ?_
  | with_reducible refine rd_test ?_
  | with_reducible refine rd_B ?_
  | with_reducible refine rd_bl ?_
  | with_reducible refine rd_blP ?_
  | with_reducible refine rd_andV ?_
  | with_reducible refine rd_orV ?_
  | with_reducible refine rd_notV ?_
  | with_reducible refine rd_and ?_
  | with_reducible refine rd_or ?_
  | with_reducible refine rd_not ?_
  | with_reducible refine rd_chain ?_
  | with_reducible refine rd_dput ?_
  | with_reducible refine rd_dget ?_
  | with_reducible refine rd_cb ?_
  | with_reducible refine rd_call ?_
  | with_reducible refine rd_un ?_
  | with_reducible refine rd_sl ?_
  | with_reducible refine rd_nopart ?_
  | with_reducible refine rd_part ?_
  | with_reducible refine rd_intP ?_
  | with_reducible refine rd_rU ?_
  | with_reducible refine rd_fld ?_
  | with_reducible refine rd_eqI ?_
  | with_reducible refine rd_neI ?_
  | with_reducible refine rd_mko ?_
  | with_reducible refine rd_bm ?_
  | with_reducible refine rd_gsub ?_
  | with_reducible refine rd_i0 ?_)))
theorem ok_law_is_then (T : Tx K mg) (B : Bk K mg T) : FnOk P w K mg base CX0 3 B.law_is_then.f B.law_is_then.fd ["web", "house", "state", "sender", "word"] spLIsThen := by
  have G_law_beside := ok_law_beside (P := P) (w := w) (base := base) T B
  have G_law_lets := ok_law_lets (P := P) (w := w) (base := base) T B
  refine B.law_is_then.F.ok sc_law_is_then (fun vs H Q E h => ?_) (fun cdv A outer s H vs Q E hr h => ?_)
  · obtain ⟨m, L, sp, mo, h, f, v, vst, vw, st, wd, rfl, _⟩ := h
    rfl
  · obtain ⟨m, L, sp, mo, h, f, v, vst, vw, st, wd, rfl, hv, R, hst, hs, hw, q⟩ := h
    obtain ⟨wa, wc, wx, rfl, hwa, hwc, hwx⟩ := pl_plan hv
    obtain ⟨sa, b1, b2, b3, rfl, hsa, g1, g2, g3⟩ := pl_st' hst
    obtain ⟨wda, rfl, hwd⟩ := pl_word hw
    refine ⟨_, (pss_cons (ps_set (i := 5) sc_law_is_then.nd rfl (Or.inl rfl) (pe_call G_law_beside (hr.mono (by decide)) rfl B.law_beside.m B.law_beside.F.kp B.law_beside.b .nil pass0 (pa_cons (pv 0) (pa_cons (pv 1) pa_nil))))
      (C8.pss_cut (ps_if (PW.pt (pw_or (pt_cmpR op_notIn_seq (pv 3) (pv 5) rfl) (pw_or1 (PW.pt (pw_and (pt_cmpR op_eq (pv 1) (pe_ix ix_tup (pv 0) pe_int (fun _ _ => rfl)) (nomark _)) (pw_and1 (pt_cmpR op_eq (pe_ix ix_tup (pv 2) pe_int (fun _ _ => rfl)) pe_str (nomark _)))))))) (pss_one (ps_ret pe_bl)) pss_nil)
      (pss_cons (ps_set (i := 6) sc_law_is_then.nd rfl (Or.inl rfl) (pe_bm PySem.F.plainAttrs_list PySem.F.slot_list_index PySem.F.type_list_index mt_index (pv 5) (pa_cons (pv 3) pa_nil)))
      (pss_cons (ps_set (i := 7) sc_law_is_then.nd rfl (Or.inl rfl) (pe_op op_sub (pe_op op_add (pe_call G_law_lets (hr.mono (by decide)) rfl B.law_lets.m B.law_lets.F.kp B.law_lets.b .nil pass0 (pa_cons (pv 0) (pa_cons (pv 3) (pa_cons (pv 1) pa_nil)))) (pe_ix ix_tup (pe_ix ix_tup (pv 2) pe_int (fun _ _ => rfl)) (pv 6) (fun _ _ => rfl))) (pe_ix ix_tup (pe_ix ix_tup (pv 2) pe_int (fun _ _ => rfl)) (pv 6) (fun _ _ => rfl))))
      (pss_cons (ps_if (PW.pt (pw_and (pt_cmpR op_in_seq (pe_ix ix_tup (pv 4) pe_int (fun _ _ => rfl)) (pe_lst (pa_cons pe_str (pa_cons pe_str pa_nil))) rfl) (pw_and1 (pt_cmpR op_gt (pe_ix ix_tup (pv 4) pe_int (fun _ _ => rfl)) (pv 7) (nomark _))))) (pss_one (ps_ret pe_bl)) pss_nil)
      (pss_cons (ps_if (pt_cmpR op_eq (pe_ix ix_tup (pv 4) pe_int (fun _ _ => rfl)) pe_str (nomark _)) (pss_one (ps_ret (pe_and (pe_cmpR op_eq (pv 3) (pe_ix ix_tup (pv 0) pe_int (fun _ _ => rfl)) (nomark _)) (pe_one (pe_cmpR op_eq (pe_ix ix_tup (pv 2) pe_int (fun _ _ => rfl)) pe_str (nomark _)))))) pss_nil)
      (pss_one (ps_ret (pe_or (pe_cmpR op_notIn_seq (pe_ix ix_tup (pv 4) pe_int (fun _ _ => rfl)) (pe_lst (pa_cons pe_str (pa_cons pe_str pa_nil))) rfl) (pe_one (pe_cmpR op_ne (pe_ix ix_tup (pe_ix ix_tup (pv 2) pe_int (fun _ _ => rfl)) (pv 6) (fun _ _ => rfl)) pe_int (nomark _)))))))))))), ?_⟩
    walk_at "rd"
    refine ⟨m, L, sp, mo, h, .ref wa, rfl, hv, R, fun r H1 s1 nr hr1 => ?_⟩
    walk_at "rd"
    by_cases hf : f ∈ nbL L h
    · refine ⟨fun σ1 H2 => σ1 = [some (.ref wa), some (.int h), some (.ref sa), some (.int f), some (.ref wda), some (.ref r), none, none] ∧ H2 = H1 ∧ (decide (h = sp) && !st.up) = false, ?_, ?_⟩
      · walk_at "rd"
        refine ⟨r, _, rfl, .inl (SqL.of hr1), rfl, all_flat, ?_⟩
        rw [inV_ints, if_pos rfl]
        walk_at "rd"
        refine rd_no (by rw [decide_eq_true hf]; rfl) ?_
        walk_at "rd"
        refine rd_ixT (s1 _ _ hwa) rfl ?_
        walk_at "rd"
        by_cases eh : h = sp
        · refine rd_yes (decide_eq_true eh) ?_
          walk_at "rd"
          refine rd_ixT (s1 _ _ hsa) rfl ?_
          walk_at "rd"
          refine rd_eq rfl ?_
          rw [stg_asleep]
          walk_at "rd"
          cases eu : st.up with
          | false =>
            refine rd_yes rfl ?_
            walk_at "rd"
            have := q H1 s1
            rw [show canW (evOf L h) (decide (h = sp)) (decide (f = sp)) st ((nbL L h).idxOf f) wd = false by
              unfold canW
              rw [decide_eq_true eh, eu]
              rfl, Bool.and_false] at this
            exact this
          | true =>
            refine rd_no rfl ?_
            exact ⟨rfl, rfl, by rw [Bool.not_true, Bool.and_false]⟩
        · refine rd_no (decide_eq_false eh) ?_
          exact ⟨rfl, rfl, by rw [decide_eq_false eh, Bool.false_and]⟩
      · rintro σ1 H2 ⟨rfl, rfl, home⟩
        have hi : (nbL L h).idxOf f < (nbL L h).length := List.idxOf_lt_length_iff.mpr hf
        have q2 : ∀ H', Same H H' → Q (.bl (canB (evOf L h) (decide (f = sp)) st ((nbL L h).idxOf f) wd)) H' := fun H' s' => by
          have := q H' s'
          rw [decide_eq_true hf, Bool.true_and] at this
          unfold canW at this
          rw [home, Bool.not_false, Bool.true_and] at this
          exact this
        clear q
        have hinn : gi (evOf L h).inn ((nbL L h).idxOf f) = capOf L f h := by
          refine gi_of ?_
          show ((nbL L h).map fun b => capOf L b h)[_]? = _
          rw [List.getElem?_map, List.getElem?_eq_getElem hi, List.getElem_idxOf]
          rfl
        have s1wa := s1 _ _ hwa
        have hwd1 := s1 _ _ hwd
        have ls1 := hs.l1
        have ls3 := hs.l3
        have hev : (evOf L h).nb.length = (nbL L h).length := rfl
        walk_at "rd"
        refine ⟨.inl ⟨rfl, _, SqL.of hr1⟩, ?_⟩
        walk_at "rd"
        refine rd_idxL hr1 hf ?_
        generalize (nbL L h).idxOf f = j at hi q2 hinn ⊢
        walk_at "rd"
        refine ⟨m, L, sp, mo, f, h, .ref wa, rfl, hv.s s1, fun H3 s3 => ?_⟩
        have s13 := s1.trans s3
        walk_at "rd"
        refine rd_ixT (s13 _ _ hsa) rfl ?_
        walk_at "rd"
        refine rd_ixT (s13 _ _ g1) (at_gi (by omega)) ?_
        walk_at "rd"
        refine rd_ixT (s13 _ _ hsa) rfl ?_
        walk_at "rd"
        refine rd_ixT (s13 _ _ g3) (at_gi (by omega)) ?_
        walk_at "rd"
        refine rd_ixT (s13 _ _ hwd) at0 ?_
        walk_at "rd"
        refine rd_disp rfl fun t1 n1 => ?_
        have s4 := same_new (o := .lst [.str "pour", .str "push"]) n1
        have s14 := s13.trans s4
        refine ⟨t1, _, rfl, .inl (SqL.of upd_same), rfl, rfl, ?_⟩
        rw [if_neg Bool.false_ne_true, inV_two]
        generalize upd H3 t1 (.lst [.str "pour", .str "push"]) = H4 at s4 s14 ⊢
        have pos3 : 0 ≤ gi st.snt j := hs.pos _ (List.mem_of_getElem? (gi_get (by omega)))
        have hwd4 := s14 _ _ hwd
        have hsa4 := s14 _ _ hsa
        have g34 := s14 _ _ g3
        cases wd with
        | pour u =>
          walk_at "rd"
          refine rd_yes rfl ?_
          walk_at "rd"
          refine rd_ixT hwd4 rfl ?_
          walk_at "rd"
          have eb : canB (evOf L h) (decide (f = sp)) st j (.pour u) = ((decide (f = sp) && !st.up) && decide (u ≤ gi (evOf L h).inn j + gi st.str j - gi st.snt j)) := rfl
          rw [eb, hinn] at q2
          refine rd_ite (fun e1 => ?_) (fun e1 => ?_)
          · walk_at "rd"
            have := q2 H4 s14
            rw [show decide (u ≤ capOf L f h + gi st.str j - gi st.snt j) = false from decide_eq_false (by have := of_decide_eq_true e1; omega), Bool.and_false] at this
            exact this
          · rw [show decide (u ≤ capOf L f h + gi st.str j - gi st.snt j) = true from decide_eq_true (by have := of_decide_eq_false e1; omega), Bool.and_true] at q2
            walk_at "rd"
            refine rd_ixT hwd4 rfl ?_
            walk_at "rd"
            refine rd_eq rfl ?_
            walk_at "rd"
            refine rd_yes rfl ?_
            walk_at "rd"
            refine rd_ixT (s14 _ _ hwa) rfl ?_
            walk_at "rd"
            refine rd_ite (fun e2 => ?_) (fun e2 => ?_)
            · walk_at "rd"
              refine rd_ixT hsa4 rfl ?_
              walk_at "rd"
              refine rd_eq rfl ?_
              rw [stg_asleep]
              have := q2 H4 s14
              rw [e2, Bool.true_and] at this
              exact this
            · have := q2 H4 s14
              rw [e2, Bool.false_and] at this
              exact this
        | push u k =>
          walk_at "rd"
          refine rd_yes rfl ?_
          walk_at "rd"
          refine rd_ixT hwd4 rfl ?_
          walk_at "rd"
          have eb : canB (evOf L h) (decide (f = sp)) st j (.push u k) = decide (u ≤ gi (evOf L h).inn j + gi st.str j - gi st.snt j) := rfl
          rw [eb, hinn] at q2
          refine rd_ite (fun e1 => ?_) (fun e1 => ?_)
          · walk_at "rd"
            have := q2 H4 s14
            rw [show decide (u ≤ capOf L f h + gi st.str j - gi st.snt j) = false from decide_eq_false (by have := of_decide_eq_true e1; omega)] at this
            exact this
          · rw [show decide (u ≤ capOf L f h + gi st.str j - gi st.snt j) = true from decide_eq_true (by have := of_decide_eq_false e1; omega)] at q2
            walk_at "rd"
            refine rd_ixT hwd4 rfl ?_
            walk_at "rd"
            refine rd_eq rfl ?_
            walk_at "rd"
            refine rd_no rfl ?_
            walk_at "rd"
            refine rd_ixT hwd4 rfl ?_
            walk_at "rd"
            refine rd_disp rfl fun t2 n2 => ?_
            have s5 := same_new (o := .lst [.str "yes", .str "no"]) n2
            refine ⟨t2, _, rfl, .inl (SqL.of upd_same), rfl, rfl, ?_⟩
            rw [if_pos rfl, inV_two]
            refine ⟨_, rfl, ?_⟩
            refine rd_yes rfl ?_
            exact q2 _ (s14.trans s5)
        | yes =>
          walk_at "rd"
          refine rd_no rfl ?_
          refine rd_no rfl ?_
          walk_at "rd"
          refine rd_ixT hwd4 rfl ?_
          walk_at "rd"
          refine rd_eq rfl ?_
          walk_at "rd"
          refine rd_no rfl ?_
          walk_at "rd"
          refine rd_ixT hwd4 rfl ?_
          walk_at "rd"
          refine rd_disp rfl fun t2 n2 => ?_
          have s5 := same_new (o := .lst [.str "yes", .str "no"]) n2
          refine ⟨t2, _, rfl, .inl (SqL.of upd_same), rfl, rfl, ?_⟩
          rw [if_pos rfl, inV_two]
          refine ⟨_, rfl, ?_⟩
          refine rd_no rfl ?_
          walk_at "rd"
          refine rd_ixT (s5 _ _ hsa4) rfl ?_
          walk_at "rd"
          refine rd_ixT (s5 _ _ g34) (at_gi (by omega)) ?_
          walk_at "rd"
          have := q2 _ (s14.trans s5)
          rw [show canB (evOf L h) (decide (f = sp)) st j .yes = decide (gi st.snt j > 0) from rfl, show decide (gi st.snt j > 0) = !decide (gi st.snt j = 0) by
            by_cases z : gi st.snt j = 0
            · rw [z]; rfl
            · rw [decide_eq_true (by omega : gi st.snt j > 0), decide_eq_false z]; rfl] at this
          exact this
        | no k =>
          walk_at "rd"
          refine rd_no rfl ?_
          refine rd_no rfl ?_
          walk_at "rd"
          refine rd_ixT hwd4 rfl ?_
          walk_at "rd"
          refine rd_eq rfl ?_
          walk_at "rd"
          refine rd_no rfl ?_
          walk_at "rd"
          refine rd_ixT hwd4 rfl ?_
          walk_at "rd"
          refine rd_disp rfl fun t2 n2 => ?_
          have s5 := same_new (o := .lst [.str "yes", .str "no"]) n2
          refine ⟨t2, _, rfl, .inl (SqL.of upd_same), rfl, rfl, ?_⟩
          rw [if_pos rfl, inV_two]
          refine ⟨_, rfl, ?_⟩
          refine rd_no rfl ?_
          walk_at "rd"
          refine rd_ixT (s5 _ _ hsa4) rfl ?_
          walk_at "rd"
          refine rd_ixT (s5 _ _ g34) (at_gi (by omega)) ?_
          walk_at "rd"
          have := q2 _ (s14.trans s5)
          rw [show canB (evOf L h) (decide (f = sp)) st j (.no k) = decide (gi st.snt j > 0) from rfl, show decide (gi st.snt j > 0) = !decide (gi st.snt j = 0) by
            by_cases z : gi st.snt j = 0
            · rw [z]; rfl
            · rw [decide_eq_true (by omega : gi st.snt j > 0), decide_eq_false z]; rfl] at this
          exact this
        | rise k =>
          walk_at "rd"
          refine rd_no rfl ?_
          refine rd_no rfl ?_
          walk_at "rd"
          refine rd_ixT hwd4 rfl ?_
          walk_at "rd"
          refine rd_eq rfl ?_
          walk_at "rd"
          refine rd_no rfl ?_
          walk_at "rd"
          refine rd_ixT hwd4 rfl ?_
          walk_at "rd"
          refine rd_disp rfl fun t2 n2 => ?_
          have s5 := same_new (o := .lst [.str "yes", .str "no"]) n2
          refine ⟨t2, _, rfl, .inl (SqL.of upd_same), rfl, rfl, ?_⟩
          rw [if_pos rfl, inV_two]
          refine ⟨_, rfl, ?_⟩
          refine rd_yes rfl ?_
          exact q2 _ (s14.trans s5)
    · refine ⟨fun _ _ => False, ?_, fun _ _ z => z.elim⟩
      walk_at "rd"
      refine ⟨r, _, rfl, .inl (SqL.of hr1), rfl, all_flat, ?_⟩
      rw [inV_ints, if_pos rfl]
      walk_at "rd"
      refine rd_yes (by rw [decide_eq_false hf]; rfl) ?_
      refine rd_yes rfl ?_
      walk_at "rd"
      have := q H1 s1
      rw [decide_eq_false hf, Bool.false_and] at this
      exact this
theorem ok_law_does (T : Tx K mg) (B : Bk K mg T) : FnOk P w K mg base CX0 3 B.law_does.f B.law_does.fd ["web", "s", "out", "sender", "at", "word"] spLDoes := by
  have G_law_with := ok_law_with (P := P) (w := w) (base := base) T B
  have G_law_believes := ok_law_believes (P := P) (w := w) (base := base) T B
  refine B.law_does.F.ok sc_law_does (fun vs H Q E h => ?_) (fun cdv A outer s H vs Q E hr h => ?_)
  · obtain ⟨v, vw, s, o, st, out, f, i, n, wd, rfl, _⟩ := h
    rfl
  · obtain ⟨v, vw, sa, o, st, out, f, i, n, wd, rfl, hst, hout, nso, hol, hls, hi, hw, q⟩ := h
    obtain ⟨wda, rfl, hwd⟩ := pl_word hw
    have l1 := hls.l1
    have l2 := hls.l2
    have l3 := hls.l3
    have le := hls.le
    have hout' := hout
    obtain ⟨xs, hox, hxs⟩ := hout
    have lxs := hxs.len
    rw [List.length_map] at lxs
    obtain ⟨c1, c2, c3, p0, p1, p2, p3⟩ := id hst
    refine ⟨_, (pss_one (ps_if (pt_cmpR op_eq (pe_ix ix_tup (pv 5) pe_int (fun _ _ => rfl)) pe_str (nomark _)) (pss_cons (ps_asg pe_str (pg_sub (pv 1) pe_int set_list))
      (pss_cons (ps_asg (pe_op op_add (pe_ix ix_list (pv 1) pe_int (fun _ _ => rfl)) (pe_ix ix_tup (pv 5) pe_int (fun _ _ => rfl))) (pg_sub (pv 1) pe_int set_list))
      (pss_one (ps_asg (pe_call G_law_with (hr.mono (by decide)) rfl B.law_with.m B.law_with.F.kp B.law_with.b .nil pass0 (pa_cons (pe_ix ix_list (pv 1) pe_int (fun _ _ => rfl)) (pa_cons (pv 4) (pa_cons (pe_op op_sub (pe_ix ix_tup (pe_ix ix_list (pv 1) pe_int (fun _ _ => rfl)) (pv 4) (fun _ _ => rfl)) (pe_ix ix_tup (pv 5) pe_int (fun _ _ => rfl))) pa_nil)))) (pg_sub (pv 1) pe_int set_list))))) (pss_one (ps_if (pt_cmpR op_eq (pe_ix ix_tup (pv 5) pe_int (fun _ _ => rfl)) pe_str (nomark _)) (pss_cons (ps_expr (pe_call G_law_believes (hr.mono (by decide)) rfl B.law_believes.m B.law_believes.F.kp B.law_believes.b .nil pass0 (pa_cons (pv 1) (pa_cons (pv 4) (pa_cons (pe_ix ix_tup (pv 5) pe_int (fun _ _ => rfl)) pa_nil)))))
      (pss_one (ps_if (pt_cmpR op_eq (pe_ix ix_tup (pv 5) pe_int (fun _ _ => rfl)) (pe_op op_add (pe_ix ix_list (pv 1) pe_int (fun _ _ => rfl)) pe_int) (nomark _)) (pss_cons (ps_asg (pe_op op_add (pe_ix ix_list (pv 1) pe_int (fun _ _ => rfl)) (pe_ix ix_tup (pv 5) pe_int (fun _ _ => rfl))) (pg_sub (pv 1) pe_int set_list))
      (pss_cons (ps_asg (pe_call G_law_with (hr.mono (by decide)) rfl B.law_with.m B.law_with.F.kp B.law_with.b .nil pass0 (pa_cons (pe_ix ix_list (pv 1) pe_int (fun _ _ => rfl)) (pa_cons (pv 4) (pa_cons (pe_op op_sub (pe_ix ix_tup (pe_ix ix_list (pv 1) pe_int (fun _ _ => rfl)) (pv 4) (fun _ _ => rfl)) (pe_ix ix_tup (pv 5) pe_int (fun _ _ => rfl))) pa_nil)))) (pg_sub (pv 1) pe_int set_list))
      (pss_one (ps_expr (pe_bm PySem.F.plainAttrs_list PySem.F.slot_list_append PySem.F.type_list_append mt_append (pv 2) (pa_cons (pe_tup (pa_cons (pv 3) (pa_cons (pe_tup (pa_cons pe_str pa_nil)) pa_nil))) pa_nil)))))) (pss_one (ps_expr (pe_bm PySem.F.plainAttrs_list PySem.F.slot_list_append PySem.F.type_list_append mt_append (pv 2) (pa_cons (pe_tup (pa_cons (pv 3) (pa_cons (pe_tup (pa_cons pe_str (pa_cons (pe_ix ix_list (pv 1) pe_int (fun _ _ => rfl)) pa_nil))) pa_nil))) pa_nil))))))) (pss_one (ps_if (pt_cmpR op_eq (pe_ix ix_tup (pv 5) pe_int (fun _ _ => rfl)) pe_str (nomark _)) (pss_one (ps_asg (pe_call G_law_with (hr.mono (by decide)) rfl B.law_with.m B.law_with.F.kp B.law_with.b .nil pass0 (pa_cons (pe_ix ix_list (pv 1) pe_int (fun _ _ => rfl)) (pa_cons (pv 4) (pa_cons pe_int pa_nil)))) (pg_sub (pv 1) pe_int set_list))) (pss_one (ps_if (pt_cmpR op_eq (pe_ix ix_tup (pv 5) pe_int (fun _ _ => rfl)) pe_str (nomark _)) (pss_cons (ps_asg (pe_op op_add (pe_ix ix_list (pv 1) pe_int (fun _ _ => rfl)) (pe_ix ix_tup (pe_ix ix_list (pv 1) pe_int (fun _ _ => rfl)) (pv 4) (fun _ _ => rfl))) (pg_sub (pv 1) pe_int set_list))
      (pss_cons (ps_asg (pe_call G_law_with (hr.mono (by decide)) rfl B.law_with.m B.law_with.F.kp B.law_with.b .nil pass0 (pa_cons (pe_ix ix_list (pv 1) pe_int (fun _ _ => rfl)) (pa_cons (pv 4) (pa_cons (pe_op op_sub (pe_ix ix_tup (pe_ix ix_list (pv 1) pe_int (fun _ _ => rfl)) (pv 4) (fun _ _ => rfl)) (pe_ix ix_tup (pe_ix ix_list (pv 1) pe_int (fun _ _ => rfl)) (pv 4) (fun _ _ => rfl))) pa_nil)))) (pg_sub (pv 1) pe_int set_list))
      (pss_cons (ps_asg (pe_call G_law_with (hr.mono (by decide)) rfl B.law_with.m B.law_with.F.kp B.law_with.b .nil pass0 (pa_cons (pe_ix ix_list (pv 1) pe_int (fun _ _ => rfl)) (pa_cons (pv 4) (pa_cons pe_int pa_nil)))) (pg_sub (pv 1) pe_int set_list))
      (pss_one (ps_expr (pe_call G_law_believes (hr.mono (by decide)) rfl B.law_believes.m B.law_believes.F.kp B.law_believes.b .nil pass0 (pa_cons (pv 1) (pa_cons (pv 4) (pa_cons (pe_ix ix_tup (pv 5) pe_int (fun _ _ => rfl)) pa_nil))))))))) (pss_one (ps_expr (pe_call G_law_believes (hr.mono (by decide)) rfl B.law_believes.m B.law_believes.F.kp B.law_believes.b .nil pass0 (pa_cons (pv 1) (pa_cons (pv 4) (pa_cons (pe_ix ix_tup (pv 5) pe_int (fun _ _ => rfl)) pa_nil)))))))))))))), ?_⟩
    cases wd with
    | pour u =>
      walk_at "rd"
      refine rd_ixT hwd rfl ?_
      walk_at "rd"
      refine rd_eq rfl ?_
      walk_at "rd"
      refine rd_yes rfl ?_
      walk_at "rd"
      refine rd_setLs p0 rfl fun H1 e1 => ?_
      obtain ⟨la, F1⟩ := lst_up p0 p1 p2 p3 e1
      obtain ⟨a1, a2, a3, p0, p1, p2, p3⟩ := la
      walk_at "rd"
      refine rd_ixL p0 rfl ?_
      walk_at "rd"
      refine rd_ixT (F1.2 _ _ hwd) rfl ?_
      walk_at "rd"
      refine rd_setLs p0 rfl fun H2 e2 => ?_
      obtain ⟨la, F2⟩ := lst_held p0 p1 p2 p3 e2
      obtain ⟨a1, a2, a3, p0, p1, p2, p3⟩ := la
      have F12 := F1.trans F2
      walk_at "rd"
      refine rd_ixL p0 rfl ?_
      walk_at "rd"
      refine rd_ixL p0 rfl ?_
      walk_at "rd"
      refine rd_ixT p1 (at_gi (by show i < st.str.length; omega)) ?_
      walk_at "rd"
      refine rd_ixT (F12.2 _ _ hwd) rfl ?_
      walk_at "rd"
      refine ⟨st.str, i, _, a1, rfl, p1, by omega, by omega, fun r3 H3 s3 hr3 => ?_⟩
      walk_at "rd"
      refine rd_setLs (s3 _ _ p0) rfl fun H4 e4 => ?_
      obtain ⟨la, F4⟩ := lst_str (t := { st with up := true, held := st.held + u }) (s3 _ _ p0) (s3 _ _ p1) (s3 _ _ p2) (s3 _ _ p3) hr3 e4
      have F := F12.trans ((Fx.same s3).trans F4)
      have o4 : LOut H4 o out := hout'.fx F (by simpa using nso.symm)
      refine q _ (F.sub (by simp)) ?_ (by rw [show (done st i (.pour u)).2.map (fun x => (f, x)) = [] from rfl, List.append_nil]; exact o4)
      have : (done st i (.pour u)).1 = { st with up := true, held := st.held + u, str := st.str.set i (gi st.str i - u) } := by
        show ({ up := true, ht := st.ht, held := st.held - -u, str := st.str.set i (gi st.str i + -u), bel := st.bel, snt := st.snt } : St) = _
        rw [show st.held - -u = st.held + u by omega, show gi st.str i + -u = gi st.str i - u by omega]
      rw [this]
      exact la
    | push u k =>
      walk_at "rd"
      refine rd_ixT hwd rfl ?_
      walk_at "rd"
      refine rd_eq rfl ?_
      walk_at "rd"
      refine rd_no rfl ?_
      walk_at "rd"
      refine rd_ixT hwd rfl ?_
      walk_at "rd"
      refine rd_eq rfl ?_
      walk_at "rd"
      refine rd_yes rfl ?_
      walk_at "rd"
      refine rd_ixT hwd rfl ?_
      refine ⟨sa, st, i, k, rfl, hst, by omega, by omega, fun H1 F1 lb => ?_⟩
      obtain ⟨a1, a2, a3, p0, p1, p2, p3⟩ := id lb
      have hox1 := F1.1 _ _ (by simpa using nso.symm) hox
      have hxs1 := hxs.t F1.2
      have hwd1 := F1.2 _ _ hwd
      walk_at "rd"
      refine rd_ixT hwd1 rfl ?_
      walk_at "rd"
      refine rd_ixL p0 rfl ?_
      walk_at "rd"
      rw [done_push] at q
      refine rd_ite (fun e1 => ?_) (fun e1 => ?_)
      · have e1' : k = st.ht + 1 := of_decide_eq_true e1
        rw [if_pos e1'] at q
        walk_at "rd"
        refine rd_ixL p0 rfl ?_
        walk_at "rd"
        refine rd_ixT hwd1 rfl ?_
        walk_at "rd"
        refine rd_setLs p0 rfl fun H2 e2 => ?_
        obtain ⟨la, F2⟩ := lst_held p0 p1 p2 p3 e2
        obtain ⟨a1, a2, a3, p0, p1, p2, p3⟩ := la
        walk_at "rd"
        refine rd_ixL p0 rfl ?_
        walk_at "rd"
        refine rd_ixL p0 rfl ?_
        walk_at "rd"
        refine rd_ixT p1 (at_gi (by show i < st.str.length; omega)) ?_
        walk_at "rd"
        refine rd_ixT (F2.2 _ _ hwd1) rfl ?_
        walk_at "rd"
        refine ⟨st.str, i, _, a1, rfl, p1, by omega, by omega, fun r3 H3 s3 hr3 => ?_⟩
        walk_at "rd"
        refine rd_setLs (s3 _ _ p0) rfl fun H4 e4 => ?_
        obtain ⟨la, F4⟩ := lst_str (t := { st.blv i k with held := st.held + u }) (s3 _ _ p0) (s3 _ _ p1) (s3 _ _ p2) (s3 _ _ p3) hr3 e4
        have F := F2.trans ((Fx.same s3).trans F4)
        have hox4 := F.1 _ _ (by simpa using nso.symm) hox1
        have hxs4 := hxs1.t F.2
        walk_at "rd"
        refine ⟨.inl ⟨rfl, xs, SqL.of hox4⟩, ?_⟩
        walk_at "rd"
        refine rd_disp rfl fun t5 n5 => ?_
        walk_at "rd"
        refine rd_disp rfl fun t6 n6 => ?_
        have s7 := same_new (o := .tup [.str "yes"]) n5
        have s8 := same_new (o := .tup [.int f, .ref t5]) n6
        have s68 := s7.trans s8
        have hnd := pl_nd (wd := .yes) (upd_same (H := upd H4 t5 (.tup [.str "yes"])) (a := t6) (o := .tup [.int f, .ref t5])) (pl_wd (wd := .yes) (s8 _ _ upd_same))
        walk_at "rd"
        refine rd_appendS (s68 _ _ hox4) (by omega) fun H7 e7 => ?_
        obtain ⟨o7, F7⟩ := out_put (s68 _ _ hox4) (hxs4.s s68) hnd e7
        refine q _ ((F1.sub (by simp)).trans ((F.sub (by simp)).trans ((Fx.same s68).trans (F7.sub (by simp))))) ?_ o7
        have : (St.go (st.blv i k) i (-u)) = { st.blv i k with held := st.held + u, str := st.str.set i (gi st.str i - u) } := by
          show ({ up := st.up, ht := st.ht, held := st.held - -u, str := st.str.set i (gi st.str i + -u), bel := (st.blv i k).bel, snt := st.snt } : St) = _
          rw [show st.held - -u = st.held + u by omega, show gi st.str i + -u = gi st.str i - u by omega]
          rfl
        show LSt H7 sa (St.go (st.blv i k) i (-u))
        rw [this]
        exact (la.s s68).fx F7 (by simpa using nso)
      · have e1' : ¬ k = st.ht + 1 := of_decide_eq_false e1
        rw [if_neg e1'] at q
        walk_at "rd"
        refine ⟨.inl ⟨rfl, xs, SqL.of hox1⟩, ?_⟩
        walk_at "rd"
        refine rd_ixL p0 rfl ?_
        refine rd_disp rfl fun t5 n5 => ?_
        walk_at "rd"
        refine rd_disp rfl fun t6 n6 => ?_
        have s7 := same_new (o := .tup [.str "no", .int st.ht]) n5
        have s8 := same_new (o := .tup [.int f, .ref t5]) n6
        have s68 := s7.trans s8
        have hnd := pl_nd (wd := .no st.ht) (upd_same (H := upd H1 t5 (.tup [.str "no", .int st.ht])) (a := t6) (o := .tup [.int f, .ref t5])) (pl_wd (wd := .no st.ht) (s8 _ _ upd_same))
        walk_at "rd"
        refine rd_appendS (s68 _ _ hox1) (by omega) fun H7 e7 => ?_
        obtain ⟨o7, F7⟩ := out_put (s68 _ _ hox1) (hxs1.s s68) hnd e7
        exact q _ ((F1.sub (by simp)).trans ((Fx.same s68).trans (F7.sub (by simp)))) ((lb.s s68).fx F7 (by simpa using nso)) o7
    | yes =>
      have e0 : (done st i .yes).2.map (fun x => (f, x)) = [] := rfl
      rw [e0, List.append_nil] at q
      walk_at "rd"
      refine rd_ixT hwd rfl ?_
      walk_at "rd"
      refine rd_eq rfl ?_
      walk_at "rd"
      refine rd_no rfl ?_
      walk_at "rd"
      refine rd_ixT hwd rfl ?_
      walk_at "rd"
      refine rd_eq rfl ?_
      walk_at "rd"
      refine rd_no rfl ?_
      walk_at "rd"
      refine rd_ixT hwd rfl ?_
      walk_at "rd"
      refine rd_eq rfl ?_
      walk_at "rd"
      refine rd_yes rfl ?_
      walk_at "rd"
      refine rd_ixL p0 rfl ?_
      walk_at "rd"
      refine ⟨st.snt, i, 0, c3, rfl, p3, by omega, by omega, fun r3 H3 s3 hr3 => ?_⟩
      walk_at "rd"
      refine rd_setLs (s3 _ _ p0) rfl fun H4 e4 => ?_
      obtain ⟨la, F4⟩ := lst_snt (s3 _ _ p0) (s3 _ _ p1) (s3 _ _ p2) (s3 _ _ p3) hr3 e4
      exact q _ ((Fx.same s3).trans (F4.sub (by simp))) la ((hout'.s s3).fx F4 (by simpa using nso.symm))
    | no k =>
      have e0 : (done st i (.no k)).2.map (fun x => (f, x)) = [] := rfl
      rw [e0, List.append_nil] at q
      walk_at "rd"
      refine rd_ixT hwd rfl ?_
      walk_at "rd"
      refine rd_eq rfl ?_
      walk_at "rd"
      refine rd_no rfl ?_
      walk_at "rd"
      refine rd_ixT hwd rfl ?_
      walk_at "rd"
      refine rd_eq rfl ?_
      walk_at "rd"
      refine rd_no rfl ?_
      walk_at "rd"
      refine rd_ixT hwd rfl ?_
      walk_at "rd"
      refine rd_eq rfl ?_
      walk_at "rd"
      refine rd_no rfl ?_
      walk_at "rd"
      refine rd_ixT hwd rfl ?_
      walk_at "rd"
      refine rd_eq rfl ?_
      walk_at "rd"
      refine rd_yes rfl ?_
      walk_at "rd"
      refine rd_ixL p0 rfl ?_
      walk_at "rd"
      refine rd_ixL p0 rfl ?_
      walk_at "rd"
      refine rd_ixT p3 (at_gi (by omega)) ?_
      walk_at "rd"
      refine rd_setLs p0 rfl fun H2 e2 => ?_
      obtain ⟨la, F2⟩ := lst_held p0 p1 p2 p3 e2
      obtain ⟨a1, a2, a3, p0, p1, p2, p3⟩ := la
      walk_at "rd"
      refine rd_ixL p0 rfl ?_
      walk_at "rd"
      refine rd_ixL p0 rfl ?_
      walk_at "rd"
      refine rd_ixT p1 (at_gi (by show i < st.str.length; omega)) ?_
      walk_at "rd"
      refine rd_ixL p0 rfl ?_
      walk_at "rd"
      refine rd_ixT p3 (at_gi (by show i < st.snt.length; omega)) ?_
      walk_at "rd"
      refine ⟨st.str, i, _, a1, rfl, p1, by omega, by omega, fun r3 H3 s3 hr3 => ?_⟩
      walk_at "rd"
      refine rd_setLs (s3 _ _ p0) rfl fun H4 e4 => ?_
      obtain ⟨la, F4⟩ := lst_str (t := { st with held := st.held + gi st.snt i }) (s3 _ _ p0) (s3 _ _ p1) (s3 _ _ p2) (s3 _ _ p3) hr3 e4
      obtain ⟨a1, a2, a3, p0, p1, p2, p3⟩ := la
      walk_at "rd"
      refine rd_ixL p0 rfl ?_
      walk_at "rd"
      refine ⟨st.snt, i, 0, a3, rfl, p3, by omega, by omega, fun r5 H5 s5 hr5 => ?_⟩
      walk_at "rd"
      refine rd_setLs (s5 _ _ p0) rfl fun H6 e6 => ?_
      obtain ⟨la, F6⟩ := lst_snt (t := { st with held := st.held + gi st.snt i, str := st.str.set i (gi st.str i - gi st.snt i) }) (s5 _ _ p0) (s5 _ _ p1) (s5 _ _ p2) (s5 _ _ p3) hr5 e6
      have F := F2.trans ((Fx.same s3).trans (F4.trans ((Fx.same s5).trans F6)))
      walk_at "rd"
      refine rd_ixT (F.2 _ _ hwd) rfl ?_
      refine ⟨sa, _, i, k, rfl, la, by show i < st.bel.length; omega, by show st.bel.length ≤ 100; omega, fun H7 F7 lb => ?_⟩
      have FF := F.trans F7
      refine q _ (FF.sub (by simp)) ?_ (hout'.fx FF (by simpa using nso.symm))
      have : (done st i (.no k)).1 = St.blv { st with held := st.held + gi st.snt i, str := st.str.set i (gi st.str i - gi st.snt i), snt := st.snt.set i 0 } i k := by
        show St.blv ({ up := st.up, ht := st.ht, held := st.held - -gi st.snt i, str := st.str.set i (gi st.str i + -gi st.snt i), bel := st.bel, snt := st.snt.set i 0 } : St) i k = _
        rw [show st.held - -gi st.snt i = st.held + gi st.snt i by omega, show gi st.str i + -gi st.snt i = gi st.str i - gi st.snt i by omega]
      rw [this]
      exact lb
    | rise k =>
      have e0 : (done st i (.rise k)).2.map (fun x => (f, x)) = [] := rfl
      rw [e0, List.append_nil] at q
      walk_at "rd"
      refine rd_ixT hwd rfl ?_
      walk_at "rd"
      refine rd_eq rfl ?_
      walk_at "rd"
      refine rd_no rfl ?_
      walk_at "rd"
      refine rd_ixT hwd rfl ?_
      walk_at "rd"
      refine rd_eq rfl ?_
      walk_at "rd"
      refine rd_no rfl ?_
      walk_at "rd"
      refine rd_ixT hwd rfl ?_
      walk_at "rd"
      refine rd_eq rfl ?_
      walk_at "rd"
      refine rd_no rfl ?_
      walk_at "rd"
      refine rd_ixT hwd rfl ?_
      walk_at "rd"
      refine rd_eq rfl ?_
      walk_at "rd"
      refine rd_no rfl ?_
      walk_at "rd"
      refine rd_ixT hwd rfl ?_
      refine ⟨sa, st, i, k, rfl, hst, by omega, by omega, fun H7 F7 lb => ?_⟩
      exact q _ (F7.sub (by simp)) lb (hout'.fx F7 (by simpa using nso.symm))
end
end Mw

/-! L7 -/
namespace Mw
open PySem L2
def dueH (L : List Tie) (sp mo h : Int) (st : St) (f : Int) (wd : Wd) : PyData := match heardM (evOf L h) sp mo h st f wd with
  | none => refD "word"
  | some r => toldD r
theorem dueH_none {L : List Tie} {sp mo h f : Int} {st : St} {wd : Wd} (z : heardM (evOf L h) sp mo h st f wd = none) : dueH L sp mo h st f wd = refD "word" := by
  unfold dueH
  rw [z]
theorem dueH_some {L : List Tie} {sp mo h f : Int} {st : St} {wd : Wd} {r : St × List (Int × Wd)} (z : heardM (evOf L h) sp mo h st f wd = some r) : dueH L sp mo h st f wd = toldD r := by
  unfold dueH
  rw [z]
def spLHeard : Sp := fun vs H Q _ => ∃ (m : Int) (L : List Tie) (sp mo h f : Int) (v vst vw : V) (st : St) (wd : Wd), vs = [v, .int h, vst, .int f, vw] ∧ Pl H (planD m L sp mo) v ∧ Right m L sp mo ∧ Pl H st.d vst ∧ SOk (evOf L h) st ∧ Pl H wd.d vw ∧
  ∀ t H', Same H H' → Pl H' (dueH L sp mo h st f wd) t → Q t H'
section
variable {P : Program} {w : World} {K : PySem.W.Frag} {mg : Str → Option Value} {base : Heap}
local macro_rules | `(tactic| walk_at "rd") => `(tactic| (repeat (first
  | ((with_reducible refine' rd_var ?h0 ?_); (case h0 => rfl))
  | with_reducible refine rd_c ?_
  | with_reducible refine rd_op ?_
  | with_reducible refine rd_nil ?_
  | with_reducible refine rd_cons ?_
  | with_reducible refine rd_tup ?_
  | with_reducible refine rd_lst ?_
  | with_reducible refine rd_ifs ?_
  | with_reducible refine rd_seq ?_
  | with_reducible refine rd_next ?_
  | with_reducible refine rd_ret ?_
  | with_reducible refine rd_asg ?_
  | ((with_reducible refine' rd_gset ?hs ?_); (case hs => ((simp only [L2.start, List.map_cons, List.map_nil, List.length_cons, List.length_nil, List.cons_append, List.nil_append, List.set_cons_zero, List.set_cons_succ, Nat.reduceAdd, Nat.reduceSub, Nat.zero_add, List.reduceReplicate]); rfl)))
  | with_reducible refine rd_drop ?_
  | with_reducible refine rd_test ?_
  | with_reducible refine rd_B ?_
  | with_reducible refine rd_bl ?_
  | with_reducible refine rd_blP ?_
  | with_reducible refine rd_andV ?_
  | with_reducible refine rd_orV ?_
  | with_reducible refine rd_notV ?_
  | with_reducible refine rd_and ?_
  | with_reducible refine rd_or ?_
  | with_reducible refine rd_not ?_
  | with_reducible refine rd_chain ?_
  | with_reducible refine rd_dput ?_
  | with_reducible refine rd_dget ?_
  | with_reducible refine rd_cb ?_
  | with_reducible refine rd_call ?_
  | with_reducible refine rd_un ?_
  | with_reducible refine rd_sl ?_
  | with_reducible refine rd_nopart ?_
  | with_reducible refine rd_part ?_
  | with_reducible refine rd_intP ?_
  | with_reducible refine rd_rU ?_
  | with_reducible refine rd_fld ?_
  | with_reducible refine rd_eqI ?_
  | with_reducible refine rd_neI ?_
  | with_reducible refine rd_mko ?_
  | with_reducible refine rd_bm ?_
  | with_reducible refine rd_gsub ?_
  | with_reducible refine rd_i0 ?_)))
theorem ok_law_heard (T : Tx K mg) (B : Bk K mg T) : FnOk P w K mg base CX0 4 B.law_heard.f B.law_heard.fd ["web", "house", "state", "sender", "word"] spLHeard := by
  have G_law_is_then := ok_law_is_then (P := P) (w := w) (base := base) T B
  have G_law_does := ok_law_does (P := P) (w := w) (base := base) T B
  have G_law_beside := ok_law_beside (P := P) (w := w) (base := base) T B
  have G_law_acts := ok_law_acts (P := P) (w := w) (base := base) T B
  refine B.law_heard.F.ok sc_law_heard (fun vs H Q E h => ?_) (fun cdv A outer s H vs Q E hr h => ?_)
  · obtain ⟨m, L, sp, mo, h, f, v, vst, vw, st, wd, rfl, _⟩ := h
    rfl
  · obtain ⟨m, L, sp, mo, h, f, v, vst, vw, st, wd, rfl, hv, R, hst, hs, hw, q⟩ := h
    obtain ⟨wa, wc, wx, rfl, hwa, hwc, hwx⟩ := pl_plan hv
    obtain ⟨sa, b1, b2, b3, rfl, hsa, g1, g2, g3⟩ := pl_st' hst
    have hnb := nb_len R h
    refine ⟨_, (pss_cons (ps_if (pt_not (pt_val (pe_call G_law_is_then (hr.mono (by decide)) rfl B.law_is_then.m B.law_is_then.F.kp B.law_is_then.b .nil pass0 (pa_cons (pv 0) (pa_cons (pv 1) (pa_cons (pv 2) (pa_cons (pv 3) (pa_cons (pv 4) pa_nil)))))))) (pss_one (ps_ret (pe_tup (pa_cons pe_str (pa_cons pe_str pa_nil))))) pss_nil)
      (pss_cons (ps_set (i := 5) sc_law_heard.nd rfl (Or.inl rfl) (pe_callTy call_list_of (by rfl) T.b_list (by decide +kernel) (pa_cons (pv 2) pa_nil)))
      (pss_cons (ps_set (i := 6) sc_law_heard.nd rfl (Or.inl rfl) (pe_lst pa_nil))
      (pss_cons (ps_expr (pe_call G_law_does (hr.mono (by decide)) rfl B.law_does.m B.law_does.F.kp B.law_does.b .nil pass0 (pa_cons (pv 0) (pa_cons (pv 5) (pa_cons (pv 6) (pa_cons (pv 3) (pa_cons (pe_bm PySem.F.plainAttrs_list PySem.F.slot_list_index PySem.F.type_list_index mt_index (pe_call G_law_beside (hr.mono (by decide)) rfl B.law_beside.m B.law_beside.F.kp B.law_beside.b .nil pass0 (pa_cons (pv 0) (pa_cons (pv 1) pa_nil))) (pa_cons (pv 3) pa_nil)) (pa_cons (pv 4) pa_nil))))))))
      (C8.pss_cut (ps_if (PW.pt (pw_and (pt_cmpR op_notIn_seq (pv 1) (pe_slice sl_tupA (pv 0) (po_some pe_int) po_none) rfl) (pw_and1 (pt_cmpR op_eq (pe_ix ix_list (pv 5) pe_int (fun _ _ => rfl)) pe_str (nomark _))))) (pss_one (ps_expr (pe_call G_law_acts (hr.mono (by decide)) rfl B.law_acts.m B.law_acts.F.kp B.law_acts.b .nil pass0 (pa_cons (pv 0) (pa_cons (pv 1) (pa_cons (pv 5) (pa_cons (pv 6) pa_nil))))))) pss_nil)
      (pss_one (ps_ret (pe_tup (pa_cons pe_str (pa_cons (pe_callTy call_tuple_of (by rfl) T.b_tuple (by decide +kernel) (pa_cons (pv 5) pa_nil)) (pa_cons (pe_callTy call_tuple_of (by rfl) T.b_tuple (by decide +kernel) (pa_cons (pv 6) pa_nil)) pa_nil))))))))))), ?_⟩
    walk_at "rd"
    refine ⟨m, L, sp, mo, h, f, .ref wa, .ref sa, vw, st, wd, rfl, hv, R, hst, hs, hw, fun H1 s1 => ?_⟩
    walk_at "rd"
    cases hcan : (decide (f ∈ nbL L h) && canW (evOf L h) (decide (h = sp)) (decide (f = sp)) st ((nbL L h).idxOf f) wd) with
    | false =>
      refine rd_yes rfl ?_
      walk_at "rd"
      refine rd_disp rfl fun t nt => ?_
      refine q _ _ (s1.trans (same_new nt)) ?_
      rw [dueH_none (heardM_no hcan)]
      exact pl_tup upd_same (plAll_cons pl_str (plAll_cons pl_str plAll_nil))
    | true =>
      refine rd_no rfl ?_
      rw [dueH_some (heardM_yes (e := evOf L h) (mo := mo) hcan)] at q
      rw [Bool.and_eq_true, decide_eq_true_eq] at hcan
      have hf := hcan.1
      have hi : (nbL L h).idxOf f < (nbL L h).length := List.idxOf_lt_length_iff.mpr hf
      walk_at "rd"
      refine ⟨sa, _, rfl, .inr (SqT.of (s1 _ _ hsa)), fun s ns => ?_⟩
      have s2 := same_new (o := .lst [.str (stgS st.up), .int st.ht, .int st.held, .ref b1, .ref b2, .ref b3]) ns
      walk_at "rd"
      refine rd_disp rfl fun o no => ?_
      have s3 := same_new (o := .lst []) no
      have nso : s ≠ o := ne_of_none upd_same no
      have S12 := s1.trans s2
      have S := S12.trans s3
      have ns0 : H s = none := s1.free ns
      have no0 : H o = none := S12.free no
      have l3 : LSt _ s st := ⟨b1, b2, b3, s3 _ _ upd_same, S _ _ g1, S _ _ g2, S _ _ g3⟩
      have o3 : LOut _ o [] := ⟨[], upd_same (H := upd H1 s (.lst [.str (stgS st.up), .int st.ht, .int st.held, .ref b1, .ref b2, .ref b3])), plAll_nil⟩
      generalize upd (upd H1 s (.lst [.str (stgS st.up), .int st.ht, .int st.held, .ref b1, .ref b2, .ref b3])) o (.lst []) = H3 at l3 o3 S ⊢
      clear s2 s3
      walk_at "rd"
      refine ⟨m, L, sp, mo, h, .ref wa, rfl, hv.s S, R, fun r H4 s4 nr hr4 => ?_⟩
      have S4 := S.trans s4
      walk_at "rd"
      refine ⟨.inl ⟨rfl, _, SqL.of hr4⟩, ?_⟩
      walk_at "rd"
      refine rd_idxL hr4 hf ?_
      walk_at "rd"
      refine ⟨.ref wa, vw, s, o, st, [], f, (nbL L h).idxOf f, (nbL L h).length, wd, rfl, l3.s s4, o3.s s4, nso, Nat.zero_le _, ⟨hs.l1, hs.l2, hs.l3, by omega⟩, hi, hw.s S4, fun H5 F5 l5 o5 => ?_⟩
      rw [List.nil_append] at o5
      have S5 : Same H H5 := Fx.fresh S4 F5 (by intro a ha; rcases List.mem_cons.mp ha with rfl | ha <;> simp_all)
      have hs4 := done_ok hs ((nbL L h).idxOf f) wd
      have hdl := done_len st ((nbL L h).idxOf f) wd
      have q5 : ∀ t H', Same H H' → Pl H' (toldD (if (done st ((nbL L h).idxOf f) wd).1.up = true ∧ h ≠ sp ∧ h ≠ mo then ((acts (fuel (evOf L h)) (evOf L h) (done st ((nbL L h).idxOf f) wd).1).1, (done st ((nbL L h).idxOf f) wd).2.map (fun x => (f, x)) ++ (acts (fuel (evOf L h)) (evOf L h) (done st ((nbL L h).idxOf f) wd).1).2) else ((done st ((nbL L h).idxOf f) wd).1, (done st ((nbL L h).idxOf f) wd).2.map fun x => (f, x)))) t → Q t H' := q
      clear q
      generalize done st ((nbL L h).idxOf f) wd = dn at l5 o5 hs4 hdl q5
      refine ⟨fun σ' H' => ∃ (sb : St) (ob : List (Int × Wd)), σ' = [some (.ref wa), some (.int h), some (.ref sa), some (.int f), some vw, some (.ref s), some (.ref o)] ∧ Same H H' ∧ LSt H' s sb ∧ LOut H' o ob ∧ (∀ t H'', Same H H'' → Pl H'' (toldD (sb, ob)) t → Q t H''), ?_, ?_⟩
      · have noact : ∀ z : ¬ (dn.1.up = true ∧ h ≠ sp ∧ h ≠ mo), ∀ t H'', Same H H'' → Pl H'' (toldD (dn.1, dn.2.map fun x => (f, x))) t → Q t H'' := fun z t H'' s hp => by
          refine q5 t H'' s ?_
          rw [if_neg z]
          exact hp
        obtain ⟨a1, a2, a3, p0, p1, p2, p3⟩ := id l5
        walk_at "rd"
        refine rd_slP (S5 _ _ hwa) fun t1 H6 s6 ht1 => ?_
        rw [show (2 : Int) = ((2 : Nat) : Int) from rfl, cut_from (i := 2) (by simp)] at ht1
        replace ht1 : H6 t1 = some (.tup ([sp, mo].map V.int)) := ht1
        refine ⟨t1, _, rfl, .inr (SqT.of ht1), rfl, rfl, ?_⟩
        rw [inV_ints, if_pos rfl]
        walk_at "rd"
        by_cases e2 : h ∈ [sp, mo]
        · refine rd_no (by rw [decide_eq_true e2]; rfl) ?_
          refine ⟨dn.1, _, rfl, S5.trans s6, l5.s s6, o5.s s6, noact fun z => ?_⟩
          rcases (by simpa using e2 : h = sp ∨ h = mo) with y | y
          · exact z.2.1 y
          · exact z.2.2 y
        · refine rd_yes (by rw [decide_eq_false e2]; rfl) ?_
          have e3 : h ≠ sp ∧ h ≠ mo := by simpa using e2
          walk_at "rd"
          refine rd_ixL (s6 _ _ p0) rfl ?_
          walk_at "rd"
          refine rd_eq rfl ?_
          rw [stg_awake]
          walk_at "rd"
          refine rd_ite (fun e1 => ?_) (fun e1 => ?_)
          · walk_at "rd"
            refine ⟨m, L, sp, mo, h, .ref wa, s, o, dn.1, _, rfl, hv.s (S5.trans s6), R, l5.s s6, o5.s s6, nso, by rw [List.length_map]; omega, hs4, fun H7 F7 l7 o7 => ?_⟩
            refine ⟨_, _, rfl, Fx.fresh (S5.trans s6) F7 (by intro a ha; rcases List.mem_cons.mp ha with rfl | ha <;> simp_all), l7, o7, fun t H'' s hp => ?_⟩
            refine q5 t H'' s ?_
            rw [if_pos ⟨e1, e3.1, e3.2⟩]
            exact hp
          · refine ⟨dn.1, _, rfl, S5.trans s6, l5.s s6, o5.s s6, noact fun z => ?_⟩
            rw [z.1] at e1
            cases e1
      · rintro σ' H' ⟨sb, ob, rfl, S', ⟨a1, a2, a3, p0, p1, p2, p3⟩, ⟨xs, hox, hxs⟩, qq⟩
        walk_at "rd"
        refine ⟨s, _, rfl, .inl ⟨SqL.of p0, fun t6 n6 => ?_⟩⟩
        have s6 := same_new (o := .tup [.str (stgS sb.up), .int sb.ht, .int sb.held, .ref a1, .ref a2, .ref a3]) n6
        walk_at "rd"
        refine ⟨o, _, rfl, .inl ⟨SqL.of (s6 _ _ hox), fun t7 n7 => ?_⟩⟩
        have s7 := same_new (o := .tup xs) n7
        walk_at "rd"
        refine rd_disp rfl fun t8 n8 => ?_
        have s8 := same_new (o := .tup [.str "told", .ref t6, .ref t7]) n8
        have s78 := s7.trans s8
        refine qq _ _ (((S'.trans s6).trans s7).trans s8) (pl_tup upd_same (plAll_cons pl_str (plAll_cons ?_ (plAll_cons (pl_tup (s8 _ _ upd_same) (((hxs.s s6).s s7).s s8)) plAll_nil))))
        exact pl_st (s78 _ _ upd_same) (pl_intsD (s78 _ _ (s6 _ _ p1))) (pl_intsD (s78 _ _ (s6 _ _ p2))) (pl_intsD (s78 _ _ (s6 _ _ p3)))
end
end Mw

/-! L8 -/
namespace Mw
open PySem L2
def StsAt (H : Hp) (a : Addr) (m : Int) (S : Sts) : Prop := ∃ xs, H a = some (.lst xs) ∧ PlAll H ((List.range m.toNat).map fun (i : Nat) => (S (i : Int)).d) xs
theorem StsAt.get {H : Hp} {a : Addr} {m : Int} {S : Sts} (h : StsAt H a m S) {i : Int} (h0 : 0 ≤ i) (h1 : i < m) : ∃ xs v, H a = some (.lst xs) ∧ atI xs i = some v ∧ Pl H (S i).d v := by
  obtain ⟨xs, ha, hx⟩ := h
  have e : ((List.range m.toNat).map fun (i : Nat) => (S (i : Int)).d)[i.toNat]? = some (S i).d := by
    rw [List.getElem?_map, List.getElem?_range (by omega)]
    show some (S ((i.toNat : Nat) : Int)).d = _
    rw [show ((i.toNat : Nat) : Int) = i by omega]
  obtain ⟨v, hv, hp⟩ := hx.get e
  exact ⟨xs, v, ha, at_of (j := i.toNat) (by omega) hv, hp⟩
theorem StsAt.fx {ps : List Addr} {H H' : Hp} {a : Addr} {m : Int} {S : Sts} (h : StsAt H a m S) (x : Fx ps H H') (n : a ∉ ps) : StsAt H' a m S := by
  obtain ⟨xs, ha, hx⟩ := h
  exact ⟨xs, x.1 _ _ n ha, hx.t x.2⟩
theorem StsAt.s {H H' : Hp} {a : Addr} {m : Int} {S : Sts} (h : StsAt H a m S) (x : Same H H') : StsAt H' a m S := h.fx (ps := []) (Fx.same x) (by simp)
/-- what the hand's draws leave -/
theorem HandAt.fx {p l : Addr} {H H' : Hp} (h : HandAt p l H) (k : Keep p H H') : Fx [p] H H' := ⟨fun b o n e => k b o (by simpa using n) e, h.kt k⟩
def spLAny : Sp := fun vs H Q _ => ∃ (p l : Addr), vs = [.ref p] ∧ HandAt p l H ∧ ∀ (wd : Wd) t H', wd.Ok → Pl H' wd.d t → HandAt p l H' → Keep p H H' → Q t H'
def spLNear : Sp := fun vs H Q _ => ∃ (p l : Addr) (m : Int) (L : List Tie) (sp mo h f : Int) (v : V) (a : Addr) (S : Sts), vs = [.ref p, v, .ref a, .int h, .int f] ∧ HandAt p l H ∧ Pl H (planD m L sp mo) v ∧ Right m L sp mo ∧ StsAt H a m S ∧ a ≠ p ∧ 0 ≤ h ∧ h < m ∧ f ∈ nbL L h ∧
  SOk (evOf L h) (S h) ∧ gi (S h).str ((nbL L h).idxOf f) ≤ 1000000 ∧ 0 ≤ gi (S h).snt ((nbL L h).idxOf f) ∧ 0 ≤ (S h).ht ∧ (S h).ht ≤ 900 ∧ ∀ (wd : Wd) t H', wd.Ok → Pl H' wd.d t → HandAt p l H' → Keep p H H' → Q t H'
section
variable {P : Program} {w : World} {K : PySem.W.Frag} {mg : Str → Option Value} {base : Heap}
local macro_rules | `(tactic| walk_at "rd") => `(tactic| (repeat (first
  | ((with_reducible refine' rd_var ?h0 ?_); (case h0 => rfl))
  | with_reducible refine rd_c ?_
  | with_reducible refine rd_op ?_
  | with_reducible refine rd_nil ?_
  | with_reducible refine rd_cons ?_
  | with_reducible refine rd_tup ?_
  | with_reducible refine rd_lst ?_
  | with_reducible refine rd_ifs ?_
  | with_reducible refine rd_seq ?_
  | with_reducible refine rd_next ?_
  | with_reducible refine rd_ret ?_
  | with_reducible refine rd_asg ?_
  | ((with_reducible refine' rd_gset ?hs ?_); (case hs => ((simp only [L2.start, List.map_cons, List.map_nil, List.length_cons, List.length_nil, List.cons_append, List.nil_append, List.set_cons_zero, List.set_cons_succ, Nat.reduceAdd, Nat.reduceSub, Nat.zero_add, List.reduceReplicate]); rfl)))
  | with_reducible refine rd_drop ?_
  | with_reducible refine rd_test ?_
  | with_reducible refine rd_B ?_
  | with_reducible refine rd_bl ?_
  | with_reducible refine rd_blP ?_
  | with_reducible refine rd_andV ?_
  | with_reducible refine rd_orV ?_
  | with_reducible refine rd_notV ?_
  | with_reducible refine rd_and ?_
  | with_reducible refine rd_or ?_
  | with_reducible refine rd_not ?_
  | with_reducible refine rd_chain ?_
  | with_reducible refine rd_dput ?_
  | with_reducible refine rd_dget ?_
  | with_reducible refine rd_cb ?_
  | with_reducible refine rd_call ?_
  | with_reducible refine rd_un ?_
  | with_reducible refine rd_sl ?_
  | with_reducible refine rd_nopart ?_
  | with_reducible refine rd_part ?_
  | with_reducible refine rd_intP ?_
  | with_reducible refine rd_rU ?_
  | with_reducible refine rd_fld ?_
  | with_reducible refine rd_eqI ?_
  | with_reducible refine rd_neI ?_
  | with_reducible refine rd_mko ?_
  | with_reducible refine rd_bm ?_
  | with_reducible refine rd_gsub ?_
  | with_reducible refine rd_i0 ?_)))
theorem ok_law_any_word (T : Tx K mg) (B : Bk K mg T) : FnOk P w K mg base CX0 2 B.law_any_word.f B.law_any_word.fd ["hand"] spLAny := by
  have G_law_draw := ok_law_draw (P := P) (w := w) (base := base) T B
  refine B.law_any_word.F.ok sc_law_any_word (fun vs H Q E h => ?_) (fun cdv A outer s H vs Q E hr h => ?_)
  · obtain ⟨p, l, rfl, _⟩ := h
    rfl
  · obtain ⟨p, l, rfl, hh, q⟩ := h
    refine ⟨_, (pss_cons (ps_set (i := 1) sc_law_any_word.nd rfl (Or.inl rfl) (pe_op op_add pe_int (pe_call G_law_draw (hr.mono (by decide)) rfl B.law_draw.m B.law_draw.F.kp B.law_draw.b .nil pass0 (pa_cons (pv 0) (pa_cons (pe_ix ix_list (pe_lst (pa_cons pe_int (pa_cons pe_int (pa_cons pe_int pa_nil)))) (pe_call G_law_draw (hr.mono (by decide)) rfl B.law_draw.m B.law_draw.F.kp B.law_draw.b .nil pass0 (pa_cons (pv 0) (pa_cons pe_int pa_nil))) (fun _ _ => rfl)) pa_nil)))))
      (pss_cons (ps_set (i := 2) sc_law_any_word.nd rfl (Or.inl rfl) (pe_call G_law_draw (hr.mono (by decide)) rfl B.law_draw.m B.law_draw.F.kp B.law_draw.b .nil pass0 (pa_cons (pv 0) (pa_cons pe_int pa_nil))))
      (pss_cons (ps_set (i := 3) sc_law_any_word.nd rfl (Or.inl rfl) (pe_lst (pa_cons (pe_tup (pa_cons pe_str (pa_cons (pv 1) pa_nil))) (pa_cons (pe_tup (pa_cons pe_str (pa_cons (pv 1) (pa_cons (pv 2) pa_nil)))) (pa_cons (pe_tup (pa_cons pe_str (pa_cons (pv 1) (pa_cons pe_int pa_nil)))) (pa_cons (pe_tup (pa_cons pe_str pa_nil)) (pa_cons (pe_tup (pa_cons pe_str (pa_cons (pv 2) pa_nil))) (pa_cons (pe_tup (pa_cons pe_str (pa_cons (pv 2) pa_nil))) pa_nil))))))))
      (pss_one (ps_ret (pe_ix ix_list (pv 3) (pe_call G_law_draw (hr.mono (by decide)) rfl B.law_draw.m B.law_draw.F.kp B.law_draw.b .nil pass0 (pa_cons (pv 0) (pa_cons pe_int pa_nil))) (fun _ _ => rfl))))))), ?_⟩
    walk_at "rd"
    refine rd_disp rfl fun t1 n1 => ?_
    have s1 := same_new (o := .lst [.int 3, .int 60, .int 999999]) n1
    have np := hh.ne n1
    walk_at "rd"
    refine ⟨p, l, 3, rfl, by omega, by omega, hh.keep s1, fun r1 H1 a0 a1 hh1 k1 => ?_⟩
    have h1 := k1 _ _ np upd_same
    have K1 := (Keep.same (p := p) s1).trans k1
    have main : ∀ (x : Int), 1 ≤ x → x ≤ 999999 → (fun x H1 => x = x) x H1 := fun _ _ _ => rfl
    have : ∃ x : Int, 1 ≤ x ∧ x ≤ 999999 ∧ atI [V.int 3, .int 60, .int 999999] r1 = some (.int x) := by
      have : r1 = 0 ∨ r1 = 1 ∨ r1 = 2 := by omega
      rcases this with rfl | rfl | rfl
      · exact ⟨3, by omega, by omega, rfl⟩
      · exact ⟨60, by omega, by omega, rfl⟩
      · exact ⟨999999, by omega, by omega, rfl⟩
    obtain ⟨x, x1, x2, ex⟩ := this
    refine rd_ixL h1 ex ?_
    walk_at "rd"
    refine ⟨p, l, x, rfl, by omega, by omega, hh1, fun u H2 u0 u1 hh2 k2 => ?_⟩
    walk_at "rd"
    refine ⟨p, l, 12, rfl, by omega, by omega, hh2, fun ht H3 t0 t1 hh3 k3 => ?_⟩
    have K3 := K1.trans (k2.trans k3)
    walk_at "rd"
    refine rd_disp rfl fun w1 m1 => ?_
    have S1 := same_new (o := .tup [.str "pour", .int (1 + u)]) m1
    walk_at "rd"
    refine rd_disp rfl fun w2 m2 => ?_
    have S2 := S1.trans (same_new (o := .tup [.str "push", .int (1 + u), .int ht]) m2)
    have e1 := (same_new (o := .tup [.str "push", .int (1 + u), .int ht]) m2) _ _ (upd_same (H := H3) (a := w1) (o := .tup [.str "pour", .int (1 + u)]))
    have e2 := upd_same (H := upd H3 w1 (.tup [.str "pour", .int (1 + u)])) (a := w2) (o := .tup [.str "push", .int (1 + u), .int ht])
    generalize upd (upd H3 w1 (.tup [.str "pour", .int (1 + u)])) w2 (.tup [.str "push", .int (1 + u), .int ht]) = H4 at S2 e1 e2 ⊢
    walk_at "rd"
    refine rd_disp rfl fun w3 m3 => ?_
    have S3 := same_new (o := .tup [.str "push", .int (1 + u), .int 1]) m3
    have e3 := upd_same (H := H4) (a := w3) (o := .tup [.str "push", .int (1 + u), .int 1])
    generalize upd H4 w3 (.tup [.str "push", .int (1 + u), .int 1]) = H5 at S3 e3 ⊢
    walk_at "rd"
    refine rd_disp rfl fun w4 m4 => ?_
    have S4 := same_new (o := .tup [.str "yes"]) m4
    have e4 := upd_same (H := H5) (a := w4) (o := .tup [.str "yes"])
    generalize upd H5 w4 (.tup [.str "yes"]) = H6 at S4 e4 ⊢
    walk_at "rd"
    refine rd_disp rfl fun w5 m5 => ?_
    have S5 := same_new (o := .tup [.str "no", .int ht]) m5
    have e5 := upd_same (H := H6) (a := w5) (o := .tup [.str "no", .int ht])
    generalize upd H6 w5 (.tup [.str "no", .int ht]) = H7 at S5 e5 ⊢
    walk_at "rd"
    refine rd_disp rfl fun w6 m6 => ?_
    have S6 := same_new (o := .tup [.str "rise", .int ht]) m6
    have e6 := upd_same (H := H7) (a := w6) (o := .tup [.str "rise", .int ht])
    generalize upd H7 w6 (.tup [.str "rise", .int ht]) = H8 at S6 e6 ⊢
    walk_at "rd"
    refine rd_disp rfl fun w7 m7 => ?_
    have S7 := same_new (o := .lst [.ref w1, .ref w2, .ref w3, .ref w4, .ref w5, .ref w6]) m7
    have SS : Same H3 _ := S2.trans (S3.trans (S4.trans (S5.trans (S6.trans S7))))
    have hh7 := hh3.keep SS
    have n7 := (hh3.keep (S2.trans (S3.trans (S4.trans (S5.trans S6))))).ne m7
    walk_at "rd"
    refine ⟨p, l, 6, rfl, by omega, by omega, hh7, fun r7 H9 b0 b1 hh9 k9 => ?_⟩
    have kt := hh7.kt k9
    have h7 := k9 _ _ n7 upd_same
    have KK := K3.trans ((Keep.same SS).trans k9)
    have o1 : Pl H9 (Wd.pour (1 + u)).d (.ref w1) := pl_wd (kt _ _ (S7 _ _ (S6 _ _ (S5 _ _ (S4 _ _ (S3 _ _ e1))))))
    have o2 : Pl H9 (Wd.push (1 + u) ht).d (.ref w2) := pl_wd (kt _ _ (S7 _ _ (S6 _ _ (S5 _ _ (S4 _ _ (S3 _ _ e2))))))
    have o3 : Pl H9 (Wd.push (1 + u) 1).d (.ref w3) := pl_wd (kt _ _ (S7 _ _ (S6 _ _ (S5 _ _ (S4 _ _ e3)))))
    have o4 : Pl H9 (Wd.yes).d (.ref w4) := pl_wd (kt _ _ (S7 _ _ (S6 _ _ (S5 _ _ e4))))
    have o5 : Pl H9 (Wd.no ht).d (.ref w5) := pl_wd (kt _ _ (S7 _ _ (S6 _ _ e5)))
    have o6 : Pl H9 (Wd.rise ht).d (.ref w6) := pl_wd (kt _ _ (S7 _ _ e6))
    have : r7 = 0 ∨ r7 = 1 ∨ r7 = 2 ∨ r7 = 3 ∨ r7 = 4 ∨ r7 = 5 := by omega
    rcases this with rfl | rfl | rfl | rfl | rfl | rfl
    · exact rd_ixL (v := .ref w1) h7 rfl (q (.pour (1 + u)) _ _ ⟨by omega, by omega⟩ o1 hh9 KK)
    · exact rd_ixL (v := .ref w2) h7 rfl (q (.push (1 + u) ht) _ _ ⟨⟨by omega, by omega⟩, by omega, by omega⟩ o2 hh9 KK)
    · exact rd_ixL (v := .ref w3) h7 rfl (q (.push (1 + u) 1) _ _ ⟨⟨by omega, by omega⟩, by omega, by omega⟩ o3 hh9 KK)
    · exact rd_ixL (v := .ref w4) h7 rfl (q .yes _ _ trivial o4 hh9 KK)
    · exact rd_ixL (v := .ref w5) h7 rfl (q (.no ht) _ _ ⟨by omega, by omega⟩ o5 hh9 KK)
    · exact rd_ixL (v := .ref w6) h7 rfl (q (.rise ht) _ _ ⟨by omega, by omega⟩ o6 hh9 KK)
theorem ok_law_near_word (T : Tx K mg) (B : Bk K mg T) : FnOk P w K mg base CX0 2 B.law_near_word.f B.law_near_word.fd ["hand", "web", "states", "house", "sender"] spLNear := by
  have G_law_draw := ok_law_draw (P := P) (w := w) (base := base) T B
  have G_law_beside := ok_law_beside (P := P) (w := w) (base := base) T B
  have G_law_lets := ok_law_lets (P := P) (w := w) (base := base) T B
  refine B.law_near_word.F.ok sc_law_near_word (fun vs H Q E h => ?_) (fun cdv A outer s H vs Q E hr h => ?_)
  · obtain ⟨p, l, m, L, sp, mo, h, f, v, a, S, rfl, _⟩ := h
    rfl
  · obtain ⟨p, l, m, L, sp, mo, h, f, v, a, S, rfl, hh, hv, R, hS, nap, h0, h1, hf, hs, b1, b2, b3, b4, q⟩ := h
    refine ⟨_, (pss_cons (ps_set (i := 5) sc_law_near_word.nd rfl (Or.inl rfl) (pe_bm PySem.F.plainAttrs_list PySem.F.slot_list_index PySem.F.type_list_index mt_index (pe_call G_law_beside (hr.mono (by decide)) rfl B.law_beside.m B.law_beside.F.kp B.law_beside.b .nil pass0 (pa_cons (pv 1) (pa_cons (pv 3) pa_nil))) (pa_cons (pv 4) pa_nil)))
      (pss_cons (ps_set (i := 6) sc_law_near_word.nd rfl (Or.inl rfl) (pe_ix ix_list (pv 2) (pv 3) (fun _ _ => rfl)))
      (pss_cons (ps_set (i := 7) sc_law_near_word.nd rfl (Or.inl rfl) (pe_op op_add (pe_op op_sub (pe_op op_add (pe_call G_law_lets (hr.mono (by decide)) rfl B.law_lets.m B.law_lets.F.kp B.law_lets.b .nil pass0 (pa_cons (pv 1) (pa_cons (pv 4) (pa_cons (pv 3) pa_nil)))) (pe_ix ix_tup (pe_ix ix_tup (pv 6) pe_int (fun _ _ => rfl)) (pv 5) (fun _ _ => rfl))) (pe_ix ix_tup (pe_ix ix_tup (pv 6) pe_int (fun _ _ => rfl)) (pv 5) (fun _ _ => rfl))) (pe_call G_law_draw (hr.mono (by decide)) rfl B.law_draw.m B.law_draw.F.kp B.law_draw.b .nil pass0 (pa_cons (pv 0) (pa_cons pe_int pa_nil)))))
      (pss_cons (ps_set (i := 8) sc_law_near_word.nd rfl (Or.inl rfl) (pe_op op_add (pe_ix ix_tup (pv 6) pe_int (fun _ _ => rfl)) (pe_call G_law_draw (hr.mono (by decide)) rfl B.law_draw.m B.law_draw.F.kp B.law_draw.b .nil pass0 (pa_cons (pv 0) (pa_cons pe_int pa_nil)))))
      (pss_one (ps_ret (pe_ix ix_list (pe_lst (pa_cons (pe_tup (pa_cons pe_str (pa_cons (pe_callB (call_max2 rfl) (by rfl) T.b_max (by decide +kernel) (pa_cons pe_int (pa_cons (pv 7) pa_nil))) pa_nil))) (pa_cons (pe_tup (pa_cons pe_str (pa_cons (pe_callB (call_max2 rfl) (by rfl) T.b_max (by decide +kernel) (pa_cons pe_int (pa_cons (pv 7) pa_nil))) (pa_cons (pv 8) pa_nil)))) pa_nil))) (pe_call G_law_draw (hr.mono (by decide)) rfl B.law_draw.m B.law_draw.F.kp B.law_draw.b .nil pass0 (pa_cons (pv 0) (pa_cons pe_int pa_nil))) (fun _ _ => rfl)))))))), ?_⟩
    have hi : (nbL L h).idxOf f < (nbL L h).length := List.idxOf_lt_length_iff.mpr hf
    have ls1 : (S h).str.length = (nbL L h).length := hs.l1
    have ls3 : (S h).snt.length = (nbL L h).length := hs.l3
    have hc := cap_in R f h
    walk_at "rd"
    refine ⟨m, L, sp, mo, h, v, rfl, hv, R, fun r H1 s1 nr hr1 => ?_⟩
    walk_at "rd"
    refine ⟨.inl ⟨rfl, _, SqL.of hr1⟩, ?_⟩
    walk_at "rd"
    refine rd_idxL hr1 hf ?_
    generalize (nbL L h).idxOf f = j at *
    obtain ⟨xs, vs, hxa, hat, hp⟩ := (hS.s s1).get h0 h1
    obtain ⟨sa, c1, c2, c3, rfl, k0, k1, k2, k3⟩ := pl_st' hp
    walk_at "rd"
    refine rd_ixL hxa hat ?_
    walk_at "rd"
    refine ⟨m, L, sp, mo, f, h, v, rfl, hv.s s1, fun H3 s3 => ?_⟩
    have s13 := s1.trans s3
    walk_at "rd"
    refine rd_ixT (s3 _ _ k0) rfl ?_
    walk_at "rd"
    refine rd_ixT (s3 _ _ k1) (at_gi (by omega)) ?_
    walk_at "rd"
    refine rd_ixT (s3 _ _ k0) rfl ?_
    walk_at "rd"
    refine rd_ixT (s3 _ _ k3) (at_gi (by omega)) ?_
    walk_at "rd"
    refine ⟨p, l, 2, rfl, by omega, by omega, hh.keep s13, fun r4 H4 a0 a1 hh4 k4 => ?_⟩
    have kt4 := (hh.keep s13).kt k4
    walk_at "rd"
    refine rd_ixT (kt4 _ _ (s3 _ _ k0)) rfl ?_
    walk_at "rd"
    refine ⟨p, l, 3, rfl, by omega, by omega, hh4, fun r5 H5 a2 a3 hh5 k5 => ?_⟩
    have K5 := (Keep.same (p := p) s13).trans (k4.trans k5)
    walk_at "rd"
    refine ⟨_, _, rfl, ?_⟩
    generalize hU : (if capOf L f h + gi (S h).str j - gi (S h).snt j + r4 > 1 then capOf L f h + gi (S h).str j - gi (S h).snt j + r4 else 1) = U
    have u1 : 1 ≤ U ∧ U < 1000000000 := by
      rw [← hU]
      split <;> omega
    refine rd_disp rfl fun w1 m1 => ?_
    have S1 := same_new (o := .tup [.str "pour", .int U]) m1
    have e1 := upd_same (H := H5) (a := w1) (o := .tup [.str "pour", .int U])
    generalize upd H5 w1 (.tup [.str "pour", .int U]) = H6 at S1 e1 ⊢
    walk_at "rd"
    refine ⟨_, _, rfl, ?_⟩
    rw [hU]
    walk_at "rd"
    refine rd_disp rfl fun w2 m2 => ?_
    have S2 := same_new (o := .tup [.str "push", .int U, .int ((S h).ht + r5)]) m2
    have e2 := upd_same (H := H6) (a := w2) (o := .tup [.str "push", .int U, .int ((S h).ht + r5)])
    generalize upd H6 w2 (.tup [.str "push", .int U, .int ((S h).ht + r5)]) = H7 at S2 e2 ⊢
    walk_at "rd"
    refine rd_disp rfl fun w7 m7 => ?_
    have S7 := same_new (o := .lst [.ref w1, .ref w2]) m7
    have SS : Same H5 _ := S1.trans (S2.trans S7)
    have hh7 := hh5.keep SS
    have n7 := (hh5.keep (S1.trans S2)).ne m7
    walk_at "rd"
    refine ⟨p, l, 2, rfl, by omega, by omega, hh7, fun r7 H9 c0 c1' hh9 k9 => ?_⟩
    have kt := hh7.kt k9
    have h7 := k9 _ _ n7 upd_same
    have KK := K5.trans ((Keep.same SS).trans k9)
    have o1 : Pl H9 (Wd.pour U).d (.ref w1) := pl_wd (kt _ _ (S7 _ _ (S2 _ _ e1)))
    have o2 : Pl H9 (Wd.push U ((S h).ht + r5)).d (.ref w2) := pl_wd (kt _ _ (S7 _ _ e2))
    have : r7 = 0 ∨ r7 = 1 := by omega
    rcases this with rfl | rfl
    · exact rd_ixL (v := .ref w1) h7 rfl (q (.pour U) _ _ ⟨by omega, by omega⟩ o1 hh9 KK)
    · exact rd_ixL (v := .ref w2) h7 rfl (q (.push U ((S h).ht + r5)) _ _ ⟨⟨by omega, by omega⟩, by omega, by omega⟩ o2 hh9 KK)
end
end Mw

/-! MR20 -/
/-! sorted(xs), xs a list of triples (int, int, anything) whose pairs of ints tell them apart. -/
namespace SrtO
open PySem PyProof.Rows Srt
/-- a tuple of two ints and one more thing -/
def IsTri (h : Heap) (v : Value) (x y : Int) : Prop := ∃ a o t u z n, v = .ref a ∧ h.get? a = some o ∧ o.cls = .type "tuple" ∧ o.data = .seq #[.int x t, .int y u, z] n
theorem IsTri.keeps {h h' : Heap} {v : Value} {x y : Int} (p : IsTri h v x y) (k : ∀ b o, h.get? b = some o → o.cls = .type "tuple" → h'.get? b = some o) : IsTri h' v x y := by
  obtain ⟨a, o, t, u, z, n, e, ho, hc, hd⟩ := p
  exact ⟨a, o, t, u, z, n, e, k _ _ ho hc, hc, hd⟩
theorem firsts_tri {h : Heap} {k : Value → Int × Int} : ∀ {vs : List Value}, (∀ v ∈ vs, IsTri h v (k v).1 (k v).2) → ∃ fs : List Value, PySem.W.KatTups h vs fs ∧ fs.length = vs.length ∧ ∀ f ∈ fs, ∃ x t, f = Value.int x t
  | [], _ => ⟨[], PySem.W.KatTups.nil, rfl, fun _ hm => by simp at hm⟩
  | v :: vs, hp => by
    obtain ⟨fs, h1, h2, h3⟩ := firsts_tri (vs := vs) fun v' hm => hp v' (List.mem_cons_of_mem _ hm)
    have h4 := hp v (List.mem_cons_self ..)
    generalize (k v).1 = x at h4
    generalize (k v).2 = y at h4
    obtain ⟨a, o, t, u, z, n, e, ho, hc, hd⟩ := h4
    subst e
    refine ⟨.int x t :: fs, PySem.W.KatTups.cons ho hc hd rfl h1, by rw [List.length_cons, List.length_cons, h2], fun f hm => ?_⟩
    rcases List.mem_cons.mp hm with rfl | hm
    · exact ⟨x, t, rfl⟩
    · exact h3 f hm
section
variable {prog : Program} {w : World} {A : Around} {E : Value → Shared → Prop} {s : Shared}
theorem tri_cmp {vs : List Value} {k : Value → Int × Int} (hp : ∀ v ∈ vs, IsTri s.heap v (k v).1 (k v).2) (hj : ∀ v ∈ vs, ∀ u ∈ vs, k v = k u → v = u) : Cmp prog w A s (tuples' true) (fun p => p.1 ∈ vs) (lt2 fun v u => lexB (k v) (k u)) := by
  intro p q hm hm'
  have h1 := hp _ hm
  have h2 := hp _ hm'
  have hj' := hj _ hm _ hm'
  show wpAny (model prog w) A (keyLt' (tuples' true) p.1 q.1) (fun r s' => s' = s ∧ r = lexB (k p.1) (k q.1)) (fun _ _ => False) s
  unfold lexB
  have hj2 : (k p.1).1 = (k q.1).1 → (k p.1).2 = (k q.1).2 → p.1 = q.1 := fun e1 e2 => hj' (Prod.ext e1 e2)
  clear hj'
  generalize (k p.1).1 = x at h1 hj2 ⊢
  generalize (k p.1).2 = y at h1 hj2 ⊢
  generalize (k q.1).1 = x' at h2 hj2 ⊢
  generalize (k q.1).2 = y' at h2 hj2 ⊢
  obtain ⟨a, o, t, u, z, n, e, ho, hc, hd⟩ := h1
  obtain ⟨a', o', t', u', z', n', e', ho', hc', hd'⟩ := h2
  rw [e, e'] at hj2 ⊢
  refine PySem.W.kat_lt ho hd ho' hd' ?_
  show PySem.W.KatLex prog w A true (decide (3 < 3)) _ [(.int x t, .int x' t'), (.int y u, .int y' u'), (z, z')] 0 s
  refine PySem.W.kat_cons (SeqAt.EqAt.int_int x t x' t' prog w _ _ ?_)
  refine PySem.W.kat_go (fun e1 => ?_) (fun e1 => ?_)
  · have ex : x = x' := by simpa using e1
    refine PySem.W.kat_yes (PySem.W.kat_cons (SeqAt.EqAt.int_int y u y' u' prog w _ _ ?_))
    refine PySem.W.kat_go (fun e2 => ?_) (fun e2 => ?_)
    · have ey : y = y' := by simpa using e2
      have e3 : (if x = x' then decide (y < y') else decide (x < x')) = false := by
        rw [if_pos ex, ey]
        exact decide_eq_false (Int.lt_irrefl _)
      have ea := hj2 ex ey
      cases ea
      rw [ho] at ho'
      cases ho'
      rw [hd] at hd'
      cases hd'
      exact PySem.W.kat_yes (PySem.W.kat_cons (SeqAt.EqAt.same z prog w _ _ (PySem.W.kat_yes (PySem.W.kat_nil ⟨rfl, e3.symm⟩))))
    · have e3 : (if x = x' then decide (y < y') else decide (x < x')) = decide (y < y') := if_pos ex
      refine PySem.W.kat_no (PySem.W.kat_one _ _ (PyProof.Rows.lt_int ?_))
      exact (show s = s ∧ decide (y < y') = (if x = x' then decide (y < y') else decide (x < x')) from ⟨rfl, e3.symm⟩)
  · have ex : ¬ x = x' := by simpa using e1
    have e3 : (if x = x' then decide (y < y') else decide (x < x')) = decide (x < x') := if_neg ex
    exact PySem.W.kat_no (oneLt_int ⟨rfl, e3.symm⟩)
theorem tri_sortable {a : Addr} {vs : List Value} {k : Value → Int × Int} (h0 : 0 < vs.length) (hp : ∀ v ∈ vs, IsTri s.heap v (k v).1 (k v).2) (hj : ∀ v ∈ vs, ∀ u ∈ vs, k v = k u → v = u) (ha : ∀ o, s.heap.get? a = some o → o.cls ≠ .type "tuple") : SortableO prog w A s a vs fun v u => lexB (k v) (k u) := by
  intro h' keep
  have hp' : ∀ v ∈ vs, IsTri h' v (k v).1 (k v).2 := fun v hm => (hp v hm).keeps fun b o e c => keep b o (fun z => by subst z; exact ha o e c) e
  obtain ⟨fs, h1, h2, h3⟩ := firsts_tri hp'
  refine ⟨tuples' true, fun Q E hq => ?_, tri_cmp hp' hj⟩
  refine PySem.W.kat_kind (T := .type "int") h1 (by omega) (fun f hm => ?_) (by rfl) ?_
  · obtain ⟨x, t, rfl⟩ := h3 f hm
    exact PySem.W.Looks.now
  · have e : (Value.type "int" != Value.type "tuple") = true := by first | decide +kernel | rfl | decide
    rw [e]
    exact hq
theorem sorted_tri {l : Addr} {vs : List Value} {k : Value → Int × Int} {Q : Value → Shared → Prop} (hl : s.heap.IsList l vs.toArray) (hz : vs.length ≤ sizeLine) (hp : ∀ v ∈ vs, IsTri s.heap v (k v).1 (k v).2) (hj : ∀ v ∈ vs, ∀ u ∈ vs, k v = k u → v = u)
    (h : ∀ (h' : Heap) (d : Addr) (out : List Value), Srtd (fun v u => lexB (k v) (k u)) out → Stb (fun v u => lexB (k v) (k u)) out vs → (∀ b o, s.heap.get? b = some o → h'.get? b = some o) → s.heap.objs.size ≤ d → (∃ n, h'.get? d = some (seqObj "list" out.toArray n)) → Q (.ref d) { s with heap := h' }) :
    wpAny (model prog w) A (call (.builtin "sorted") [.ref l]) Q E s := by
  refine sorted_ord (swo_lex k) hl hz (fun h2 h₁ a ha kk => ?_) fun out hs hb => ?_
  · refine tri_sortable (s := { s with heap := h₁ }) (by omega) (fun v hm => (hp v hm).keeps fun b o e _ => (kk b o e).2) hj fun o e => ?_
    have e' : some o = some (seqObj "list" vs.toArray 0) := e.symm.trans ha
    cases e'
    intro c
    exact absurd (Value.type.inj c) (by decide)
  · exact h _ _ out hs hb (fun b o e => sortedAll_old e) (Nat.le_succ _) (sortedAll_at s.heap vs out.toArray)
end
end SrtO
namespace L2
open PySem PySem.Spec PyProof.Rows
/-- sorted(xs), xs a list of triples told apart by their two ints: a new list, in their order -/
def rSortedTri (K : PySem.W.Frag) : List V → Hp → VK → Prop := fun vs H Q => ∃ (a : Addr) (xs : List V) (k : V → Int × Int), vs = [V.ref a] ∧ SqL K H a xs ∧ (∀ x ∈ xs, ∃ t z, x = V.ref t ∧ H t = some (.tup [.int (k x).1, .int (k x).2, z])) ∧ (∀ x ∈ xs, ∀ y ∈ xs, k x = k y → x = y) ∧
  ∀ ys p, ys.Perm xs → H p = none → Q (.ref p) (upd H p (.lst ys))
section
variable {X : Cx}
theorem cr_sortedTri : CallR X (.builtin "sorted") (rSortedTri X.K) := by
  intro pins s σ H vs us Q I r h
  obtain ⟨a, xs, k, rfl, hs, hx, hj, q⟩ := h
  obtain ⟨its, rv, hl, hz⟩ := I.list hs
  obtain ⟨u, rfl, ru⟩ := vals1 r
  obtain rfl : u = Value.ref a := ru
  obtain ⟨e1, e2⟩ := refs_back rv fun x m => by
    obtain ⟨t, z, e, _⟩ := hx x m
    exact ⟨t, e⟩
  have hm : ∀ t, Value.ref t ∈ its → V.ref t ∈ xs := fun t hv => by rw [e1]; exact List.mem_map.mpr ⟨_, hv, rfl⟩
  refine SrtO.sorted_tri (k := fun u => k (backV u)) hl.isList (by rw [← rv.length]; exact hz) (fun v hv => ?_) (fun v hv u hu e => ?_) fun h' d out h1 h2 kp hd hn => ?_
  · obtain ⟨t, rfl⟩ := e2 v hv
    obtain ⟨t', z, e, ht⟩ := hx _ (hm t hv)
    cases e
    obtain ⟨_, its2, r2, o, ho, hc, n, hd⟩ := I.hok _ _ ht
    cases r2 with
    | cons ri r2 =>
      cases r2 with
      | cons rj r2 =>
        cases r2 with
        | cons rk r2 =>
          cases r2
          obtain ⟨t1, rfl⟩ := ri
          obtain ⟨t2, rfl⟩ := rj
          exact ⟨t, o, t1, t2, _, n, rfl, ho, hc, hd⟩
  · obtain ⟨t, rfl⟩ := e2 v hv
    obtain ⟨t', rfl⟩ := e2 u hu
    have z := hj _ (hm t hv) _ (hm t' hu) e
    cases z
    rfl
  · have h3 : ∀ u ∈ out, ∃ a, u = Value.ref a := fun u hu => e2 u (h2.perm.mem_iff.mp hu)
    obtain ⟨n, hn⟩ := hn
    have hp : (out.map backV).Perm xs := by
      rw [e1]
      exact h2.perm.map _
    refine ⟨.ref d, upd H d (.lst (out.map backV)), I.laid (t' := s.toks) kp hd ⟨?_, out, n, vals_back h3, hn⟩, rfl, q _ d hp (I.hok.fresh hd)⟩
    rw [hp.length_eq]
    exact hz
end
end L2

/-! MR21 -/
/-! t * k of a tuple that is not empty, k from 0. -/
namespace L2
open PySem PySem.Spec PyProof.Rows
theorem tuple_mul1 (l : Addr) (items : Array Value) (n : Nat) (sl : Array (Option Value)) (dd : Option Addr) (u : Tok) :
    Meets (Builtin.«tuple.__mul__» ⟨[.ref l, .int 1 u], []⟩) (fun _ R s => s.heap.get? l = some { cls := .type "tuple", dict := dd, data := .seq items n, slots := sl } ∧ R (.ok (.ret (Value.ref l))) s) :=
  .of_wp fun prog w A R s h => by
    obtain ⟨hp, g, d, tk, os⟩ := s
    obtain ⟨hl, h⟩ := h
    have f1 := AutoSeq1.idx_int
    have c1 : (items.isEmpty || (1 : Int) == 1) = true := by simp
    wp_walk using wpAny_loadPart' hl
    repeat (first
      | (refine wpAny_ite_false (by decide) ?_; wp_walk using wpAny_loadPart' hl)
      | (refine wpAny_ite_true (decide_eq_true c1) ?_; wp_walk using wpAny_loadPart' hl)
      | (refine wpAny_ite_true c1 ?_; wp_walk using wpAny_loadPart' hl))
    exact ⟨_, rfl, h⟩
theorem tuple_mul0 (l : Addr) (items : Array Value) (n : Nat) (sl : Array (Option Value)) (dd : Option Addr) (u : Tok) (hi : items.isEmpty = false) :
    Meets (Builtin.«tuple.__mul__» ⟨[.ref l, .int 0 u], []⟩) (fun _ R s => s.heap.get? l = some { cls := .type "tuple", dict := dd, data := .seq items n, slots := sl } ∧
      R (.ok (.ret (Value.ref s.heap.objs.size))) { s with heap := s.heap.push { cls := Value.type "tuple", data := Data.seq #[] }, toks := s.toks }) :=
  .of_wp fun prog w A R s h => by
    obtain ⟨hp, g, d, tk, os⟩ := s
    obtain ⟨hl, h⟩ := h
    have f1 := AutoSeq1.idx_int
    have c1 : (items.isEmpty || (0 : Int) == 1) = false := by rw [hi]; decide
    have c2 : (decide ((0 : Int) ≤ 0) || items.isEmpty) = true := by simp
    wp_walk using wpAny_loadPart' hl
    repeat (first
      | (refine wpAny_ite_false (decide_eq_false (by rw [c1]; exact Bool.false_ne_true)) ?_; wp_walk using wpAny_loadPart' hl)
      | (refine wpAny_ite_true c2 ?_; wp_walk using wpAny_loadPart' hl)
      | (refine wpAny_ite_true (decide_eq_true c2) ?_; wp_walk using wpAny_loadPart' hl)
      | (refine wpAny_ite_false (by decide) ?_; wp_walk using wpAny_loadPart' hl))
    exact ⟨_, rfl, h⟩
def rRepZ (K : PySem.W.Frag) : R2 := fun x y H Q => ∃ l k xs, x = .ref l ∧ y = .int k ∧ SqT K H l xs ∧ xs ≠ [] ∧ 0 ≤ k ∧ k ≤ 1000 ∧ xs.length ≤ 1000 ∧ (k = 1 → Q (.ref l) H) ∧ ∀ p, H p = none → Q (.ref p) (upd H p (.tup (List.replicate k.toNat xs).flatten))
section
variable {X : Cx}
theorem op_repZ : OpR X (binaryOp .Mult) (rRepZ X.K) := by
  intro pins s σ H x y v u Q I rx ry h
  obtain ⟨l, k, xs, rfl, rfl, hT, hne, h1, h2, hz, q1, q⟩ := h
  by_cases k2 : 2 ≤ k
  · exact op_repT pins s σ H _ _ v u Q I rx ry ⟨l, k, xs, rfl, rfl, hT, hne, k2, h2, hz, q⟩
  cases rx
  obtain ⟨t, rfl⟩ := ry
  obtain ⟨its, r, ⟨⟨cls, dd, data, sl⟩, ho, hc, n, hd⟩, hs⟩ := I.tuple hT
  simp only at hc hd
  subst hc hd
  have hle : its.length = xs.length := r.length.symm
  have hi : its.toArray.isEmpty = false := by
    cases its with
    | nil => exact absurd (List.eq_nil_of_length_eq_zero hle.symm) hne
    | cons a b => rfl
  have hk : k = 0 ∨ k = 1 := by omega
  rcases hk with rfl | rfl
  · refine wpAny_binaryOp_repeat_ref (T := "tuple") (U := "int") (by decide) ⟨_, ho, rfl⟩ (fun s' => typeIs_int s' 0 t) noFill_tuple_mul F.fills_int_mul F.slot_int_rmul repeat_tuple F.slot_int_index.lookup
      (call_meets F.slot_int_rmul (typeIs_int s 0 t) F.entry_int_rmul (F.args_int_rmul_2 _ _) (int_rmul_tuple 0 t l its.toArray n dd sl)
        ⟨ho, rfl, ⟨_, ho, rfl⟩, call_meets F.slot_tuple_mul ⟨_, ho, rfl⟩ F.entry_tuple_mul (F.args_tuple_mul_2 _ _) (tuple_mul0 l its.toArray n sl dd t hi) ⟨ho, ?_⟩⟩)
    refine ⟨.ref s.heap.objs.size, _, I.laid (t' := s.toks) (o := .tup []) (fun b ob q => Heap.get?_push_of_some _ q) (Nat.le_refl _) ?_, rfl, q _ (I.hok.fresh (Nat.le_refl _))⟩
    exact ⟨Nat.zero_le _, _, .nil, IsTup.new _ _⟩
  · refine wpAny_binaryOp_repeat_ref (T := "tuple") (U := "int") (by decide) ⟨_, ho, rfl⟩ (fun s' => typeIs_int s' 1 t) noFill_tuple_mul F.fills_int_mul F.slot_int_rmul repeat_tuple F.slot_int_index.lookup
      (call_meets F.slot_int_rmul (typeIs_int s 1 t) F.entry_int_rmul (F.args_int_rmul_2 _ _) (int_rmul_tuple 1 t l its.toArray n dd sl)
        ⟨ho, rfl, ⟨_, ho, rfl⟩, call_meets F.slot_tuple_mul ⟨_, ho, rfl⟩ F.entry_tuple_mul (F.args_tuple_mul_2 _ _) (tuple_mul1 l its.toArray n sl dd t) ⟨ho, ?_⟩⟩)
    exact ⟨.ref l, H, I, rfl, q1 rfl⟩
end
end L2

/-! L9 -/
namespace Mw
open PySem L2
def spLBegun : Sp := fun vs H Q _ => ∃ (m : Int) (L : List Tie) (sp mo h : Int) (v : V), vs = [v, .int h] ∧ Pl H (planD m L sp mo) v ∧ Right m L sp mo ∧ ∀ t H', Same H H' → Pl H' (begM m L sp h).d t → Q t H'
theorem rep_zs {k : Nat} : (List.replicate k [V.int 0]).flatten = (List.replicate k (0 : Int)).map V.int := by
  induction k with
  | zero => rfl
  | succ k ih =>
    rw [List.replicate_succ, List.replicate_succ, List.flatten_cons, ih, List.map_cons]
    rfl
theorem rd_repZ {K : PySem.W.Frag} {H : Hp} {Q : VK} {t : Addr} {n : Nat} (h : H t = some (.tup [.int 0])) (hn : n ≤ 1000) (q : ∀ z H', Same H H' → H' z = some (.tup ((List.replicate n (0 : Int)).map V.int)) → Q (.ref z) H') : rRepZ K (.ref t) (.int (n : Nat)) H Q := by
  refine ⟨t, _, _, rfl, rfl, SqT.of h, by simp, by omega, by omega, by simp, fun e => ?_, fun p np => ?_⟩
  · obtain rfl : n = 1 := by omega
    exact q t H (Same.refl H) h
  · refine q p _ (same_new np) ?_
    rw [upd_same, Int.toNat_natCast, rep_zs]
section
variable {P : Program} {w : World} {K : PySem.W.Frag} {mg : Str → Option Value} {base : Heap}
local macro_rules | `(tactic| walk_at "rd") => `(tactic| (repeat (first
  | ((with_reducible refine' rd_var ?h0 ?_); (case h0 => rfl))
  | with_reducible refine rd_c ?_
  | with_reducible refine rd_op ?_
  | with_reducible refine rd_nil ?_
  | with_reducible refine rd_cons ?_
  | with_reducible refine rd_tup ?_
  | with_reducible refine rd_lst ?_
  | with_reducible refine rd_ifs ?_
  | with_reducible refine rd_seq ?_
  | with_reducible refine rd_next ?_
  | with_reducible refine rd_ret ?_
  | with_reducible refine rd_asg ?_
  | ((with_reducible refine' rd_gset ?hs ?_); (case hs => ((simp only [L2.start, List.map_cons, List.map_nil, List.length_cons, List.length_nil, List.cons_append, List.nil_append, List.set_cons_zero, List.set_cons_succ, Nat.reduceAdd, Nat.reduceSub, Nat.zero_add, List.reduceReplicate]); rfl)))
  | with_reducible refine rd_drop ?_
  | with_reducible refine rd_test ?_
  | with_reducible refine rd_B ?_
  | with_reducible refine rd_bl ?_
  | with_reducible refine rd_blP ?_
  | with_reducible refine rd_andV ?_
  | with_reducible refine rd_orV ?_
  | with_reducible refine rd_notV ?_
  | with_reducible refine rd_and ?_
  | with_reducible refine rd_or ?_
  | with_reducible refine rd_not ?_
  | with_reducible refine rd_chain ?_
  | with_reducible refine rd_dput ?_
  | with_reducible refine rd_dget ?_
  | with_reducible refine rd_cb ?_
  | with_reducible refine rd_call ?_
  | with_reducible refine rd_un ?_
  | with_reducible refine rd_sl ?_
  | with_reducible refine rd_nopart ?_
  | with_reducible refine rd_part ?_
  | with_reducible refine rd_intP ?_
  | with_reducible refine rd_rU ?_
  | with_reducible refine rd_fld ?_
  | with_reducible refine rd_eqI ?_
  | with_reducible refine rd_neI ?_
  | with_reducible refine rd_mko ?_
  | with_reducible refine rd_bm ?_
  | with_reducible refine rd_gsub ?_
  | with_reducible refine rd_i0 ?_)))
theorem ok_law_begun (T : Tx K mg) (B : Bk K mg T) : FnOk P w K mg base CX0 2 B.law_begun.f B.law_begun.fd ["web", "house"] spLBegun := by
  have G_law_beside := ok_law_beside (P := P) (w := w) (base := base) T B
  have G_law_lets := ok_law_lets (P := P) (w := w) (base := base) T B
  refine B.law_begun.F.ok sc_law_begun (fun vs H Q E h => ?_) (fun cdv A outer s H vs Q E hr h => ?_)
  · obtain ⟨m, L, sp, mo, h, v, rfl, _⟩ := h
    rfl
  · obtain ⟨m, L, sp, mo, h, v, rfl, hv, R, q⟩ := h
    obtain ⟨wa, wc, wx, rfl, hwa, hwc, hwx⟩ := pl_plan hv
    have hnb := nb_len R h
    have hm := R.parts
    refine ⟨_, (pss_cons (ps_set (i := 2) sc_law_begun.nd rfl (Or.inl rfl) (pe_call G_law_beside (hr.mono (by decide)) rfl B.law_beside.m B.law_beside.F.kp B.law_beside.b .nil pass0 (pa_cons (pv 0) (pa_cons (pv 1) pa_nil))))
      (pss_cons (ps_set (i := 3) sc_law_begun.nd rfl (Or.inl rfl) (pe_op op_repZ (pe_tup (pa_cons pe_int pa_nil)) (pe_callB call_len_seq (by rfl) T.b_len (by decide +kernel) (pa_cons (pv 2) pa_nil))))
      (pss_cons (ps_if (pt_cmpR op_eq (pv 1) (pe_ix ix_tup (pv 0) pe_int (fun _ _ => rfl)) (nomark _)) (pss_one (ps_ret (pe_tup (pa_cons pe_str (pa_cons (pe_ix ix_tup (pv 0) pe_int (fun _ _ => rfl)) (pa_cons pe_int (pa_cons (pv 3) (pa_cons (pv 3) (pa_cons (pv 3) pa_nil))))))))) pss_nil)
      (pss_cons (ps_set (i := 4) sc_law_begun.nd rfl (Or.inl rfl) pe_str)
      (C8.pss_cut (ps_if (PW.pt (pw_and (pt_cmpR op_in_seq (pe_ix ix_tup (pv 0) pe_int (fun _ _ => rfl)) (pv 2) rfl) (pw_and1 (pt_cmpR op_gt (pe_call G_law_lets (hr.mono (by decide)) rfl B.law_lets.m B.law_lets.F.kp B.law_lets.b .nil pass0 (pa_cons (pv 0) (pa_cons (pe_ix ix_tup (pv 0) pe_int (fun _ _ => rfl)) (pa_cons (pv 1) pa_nil)))) pe_int (nomark _))))) (pss_one (ps_set (i := 4) sc_law_begun.nd rfl (Or.inl rfl) pe_str)) pss_nil)
      (pss_cons (ps_set (i := 5) sc_law_begun.nd rfl (Or.inl rfl) (pe_callTy call_tuple_of (by rfl) T.b_tuple (by decide +kernel) (pa_cons (pe_lc (own := [("other", 6)]) (g := gName 6) rfl sc_law_begun.nd (pi_list (pv 2)) (blkOk_by (own := [("other", 6)]) (N := ["web", "house", "beside", "zeros", "stage", "beliefs", "other"]) (sc := defScope s_law_begun) (by decide +kernel)) (fun _ _ _ _ _ => pg_name (i := 6) sc_law_begun.nd rfl (Or.inl rfl)) (fun _ _ _ _ _ => pts_nil) (fun _ _ _ _ _ => (pe_op op_mul (pe_ix (r := rIxT K) ix_tup (pv 0) pe_int (fun _ _ => rfl)) (pe_callTy call_int1 (by rfl) T.b_int (by decide +kernel) (pa_cons (pe_cmpR op_eq (pv 6) (pe_ix (r := rIxT K) ix_tup (pv 0) pe_int (fun _ _ => rfl)) (nomark _)) pa_nil))))) pa_nil)))
      (pss_one (ps_ret (pe_tup (pa_cons (pv 4) (pa_cons pe_int (pa_cons pe_int (pa_cons (pv 3) (pa_cons (pv 5) (pa_cons (pv 3) pa_nil))))))))))))))), ?_⟩
    walk_at "rd"
    refine ⟨m, L, sp, mo, h, .ref wa, rfl, hv, R, fun r H1 s1 nr hr1 => ?_⟩
    walk_at "rd"
    refine rd_disp rfl fun t0 n0 => ?_
    have s2 := s1.trans (same_new (o := .tup [.int 0]) n0)
    walk_at "rd"
    refine ⟨r, _, rfl, .inl (SqL.of ((same_new (o := .tup [.int 0]) n0) _ _ hr1)), ?_⟩
    rw [List.length_map]
    refine rd_repZ upd_same (by omega) fun z H2 s3 hz => ?_
    replace hz : H2 z = some (.tup ((zs L h).map V.int)) := hz
    have S := s2.trans s3
    have hr2 := s3 _ _ ((same_new (o := .tup [.int 0]) n0) _ _ hr1)
    walk_at "rd"
    dsimp only
    walk_at "rd"
    refine rd_ixT (S _ _ hwa) rfl ?_
    walk_at "rd"
    refine rd_ite (fun e1 => ?_) (fun e1 => ?_)
    · have e1' : h = sp := of_decide_eq_true e1
      walk_at "rd"
      refine rd_ixT (S _ _ hwa) rfl ?_
      walk_at "rd"
      refine rd_disp rfl fun t1 n1 => ?_
      have s4 := same_new (o := .tup [.str "asleep", .int m, .int 0, .ref z, .ref z, .ref z]) n1
      refine q _ _ (S.trans s4) ?_
      unfold begM
      rw [if_pos e1']
      exact pl_st (s := ⟨false, m, 0, zs L h, zs L h, zs L h⟩) upd_same (pl_intsD (s4 _ _ hz)) (pl_intsD (s4 _ _ hz)) (pl_intsD (s4 _ _ hz))
    · have e1' : ¬ h = sp := of_decide_eq_false e1
      walk_at "rd"
      refine ⟨fun σ1 H3 => ∃ b, b = (!(decide (sp ∈ nbL L h ∧ 0 < capOf L sp h))) ∧ σ1 = [some (.ref wa), some (.int h), some (.ref r), some (.ref z), some (.str (stgS b)), none, none] ∧ Same H2 H3, ?_, ?_⟩
      · walk_at "rd"
        refine rd_ixT (S _ _ hwa) rfl ?_
        walk_at "rd"
        refine ⟨r, _, rfl, .inl (SqL.of hr2), rfl, all_flat, ?_⟩
        rw [if_neg Bool.false_ne_true, inV_ints]
        walk_at "rd"
        by_cases e2 : sp ∈ nbL L h
        · refine rd_yes (decide_eq_true e2) ?_
          walk_at "rd"
          refine rd_ixT (S _ _ hwa) rfl ?_
          walk_at "rd"
          refine ⟨m, L, sp, mo, sp, h, .ref wa, rfl, hv.s S, fun H3 s4 => ?_⟩
          walk_at "rd"
          refine rd_ite (fun e3 => ?_) (fun e3 => ?_)
          · exact ⟨_, rfl, by rw [decide_eq_true ⟨e2, of_decide_eq_true e3⟩]; rfl, s4⟩
          · exact ⟨_, rfl, by rw [decide_eq_false (fun y => of_decide_eq_false e3 y.2)]; rfl, s4⟩
        · refine rd_no (decide_eq_false e2) ?_
          exact ⟨_, rfl, by rw [decide_eq_false (fun y => e2 y.1)]; rfl, Same.refl _⟩
      · rintro σ1 H3 ⟨b, hb, rfl, s4⟩
        have S3 := S.trans s4
        have hr3 := s4 _ _ hr2
        walk_at "rd"
        show iList _ _ _ _ _
        refine rd_ilist ?_
        walk_at "rd"
        refine ⟨r, rfl, ⟨_, SqL.of hr3⟩, fun D hD => lc_list (K := K) (a := r) (xs := (nbL L h).map V.int) (fun i H4 => Same H3 H4 ∧ H4 D = some (.lst ((((nbL L h).take i).map fun o => if o = sp then m else 0).map V.int))) ⟨same_new hD, upd_same⟩ (fun i H4 _ hh => SqL.of (hh.1 _ _ hr3)) ?_ ?_⟩
        · rintro i x H4 hx ⟨hs4, hacc⟩
          obtain ⟨o, ho, rfl⟩ := mapint_get hx
          have hi := (List.getElem?_eq_some_iff.mp ho).1
          refine ⟨rfl, ?_⟩
          refine rd_tyes ?_
          refine rd_yes rfl ?_
          walk_at "rd"
          refine rd_ixT (hs4 _ _ (S3 _ _ hwa)) rfl ?_
          walk_at "rd"
          refine rd_ixT (hs4 _ _ (S3 _ _ hwa)) rfl ?_
          walk_at "rd"
          refine .inr ⟨_, rfl, ?_⟩
          walk_at "rd"
          refine rd_iC (.inl ⟨by omega, by omega⟩) ?_
          refine ⟨_, hacc, small' (by rw [List.length_map, List.length_map, List.length_take]; omega), fun z o ez => (upd_ne (ne_of_none ez hD)).trans (hs4 z o ez), ?_⟩
          have ez : (m * if decide (o = sp) = true then 1 else 0) = (if o = sp then m else 0) := by by_cases eo : o = sp <;> simp [eo]
          rw [upd_same, take_snoc ho, List.map_append, List.map_append, ez]
          rfl
        · rintro H4 ⟨hs4, hacc⟩
          rw [List.length_map, List.take_length] at hacc
          have S4 := S3.trans hs4
          walk_at "rd"
          refine ⟨D, _, rfl, .inl ⟨SqL.of hacc, fun t5 n5 => ?_⟩⟩
          have s5 := same_new (o := .tup (((nbL L h).map fun o => if o = sp then m else 0).map V.int)) n5
          walk_at "rd"
          dsimp only
          walk_at "rd"
          refine rd_disp rfl fun t6 n6 => ?_
          have s6 := same_new (o := .tup [.str (stgS b), .int 0, .int 0, .ref z, .ref t5, .ref z]) n6
          have hz4 := hs4 _ _ (s4 _ _ hz)
          refine q _ _ ((S4.trans s5).trans s6) ?_
          unfold begM
          rw [if_neg e1', ← hb]
          exact pl_st (s := ⟨b, 0, 0, zs L h, _, zs L h⟩) upd_same (pl_intsD (s6 _ _ (s5 _ _ hz4))) (pl_intsD (s6 _ _ upd_same)) (pl_intsD (s6 _ _ (s5 _ _ hz4)))
end
end Mw

/-! MR6 -/
/-! list(d.keys()) of a dict with pairs as keys. -/
namespace L2
open PySem PySem.Spec PyProof.Rows PySem.W
theorem lk_src {prog : Program} {w : World} {r d : Addr} {o : Obj} {es : Array DictEntry} {ep : Nat} (hx : o.ExactDict) (hd : o.data = .dict es ep) :
    KdlSrc prog w "dict_keys" r d es.size (fun i v => ∃ en : DictEntry, es[i]? = some en ∧ v = en.key) (fun h => KdlKeysView h r d ∧ h.get? d = some o) where
  type := fun _ hm => hm.1.typeIs
  there := fun _ hm => ⟨let ⟨_, ho, _⟩ := hm.1; Heap.lt_size ho, Heap.lt_size hm.2⟩
  keep := fun _ _ hm hk => ⟨let ⟨q, hq, x⟩ := hm.1; ⟨q, hk r (.inl rfl) q hq, x⟩, hk d (.inr rfl) _ hm.2⟩
  notList := by decide
  notTuple := by decide
  hint := fun _ _ _ _ hm hq => kdl_hint_keys hm.1.typeIs hq
  iter := fun _ s hh hm => ⟨_, _, (fun _ _ hq => wpAny_pyIter_keys_raw hm.1 ⟨o, hm.2, hx, hd⟩ hq), walks_raw hh _ d (Nat.ne_of_lt (Heap.lt_size hm.2)) hd, ⟨⟨_, Heap.get?_push_size _ rfl, rfl, rfl⟩, Heap.get?_push_of_some _ hm.2⟩⟩
section
variable {X : Cx}
def tListKeysT (te : TE) : TE := fun σ H Q => te σ H fun x H1 => ∃ (d : Addr) (kvs : List (List Key × V)), x = .ref d ∧ H1 d = some (.dT kvs) ∧ ∀ (p : Addr) (bs : List Addr), H1 p = none → IsKeys H1 kvs bs → Q (.ref p) (upd H1 p (.lst (bs.map V.ref)))
theorem pe_listKeysT {e : Expr} {te : TE} {p pos apos cpos : Pos} (hc : X.calm = true) (he : PE X e te) (hg : Gl X "list") (hm : X.mg "list" = none) (hbase : attributeBase e "keys" X.env (eval e X.env) = eval e X.env := by rfl) (hline : (apos.endLine == cpos.line) = true := by rfl)
    (hs : starEach [Expr.Call (.Attribute e "keys" apos) [] [] cpos] X.env = (false, eval (.Call (.Attribute e "keys" apos) [] [] cpos) X.env) :: starEach [] X.env := by rfl) :
    PE X (.Call (.Name "list" p) [.Call (.Attribute e "keys" apos) [] [] cpos] [] pos) (tListKeysT te) := by
  refine ⟨fun pins s σ H Q I hq => ?_⟩
  refine wpAny_Call_Name_kw (ld_blt I hg hm boot_list ?_)
  refine PyProof.Rows.callWith_type1 ?_ hs rfl
  rw [hs]
  show wpAny _ _ (spliced ((false, eval (.Call (.Attribute e "keys" apos) [] [] cpos) X.env) :: backTo pos (starEach [] X.env))) _ _ s
  refine Calls.spliced_cons ?_
  refine wpAny_Call_method (T := "dict") (id := "dict.keys") hbase rfl hline F.plainAttrs_dict F.slot_dict_keys F.type_dict_keys (thn (he.run pins s σ H _ I hq) fun u s1 ⟨x, H1, I1, rx, d, kvs, ex, hd, q⟩ => ?_)
  subst ex
  obtain rfl : u = Value.ref d := rx
  obtain ⟨z, lo, ks, pr, o, es, ep, ho, hx, hdt, hen, hn⟩ := dt_of I1.hok hd
  have l1 : es.size = ks.length := size_of_entries hen
  have l2 : kvs.length = ks.length := Paired.length pr
  have raw : s1.heap.DictRaw d es ep := ⟨o, ho, hx, hdt⟩
  have I2 : Inv X pins σ H1 { s1 with heap := s1.heap.push { cls := .type "dict_keys", data := .fields #[.ref d] } } := I1.kept (t' := s1.toks) fun b ob q => Heap.get?_push_of_some _ q
  refine ⟨raw.typeIs, fun b eb => ⟨o, by cases eb; exact ho, hx.2.1⟩, ?_⟩
  show wpAny _ _ (callWith cpos (.builtin "dict.keys") [.ref d] [] []) _ X.xe s1
  refine method_meetsIn F.slot_dict_keys F.entry_dict_keys rfl (PySem.evalArgs_none ⟨rfl, raw.typeIs, F.args_dict_keys_1 _, _, meets_dict_keys_raw d lo, ⟨es, ep, raw⟩, ?_⟩)
  refine Calls.spliced_nil ?_
  refine kdl_call (lk_src hx hdt) (I1.ok.hd hc) ⟨⟨_, Heap.get?_push_size _ rfl, rfl, rfl⟩, Heap.get?_push_of_some _ ho⟩ (by omega) fun h' tk acc' c' kp e it => ?_
  have ea : acc'.toList = ks.map fun x => Value.ref x.2.1 := by
    have hl : acc'.toList.length = ks.length := by rw [Array.length_toList, it.1]; exact l1
    apply List.ext_getElem?
    intro j
    rw [List.getElem?_map]
    cases hj : acc'.toList[j]? with
    | none =>
      have h1 := List.getElem?_eq_none_iff.mp hj
      rw [List.getElem?_eq_none (by omega)]
      rfl
    | some v =>
      obtain ⟨en, hen2, hv⟩ := it.2 j v (by rw [← Array.getElem?_toList]; exact hj)
      have qe := entry_at hen j
      rw [hen2] at qe
      cases hb : ks[j]? with
      | none =>
        rw [hb] at qe
        exact nomatch (show some en = none from qe)
      | some b =>
        rw [hb] at qe
        have e2 : en = entryOfKey (tupleKind (mixKind X.prog X.w)) b := Option.some.inj qe
        rw [hv, e2]
        rfl
  have eb : acc'.toList = (ks.map fun x => x.2.1).map Value.ref := by
    rw [ea, List.map_map]
    rfl
  have rv : Vals ((ks.map fun x => x.2.1).map V.ref) acc'.toList := by
    rw [eb]
    exact vals_refs _
  have hz : ((ks.map fun x => x.2.1).map V.ref).length ≤ sizeLine := by
    rw [List.length_map, List.length_map]
    omega
  refine ⟨.ref _, _, I2.laid (t' := tk) (o := .lst ((ks.map fun x => x.2.1).map V.ref)) kp (Nat.le_refl _) ⟨hz, acc'.toList, c', rv, by rw [Array.toArray_toList]; exact e⟩, rfl, q _ _ (I2.hok.fresh (Nat.le_refl _)) (isKeys_of pr)⟩
end
end L2

/-! L10m -/
/-! Words on ways, as a list and as a dict. -/
namespace Mw
open PySem L2
abbrev Way := Int × Int × List Wd
def wsD (ws : List Wd) : PyData := .tuple (ws.map Wd.d)
def wayD (x : Way) : PyData := .tuple [.int x.1, .int x.2.1, wsD x.2.2]
def hasK (a b : Int) (x : Way) : Bool := decide (x.1 = a) && decide (x.2.1 = b)
theorem hasK_iff {a b : Int} {x : Way} : hasK a b x = true ↔ x.1 = a ∧ x.2.1 = b := by
  unfold hasK
  rw [Bool.and_eq_true, decide_eq_true_eq, decide_eq_true_eq]
def lkp (WL : List Way) (a b : Int) : List Wd := ((WL.find? (hasK a b)).map (·.2.2)).getD []
structure Rp (WL : List Way) (W : Wys) : Prop where
  nd : (WL.map fun x => (x.1, x.2.1)).Nodup
  ne : ∀ x ∈ WL, x.2.2 ≠ []
  eq : ∀ a b, lkp WL a b = W a b
theorem lkp_cons {x : Way} {WL : List Way} {a b : Int} : lkp (x :: WL) a b = if x.1 = a ∧ x.2.1 = b then x.2.2 else lkp WL a b := by
  unfold lkp
  rw [List.find?_cons]
  by_cases h : x.1 = a ∧ x.2.1 = b
  · rw [hasK_iff.mpr h, if_pos h]
    rfl
  · rw [if_neg h]
    have : hasK a b x = false := by
      cases e : hasK a b x with
      | true => exact absurd (hasK_iff.mp e) h
      | false => rfl
    rw [this]
theorem lkp_none {WL : List Way} {a b : Int} (h : (a, b) ∉ WL.map fun x => (x.1, x.2.1)) : lkp WL a b = [] := by
  induction WL with
  | nil => rfl
  | cons x WL ih =>
    rw [List.map_cons, List.mem_cons, not_or] at h
    rw [lkp_cons, if_neg (fun z => h.1 (by rw [z.1, z.2])), ih h.2]
theorem lkp_mem {WL : List Way} (nd : (WL.map fun x => (x.1, x.2.1)).Nodup) {x : Way} (hx : x ∈ WL) : lkp WL x.1 x.2.1 = x.2.2 := by
  induction WL with
  | nil => cases hx
  | cons y WL ih =>
    rw [List.map_cons, List.nodup_cons] at nd
    rw [lkp_cons]
    rcases List.mem_cons.mp hx with e | hx
    · rw [e, if_pos ⟨rfl, rfl⟩]
    · rw [if_neg, ih nd.2 hx]
      intro z
      refine nd.1 ?_
      rw [z.1, z.2]
      exact List.mem_map.mpr ⟨x, hx, rfl⟩
theorem lkp_snoc {WL : List Way} {x : Way} (h : (x.1, x.2.1) ∉ WL.map fun x => (x.1, x.2.1)) (a b : Int) : lkp (WL ++ [x]) a b = if a = x.1 ∧ b = x.2.1 then x.2.2 else lkp WL a b := by
  induction WL with
  | nil =>
    rw [List.nil_append, lkp_cons]
    by_cases e : x.1 = a ∧ x.2.1 = b
    · rw [if_pos e, if_pos ⟨e.1.symm, e.2.symm⟩]
    · rw [if_neg e, if_neg (fun z => e ⟨z.1.symm, z.2.symm⟩)]
  | cons y WL ih =>
    rw [List.map_cons, List.mem_cons, not_or] at h
    rw [List.cons_append, lkp_cons, lkp_cons, ih h.2]
    by_cases e : y.1 = a ∧ y.2.1 = b
    · rw [if_pos e, if_pos e, if_neg]
      intro z
      exact h.1 (by rw [← z.1, ← z.2, e.1, e.2])
    · rw [if_neg e, if_neg e]
def WaysAt (H : Hp) (a : Addr) (W : Wys) (n : Nat) : Prop := ∃ xs WL, H a = some (.lst xs) ∧ PlAll H (WL.map wayD) xs ∧ Rp WL W ∧ WL.length ≤ n ∧ ∀ a b, (W a b).length ≤ n
theorem WaysAt.fx {ps : List Addr} {H H' : Hp} {a : Addr} {W : Wys} {n : Nat} (h : WaysAt H a W n) (x : Fx ps H H') (m : a ∉ ps) : WaysAt H' a W n := by
  obtain ⟨xs, WL, h1, h2, r⟩ := h
  exact ⟨xs, WL, x.1 _ _ m h1, h2.t x.2, r⟩
theorem WaysAt.s {H H' : Hp} {a : Addr} {W : Wys} {n : Nat} (h : WaysAt H a W n) (x : Same H H') : WaysAt H' a W n := h.fx (ps := []) (Fx.same x) (by simp)
theorem pl_way {H : Hp} {x : Way} {v : V} (h : Pl H (wayD x) v) : ∃ t w, v = .ref t ∧ H t = some (.tup [.int x.1, .int x.2.1, w]) ∧ Pl H (wsD x.2.2) w := by
  obtain ⟨a, xs, rfl, ha, hx⟩ := pl_tup' h
  obtain ⟨x1, r1, rfl, h1, hx⟩ := plAll_cons' hx
  obtain ⟨x2, r2, rfl, h2, hx⟩ := plAll_cons' hx
  obtain ⟨x3, r3, rfl, h3, hx⟩ := plAll_cons' hx
  cases plAll_nil' hx
  cases pl_int' h1
  cases pl_int' h2
  exact ⟨a, _, rfl, ha, h3⟩
theorem ways_at {H : Hp} {WL : List Way} {xs : List V} (h : PlAll H (WL.map wayD) xs) {i : Nat} {y : V} (e : xs[i]? = some y) : ∃ x t w, WL[i]? = some x ∧ y = .ref t ∧ H t = some (.tup [.int x.1, .int x.2.1, w]) ∧ Pl H (wsD x.2.2) w := by
  obtain ⟨d, ed, hd⟩ := h.get' e
  rw [List.getElem?_map] at ed
  cases eq : WL[i]? with
  | none =>
    rw [eq] at ed
    cases ed
  | some x =>
    rw [eq] at ed
    obtain rfl : wayD x = d := Option.some.inj ed
    obtain ⟨t, w, e1, h1, h2⟩ := pl_way hd
    exact ⟨x, t, w, rfl, e1, h1, h2⟩
structure DInv (H : Hp) (kvs : List (List Key × V)) (W : Wys) : Prop where
  nd : (kvs.map (·.1)).Nodup
  ks : ∀ k ∈ kvs.map (·.1), ∃ a b, k = keyP a b
  val : ∀ a b, (valV kvs (keyP a b) = none ∧ W a b = []) ∨ ∃ v, valV kvs (keyP a b) = some v ∧ W a b ≠ [] ∧ Pl H (wsD (W a b)) v
theorem DInv.t {H H' : Hp} {kvs : List (List Key × V)} {W : Wys} (h : DInv H kvs W) (k : KT H H') : DInv H' kvs W := ⟨h.nd, h.ks, fun a b => by
  rcases h.val a b with z | ⟨v, z1, z2, z3⟩
  · exact .inl z
  · exact .inr ⟨v, z1, z2, z3.t k⟩⟩
theorem putK_keys {kvs : List (List Key × V)} {k : List Key} {v : V} : (putK kvs k v).map (·.1) = if (valV kvs k).isSome = true then kvs.map (·.1) else kvs.map (·.1) ++ [k] := by
  unfold putK
  rw [valV_any]
  split
  · rw [List.map_map]
    refine List.map_congr_left fun x _ => ?_
    show (if x.1 = k then (x.1, v) else x).1 = x.1
    split <;> rfl
  · rw [List.map_append]
    rfl
theorem val_mem {kvs : List (List Key × V)} {k : List Key} : (valV kvs k).isSome = true ↔ k ∈ kvs.map (·.1) := by
  rw [← valV_any, List.any_eq_true]
  constructor
  · rintro ⟨x, hx, e⟩
    exact List.mem_map.mpr ⟨x, hx, of_decide_eq_true e⟩
  · intro h
    obtain ⟨x, hx, e⟩ := List.mem_map.mp h
    exact ⟨x, hx, decide_eq_true e⟩
theorem DInv.put {H : Hp} {kvs : List (List Key × V)} {W : Wys} (h : DInv H kvs W) {a b : Int} {ws : List Wd} {v : V} (hn : ws ≠ []) (hv : Pl H (wsD ws) v) : DInv H (putK kvs (keyP a b) v) (fun x y => if x = a ∧ y = b then ws else W x y) := by
  refine ⟨?_, fun k hk => ?_, fun x y => ?_⟩
  · rw [putK_keys]
    split
    · exact h.nd
    · rename_i z
      rw [List.nodup_append]
      refine ⟨h.nd, by simp, fun p hp q hq e => ?_⟩
      rw [List.mem_singleton.mp hq] at e
      rw [e] at hp
      exact z (val_mem.mpr hp)
  · rw [putK_keys] at hk
    split at hk
    · exact h.ks k hk
    · rcases List.mem_append.mp hk with z | z
      · exact h.ks k z
      · exact ⟨a, b, List.mem_singleton.mp z⟩
  · rw [valV_put]
    by_cases e : x = a ∧ y = b
    · rw [if_pos e, if_pos (by rw [e.1, e.2])]
      exact .inr ⟨v, rfl, hn, hv⟩
    · rw [if_neg e, if_neg (fun z => e (keyP_inj z))]
      exact h.val x y
theorem DInv.nil {H : Hp} : DInv H [] (lkp []) := ⟨List.nodup_nil, fun k hk => (by cases hk), fun a b => .inl ⟨rfl, rfl⟩⟩
theorem outTo_take {out : List (Int × Wd)} {i : Nat} {x : Int × Wd} (e : out[i]? = some x) (b : Int) : outTo (out.take (i + 1)) b = outTo (out.take i) b ++ (if x.1 = b then [x.2] else []) := by
  rw [take_snoc e, outTo_app, show [x] = [(x.1, x.2)] from rfl, outTo_one]
theorem addW_take {W : Wys} {h : Int} {out : List (Int × Wd)} {i : Nat} {x : Int × Wd} (e : out[i]? = some x) : addW W h (out.take (i + 1)) = fun a b => if a = h ∧ b = x.1 then addW W h (out.take i) h x.1 ++ [x.2] else addW W h (out.take i) a b := by
  funext a b
  unfold addW
  by_cases ea : a = h
  · subst ea
    rw [if_pos rfl, outTo_take e]
    by_cases eb : b = x.1
    · subst eb
      rw [if_pos rfl, if_pos ⟨rfl, rfl⟩, if_pos rfl, List.append_assoc]
    · rw [if_neg (fun z => eb z.symm), if_neg (fun z => eb z.2), if_pos rfl, List.append_nil]
  · rw [if_neg ea, if_neg (fun z => ea z.1), if_neg ea]
/-- what a key's tuple tells -/
def kOf (H : Hp) : V → Int × Int
  | .ref b => match H b with
    | some (.tup [.int i, .int j]) => (i, j)
    | _ => (0, 0)
  | _ => (0, 0)
theorem kOf_at {H : Hp} {b : Addr} {i j : Int} (h : H b = some (.tup [.int i, .int j])) : kOf H (.ref b) = (i, j) := by
  show (match H b with | some (.tup [.int i, .int j]) => (i, j) | _ => (0, 0)) = _
  rw [h]
theorem keys_pairs {H : Hp} {kvs : List (List Key × V)} {bs : List Addr} (h : IsKeys H kvs bs) (ks : ∀ k ∈ kvs.map (·.1), ∃ a b, k = keyP a b) : kvs.map (·.1) = ((bs.map V.ref).map (kOf H)).map (fun p => keyP p.1 p.2) ∧ ∀ b ∈ bs, ∃ i j, H b = some (.tup [.int i, .int j]) := by
  induction h with
  | nil => exact ⟨rfl, fun b hb => (by cases hb)⟩
  | @cons p b kvs bs h1 h2 ih =>
    obtain ⟨i1, i2⟩ := ih fun k hk => ks k (List.mem_cons_of_mem _ hk)
    obtain ⟨x, y, e⟩ := ks p.1 (by simp)
    rw [e] at h1
    have h1' : H b = some (.tup [.int x, .int y]) := h1
    refine ⟨?_, fun c hc => ?_⟩
    · rw [List.map_cons, List.map_cons, List.map_cons, List.map_cons, kOf_at h1', e, i1]
    · rcases List.mem_cons.mp hc with rfl | hc
      · exact ⟨x, y, h1'⟩
      · exact i2 c hc
theorem rp_of {H : Hp} {kvs : List (List Key × V)} {W : Wys} (h : DInv H kvs W) {KP : List (Int × Int)} (hp : (KP.map fun p => keyP p.1 p.2).Perm (kvs.map (·.1))) : Rp (KP.map fun p => (p.1, p.2, W p.1 p.2)) W := by
  have hnd : KP.Nodup := by
    have := hp.nodup_iff.mpr h.nd
    exact List.Pairwise.of_map _ (fun a b z e => z (by rw [e])) this
  have ek : (KP.map fun p => ((p.1, p.2, W p.1 p.2) : Way)).map (fun x => (x.1, x.2.1)) = KP := by
    rw [List.map_map]
    exact List.map_id' _
  have hin : ∀ a b, (a, b) ∈ KP ↔ (valV kvs (keyP a b)).isSome = true := fun a b => by
    rw [val_mem, ← hp.mem_iff, List.mem_map]
    constructor
    · exact fun z => ⟨_, z, rfl⟩
    · rintro ⟨p, hp, e⟩
      obtain ⟨e1, e2⟩ := keyP_inj e
      rw [← e1, ← e2]
      exact hp
  refine ⟨by rw [ek]; exact hnd, fun x hx => ?_, fun a b => ?_⟩
  · obtain ⟨p, hp', rfl⟩ := List.mem_map.mp hx
    have := (hin p.1 p.2).mp hp'
    rcases h.val p.1 p.2 with z | ⟨v, z1, z2, z3⟩
    · rw [z.1] at this
      cases this
    · exact z2
  · by_cases z : (a, b) ∈ KP
    · exact lkp_mem (x := (a, b, W a b)) (by rw [ek]; exact hnd) (List.mem_map.mpr ⟨_, z, rfl⟩)
    · rw [lkp_none (by rw [ek]; exact z)]
      rcases h.val a b with y | ⟨v, y1, _⟩
      · exact y.2.symm
      · exact absurd ((hin a b).mpr (by rw [y1]; rfl)) z
end Mw

/-! L10 -/
namespace Mw
open PySem L2
theorem rd_dget2 {td ty tx : TE} {σ : L2.St} {H : Hp} {Q : VK} (h : td σ H fun x H1 => ∃ a, x = .ref a ∧ IsD H1 a ∧ ty σ H1 fun y H2 => tx σ H2 fun z H3 => ∃ o, DGet H3 a y o ∧ Q (o.getD z) H3) : tDGet2 td ty tx σ H Q := h
theorem rd_lk {te : TE} {σ : L2.St} {H : Hp} {Q : VK} (h : te σ H fun x H1 => ∃ (d : Addr) (kvs : List (List Key × V)), x = .ref d ∧ H1 d = some (.dT kvs) ∧ ∀ (p : Addr) (bs : List Addr), H1 p = none → IsKeys H1 kvs bs → Q (.ref p) (upd H1 p (.lst (bs.map V.ref)))) : tListKeysT te σ H Q := h
def spLWords : Sp := fun vs H Q _ => ∃ (a : Addr) (t : V) (W : Wys) (n : Nat) (h : Int) (out : List (Int × Wd)), vs = [.ref a, .int h, t] ∧ WaysAt H a W n ∧ Pl H (.tuple (out.map ndD)) t ∧ out.length ≤ 1000 ∧ n ≤ 50000 ∧ ∀ r H', Same H H' → H r = none → WaysAt H' r (addW W h out) (n + out.length) → Q (.ref r) H'
section
variable {P : Program} {w : World} {K : PySem.W.Frag} {mg : Str → Option Value} {base : Heap}
local macro_rules | `(tactic| walk_at "rd") => `(tactic| (repeat (first
  | ((with_reducible refine' rd_var ?h0 ?_); (case h0 => rfl))
  | with_reducible refine rd_c ?_
  | with_reducible refine rd_op ?_
  | with_reducible refine rd_nil ?_
  | with_reducible refine rd_cons ?_
  | with_reducible refine rd_tup ?_
  | with_reducible refine rd_lst ?_
  | with_reducible refine rd_ifs ?_
  | with_reducible refine rd_seq ?_
  | with_reducible refine rd_next ?_
  | with_reducible refine rd_ret ?_
  | with_reducible refine rd_asg ?_
  | ((with_reducible refine' rd_gset ?hs ?_); (case hs => ((simp only [L2.start, List.map_cons, List.map_nil, List.length_cons, List.length_nil, List.cons_append, List.nil_append, List.set_cons_zero, List.set_cons_succ, Nat.reduceAdd, Nat.reduceSub, Nat.zero_add, List.reduceReplicate]); rfl)))
  | with_reducible refine rd_drop ?_
  | with_reducible refine rd_test ?_
  | with_reducible refine rd_B ?_
  | with_reducible refine rd_bl ?_
  | with_reducible refine rd_blP ?_
  | with_reducible refine rd_andV ?_
  | with_reducible refine rd_orV ?_
  | with_reducible refine rd_notV ?_
  | with_reducible refine rd_and ?_
  | with_reducible refine rd_or ?_
  | with_reducible refine rd_not ?_
  | with_reducible refine rd_chain ?_
  | with_reducible refine rd_dput ?_
  | with_reducible refine rd_dget ?_
  | with_reducible refine rd_cb ?_
  | with_reducible refine rd_call ?_
  | with_reducible refine rd_un ?_
  | with_reducible refine rd_sl ?_
  | with_reducible refine rd_nopart ?_
  | with_reducible refine rd_part ?_
  | with_reducible refine rd_intP ?_
  | with_reducible refine rd_rU ?_
  | with_reducible refine rd_fld ?_
  | with_reducible refine rd_eqI ?_
  | with_reducible refine rd_neI ?_
  | with_reducible refine rd_mko ?_
  | with_reducible refine rd_bm ?_
  | with_reducible refine rd_gsub ?_
  | with_reducible refine rd_i0 ?_)))
theorem ok_law_with_words (T : Tx K mg) (B : Bk K mg T) : FnOk P w K mg base CX0 1 B.law_with_words.f B.law_with_words.fd ["ways", "house", "out"] spLWords := by
  refine B.law_with_words.F.ok sc_law_with_words (fun vs H Q E h => ?_) (fun cdv A outer s H vs Q E hr h => ?_)
  · obtain ⟨a, t, W, n, h, out, rfl, _⟩ := h
    rfl
  · obtain ⟨a, t, W, n, h, out, rfl, ⟨xs, WL, ha, hx, hR, hWL, hWn⟩, ht, hol, hn, q⟩ := h
    obtain ⟨ta, ys, rfl, hta, hy⟩ := pl_tup' ht
    have lx := hx.len
    have ly := hy.len
    rw [List.length_map] at lx ly
    refine ⟨_, (pss_cons (ps_set (i := 3) sc_law_with_words.nd rfl (Or.inr rfl) pe_dnewT)
      (pss_cons (ps_for PassesOwn.never rfl (pi_list (pv 0)) (pg_tup (by rfl) (pgs_cons (pg_name (i := 4) sc_law_with_words.nd rfl (Or.inl rfl)) (pgs_cons (pg_name (i := 5) sc_law_with_words.nd rfl (Or.inl rfl)) (pgs_cons (pg_name (i := 6) sc_law_with_words.nd rfl (Or.inl rfl)) pgs_nil)))) (pss_one (ps_dput (hu_of hr) (pv 3) (pe_tup (pa_cons (pv 4) (pa_cons (pv 5) pa_nil))) (pv 6) rfl)))
      (pss_cons (ps_for PassesOwn.never rfl (pi_tup (pv 2)) (pg_tup (by rfl) (pgs_cons (pg_name (i := 5) sc_law_with_words.nd rfl (Or.inl rfl)) (pgs_cons (pg_name (i := 7) sc_law_with_words.nd rfl (Or.inl rfl)) pgs_nil))) (pss_one (ps_dput (hu_of hr) (pv 3) (pe_tup (pa_cons (pv 1) (pa_cons (pv 5) pa_nil))) (pe_op op_catA (pe_dget2 (hu_of hr) (pv 3) (pe_tup (pa_cons (pv 1) (pa_cons (pv 5) pa_nil))) (pe_tup pa_nil) ⟨rfl, rfl, rfl, rfl⟩) (pe_tup (pa_cons (pv 7) pa_nil))) rfl)))
      (pss_one (ps_ret (pe_lc (own := [("ends", 8)]) (g := gName 8) rfl sc_law_with_words.nd (pi_list (pe_callB cr_sortedPO (by rfl) T.b_sorted (by decide +kernel) (pa_cons (pe_listKeysT rfl (pv 3) (by rfl) T.b_list) pa_nil))) (blkOk_by (own := [("ends", 8)]) (N := ["ways", "house", "out", "found", "sender", "to", "words", "word", "ends"]) (sc := defScope s_law_with_words) (by decide +kernel)) (fun _ _ _ _ _ => pg_name (i := 8) sc_law_with_words.nd rfl (Or.inl rfl)) (fun _ _ _ _ _ => pts_nil) (fun _ _ _ _ _ => (pe_op (r := rCatA K) op_catA (pv 8) (pe_tup (pa_cons (pe_dget (hu_of hr) (pv 3) (pv 8) (fun _ _ => rfl)) pa_nil)))))))))), ?_⟩
    walk_at "rd"
    intro D nD
    walk_at "rd"
    show iList _ _ _ _ _
    refine rd_ilist ?_
    walk_at "rd"
    have s0 := same_new (o := .dT []) nD
    refine ⟨a, rfl, ⟨_, SqL.of (s0 _ _ ha)⟩, for_list (K := K) (a := a) (xs := xs) (fun i σ H1 => Same H H1 ∧ (∃ kvs, H1 D = some (.dT kvs) ∧ DInv H1 kvs (lkp (WL.take i)) ∧ kvs.length ≤ i) ∧ ∃ u4 u5 u6, σ = [some (.ref a), some (.int h), some (.ref ta), some (.ref D), u4, u5, u6, none, none])
      ⟨s0, ⟨[], upd_same, DInv.nil, Nat.le_refl _⟩, _, _, _, rfl⟩ (fun i σ H1 _ hh => SqL.of (hh.1 _ _ ha)) ?_ ?_⟩
    · rintro i y σ H1 hi ⟨s1, ⟨kvs, hD, hI, hkl⟩, u4, u5, u6, rfl⟩
      obtain ⟨x, t1, w1, hx1, rfl, ht1, hw1⟩ := ways_at hx hi
      have hil := (List.getElem?_eq_some_iff.mp hx1).1
      have hxm := List.mem_of_getElem? hx1
      refine ⟨t1, _, rfl, SqT.of (s1 _ _ ht1), rfl, _, _, rfl, _, _, rfl, _, _, rfl, rfl, ?_⟩
      walk_at "rd"
      refine rd_disp rfl fun k1 nk1 => ?_
      have s2 := same_new (o := .tup [.int x.1, .int x.2.1]) nk1
      refine ⟨D, _, rfl, DPut.t (k := keyP x.1 x.2.1) (s2 _ _ hD) upd_same (Nat.lt_of_le_of_lt (show kvs.length ≤ 50000 by omega) (by decide)), ?_⟩
      have kt : KT (upd H1 k1 (.tup [.int x.1, .int x.2.1])) (upd (upd H1 k1 (.tup [.int x.1, .int x.2.1])) D (.dT (putK kvs (keyP x.1 x.2.1) w1))) := KT.mut (s2 _ _ hD) (by intro zs z; cases z)
      refine ⟨fun b o e => (upd_ne (ne_of_none e nD)).trans (s2 _ _ (s1 _ _ e)), ⟨_, upd_same, ?_, ?_⟩, _, _, _, rfl⟩
      · have := (hI.t (KT.same s2)).put (a := x.1) (b := x.2.1) (hR.ne x hxm) ((hw1.s s1).s s2)
        have := this.t kt
        have e : lkp (WL.take (i + 1)) = fun a b => if a = x.1 ∧ b = x.2.1 then x.2.2 else lkp (WL.take i) a b := by
          funext a b
          rw [take_snoc hx1]
          refine lkp_snoc ?_ a b
          intro z
          have nd := hR.nd
          rw [← List.take_append_drop i WL, List.map_append, List.nodup_append] at nd
          have hd : x ∈ WL.drop i := by
            rw [List.mem_iff_getElem?]
            exact ⟨0, by rw [List.getElem?_drop, Nat.add_zero]; exact hx1⟩
          exact nd.2.2 _ z _ (List.mem_map.mpr ⟨x, hd, rfl⟩) rfl
        rw [e]
        exact this
      · have := length_putK kvs (keyP x.1 x.2.1) w1
        omega
    · rintro σ H1 ⟨s1, ⟨kvs, hD, hI, hkl⟩, u4, u5, u6, rfl⟩
      rw [← lx, List.take_length] at hI
      have eW : lkp WL = W := funext fun a => funext fun b => hR.eq a b
      rw [eW] at hI
      walk_at "rd"
      refine rd_itup ?_
      walk_at "rd"
      refine ⟨ta, rfl, ⟨_, SqT.of (s1 _ _ hta)⟩, for_tup (K := K) (a := ta) (xs := ys) (fun i σ H2 => Same H H2 ∧ (∃ kvs, H2 D = some (.dT kvs) ∧ DInv H2 kvs (addW W h (out.take i)) ∧ kvs.length ≤ WL.length + i) ∧ ∃ u5 u7, σ = [some (.ref a), some (.int h), some (.ref ta), some (.ref D), u4, u5, u6, u7, none])
        ⟨s1, ⟨kvs, hD, by rw [List.take_zero, addW_nil]; exact hI, by omega⟩, _, _, rfl⟩ (fun i σ H2 _ hh => SqT.of (hh.1 _ _ hta)) ?_ ?_⟩
      · rintro i y σ H2 hi ⟨s2, ⟨kvs2, hD2, hI2, hkl2⟩, u5', u7, rfl⟩
        obtain ⟨d, ed, hd⟩ := hy.get' hi
        rw [List.getElem?_map] at ed
        cases ew : out[i]? with
        | none =>
          rw [ew] at ed
          cases ed
        | some x =>
          rw [ew] at ed
          obtain rfl : ndD x = d := Option.some.inj ed
          obtain ⟨t1, zs', rfl, ht1, hz⟩ := pl_tup' hd
          obtain ⟨z1, r1, rfl, g1, hz⟩ := plAll_cons' hz
          obtain ⟨z2, r2, rfl, g2, hz⟩ := plAll_cons' hz
          cases plAll_nil' hz
          cases pl_int' g1
          have hio := (List.getElem?_eq_some_iff.mp ew).1
          refine ⟨t1, _, rfl, SqT.of (s2 _ _ ht1), rfl, _, _, rfl, _, _, rfl, rfl, ?_⟩
          have lnW : ∀ a b, (addW W h (out.take i) a b).length ≤ n + i := fun a b => by
            unfold addW
            split
            · rw [List.length_append]
              have := hWn a b
              have h2 := outTo_len (o := out.take i) (b := b)
              rw [List.length_take] at h2
              omega
            · have := hWn a b
              omega
          walk_at "rd"
          refine rd_dget2 ?_
          walk_at "rd"
          refine ⟨D, rfl, .inr ⟨_, .inl hD2⟩, ?_⟩
          walk_at "rd"
          refine rd_disp rfl fun k1 nk1 => ?_
          have s3 := same_new (o := .tup [.int h, .int x.1]) nk1
          walk_at "rd"
          refine rd_disp rfl fun e1 ne1 => ?_
          have s4 := same_new (o := .tup []) ne1
          refine ⟨_, DGet.t (k := keyP h x.1) (s4 _ _ (s3 _ _ hD2)) (s4 _ _ upd_same), ?_⟩
          have base : ∃ b zs, (valV kvs2 (keyP h x.1)).getD (.ref e1) = .ref b ∧ (upd (upd H2 k1 (.tup [.int h, .int x.1])) e1 (.tup [])) b = some (.tup zs) ∧ PlAll (upd (upd H2 k1 (.tup [.int h, .int x.1])) e1 (.tup [])) ((addW W h (out.take i) h x.1).map Wd.d) zs := by
            rcases hI2.val h x.1 with ⟨z1, z2⟩ | ⟨v, z1, z2, z3⟩
            · rw [z1, z2]
              exact ⟨e1, [], rfl, upd_same, plAll_nil⟩
            · rw [z1]
              obtain ⟨b, zs, rfl, hb, hz⟩ := pl_tup' ((z3.s s3).s s4)
              exact ⟨b, zs, rfl, hb, hz⟩
          obtain ⟨b, zs, eb, hb, hzs⟩ := base
          rw [eb]
          have lzs := hzs.len
          rw [List.length_map] at lzs
          have s24 := s3.trans s4
          have hD4 := s24 _ _ hD2
          have hI4 := hI2.t (KT.same s24)
          have g24 := (g2.s s2).s s24
          have SS := s2.trans s24
          generalize upd (upd H2 k1 (.tup [.int h, .int x.1])) e1 (.tup []) = H4 at hb hzs hD4 hI4 g24 SS ⊢
          walk_at "rd"
          refine rd_disp rfl fun t2 n2 => ?_
          have s5 := same_new (o := .tup [z2]) n2
          walk_at "rd"
          refine rd_catP (s5 _ _ hb) upd_same (by have := lnW h x.1; simp only [List.length_singleton]; omega) fun c H6 s6 hc => ?_
          have s56 := s5.trans s6
          walk_at "rd"
          refine rd_disp rfl fun k2 nk2 => ?_
          have s7 := same_new (o := .tup [.int h, .int x.1]) nk2
          have s57 := s56.trans s7
          have hD7 := s57 _ _ hD4
          refine ⟨D, _, rfl, DPut.t (k := keyP h x.1) hD7 upd_same (Nat.lt_of_le_of_lt (show kvs2.length ≤ 60000 by omega) (by decide)), ?_⟩
          have kt : KT (upd H6 k2 (.tup [.int h, .int x.1])) (upd (upd H6 k2 (.tup [.int h, .int x.1])) D (.dT (putK kvs2 (keyP h x.1) (.ref c)))) := KT.mut hD7 (by intro zs z; cases z)
          refine ⟨fun b o e => (upd_ne (ne_of_none e nD)).trans (s57 _ _ (SS _ _ e)), ⟨_, upd_same, ?_, ?_⟩, _, _, rfl⟩
          · have hv : Pl (upd H6 k2 (.tup [.int h, .int x.1])) (wsD (addW W h (out.take i) h x.1 ++ [x.2])) (.ref c) := by
              unfold wsD
              rw [List.map_append]
              exact pl_tup (s7 _ _ hc) ((hzs.s s57).append (plAll_cons (g24.s s57) plAll_nil))
            have := ((hI4.t (KT.same s57)).put (a := h) (b := x.1) (by simp) hv).t kt
            rw [addW_take ew]
            exact this
          · have := length_putK kvs2 (keyP h x.1) (.ref c)
            omega
      · rintro σ H2 ⟨s2, ⟨kvs2, hD2, hI2, hkl2⟩, u5', u7, rfl⟩
        rw [← ly, List.take_length] at hI2
        walk_at "rd"
        show iList _ _ _ _ _
        refine rd_ilist ?_
        walk_at "rd"
        refine rd_lk ?_
        walk_at "rd"
        refine ⟨D, kvs2, rfl, hD2, fun p bs np hk => ?_⟩
        obtain ⟨ek, hbs⟩ := keys_pairs hk hI2.ks
        have s3 := same_new (o := .lst (bs.map V.ref)) np
        walk_at "rd"
        refine ⟨p, bs.map V.ref, kOf H2, rfl, SqL.of upd_same, fun x hx => ?_, fun ys' r hs hst nr => ?_⟩
        · obtain ⟨b, hb, rfl⟩ := List.mem_map.mp hx
          obtain ⟨i, j, e⟩ := hbs b hb
          exact ⟨b, rfl, by rw [kOf_at e]; exact s3 _ _ e⟩
        · have s4 := same_new (o := .lst ys') nr
          have hperm := hst.perm
          have hrp := rp_of hI2 (KP := ys'.map (kOf H2)) (by rw [ek]; exact (hperm.map _).map _)
          have hlen : ys'.length = kvs2.length := by
            have e1 := hperm.length_eq
            have e2 := congrArg List.length ek
            rw [List.length_map, List.length_map, List.length_map, List.length_map] at e2
            rw [List.length_map] at e1
            omega
          have s24 := s3.trans s4
          have hD4 := s24 _ _ hD2
          have hr4 : (upd (upd H2 p (.lst (bs.map V.ref))) r (.lst ys')) r = some (.lst ys') := upd_same
          have S := s2.trans s24
          generalize upd (upd H2 p (.lst (bs.map V.ref))) r (.lst ys') = H4 at hD4 hr4 s24 S ⊢
          refine ⟨r, rfl, ⟨_, SqL.of hr4⟩, fun D3 hD3 => lc_list (K := K) (a := r) (xs := ys') (fun i H5 => Same H4 H5 ∧ ∃ acc, H5 D3 = some (.lst acc) ∧ PlAll H5 ((((ys'.map (kOf H2)).take i).map fun p => ((p.1, p.2, addW W h out p.1 p.2) : Way)).map wayD) acc) ⟨same_new hD3, [], upd_same, plAll_nil⟩ (fun i H5 _ hh => SqL.of (hh.1 _ _ hr4)) ?_ ?_⟩
          · rintro i y H5 hi ⟨s5, acc, hacc, hpl⟩
            have hil := (List.getElem?_eq_some_iff.mp hi).1
            obtain ⟨b, hb, rfl⟩ := List.mem_map.mp (hperm.mem_iff.mp (List.mem_of_getElem? hi))
            obtain ⟨ki, kj, e⟩ := hbs b hb
            have hkin : keyP ki kj ∈ kvs2.map (·.1) := by
              rw [ek]
              refine List.mem_map.mpr ⟨(ki, kj), ?_, rfl⟩
              exact List.mem_map.mpr ⟨.ref b, List.mem_map.mpr ⟨b, hb, rfl⟩, kOf_at e⟩
            obtain ⟨v, hv, hvn, hvp⟩ : ∃ v, valV kvs2 (keyP ki kj) = some v ∧ addW W h out ki kj ≠ [] ∧ Pl H2 (wsD (addW W h out ki kj)) v := by
              rcases hI2.val ki kj with z | z
              · have := val_mem.mpr hkin
                rw [z.1] at this
                cases this
              · exact z
            have s25 := s24.trans s5
            have lacc := hpl.len
            rw [List.length_map, List.length_map, List.length_take, List.length_map] at lacc
            refine ⟨rfl, ?_⟩
            refine rd_tyes ?_
            refine rd_yes rfl ?_
            walk_at "rd"
            refine ⟨D, v, rfl, by rw [← hv]; exact DGet.t (k := keyP ki kj) (s5 _ _ hD4) (s25 _ _ e), ?_⟩
            walk_at "rd"
            refine rd_disp rfl fun t6 n6 => ?_
            have s6 := same_new (o := .tup [v]) n6
            refine rd_catP (s6 _ _ (s25 _ _ e)) upd_same (by simp) fun c H7 s7 hc => ?_
            have s67 := s6.trans s7
            have s27 := s25.trans s67
            have kt : KT H7 (upd H7 D3 (.lst (acc ++ [.ref c]))) := KT.mut (s67 _ _ hacc) (by intro zs z; cases z)
            refine ⟨acc, s67 _ _ hacc, small' (by omega), fun b o eb => (upd_ne (ne_of_none eb hD3)).trans (s67 _ _ (s5 _ _ eb)), _, upd_same, ?_⟩
            have ekp : (ys'.map (kOf H2))[i]? = some (ki, kj) := by
              rw [List.getElem?_map, hi]
              show some (kOf H2 (.ref b)) = _
              rw [kOf_at e]
            rw [take_snoc ekp, List.map_append, List.map_append]
            refine ((hpl.s s67).t kt).append (plAll_cons ?_ plAll_nil)
            exact (pl_tup hc (plAll_cons pl_int (plAll_cons pl_int (plAll_cons (hvp.s s27) plAll_nil)))).t kt
          · rintro H5 ⟨s5, acc, hacc, hpl⟩
            rw [List.take_of_length_le (by rw [List.length_map]; exact Nat.le_refl _)] at hpl
            have S5 := S.trans s5
            refine q D3 _ S5 (S.free hD3) ⟨acc, _, hacc, hpl, hrp, ?_, fun a b => ?_⟩
            · rw [List.length_map, List.length_map]
              omega
            · unfold addW
              split
              · rw [List.length_append]
                have := hWn a b
                have h2 := outTo_len (o := out) (b := b)
                omega
              · have := hWn a b
                omega
end
end Mw

/-! L11 -/
namespace Mw
open PySem L2
inductive Mv where
  | start (h : Int)
  | take (f h : Int)
def Mv.d : Mv → PyData
  | .start h => .tuple [.str "start", .int h]
  | .take f h => .tuple [.str "take", .int f, .int h]
def Mv.Ok (S : Sts) (W : Wys) (sp : Int) : Mv → Prop
  | .start h => h = sp ∧ (S sp).up = false
  | .take f h => W f h ≠ []
def MvL (H : Hp) (D : Addr) (S : Sts) (W : Wys) (sp : Int) (k : Nat) : Prop := ∃ (acc : List V) (MV : List Mv), H D = some (.lst acc) ∧ PlAll H (MV.map Mv.d) acc ∧ (∀ mv ∈ MV, Mv.Ok S W sp mv) ∧ MV.length ≤ k
theorem MvL.s {H H' : Hp} {D : Addr} {S : Sts} {W : Wys} {sp : Int} {k : Nat} (h : MvL H D S W sp k) (s : Same H H') : MvL H' D S W sp k := by
  obtain ⟨acc, MV, h1, h2, r⟩ := h
  exact ⟨acc, MV, s _ _ h1, h2.s s, r⟩
/-- one more move at the end of a comprehension's list -/
theorem MvL.add {H0 H H1 : Hp} {D : Addr} {S : Sts} {W : Wys} {sp : Int} {k : Nat} {t : Addr} {mv : Mv} (h : MvL H D S W sp k) (s : Same H H1) (hk : k ≤ 100000) (ht : Pl H1 mv.d (.ref t)) (hm : Mv.Ok S W sp mv) (s0 : Same H0 H) (hD : H0 D = none) :
    ∃ acc, H1 D = some (.lst acc) ∧ acc.length < sizeLine ∧ Same H0 (upd H1 D (.lst (acc ++ [.ref t]))) ∧ MvL (upd H1 D (.lst (acc ++ [.ref t]))) D S W sp (k + 1) := by
  obtain ⟨acc, MV, h1, h2, h3, h4⟩ := h
  have l := h2.len
  rw [List.length_map] at l
  have kt : KT H1 (upd H1 D (.lst (acc ++ [.ref t]))) := KT.mut (s _ _ h1) (by intro zs z; cases z)
  refine ⟨acc, s _ _ h1, small' (by omega), fun b o e => (upd_ne (ne_of_none e hD)).trans (s _ _ (s0 _ _ e)), acc ++ [.ref t], MV ++ [mv], upd_same, ?_, fun x hx => ?_, by rw [List.length_append, List.length_singleton]; omega⟩
  · rw [List.map_append]
    exact ((h2.s s).t kt).append (plAll_cons (ht.t kt) plAll_nil)
  · rcases List.mem_append.mp hx with z | z
    · exact h3 x z
    · rw [List.mem_singleton.mp z]
      exact hm
theorem MvL.mono {H : Hp} {D : Addr} {S : Sts} {W : Wys} {sp : Int} {k j : Nat} (h : MvL H D S W sp k) (le : k ≤ j) : MvL H D S W sp j := by
  obtain ⟨acc, MV, h1, h2, h3, h4⟩ := h
  exact ⟨acc, MV, h1, h2, h3, by omega⟩
def spLMove : Sp := fun vs H Q _ => ∃ (p l0 a b : Addr) (m : Int) (L : List Tie) (sp mo : Int) (v : V) (S : Sts) (W : Wys) (n : Nat) (mode : Int), vs = [.ref p, v, .ref a, .ref b, .int mode] ∧ HandAt p l0 H ∧ Pl H (planD m L sp mo) v ∧ Right m L sp mo ∧ StsAt H a m S ∧ WaysAt H b W n ∧ n ≤ 50000 ∧ 0 ≤ mode ∧ mode < 4 ∧
  (∀ H', HandAt p l0 H' → Keep p H H' → Q .non H') ∧ ∀ mv t H', Mv.Ok S W sp mv → Pl H' (Mv.d mv) t → HandAt p l0 H' → Keep p H H' → Q t H'
section
variable {P : Program} {w : World} {K : PySem.W.Frag} {mg : Str → Option Value} {base : Heap}
local macro_rules | `(tactic| walk_at "rd") => `(tactic| (repeat (first
  | ((with_reducible refine' rd_var ?h0 ?_); (case h0 => rfl))
  | with_reducible refine rd_c ?_
  | with_reducible refine rd_op ?_
  | with_reducible refine rd_nil ?_
  | with_reducible refine rd_cons ?_
  | with_reducible refine rd_tup ?_
  | with_reducible refine rd_lst ?_
  | with_reducible refine rd_ifs ?_
  | with_reducible refine rd_seq ?_
  | with_reducible refine rd_next ?_
  | with_reducible refine rd_ret ?_
  | with_reducible refine rd_asg ?_
  | ((with_reducible refine' rd_gset ?hs ?_); (case hs => ((simp only [L2.start, List.map_cons, List.map_nil, List.length_cons, List.length_nil, List.cons_append, List.nil_append, List.set_cons_zero, List.set_cons_succ, Nat.reduceAdd, Nat.reduceSub, Nat.zero_add, List.reduceReplicate]); rfl)))
  | with_reducible refine rd_drop ?_
  | with_reducible refine rd_test ?_
  | with_reducible refine rd_B ?_
  | with_reducible refine rd_bl ?_
  | with_reducible refine rd_blP ?_
  | with_reducible refine rd_andV ?_
  | with_reducible refine rd_orV ?_
  | with_reducible refine rd_notV ?_
  | with_reducible refine rd_and ?_
  | with_reducible refine rd_or ?_
  | with_reducible refine rd_not ?_
  | with_reducible refine rd_chain ?_
  | with_reducible refine rd_dput ?_
  | with_reducible refine rd_dget ?_
  | with_reducible refine rd_cb ?_
  | with_reducible refine rd_call ?_
  | with_reducible refine rd_un ?_
  | with_reducible refine rd_sl ?_
  | with_reducible refine rd_nopart ?_
  | with_reducible refine rd_part ?_
  | with_reducible refine rd_intP ?_
  | with_reducible refine rd_rU ?_
  | with_reducible refine rd_fld ?_
  | with_reducible refine rd_eqI ?_
  | with_reducible refine rd_neI ?_
  | with_reducible refine rd_mko ?_
  | with_reducible refine rd_bm ?_
  | with_reducible refine rd_gsub ?_
  | with_reducible refine rd_i0 ?_)))
theorem ok_law_some_move (T : Tx K mg) (B : Bk K mg T) : FnOk P w K mg base CX0 2 B.law_some_move.f B.law_some_move.fd ["hand", "web", "states", "ways", "mode"] spLMove := by
  have G_law_draw := ok_law_draw (P := P) (w := w) (base := base) T B
  refine B.law_some_move.F.ok sc_law_some_move (fun vs H Q E h => ?_) (fun cdv A outer s H vs Q E hr h => ?_)
  · obtain ⟨p, l0, a, b, m, L, sp, mo, v, S, W, n, mode, rfl, _⟩ := h
    rfl
  · obtain ⟨p, l0, a, b, m, L, sp, mo, v, S, W, n, mode, rfl, hh, hv, R, hS, ⟨xs, WL, hb, hx, hR, hWL, hWn⟩, hn, d0, d1, q0, q⟩ := h
    obtain ⟨wa, wc, wx, rfl, hwa, hwc, hwx⟩ := pl_plan hv
    have hm := R.parts
    have lx := hx.len
    rw [List.length_map] at lx
    obtain ⟨ys, ha, hy⟩ := id hS
    have ly := hy.len
    rw [List.length_map, List.length_range] at ly
    have hWx : ∀ x ∈ WL, W x.1 x.2.1 ≠ [] := fun x hx => by
      rw [← hR.eq, lkp_mem hR.nd hx]
      exact hR.ne x hx
    refine ⟨_, (pss_cons (ps_setLc (i := 5) (own := [("house", 7)]) (g := gName 7) rfl sc_law_some_move.nd rfl rfl (sw_true rfl rfl rfl (by decide +kernel)) (pi_range1 (by rfl) T.b_range (pa_cons (pe_callB call_len_seq (by rfl) T.b_len (by decide +kernel) (pa_cons (pv 2) pa_nil)) pa_nil)) (blkOk_by (own := [("house", 7)]) (N := ["hand", "web", "states", "ways", "mode", "some", "takes", "house", "way"]) (sc := defScope s_law_some_move) (by decide +kernel)) (fun _ _ _ _ _ => pg_name (i := 7) sc_law_some_move.nd rfl (Or.inl rfl)) (fun _ _ _ _ _ => (pts_one (PW.pt (pw_and (pt_cmpR op_eq (pv 7) (pe_ix (r := rIxT K) ix_tup (pv 1) pe_int (fun _ _ => rfl)) (nomark _)) (pw_and1 (pt_cmpR op_eq (pe_ix (r := rIxT K) ix_tup (pe_ix (r := rIxL K) ix_list (pv 2) (pv 7) (fun _ _ => rfl)) pe_int (fun _ _ => rfl)) pe_str (nomark _))))))) (fun _ _ _ _ _ => (pe_tup (pa_cons pe_str (pa_cons (pv 7) pa_nil)))))
      (pss_cons (ps_setLc (i := 6) (own := [("way", 8)]) (g := gName 8) rfl sc_law_some_move.nd rfl rfl (sw_true rfl rfl rfl (by decide +kernel)) (pi_list (pv 3)) (blkOk_by (own := [("way", 8)]) (N := ["hand", "web", "states", "ways", "mode", "some", "takes", "house", "way"]) (sc := defScope s_law_some_move) (by decide +kernel)) (fun _ _ _ _ _ => pg_name (i := 8) sc_law_some_move.nd rfl (Or.inl rfl)) (fun _ _ _ _ _ => pts_nil) (fun _ _ _ _ _ => (pe_tup (pa_cons pe_str (pa_cons (pe_ix (r := rIxT K) ix_tup (pv 8) pe_int (fun _ _ => rfl)) (pa_cons (pe_ix (r := rIxT K) ix_tup (pv 8) pe_int (fun _ _ => rfl)) pa_nil))))))
      (C8.pss_cut (ps_if (PW.pt (pw_and (pt_cmpR op_eq (pv 4) pe_int (nomark _)) (pw_and1 (pt_cmpR op_gt (pe_callB call_len_seq (by rfl) T.b_len (by decide +kernel) (pa_cons (pe_lc (own := [("way", 8)]) (g := gName 8) rfl sc_law_some_move.nd (pi_list (pv 3)) (blkOk_by (own := [("way", 8)]) (N := ["hand", "web", "states", "ways", "mode", "some", "takes", "house", "way"]) (sc := defScope s_law_some_move) (by decide +kernel)) (fun _ _ _ _ _ => pg_name (i := 8) sc_law_some_move.nd rfl (Or.inl rfl)) (fun _ _ _ _ _ => (pts_one (pt_cmpR op_ne (pe_ix (r := rIxT K) ix_tup (pv 8) pe_int (fun _ _ => rfl)) (pe_ix (r := rIxT K) ix_tup (pv 1) pe_int (fun _ _ => rfl)) (nomark _)))) (fun _ _ _ _ _ => (pv 8))) pa_nil)) pe_int (nomark _))))) (pss_one (ps_setLc (i := 6) (own := [("way", 8)]) (g := gName 8) rfl sc_law_some_move.nd rfl rfl (sw_true rfl rfl rfl (by decide +kernel)) (pi_list (pv 3)) (blkOk_by (own := [("way", 8)]) (N := ["hand", "web", "states", "ways", "mode", "some", "takes", "house", "way"]) (sc := defScope s_law_some_move) (by decide +kernel)) (fun _ _ _ _ _ => pg_name (i := 8) sc_law_some_move.nd rfl (Or.inl rfl)) (fun _ _ _ _ _ => (pts_one (pt_cmpR op_ne (pe_ix (r := rIxT K) ix_tup (pv 8) pe_int (fun _ _ => rfl)) (pe_ix (r := rIxT K) ix_tup (pv 1) pe_int (fun _ _ => rfl)) (nomark _)))) (fun _ _ _ _ _ => (pe_tup (pa_cons pe_str (pa_cons (pe_ix (r := rIxT K) ix_tup (pv 8) pe_int (fun _ _ => rfl)) (pa_cons (pe_ix (r := rIxT K) ix_tup (pv 8) pe_int (fun _ _ => rfl)) pa_nil))))))) pss_nil)
      (pss_cons (ps_set (i := 5) sc_law_some_move.nd rfl (Or.inl rfl) (pe_op op_cat (pv 5) (pv 6)))
      (pss_cons (ps_if (pt_cmpR op_eq (pe_callB call_len_seq (by rfl) T.b_len (by decide +kernel) (pa_cons (pv 5) pa_nil)) pe_int (nomark _)) (pss_one (ps_ret pe_non)) pss_nil)
      (pss_one (ps_ret (pe_ix ix_list (pv 5) (pe_ix ix_list (pe_lst (pa_cons (pe_call G_law_draw (hr.mono (by decide)) rfl B.law_draw.m B.law_draw.F.kp B.law_draw.b .nil pass0 (pa_cons (pv 0) (pa_cons (pe_callB call_len_seq (by rfl) T.b_len (by decide +kernel) (pa_cons (pv 5) pa_nil)) pa_nil))) (pa_cons (pe_call G_law_draw (hr.mono (by decide)) rfl B.law_draw.m B.law_draw.F.kp B.law_draw.b .nil pass0 (pa_cons (pv 0) (pa_cons (pe_callB call_len_seq (by rfl) T.b_len (by decide +kernel) (pa_cons (pv 5) pa_nil)) pa_nil))) (pa_cons pe_int (pa_cons (pe_op op_sub (pe_callB call_len_seq (by rfl) T.b_len (by decide +kernel) (pa_cons (pv 5) pa_nil)) pe_int) pa_nil))))) (pv 4) (fun _ _ => rfl)) (fun _ _ => rfl))))))))), ?_⟩
    walk_at "rd"
    show iRng1 _ _ _ _
    refine rd_rng1 ?_
    walk_at "rd"
    refine ⟨a, _, rfl, .inl (SqL.of ha), ?_⟩
    refine ⟨_, rfl, by omega, by omega, fun D hD => lc_range (lo := 0) (n := ((ys.length : Nat) : Int).toNat) (fun i H1 => Same H H1 ∧ MvL H1 D S W sp i) ⟨same_new hD, [], [], upd_same, plAll_nil, fun x hx => (by cases hx), Nat.le_refl _⟩ ?_ ?_⟩
    · rintro i H1 hi ⟨s1, hmv⟩
      refine ⟨rfl, ?_⟩
      walk_at "rd"
      refine rd_ixT (s1 _ _ hwa) rfl ?_
      walk_at "rd"
      refine rd_ite (fun e1 => ?_) (fun e1 => ?_)
      · have e1' : 0 + (i : Int) = sp := of_decide_eq_true e1
        obtain ⟨zs, vst, hza, hat, hp⟩ := (hS.s s1).get (i := 0 + (i : Int)) (by omega) (by omega)
        obtain ⟨sa, b1, b2, b3, rfl, hsa, g1, g2, g3⟩ := pl_st' hp
        walk_at "rd"
        refine rd_ixL hza hat ?_
        walk_at "rd"
        refine rd_ixT hsa rfl ?_
        walk_at "rd"
        refine rd_eq rfl ?_
        rw [stg_asleep]
        walk_at "rd"
        refine rd_ite (fun e2 => ?_) (fun e2 => ?_)
        · walk_at "rd"
          refine rd_disp rfl fun t6 n6 => ?_
          have s6 := same_new (o := .tup [.str "start", .int (0 + (i : Int))]) n6
          refine hmv.add (mv := .start (0 + (i : Int))) s6 (by omega) (pl_tup upd_same (plAll_cons pl_str (plAll_cons pl_int plAll_nil))) ⟨e1', ?_⟩ s1 hD
          rw [e1'] at e2
          simpa using e2
        · exact ⟨s1, hmv.mono (by omega)⟩
      · exact ⟨s1, hmv.mono (by omega)⟩
    · rintro H1 ⟨s1, hmv⟩
      walk_at "rd"
      show iList _ _ _ _ _
      refine rd_ilist ?_
      walk_at "rd"
      refine ⟨b, rfl, ⟨_, SqL.of (s1 _ _ hb)⟩, fun D2 hD2 => lc_list (K := K) (a := b) (xs := xs) (fun i H2 => Same H1 H2 ∧ MvL H2 D2 S W sp i) ⟨same_new hD2, [], [], upd_same, plAll_nil, fun x hx => (by cases hx), Nat.le_refl _⟩ (fun i H2 _ hh => SqL.of (hh.1 _ _ (s1 _ _ hb))) ?_ ?_⟩
      · rintro i y H2 hi ⟨s2, hmv2⟩
        obtain ⟨x, t1, w1, hx1, rfl, ht1, hw1⟩ := ways_at hx hi
        have hil := (List.getElem?_eq_some_iff.mp hx1).1
        have s12 := s1.trans s2
        refine ⟨rfl, ?_⟩
        refine rd_tyes ?_
        refine rd_yes rfl ?_
        walk_at "rd"
        refine rd_ixT (s12 _ _ ht1) rfl ?_
        walk_at "rd"
        refine rd_ixT (s12 _ _ ht1) rfl ?_
        refine rd_disp rfl fun t6 n6 => ?_
        have s6 := same_new (o := .tup [.str "take", .int x.1, .int x.2.1]) n6
        exact hmv2.add (mv := .take x.1 x.2.1) s6 (by omega) (pl_tup upd_same (plAll_cons pl_str (plAll_cons pl_int (plAll_cons pl_int plAll_nil)))) (hWx x (List.mem_of_getElem? hx1)) s2 hD2
      · rintro H2 ⟨s2, hmv2⟩
        have s12 := s1.trans s2
        have hmv1 := hmv.s s2
        walk_at "rd"
        refine ⟨fun σ' H3 => ∃ ta, Same H2 H3 ∧ MvL H3 ta S W sp xs.length ∧ σ' = [some (.ref p), some (.ref wa), some (.ref a), some (.ref b), some (.int mode), some (.ref D), some (.ref ta), none, none], ?_, ?_⟩
        · walk_at "rd"
          refine rd_ite (fun e1 => ?_) (fun e1 => ?_)
          · walk_at "rd"
            show iList _ _ _ _ _
            refine rd_ilist ?_
            walk_at "rd"
            refine ⟨b, rfl, ⟨_, SqL.of (s12 _ _ hb)⟩, fun D3 hD3 => lc_list (K := K) (a := b) (xs := xs) (fun i H3 => Same H2 H3 ∧ ∃ acc, H3 D3 = some (.lst acc) ∧ acc.length ≤ i) ⟨same_new hD3, [], upd_same, Nat.le_refl _⟩ (fun i H3 _ hh => SqL.of (hh.1 _ _ (s12 _ _ hb))) ?_ ?_⟩
            · rintro i y H3 hi ⟨s3, acc, hacc, hal⟩
              obtain ⟨x, t1, w1, hx1, rfl, ht1, hw1⟩ := ways_at hx hi
              have hil := (List.getElem?_eq_some_iff.mp hx1).1
              have s13 := s12.trans s3
              refine ⟨rfl, ?_⟩
              walk_at "rd"
              refine rd_ixT (s13 _ _ ht1) rfl ?_
              walk_at "rd"
              refine rd_ixT (s13 _ _ hwa) rfl ?_
              walk_at "rd"
              refine rd_ite (fun e2 => ?_) (fun e2 => ?_)
              · walk_at "rd"
                exact ⟨acc, hacc, small' (by omega), fun z o ez => (upd_ne (ne_of_none ez hD3)).trans (s3 z o ez), _, upd_same, by rw [List.length_append, List.length_singleton]; omega⟩
              · exact ⟨s3, acc, hacc, by omega⟩
            · rintro H3 ⟨s3, acc, hacc, hal⟩
              have s13 := s12.trans s3
              walk_at "rd"
              refine ⟨D3, _, rfl, .inl (SqL.of hacc), ?_⟩
              walk_at "rd"
              refine rd_ite (fun e2 => ?_) (fun e2 => ?_)
              · walk_at "rd"
                show iList _ _ _ _ _
                refine rd_ilist ?_
                walk_at "rd"
                refine ⟨b, rfl, ⟨_, SqL.of (s13 _ _ hb)⟩, fun D4 hD4 => lc_list (K := K) (a := b) (xs := xs) (fun i H4 => Same H3 H4 ∧ MvL H4 D4 S W sp i) ⟨same_new hD4, [], [], upd_same, plAll_nil, fun x hx => (by cases hx), Nat.le_refl _⟩ (fun i H4 _ hh => SqL.of (hh.1 _ _ (s13 _ _ hb))) ?_ ?_⟩
                · rintro i y H4 hi ⟨s4, hmv4⟩
                  obtain ⟨x, t1, w1, hx1, rfl, ht1, hw1⟩ := ways_at hx hi
                  have hil := (List.getElem?_eq_some_iff.mp hx1).1
                  have s14 := s13.trans s4
                  refine ⟨rfl, ?_⟩
                  walk_at "rd"
                  refine rd_ixT (s14 _ _ ht1) rfl ?_
                  walk_at "rd"
                  refine rd_ixT (s14 _ _ hwa) rfl ?_
                  walk_at "rd"
                  refine rd_ite (fun e3 => ?_) (fun e3 => ?_)
                  · walk_at "rd"
                    refine rd_ixT (s14 _ _ ht1) rfl ?_
                    walk_at "rd"
                    refine rd_ixT (s14 _ _ ht1) rfl ?_
                    refine rd_disp rfl fun t6 n6 => ?_
                    have s6 := same_new (o := .tup [.str "take", .int x.1, .int x.2.1]) n6
                    exact hmv4.add (mv := .take x.1 x.2.1) s6 (by omega) (pl_tup upd_same (plAll_cons pl_str (plAll_cons pl_int (plAll_cons pl_int plAll_nil)))) (hWx x (List.mem_of_getElem? hx1)) s4 hD4
                  · exact ⟨s4, hmv4.mono (by omega)⟩
                · rintro H4 ⟨s4, hmv4⟩
                  exact ⟨D4, s3.trans s4, hmv4, rfl⟩
              · exact ⟨D2, s3, hmv2.s s3, rfl⟩
          · exact ⟨D2, Same.refl _, hmv2, rfl⟩
        · rintro σ' H3 ⟨ta, s3, hmv3, rfl⟩
          have hmv0 := hmv1.s s3
          obtain ⟨c1, M1, e1, e2, e3, e4⟩ := hmv0
          obtain ⟨c2, M2, f1, f2, f3, f4⟩ := hmv3
          have l1 := e2.len
          have l2 := f2.len
          rw [List.length_map] at l1 l2
          walk_at "rd"
          refine ⟨D, ta, c1, c2, rfl, rfl, e1, f1, small (by omega), fun D3 n3 => ?_⟩
          have s4 := same_new (o := .lst (c1 ++ c2)) n3
          have pl3 : PlAll (upd H3 D3 (.lst (c1 ++ c2))) ((M1 ++ M2).map Mv.d) (c1 ++ c2) := by
            rw [List.map_append]
            exact (e2.s s4).append (f2.s s4)
          have S4 := (s12.trans s3).trans s4
          have hD3 := upd_same (H := H3) (a := D3) (o := .lst (c1 ++ c2))
          have nD3 : D3 ≠ p := (hh.keep (s12.trans s3)).ne n3
          generalize upd H3 D3 (.lst (c1 ++ c2)) = H4 at pl3 S4 hD3 ⊢
          have okM : ∀ mv ∈ M1 ++ M2, Mv.Ok S W sp mv := fun mv hmv => by
            rcases List.mem_append.mp hmv with z | z
            · exact e3 mv z
            · exact f3 mv z
          have lc := pl3.len
          rw [List.length_map] at lc
          have lcb : (c1 ++ c2).length ≤ 100000 := by rw [List.length_append]; omega
          generalize c1 ++ c2 = cc at pl3 hD3 lc lcb ⊢
          generalize M1 ++ M2 = MV at pl3 lc okM
          have hh4 := hh.keep S4
          walk_at "rd"
          refine ⟨D3, _, rfl, .inl (SqL.of hD3), ?_⟩
          walk_at "rd"
          by_cases e0 : cc.length = 0
          · refine rd_yes (decide_eq_true (by omega)) ?_
            walk_at "rd"
            exact q0 _ hh4 (Keep.same S4)
          · refine rd_no (decide_eq_false (by omega)) ?_
            walk_at "rd"
            refine ⟨D3, _, rfl, .inl (SqL.of hD3), ?_⟩
            walk_at "rd"
            refine ⟨p, l0, _, rfl, by omega, by omega, hh4, fun r1 H5 a0 a1 hh5 k5 => ?_⟩
            have hD5 := k5 _ _ nD3 hD3
            walk_at "rd"
            refine ⟨D3, _, rfl, .inl (SqL.of hD5), ?_⟩
            walk_at "rd"
            refine ⟨p, l0, _, rfl, by omega, by omega, hh5, fun r2 H6 a2 a3 hh6 k6 => ?_⟩
            have hD6 := k6 _ _ nD3 hD5
            walk_at "rd"
            refine ⟨D3, _, rfl, .inl (SqL.of hD6), ?_⟩
            walk_at "rd"
            refine rd_disp rfl fun t7 n7 => ?_
            have s7 := same_new (o := .lst [.int r1, .int r2, .int 0, .int ((cc.length : Int) - 1)]) n7
            have k56 := k5.trans k6
            have kt := hh4.kt k56
            have Kf := (Keep.same (p := p) S4).trans (k56.trans (Keep.same s7))
            have hD7 := s7 _ _ hD6
            have pl7 := (pl3.t kt).s s7
            have fin : ∀ i : Int, 0 ≤ i → i < (cc.length : Int) → rIxL K (.ref D3) (.int i) (upd H6 t7 (.lst [.int r1, .int r2, .int 0, .int ((cc.length : Int) - 1)])) Q := fun i i0 i1 => by
              have e : cc[i.toNat]? = some (cc[i.toNat]'(by omega)) := List.getElem?_eq_getElem (by omega)
              obtain ⟨d, ed, hd⟩ := pl7.get' e
              rw [List.getElem?_map] at ed
              cases em : MV[i.toNat]? with
              | none =>
                rw [em] at ed
                cases ed
              | some mv =>
                rw [em] at ed
                obtain rfl : Mv.d mv = d := Option.some.inj ed
                exact rd_ixL hD7 (at_of (j := i.toNat) (by omega) e) (q mv _ _ (okM mv (List.mem_of_getElem? em)) hd (hh6.keep s7) Kf)
            have : mode = 0 ∨ mode = 1 ∨ mode = 2 ∨ mode = 3 := by omega
            rcases this with rfl | rfl | rfl | rfl
            · walk_at "rd"
              refine rd_ixL (v := .int r1) upd_same rfl ?_
              exact fin _ a0 a1
            · walk_at "rd"
              refine rd_ixL (v := .int r2) upd_same rfl ?_
              exact fin _ a2 a3
            · walk_at "rd"
              refine rd_ixL (v := .int 0) upd_same rfl ?_
              exact fin 0 (by omega) (by omega)
            · walk_at "rd"
              refine rd_ixL (v := .int ((cc.length : Int) - 1)) upd_same rfl ?_
              exact fin _ (by omega) (by omega)
end
end Mw

/-! L15 -/
namespace Mw
open PySem L2
theorem rp_perm {WL WL' : List Way} {W : Wys} (h : Rp WL W) (p : WL'.Perm WL) : Rp WL' W := by
  have nd' : (WL'.map fun x => (x.1, x.2.1)).Nodup := (p.map _).nodup_iff.mpr h.nd
  refine ⟨nd', fun x hx => h.ne x (p.mem_iff.mp hx), fun a b => ?_⟩
  rw [← h.eq]
  by_cases z : (a, b) ∈ WL'.map fun x => (x.1, x.2.1)
  · obtain ⟨x, hx, e⟩ := List.mem_map.mp z
    cases e
    rw [lkp_mem nd' hx, lkp_mem h.nd (p.mem_iff.mp hx)]
  · rw [lkp_none z, lkp_none (fun y => z ((p.map _).mem_iff.mpr y))]
def popL (WL : List Way) (f h : Int) (Wr : List Wd) : List Way := (WL.filter fun x => !(hasK f h x)) ++ (if Wr = [] then [] else [(f, h, Wr)])
theorem rp_pop {WL : List Way} {W : Wys} (R : Rp WL W) {f h : Int} {wd : Wd} {Wr : List Wd} (hW : W f h = wd :: Wr) : Rp (popL WL f h Wr) (popW W f h) := by
  have hsub : ∀ x ∈ WL.filter fun x => !(hasK f h x), x ∈ WL ∧ ¬ (x.1 = f ∧ x.2.1 = h) := fun x hx => by
    rw [List.mem_filter] at hx
    refine ⟨hx.1, fun z => ?_⟩
    rw [hasK_iff.mpr z] at hx
    exact Bool.false_ne_true hx.2
  have nd1 : ((WL.filter fun x => !(hasK f h x)).map fun x => (x.1, x.2.1)).Nodup := (R.nd.sublist (List.Sublist.map _ List.filter_sublist))
  have nd : ((popL WL f h Wr).map fun x => (x.1, x.2.1)).Nodup := by
    unfold popL
    rw [List.map_append, List.nodup_append]
    refine ⟨nd1, by split <;> simp, fun x hx y hy e => ?_⟩
    obtain ⟨x', hx', rfl⟩ := List.mem_map.mp hx
    split at hy
    · cases hy
    · rw [List.map_singleton, List.mem_singleton] at hy
      subst hy
      cases e
      exact (hsub x' hx').2 ⟨rfl, rfl⟩
  refine ⟨nd, fun x hx => ?_, fun a b => ?_⟩
  · unfold popL at hx
    rcases List.mem_append.mp hx with z | z
    · exact R.ne x (hsub x z).1
    · split at z
      · cases z
      · rename_i e
        rw [List.mem_singleton.mp z]
        exact e
  · unfold popW
    by_cases e : a = f ∧ b = h
    · rw [if_pos e, e.1, e.2, hW, List.tail_cons]
      by_cases e2 : Wr = []
      · rw [e2]
        refine lkp_none fun z => ?_
        obtain ⟨x, hx, ex⟩ := List.mem_map.mp z
        unfold popL at hx
        rw [if_pos rfl, List.append_nil] at hx
        cases ex
        exact (hsub x hx).2 ⟨rfl, rfl⟩
      · refine lkp_mem (x := (f, h, Wr)) nd ?_
        unfold popL
        rw [if_neg e2]
        simp
    · rw [if_neg e, ← R.eq]
      by_cases z : (a, b) ∈ WL.map fun x => (x.1, x.2.1)
      · obtain ⟨x, hx, ex⟩ := List.mem_map.mp z
        cases ex
        rw [lkp_mem R.nd hx]
        refine lkp_mem nd ?_
        unfold popL
        refine List.mem_append.mpr (.inl (List.mem_filter.mpr ⟨hx, ?_⟩))
        cases y : hasK f h x with
        | true => exact absurd (hasK_iff.mp y) e
        | false => rfl
      · rw [lkp_none z]
        refine lkp_none fun y => ?_
        obtain ⟨x, hx, ex⟩ := List.mem_map.mp y
        unfold popL at hx
        rcases List.mem_append.mp hx with w | w
        · exact z (List.mem_map.mpr ⟨x, (hsub x w).1, ex⟩)
        · split at w
          · cases w
          · rw [List.mem_singleton.mp w] at ex
            cases ex
            exact e ⟨rfl, rfl⟩
theorem sts_set {H : Hp} {m : Int} {S : Sts} {h : Int} {r : St} {xs : List V} {x : V} (hx : PlAll H ((List.range m.toNat).map fun (i : Nat) => (S (i : Int)).d) xs) (h0 : 0 ≤ h) (hr : Pl H r.d x) : PlAll H ((List.range m.toNat).map fun (i : Nat) => (setS S h r (i : Int)).d) (xs.set h.toNat x) := by
  obtain ⟨hl, hi⟩ := (plAll_iff _ _).mp hx
  refine (plAll_iff _ _).mpr ⟨by rw [List.length_set, ← hl, List.length_map, List.length_map], fun i d y e1 e2 => ?_⟩
  rw [List.getElem?_map] at e1
  cases er : (List.range m.toNat)[i]? with
  | none =>
    rw [er] at e1
    cases e1
  | some j =>
    rw [er] at e1
    obtain ⟨er1, er2⟩ := List.getElem?_eq_some_iff.mp er
    rw [List.getElem_range] at er2
    subst er2
    have ed : (setS S h r (i : Int)).d = d := Option.some.inj e1
    rw [List.getElem?_set] at e2
    by_cases z : h.toNat = i
    · rw [if_pos z] at e2
      split at e2
      · cases e2
        rw [← ed, show (i : Int) = h by omega, setS_same]
        exact hr
      · cases e2
    · rw [if_neg z] at e2
      rw [← ed, setS_ne (by omega)]
      exact hi i _ y (by rw [List.getElem?_map, er]; rfl) e2
theorem plAll_perm {α : Type} {H : Hp} {g : α → PyData} : ∀ {ys xs : List V}, ys.Perm xs → ∀ {L : List α}, PlAll H (L.map g) xs → ∃ L' : List α, L'.Perm L ∧ PlAll H (L'.map g) ys := by
  intro ys xs hp
  induction hp with
  | nil => exact fun {L} h => ⟨L, List.Perm.refl _, h⟩
  | cons x p ih =>
    intro L h
    cases L with
    | nil => cases plAll_nil' h
    | cons l L =>
      obtain ⟨y, r, e, h1, h2⟩ := plAll_cons' h
      cases e
      obtain ⟨L', q1, q2⟩ := ih h2
      exact ⟨l :: L', q1.cons l, plAll_cons h1 q2⟩
  | swap x y l =>
    intro L h
    cases L with
    | nil => cases plAll_nil' h
    | cons a L =>
      obtain ⟨y1, r, e, h1, h2⟩ := plAll_cons' h
      cases e
      cases L with
      | nil => cases plAll_nil' h2
      | cons b L =>
        obtain ⟨y2, r, e, h3, h4⟩ := plAll_cons' h2
        cases e
        exact ⟨b :: a :: L, List.Perm.swap _ _ _, plAll_cons h3 (plAll_cons h1 h4)⟩
  | trans p1 p2 ih1 ih2 =>
    intro L h
    obtain ⟨L1, q1, q2⟩ := ih2 h
    obtain ⟨L2, q3, q4⟩ := ih1 q2
    exact ⟨L2, q3.trans q1, q4⟩
def k3 (H : Hp) : V → Int × Int
  | .ref b => match H b with
    | some (.tup [.int i, .int j, _]) => (i, j)
    | _ => (0, 0)
  | _ => (0, 0)
theorem k3_at {H : Hp} {b : Addr} {i j : Int} {z : V} (h : H b = some (.tup [.int i, .int j, z])) : k3 H (.ref b) = (i, j) := by
  show (match H b with | some (.tup [.int i, .int j, _]) => (i, j) | _ => (0, 0)) = _
  rw [h]
theorem k3_inj {H : Hp} {WL : List Way} {xs : List V} (h : PlAll H (WL.map wayD) xs) (nd : (WL.map fun x => (x.1, x.2.1)).Nodup) : ∀ x ∈ xs, ∀ y ∈ xs, k3 H x = k3 H y → x = y := by
  intro x hx y hy e
  obtain ⟨i, hi, ei⟩ := List.getElem_of_mem hx
  obtain ⟨j, hj, ej⟩ := List.getElem_of_mem hy
  have gi' : xs[i]? = some x := by rw [List.getElem?_eq_getElem hi, ei]
  have gj' : xs[j]? = some y := by rw [List.getElem?_eq_getElem hj, ej]
  obtain ⟨a, t1, w1, a1, rfl, a2, a3⟩ := ways_at h gi'
  obtain ⟨b, t2, w2, b1, rfl, b2, b3⟩ := ways_at h gj'
  rw [k3_at a2, k3_at b2] at e
  have ka : (WL.map fun x => (x.1, x.2.1))[i]? = some (a.1, a.2.1) := by rw [List.getElem?_map, a1]; rfl
  have kb : (WL.map fun x => (x.1, x.2.1))[j]? = some (a.1, a.2.1) := by rw [List.getElem?_map, b1, e]; rfl
  obtain ⟨la, ga⟩ := List.getElem?_eq_some_iff.mp ka
  obtain ⟨lb, gb⟩ := List.getElem?_eq_some_iff.mp kb
  have pw := List.pairwise_iff_getElem.mp nd
  have : i = j := by
    rcases Nat.lt_trichotomy i j with z | z | z
    · exact absurd (ga.trans gb.symm) (pw i j la lb z)
    · exact z
    · exact absurd (gb.trans ga.symm) (pw j i lb la z)
  subst this
  rw [gi'] at gj'
  exact Option.some.inj gj'
theorem rd_ne2 {K : PySem.W.Frag} {H : Hp} {Q : VK} {s t : Addr} {a b c d : Int} (h1 : H s = some (.tup [.int a, .int b])) (h2 : H t = some (.tup [.int c, .int d])) (q : Q (.bl (!(a == c && b == d))) H) : rNeD K (.ref s) (.ref t) H Q := by
  refine ⟨.tuple [.int a, .int b], .tuple [.int c, .int d], .tup (SqT.of h1) (.cons (.int a) (.cons (.int b) .nil)), .tup (SqT.of h2) (.cons (.int c) (.cons (.int d) .nil)), rfl, rfl, ?_⟩
  have e : PyData.eqv (.tuple [.int a, .int b]) (.tuple [.int c, .int d]) = (a == c && b == d) := by
    show (a == c && (b == d && true)) = _
    simp
  rw [e]
  exact q
/-- what a move leads to -/
def MvTo (L : List Tie) (sp mo : Int) (S : Sts) (W : Wys) (h : Int) (r : St × List (Int × Wd)) (W' : Wys) : Mv → Prop
  | .start x => x = h ∧ h = sp ∧ (S h).up = false ∧ (∀ i, i < (nbL L h).length → 0 ≤ gi (rooms (evOf L h) (S h)) i) ∧ r = startM (evOf L h) (S h) ∧ W' = W
  | .take f x => x = h ∧ ∃ wd Wr, W f h = wd :: Wr ∧ heardM (evOf L h) sp mo h (S h) f wd = some r ∧ W' = popW W f h
def spLMoved : Sp := fun vs H Q _ => ∃ (a b : Addr) (m : Int) (L : List Tie) (sp mo : Int) (v t : V) (S : Sts) (W W' : Wys) (n : Nat) (mv : Mv) (h : Int) (r : St × List (Int × Wd)), vs = [v, .ref a, .ref b, t] ∧ Pl H (planD m L sp mo) v ∧ Right m L sp mo ∧ StsAt H a m S ∧ WaysAt H b W n ∧ n ≤ 40000 ∧ Pl H (Mv.d mv) t ∧
  0 ≤ h ∧ h < m ∧ SOk (evOf L h) (S h) ∧ MvTo L sp mo S W h r W' mv ∧ r.2.length ≤ 1000 ∧ ∀ to a' b' x H', Same H H' → StsAt H' a' m (setS S h r.1) → WaysAt H' b' (addW W' h r.2) (n + 1 + r.2.length) → H a' = none → H b' = none → H' x = some (.tup [to, .ref a', .ref b']) → Q (.ref x) H'
section
variable {P : Program} {w : World} {K : PySem.W.Frag} {mg : Str → Option Value} {base : Heap}
local macro_rules | `(tactic| walk_at "rd") => `(tactic| (repeat (first
  | ((with_reducible refine' rd_var ?h0 ?_); (case h0 => rfl))
  | with_reducible refine rd_c ?_
  | with_reducible refine rd_op ?_
  | with_reducible refine rd_nil ?_
  | with_reducible refine rd_cons ?_
  | with_reducible refine rd_tup ?_
  | with_reducible refine rd_lst ?_
  | with_reducible refine rd_ifs ?_
  | with_reducible refine rd_seq ?_
  | with_reducible refine rd_next ?_
  | with_reducible refine rd_ret ?_
  | with_reducible refine rd_asg ?_
  | ((with_reducible refine' rd_gset ?hs ?_); (case hs => ((simp only [L2.start, List.map_cons, List.map_nil, List.length_cons, List.length_nil, List.cons_append, List.nil_append, List.set_cons_zero, List.set_cons_succ, Nat.reduceAdd, Nat.reduceSub, Nat.zero_add, List.reduceReplicate]); rfl)))
  | with_reducible refine rd_drop ?_
  | with_reducible refine rd_test ?_
  | with_reducible refine rd_B ?_
  | with_reducible refine rd_bl ?_
  | with_reducible refine rd_blP ?_
  | with_reducible refine rd_andV ?_
  | with_reducible refine rd_orV ?_
  | with_reducible refine rd_notV ?_
  | with_reducible refine rd_and ?_
  | with_reducible refine rd_or ?_
  | with_reducible refine rd_not ?_
  | with_reducible refine rd_chain ?_
  | with_reducible refine rd_dput ?_
  | with_reducible refine rd_dget ?_
  | with_reducible refine rd_cb ?_
  | with_reducible refine rd_call ?_
  | with_reducible refine rd_un ?_
  | with_reducible refine rd_sl ?_
  | with_reducible refine rd_nopart ?_
  | with_reducible refine rd_part ?_
  | with_reducible refine rd_intP ?_
  | with_reducible refine rd_rU ?_
  | with_reducible refine rd_fld ?_
  | with_reducible refine rd_eqI ?_
  | with_reducible refine rd_neI ?_
  | with_reducible refine rd_mko ?_
  | with_reducible refine rd_bm ?_
  | with_reducible refine rd_gsub ?_
  | with_reducible refine rd_i0 ?_)))
theorem ok_law_moved (T : Tx K mg) (B : Bk K mg T) : FnOk P w K mg base CX0 5 B.law_moved.f B.law_moved.fd ["web", "states", "ways", "move"] spLMoved := by
  have G_law_started := ok_law_started (P := P) (w := w) (base := base) T B
  have G_law_heard := ok_law_heard (P := P) (w := w) (base := base) T B
  have G_law_with_words := ok_law_with_words (P := P) (w := w) (base := base) T B
  refine B.law_moved.F.ok sc_law_moved (fun vs H Q E h => ?_) (fun cdv A outer s H vs Q E hr h => ?_)
  · obtain ⟨a, b, m, L, sp, mo, v, t, S, W, W', n, mv, h, r, rfl, _⟩ := h
    rfl
  · obtain ⟨a, b, m, L, sp, mo, v, t, S, W, W', n, mv, h, r, rfl, hv, R, hS, hWy, hn, ht, h0, h1, hs, hto, hrl, q⟩ := h
    refine ⟨_, (pss_cons (ps_set (i := 4) sc_law_moved.nd rfl (Or.inl rfl) (pe_ix ix_tup (pv 3) (pe_op op_sub (pe_callB call_len_seq (by rfl) T.b_len (by decide +kernel) (pa_cons (pv 3) pa_nil)) pe_int) (fun _ _ => rfl)))
      (C8.pss_cut (ps_if (pt_cmpR op_eq (pe_ix ix_tup (pv 3) pe_int (fun _ _ => rfl)) pe_str (nomark _)) (pss_one (ps_set (i := 5) sc_law_moved.nd rfl (Or.inl rfl) (pe_call G_law_started (hr.mono (by decide)) rfl B.law_started.m B.law_started.F.kp B.law_started.b .nil pass0 (pa_cons (pv 0) (pa_cons (pv 4) (pa_cons (pe_ix ix_list (pv 1) (pv 4) (fun _ _ => rfl)) pa_nil)))))) (pss_cons (ps_set (i := 6) sc_law_moved.nd rfl (Or.inl rfl) (pe_ix ix_list (pe_lc (own := [("way", 7)]) (g := gName 7) rfl sc_law_moved.nd (pi_list (pv 2)) (blkOk_by (own := [("way", 7)]) (N := ["web", "states", "ways", "move", "house", "told", "words", "way"]) (sc := defScope s_law_moved) (by decide +kernel)) (fun _ _ _ _ _ => pg_name (i := 7) sc_law_moved.nd rfl (Or.inl rfl)) (fun _ _ _ _ _ => (pts_one (pt_cmpR (r := rEqD K) (op_eqD hr.units) (pe_slice (r := rSlA K) sl_tupA (pv 7) po_none (po_some pe_int)) (pe_slice (r := rSlA K) sl_tupA (pv 3) (po_some pe_int) po_none) (nomark _)))) (fun _ _ _ _ _ => (pe_ix (r := rIxT K) ix_tup (pv 7) pe_int (fun _ _ => rfl)))) pe_int (fun _ _ => rfl)))
      (pss_cons (ps_setLc (i := 2) (own := [("way", 7)]) (g := gName 7) rfl sc_law_moved.nd rfl rfl (sw_true rfl rfl rfl (by decide +kernel)) (pi_list (pv 2)) (blkOk_by (own := [("way", 7)]) (N := ["web", "states", "ways", "move", "house", "told", "words", "way"]) (sc := defScope s_law_moved) (by decide +kernel)) (fun _ _ _ _ _ => pg_name (i := 7) sc_law_moved.nd rfl (Or.inl rfl)) (fun _ _ _ _ _ => (pts_one (pt_cmpR (r := rNeD K) (op_neD hr.units) (pe_slice (r := rSlA K) sl_tupA (pv 7) po_none (po_some pe_int)) (pe_slice (r := rSlA K) sl_tupA (pv 3) (po_some pe_int) po_none) (nomark _)))) (fun _ _ _ _ _ => (pv 7)))
      (C8.pss_cut (ps_if (pt_cmpR op_gt (pe_callB call_len_seq (by rfl) T.b_len (by decide +kernel) (pa_cons (pv 6) pa_nil)) pe_int (nomark _)) (pss_one (ps_set (i := 2) sc_law_moved.nd rfl (Or.inl rfl) (pe_callB cr_sortedTri (by rfl) T.b_sorted (by decide +kernel) (pa_cons (pe_op op_cat (pv 2) (pe_lst (pa_cons (pe_op op_catA (pe_slice sl_tupA (pv 3) (po_some pe_int) po_none) (pe_tup (pa_cons (pe_slice sl_tupA (pv 6) (po_some pe_int) po_none) pa_nil))) pa_nil))) pa_nil)))) pss_nil)
      (pss_one (ps_set (i := 5) sc_law_moved.nd rfl (Or.inl rfl) (pe_call G_law_heard (hr.mono (by decide)) rfl B.law_heard.m B.law_heard.F.kp B.law_heard.b .nil pass0 (pa_cons (pv 0) (pa_cons (pv 4) (pa_cons (pe_ix ix_list (pv 1) (pv 4) (fun _ _ => rfl)) (pa_cons (pe_ix ix_tup (pv 3) pe_int (fun _ _ => rfl)) (pa_cons (pe_ix ix_tup (pv 6) pe_int (fun _ _ => rfl)) pa_nil))))))))))))
      (pss_one (ps_ret (pe_tup (pa_cons (pv 5) (pa_cons (pe_op op_cat (pe_op op_cat (pe_slice sl_list (pv 1) po_none (po_some (pv 4))) (pe_lst (pa_cons (pe_ix ix_tup (pv 5) pe_int (fun _ _ => rfl)) pa_nil))) (pe_slice sl_list (pv 1) (po_some (pe_op op_add (pv 4) pe_int)) po_none)) (pa_cons (pe_call G_law_with_words (hr.mono (by decide)) rfl B.law_with_words.m B.law_with_words.F.kp B.law_with_words.b .nil pass0 (pa_cons (pv 2) (pa_cons (pv 4) (pa_cons (pe_ix ix_tup (pv 5) pe_int (fun _ _ => rfl)) pa_nil)))) pa_nil)))))))), ?_⟩
    obtain ⟨xsS, vst, hxa, hat, hpS⟩ := hS.get h0 h1
    obtain ⟨ta, zs, rfl, hta, hlast, hmv⟩ : ∃ ta zs, t = .ref ta ∧ H ta = some (.tup zs) ∧ atI zs ((zs.length : Int) - 1) = some (.int h) ∧ ((∃ x, mv = .start x ∧ zs = [.str "start", .int h]) ∨ ∃ f x, mv = .take f x ∧ zs = [.str "take", .int f, .int h]) := by
      cases mv with
      | start x =>
        obtain ⟨ta, zs, rfl, hta, hz⟩ := pl_tup' ht
        obtain ⟨z1, r1, rfl, g1, hz⟩ := plAll_cons' hz
        obtain ⟨z2, r2, rfl, g2, hz⟩ := plAll_cons' hz
        cases plAll_nil' hz
        cases pl_str' g1
        cases pl_int' g2
        have e : x = h := hto.1
        subst e
        exact ⟨ta, _, rfl, hta, rfl, .inl ⟨x, rfl, rfl⟩⟩
      | take f x =>
        obtain ⟨ta, zs, rfl, hta, hz⟩ := pl_tup' ht
        obtain ⟨z1, r1, rfl, g1, hz⟩ := plAll_cons' hz
        obtain ⟨z2, r2, rfl, g2, hz⟩ := plAll_cons' hz
        obtain ⟨z3, r3, rfl, g3, hz⟩ := plAll_cons' hz
        cases plAll_nil' hz
        cases pl_str' g1
        cases pl_int' g2
        cases pl_int' g3
        have e : x = h := hto.1
        subst e
        exact ⟨ta, _, rfl, hta, rfl, .inr ⟨f, x, rfl, rfl⟩⟩
    walk_at "rd"
    refine ⟨ta, _, rfl, .inr (SqT.of hta), ?_⟩
    walk_at "rd"
    refine rd_ixT hta hlast ?_
    walk_at "rd"
    refine ⟨fun σ' H' => ∃ (b2 : Addr) (to : Addr) (x1 x2 : V) (u6 u7 : Option V), σ' = [some v, some (.ref a), some (.ref b2), some (.ref ta), some (.int h), some (.ref to), u6, u7] ∧ Same H H' ∧ WaysAt H' b2 W' (n + 1) ∧ H' to = some (.tup [.str "told", x1, x2]) ∧ Pl H' r.1.d x1 ∧ Pl H' (.tuple (r.2.map ndD)) x2, ?_, ?_⟩
    · have told3 : ∀ (H' : Hp) (tv : V), Pl H' (toldD r) tv → ∃ to x1 x2, tv = .ref to ∧ H' to = some (.tup [.str "told", x1, x2]) ∧ Pl H' r.1.d x1 ∧ Pl H' (.tuple (r.2.map ndD)) x2 := fun H' tv hp => by
        obtain ⟨to, ks, rfl, hto', hk⟩ := pl_tup' hp
        obtain ⟨z1, r1, rfl, g1, hk⟩ := plAll_cons' hk
        obtain ⟨z2, r2, rfl, g2, hk⟩ := plAll_cons' hk
        obtain ⟨z3, r3, rfl, g3, hk⟩ := plAll_cons' hk
        cases plAll_nil' hk
        cases pl_str' g1
        exact ⟨to, z2, z3, rfl, hto', g2, g3⟩
      rcases hmv with ⟨x, rfl, rfl⟩ | ⟨f, x, rfl, rfl⟩
      · obtain ⟨rfl, e1, e2, e3, e4, e5⟩ := hto
        walk_at "rd"
        refine rd_ixT hta rfl ?_
        walk_at "rd"
        refine rd_eq rfl ?_
        walk_at "rd"
        refine rd_yes rfl ?_
        walk_at "rd"
        refine rd_ixL hxa hat ?_
        refine ⟨m, L, sp, mo, x, v, vst, S x, rfl, hv, R, hpS, hs, fun _ _ => e3, fun tv H1 s1 hp1 => ?_⟩
        unfold dueS at hp1
        rw [if_pos ⟨e1, e2⟩, ← e4] at hp1
        obtain ⟨to, x1, x2, rfl, k1, k2, k3⟩ := told3 H1 tv hp1
        obtain ⟨ys, WL, y1, y2, y3, y4, y5⟩ := hWy.s s1
        rw [e5]
        exact ⟨b, to, x1, x2, _, _, rfl, s1, ⟨ys, WL, y1, y2, y3, by omega, fun a b => Nat.le_succ_of_le (y5 a b)⟩, k1, k2, k3⟩
      · obtain ⟨rfl, wd, Wr, hW, hhd, e5⟩ := hto
        walk_at "rd"
        refine rd_ixT hta rfl ?_
        walk_at "rd"
        refine rd_eq rfl ?_
        walk_at "rd"
        refine rd_no rfl ?_
        obtain ⟨ys, WL, hb, hyw, hRp, hWl, hWn⟩ := hWy
        have lyw := hyw.len
        rw [List.length_map] at lyw
        walk_at "rd"
        show iList _ _ _ _ _
        refine rd_ilist ?_
        walk_at "rd"
        refine ⟨b, rfl, ⟨_, SqL.of hb⟩, fun D hD => lc_list (K := K) (a := b) (xs := ys) (fun i H1 => Same H H1 ∧ ∃ acc, H1 D = some (.lst acc) ∧ (∀ y ∈ acc, Pl H1 (wsD (W f x)) y) ∧ ((f, x) ∈ (WL.take i).map (fun z => (z.1, z.2.1)) → acc ≠ []) ∧ acc.length ≤ i) ⟨same_new hD, [], upd_same, fun y hy => (by cases hy), fun z => (by simp at z), Nat.le_refl _⟩ (fun i H1 _ hh => SqL.of (hh.1 _ _ hb)) ?_ ?_⟩
        · rintro i y H1 hi ⟨s1, acc, hacc, hal, hne, hlen⟩
          obtain ⟨z, t1, w1, hz1, rfl, ht1, hw1⟩ := ways_at hyw hi
          have hil := (List.getElem?_eq_some_iff.mp hz1).1
          refine ⟨rfl, ?_⟩
          walk_at "rd"
          refine rd_slP (s1 _ _ ht1) fun k1 H2 s2 hk1 => ?_
          walk_at "rd"
          refine rd_slP (s2 _ _ (s1 _ _ hta)) fun k2 H3 s3 hk2 => ?_
          replace hk1 : H2 k1 = some (.tup [.int z.1, .int z.2.1]) := hk1
          replace hk2 : H3 k2 = some (.tup [.int f, .int x]) := hk2
          refine rd_eq2 (s3 _ _ hk1) hk2 ?_
          walk_at "rd"
          have s13 := s2.trans s3
          refine rd_ite (fun e2 => ?_) (fun e2 => ?_)
          · have e2' : z.1 = f ∧ z.2.1 = x := by simpa using e2
            walk_at "rd"
            refine rd_ixT (s13 _ _ (s1 _ _ ht1)) rfl ?_
            have kt : KT H3 (upd H3 D (.lst (acc ++ [w1]))) := KT.mut (s13 _ _ hacc) (by intro zs z; cases z)
            have hw3 : Pl H3 (wsD (W f x)) w1 := by
              have e := lkp_mem hRp.nd (List.mem_of_getElem? hz1)
              rw [hRp.eq, e2'.1, e2'.2] at e
              rw [e]
              exact (hw1.s s1).s s13
            refine ⟨acc, s13 _ _ hacc, small' (by omega), fun c o ez => (upd_ne (ne_of_none ez hD)).trans (s13 _ _ (s1 _ _ ez)), acc ++ [w1], upd_same, fun y hy => ?_, fun _ => by simp, by rw [List.length_append, List.length_singleton]; omega⟩
            rcases List.mem_append.mp hy with q | q
            · exact ((hal y q).s s13).t kt
            · rw [List.mem_singleton.mp q]
              exact hw3.t kt
          · refine ⟨s1.trans s13, acc, s13 _ _ hacc, fun y hy => (hal y hy).s s13, fun zz => hne ?_, by omega⟩
            rw [take_snoc hz1, List.map_append] at zz
            rcases List.mem_append.mp zz with q | q
            · exact q
            · rw [List.map_singleton, List.mem_singleton] at q
              cases q
              simp at e2
        · rintro H1 ⟨s1, acc, hacc, hal, hne, hlen⟩
          rw [← lyw, List.take_length] at hne
          have hin : (f, x) ∈ WL.map (fun z => (z.1, z.2.1)) := by
            apply Classical.byContradiction
            intro z
            have := lkp_none z
            rw [hRp.eq, hW] at this
            cases this
          obtain ⟨y0, acc', rfl⟩ : ∃ y0 acc', acc = y0 :: acc' := by
            cases acc with
            | nil => exact absurd rfl (hne hin)
            | cons y l => exact ⟨y, l, rfl⟩
          have hy0 := hal y0 (by simp)
          rw [hW] at hy0
          obtain ⟨wa, ws, rfl, hwa, hws⟩ := pl_tup' hy0
          obtain ⟨w0, ws', rfl, hw0, hws'⟩ := plAll_cons' hws
          have lws := hws'.len
          rw [List.length_map] at lws
          walk_at "rd"
          refine rd_ixL hacc at0 ?_
          walk_at "rd"
          show iList _ _ _ _ _
          refine rd_ilist ?_
          walk_at "rd"
          refine ⟨b, rfl, ⟨_, SqL.of (s1 _ _ hb)⟩, fun D2 hD2 => lc_list (K := K) (a := b) (xs := ys) (fun i H2 => Same H1 H2 ∧ ∃ acc, H2 D2 = some (.lst acc) ∧ PlAll H2 (((WL.take i).filter fun z => !(hasK f x z)).map wayD) acc ∧ acc.length ≤ i) ⟨same_new hD2, [], upd_same, plAll_nil, Nat.le_refl _⟩ (fun i H2 _ hh => SqL.of (hh.1 _ _ (s1 _ _ hb))) ?_ ?_⟩
          · rintro i y H2 hi ⟨s2, acc, hacc2, hpl, hlen2⟩
            obtain ⟨z, t1, w1, hz1, rfl, ht1, hw1⟩ := ways_at hyw hi
            have hil := (List.getElem?_eq_some_iff.mp hz1).1
            have s12 := s1.trans s2
            refine ⟨rfl, ?_⟩
            walk_at "rd"
            refine rd_slP (s12 _ _ ht1) fun k1 H3 s3 hk1 => ?_
            walk_at "rd"
            refine rd_slP (s3 _ _ (s12 _ _ hta)) fun k2 H4 s4 hk2 => ?_
            replace hk1 : H3 k1 = some (.tup [.int z.1, .int z.2.1]) := hk1
            replace hk2 : H4 k2 = some (.tup [.int f, .int x]) := hk2
            refine rd_ne2 (s4 _ _ hk1) hk2 ?_
            walk_at "rd"
            have s34 := s3.trans s4
            have eh : (z.1 == f && z.2.1 == x) = hasK f x z := by
              unfold hasK
              rfl
            rw [eh]
            refine rd_ite (fun e2 => ?_) (fun e2 => ?_)
            · walk_at "rd"
              have kt : KT H4 (upd H4 D2 (.lst (acc ++ [.ref t1]))) := KT.mut (s34 _ _ hacc2) (by intro zs z; cases z)
              refine ⟨acc, s34 _ _ hacc2, small' (by omega), fun c o ez => (upd_ne (ne_of_none ez hD2)).trans (s34 _ _ (s2 _ _ ez)), acc ++ [.ref t1], upd_same, ?_, by rw [List.length_append, List.length_singleton]; omega⟩
              rw [take_snoc hz1, List.filter_append, List.map_append, List.filter_cons, List.filter_nil, if_pos e2]
              refine ((hpl.s s34).t kt).append (plAll_cons ?_ plAll_nil)
              exact (pl_tup (s34 _ _ (s12 _ _ ht1)) (plAll_cons pl_int (plAll_cons pl_int (plAll_cons ((hw1.s s12).s s34) plAll_nil)))).t kt
            · refine ⟨s2.trans s34, acc, s34 _ _ hacc2, ?_, by omega⟩
              rw [take_snoc hz1, List.filter_append, List.map_append, List.filter_cons, List.filter_nil, if_neg (by rw [e2]; exact Bool.false_ne_true)]
              rw [List.map_nil, List.append_nil]
              exact hpl.s s34
          · rintro H2 ⟨s2, acc, hacc2, hpl, hlen2⟩
            rw [← lyw, List.take_length] at hpl
            have s12 := s1.trans s2
            have hwa2 := s2 _ _ hwa
            have rpp := rp_pop hRp hW
            have lWr : ∀ a b, (popW W f x a b).length ≤ n := fun a b => by
              unfold popW
              split
              · rw [List.length_tail]
                have := hWn a b
                omega
              · exact hWn a b
            walk_at "rd"
            dsimp only
            walk_at "rd"
            refine ⟨fun σ' H3 => ∃ b3, σ' = [some v, some (.ref a), some (.ref b3), some (.ref ta), some (.int x), none, some (.ref wa), none] ∧ Same H2 H3 ∧ WaysAt H3 b3 (popW W f x) (n + 1), ?_, ?_⟩
            · walk_at "rd"
              refine ⟨wa, _, rfl, .inr (SqT.of hwa2), ?_⟩
              walk_at "rd"
              by_cases eWr : Wr = []
              · subst eWr
                have e0 : ws' = [] := List.eq_nil_of_length_eq_zero lws.symm
                subst e0
                refine rd_no (by simp) ?_
                refine ⟨D2, rfl, Same.refl _, acc, _, hacc2, ?_, rpp, ?_, fun a b => Nat.le_succ_of_le (lWr a b)⟩
                · unfold popL
                  rw [if_pos rfl, List.append_nil]
                  exact hpl
                · unfold popL
                  rw [if_pos rfl, List.append_nil]
                  have := hpl.len
                  rw [List.length_map] at this
                  omega
              · have l1 : 0 < Wr.length := List.length_pos_iff.mpr eWr
                refine rd_yes (by simp; omega) ?_
                walk_at "rd"
                refine rd_slP (s12 _ _ hta) fun k2 H4 s4 hk2 => ?_
                replace hk2 : H4 k2 = some (.tup [.int f, .int x]) := hk2
                walk_at "rd"
                refine rd_slP (s4 _ _ hwa2) fun k4 H5 s5 hk4 => ?_
                replace hk4 : H5 k4 = some (.tup (cutV (w0 :: ws') (some ((1 : Nat) : Int)) none)) := hk4
                rw [cut_from (i := 1) (by simp)] at hk4
                replace hk4 : H5 k4 = some (.tup ws') := hk4
                walk_at "rd"
                refine rd_disp rfl fun t6 n6 => ?_
                have s6 := same_new (o := .tup [.ref k4]) n6
                walk_at "rd"
                refine rd_catP (s6 _ _ (s5 _ _ hk2)) upd_same (by simp) fun c H7 s7 hc => ?_
                replace hc : H7 c = some (.tup [.int f, .int x, .ref k4]) := hc
                walk_at "rd"
                refine rd_disp rfl fun t8 n8 => ?_
                have s8 := same_new (o := .lst [.ref c]) n8
                have s47 := s4.trans (s5.trans (s6.trans s7))
                have s48 := s47.trans s8
                walk_at "rd"
                refine ⟨D2, t8, acc, [.ref c], rfl, rfl, s48 _ _ hacc2, upd_same, small (by simp; omega), fun D5 n5 => ?_⟩
                have s9 := same_new (o := .lst (acc ++ [.ref c])) n5
                have s28 := s48.trans s9
                have hD5 := upd_same (H := upd H7 t8 (.lst [.ref c])) (a := D5) (o := .lst (acc ++ [.ref c]))
                have hway : Pl (upd (upd H7 t8 (.lst [.ref c])) D5 (.lst (acc ++ [.ref c]))) (wayD (f, x, Wr)) (.ref c) := by
                  have s89 := s8.trans s9
                  refine pl_tup (s89 _ _ hc) (plAll_cons pl_int (plAll_cons pl_int (plAll_cons (pl_tup (s89 _ _ (s7 _ _ (s6 _ _ hk4))) ?_) plAll_nil)))
                  exact (hws'.s s2).s s28
                have hpl5 : PlAll (upd (upd H7 t8 (.lst [.ref c])) D5 (.lst (acc ++ [.ref c]))) ((popL WL f x Wr).map wayD) (acc ++ [.ref c]) := by
                  unfold popL
                  rw [if_neg eWr, List.map_append]
                  exact (hpl.s s28).append (plAll_cons hway plAll_nil)
                generalize upd (upd H7 t8 (.lst [.ref c])) D5 (.lst (acc ++ [.ref c])) = H9 at hD5 hpl5 s28 ⊢
                walk_at "rd"
                refine ⟨D5, acc ++ [.ref c], k3 H9, rfl, SqL.of hD5, fun y hy => ?_, k3_inj hpl5 rpp.nd, fun ys2 r2 hperm nr2 => ?_⟩
                · obtain ⟨i, hi, ei⟩ := List.getElem_of_mem hy
                  obtain ⟨z, t1, w1, a1, e1, a2, a3⟩ := ways_at hpl5 (show (acc ++ [.ref c])[i]? = some y by rw [List.getElem?_eq_getElem hi, ei])
                  subst e1
                  exact ⟨t1, w1, rfl, by rw [k3_at a2]; exact a2⟩
                · obtain ⟨L', q1, q2⟩ := plAll_perm hperm hpl5
                  have sL := same_new (o := .lst ys2) nr2
                  dsimp only
                  refine ⟨r2, rfl, s28.trans sL, ys2, L', upd_same, q2.s sL, rp_perm rpp q1, ?_, fun a b => Nat.le_succ_of_le (lWr a b)⟩
                  have e1 := q2.len
                  have e2 := hperm.length_eq
                  rw [List.length_map] at e1
                  rw [List.length_append, List.length_singleton] at e2
                  omega
            · rintro σ' H3 ⟨b3, rfl, s3, hW3⟩
              have s03 := s12.trans s3
              obtain ⟨ysS, vS, hxa3, hat3, hpS3⟩ := (hS.s s03).get h0 h1
              walk_at "rd"
              refine rd_ixL hxa3 hat3 ?_
              walk_at "rd"
              refine rd_ixT (s03 _ _ hta) rfl ?_
              walk_at "rd"
              refine rd_ixT (s3 _ _ hwa2) at0 ?_
              refine ⟨m, L, sp, mo, x, f, v, vS, w0, S x, wd, rfl, hv.s s03, R, hpS3, hs, (hw0.s s2).s s3, fun tv H4 s4 hp4 => ?_⟩
              rw [dueH_some hhd] at hp4
              obtain ⟨to, x1, x2, rfl, k1, k2, k3'⟩ := told3 H4 tv hp4
              rw [e5]
              exact ⟨b3, to, x1, x2, _, _, rfl, s03.trans s4, hW3.s s4, k1, k2, k3'⟩
    · rintro σ' H' ⟨b2, to, x1, x2, u6, u7, rfl, S', hW', hto', hx1, hx2⟩
      obtain ⟨xsS', hxa', hpl'⟩ := hS.s S'
      have lxs := hpl'.len
      rw [List.length_map, List.length_range] at lxs
      have ehN : h = ((h.toNat : Nat) : Int) := by omega
      have hlt : h.toNat < xsS'.length := by omega
      obtain ⟨hm2, hm10, _⟩ := R.parts
      walk_at "rd"
      refine ⟨a, xsS', rfl, SqL.of hxa', fun p1 n1 => ?_⟩
      have s1 := same_new (o := .lst (cutV xsS' none (some h))) n1
      have hp1 := upd_same (H := H') (a := p1) (o := .lst (cutV xsS' none (some h)))
      generalize upd H' p1 (.lst (cutV xsS' none (some h))) = G1 at s1 hp1 ⊢
      walk_at "rd"
      refine rd_ixT (s1 _ _ hto') rfl ?_
      refine rd_disp rfl fun t2 n2 => ?_
      have s2 := same_new (o := .lst [x1]) n2
      have ht2 := upd_same (H := G1) (a := t2) (o := .lst [x1])
      have hp2 := s2 _ _ hp1
      generalize upd G1 t2 (.lst [x1]) = G2 at s2 ht2 hp2 ⊢
      have ec1 : cutV xsS' none (some h) = xsS'.take h.toNat := by
        conv => lhs; rw [ehN]
        exact cut_to (by omega)
      rw [ec1] at hp2
      refine ⟨p1, t2, _, _, rfl, rfl, hp2, ht2, small (by simp; omega), fun D3 n3 => ?_⟩
      have s3 := same_new (o := .lst (xsS'.take h.toNat ++ [x1])) n3
      have hD3 := upd_same (H := G2) (a := D3) (o := .lst (xsS'.take h.toNat ++ [x1]))
      generalize upd G2 D3 (.lst (xsS'.take h.toNat ++ [x1])) = G3 at s3 hD3 ⊢
      have s13 := s1.trans (s2.trans s3)
      walk_at "rd"
      refine ⟨a, xsS', rfl, SqL.of (s13 _ _ hxa'), fun p4 n4 => ?_⟩
      have ec2 : cutV xsS' (some (h + 1)) none = xsS'.drop (h.toNat + 1) := by
        rw [show h + 1 = ((h.toNat + 1 : Nat) : Int) by omega]
        exact cut_from (by omega)
      rw [ec2]
      have s4 := same_new (o := .lst (xsS'.drop (h.toNat + 1))) n4
      have hp4 := upd_same (H := G3) (a := p4) (o := .lst (xsS'.drop (h.toNat + 1)))
      have hD4 := s4 _ _ hD3
      generalize upd G3 p4 (.lst (xsS'.drop (h.toNat + 1))) = G4 at s4 hp4 hD4 ⊢
      refine ⟨D3, p4, _, _, rfl, rfl, hD4, hp4, small (by simp; omega), fun D5 n5 => ?_⟩
      have s5 := same_new (o := .lst (xsS'.take h.toNat ++ [x1] ++ xsS'.drop (h.toNat + 1))) n5
      have hD5 := upd_same (H := G4) (a := D5) (o := .lst (xsS'.take h.toNat ++ [x1] ++ xsS'.drop (h.toNat + 1)))
      have eset : xsS'.take h.toNat ++ [x1] ++ xsS'.drop (h.toNat + 1) = xsS'.set h.toNat x1 := by
        rw [List.set_eq_take_append_cons_drop, if_pos hlt]
        simp
      rw [eset] at hD5 s5 ⊢
      have s15 := s13.trans (s4.trans s5)
      have S5 := S'.trans s15
      have nD5 : H D5 = none := (S'.trans (s13.trans s4)).free n5
      generalize upd G4 D5 (.lst (xsS'.set h.toNat x1)) = G5 at s15 S5 hD5 ⊢
      walk_at "rd"
      refine rd_ixT (s15 _ _ hto') rfl ?_
      refine ⟨b2, x2, W', n + 1, h, r.2, rfl, hW'.s s15, hx2.s s15, hrl, by omega, fun b' G6 s6 nb' hWb => ?_⟩
      walk_at "rd"
      refine rd_disp rfl fun t7 n7 => ?_
      have s7 := same_new (o := .tup [.ref to, .ref D5, .ref b']) n7
      refine q (.ref to) D5 b' t7 _ ((S5.trans s6).trans s7) ⟨_, s7 _ _ (s6 _ _ hD5), ?_⟩ (hWb.s s7) nD5 (S5.free nb') upd_same
      exact sts_set (((hpl'.s s15).s s6).s s7) h0 (((hx1.s s15).s s6).s s7)
end
end Mw

/-! L12 -/
namespace Mw
open PySem L2
def spLCalled (C : Addr) : Sp := fun vs H Q _ => ∃ (p a : Addr) (m : Int) (L : List Tie) (sp mo h f : Int) (vst vw : V) (st : St), vs = [.ref a, .int h, vst, .int f, vw] ∧ WbAt C p H a m L sp mo ∧ (∃ us, H p = some (.lst us)) ∧ 0 ≤ h ∧ h < m ∧ 0 ≤ f ∧ f < m ∧ Pl H st.d vst ∧ SOk (evOf L h) st ∧
  ((vw = .non ∧ ∀ t H', Same H H' → Pl H' (dueS L sp h st) t → Q t H') ∨ ∃ wd : Wd, wd.Ok ∧ Pl H wd.d vw ∧ ∀ t H', Same H H' → Pl H' (dueH L sp mo h st f wd) t → Q t H')
theorem told_of {H H' : Hp} {r : St × List (Int × Wd)} {c : Addr} {xs : List V} {t : Addr} (h : Pl H (heardD r) (.ref t)) (ht : H t = some (.tup xs)) (s : Same H H') (hc : H' c = some (.tup (.str "told" :: xs))) : Pl H' (toldD r) (.ref c) := by
  obtain ⟨a, ys, e, ha, hy⟩ := pl_tup' h
  cases e
  rw [ht] at ha
  cases ha
  exact pl_tup hc (plAll_cons pl_str (hy.s s))
theorem wd_is {wd : Wd} (h : wd.Ok) : isWdD wd.d = true := by
  cases wd with
  | yes => rfl
  | pour u =>
    have h : 0 < u ∧ u < 1000000000 := h
    show isUn (.int u) = true
    simp [isUn]
    omega
  | push u k =>
    have h : (0 < u ∧ u < 1000000000) ∧ 0 ≤ k ∧ k < 1000 := h
    show (isUn (.int u) && isNb 1000 (.int k)) = true
    simp [isUn, isNb]
    omega
  | no k =>
    have h : 0 ≤ k ∧ k < 1000 := h
    show isNb 1000 (.int k) = true
    simp [isNb]
    omega
  | rise k =>
    have h : 0 ≤ k ∧ k < 1000 := h
    show isNb 1000 (.int k) = true
    simp [isNb]
    omega
theorem wd_inj {a b : Wd} (h : a.d = b.d) : a = b := by
  cases a <;> cases b <;> simp [Wd.d] at h <;> first | rfl | (obtain ⟨rfl, rfl⟩ := h; rfl) | (subst h; rfl) | exact absurd h.1 (by decide) | exact absurd h (by decide)
section
variable {P : Program} {w : World} {K : PySem.W.Frag} {mg : Str → Option Value} {base : Heap}
local macro_rules | `(tactic| walk_at "rd") => `(tactic| (repeat (first
  | ((with_reducible refine' rd_var ?h0 ?_); (case h0 => rfl))
  | with_reducible refine rd_c ?_
  | with_reducible refine rd_op ?_
  | with_reducible refine rd_nil ?_
  | with_reducible refine rd_cons ?_
  | with_reducible refine rd_tup ?_
  | with_reducible refine rd_lst ?_
  | with_reducible refine rd_ifs ?_
  | with_reducible refine rd_seq ?_
  | with_reducible refine rd_next ?_
  | with_reducible refine rd_ret ?_
  | with_reducible refine rd_asg ?_
  | ((with_reducible refine' rd_gset ?hs ?_); (case hs => ((simp only [L2.start, List.map_cons, List.map_nil, List.length_cons, List.length_nil, List.cons_append, List.nil_append, List.set_cons_zero, List.set_cons_succ, Nat.reduceAdd, Nat.reduceSub, Nat.zero_add, List.reduceReplicate]); rfl)))
  | with_reducible refine rd_drop ?_
  | with_reducible refine rd_test ?_
  | with_reducible refine rd_B ?_
  | with_reducible refine rd_bl ?_
  | with_reducible refine rd_blP ?_
  | with_reducible refine rd_andV ?_
  | with_reducible refine rd_orV ?_
  | with_reducible refine rd_notV ?_
  | with_reducible refine rd_and ?_
  | with_reducible refine rd_or ?_
  | with_reducible refine rd_not ?_
  | with_reducible refine rd_chain ?_
  | with_reducible refine rd_dput ?_
  | with_reducible refine rd_dget ?_
  | with_reducible refine rd_cb ?_
  | with_reducible refine rd_call ?_
  | with_reducible refine rd_un ?_
  | with_reducible refine rd_sl ?_
  | with_reducible refine rd_nopart ?_
  | with_reducible refine rd_part ?_
  | with_reducible refine rd_intP ?_
  | with_reducible refine rd_rU ?_
  | with_reducible refine rd_fld ?_
  | with_reducible refine rd_eqI ?_
  | with_reducible refine rd_neI ?_
  | with_reducible refine rd_mko ?_
  | with_reducible refine rd_bm ?_
  | with_reducible refine rd_gsub ?_
  | with_reducible refine rd_i0 ?_)))
theorem ok_law_called (T : Tx K mg) (B : Bk K mg T) : FnOk P w K mg base CX0 11 B.law_called.f B.law_called.fd ["told_web", "house", "state", "sender", "word"] (spLCalled T.c_Web) := by
  have G_started := ok_started (P := P) (w := w) (base := base) T B
  have G_heard := ok_heard (P := P) (w := w) (base := base) T B
  refine B.law_called.F.ok sc_law_called (fun vs H Q E h => ?_) (fun cdv A outer s H vs Q E hr h => ?_)
  · obtain ⟨p, a, m, L, sp, mo, h, f, vst, vw, st, rfl, _⟩ := h
    rfl
  · obtain ⟨p, a, m, L, sp, mo, h, f, vst, vw, st, rfl, hw, ⟨us, hp⟩, h0, h1, f0, f1, hst, hs, q⟩ := h
    refine ⟨_, (pss_one (ps_try_many (Wout := fun _ _ _ _ => False) rfl rfl takes0 (fun W pn xe tk _ => (pss_cons (ps_if (pt_cmpR op_isN (pv 4) pe_non (nomark _)) (pss_one (ps_ret (pe_op (r := rCatA K) op_catA (pe_tup (pa_cons pe_str pa_nil)) (pe_callS G_started (hr.mono (by decide)) rfl B.started.m B.started.F.kp B.started.b (fun σ => passAt tk σ) (pa_cons (pv 0) (pa_cons (pv 1) (pa_cons (pv 2) pa_nil))))))) pss_nil)
      (pss_one (ps_ret (pe_op (r := rCatA K) op_catA (pe_tup (pa_cons pe_str pa_nil)) (pe_callS G_heard (hr.mono (by decide)) rfl B.heard.m B.heard.F.kp B.heard.b (fun σ => passAt tk σ) (pa_cons (pv 0) (pa_cons (pv 1) (pa_cons (pv 2) (pa_cons (pv 3) (pa_cons (pv 4) pa_nil))))))))))) (HdsOk.cons ⟨by rfl, by decide, Or.inl T.g_NoWord⟩ (fun a oe cls d pn hz hf => (pss_one (ps_ret (pe_tup (pa_cons pe_str (pa_cons pe_str pa_nil)))))) (HdsOk.cons ⟨by rfl, by decide, Or.inl T.g_NotSpring⟩ (fun a oe cls d pn hz hf => (pss_one (ps_ret (pe_tup (pa_cons pe_str (pa_cons pe_str pa_nil)))))) (HdsOk.cons ⟨by rfl, by decide, Or.inl T.g_StreamError⟩ (fun a oe cls d pn hz hf => (pss_one (ps_ret (pe_tup (pa_cons pe_str (pa_cons pe_str pa_nil)))))) HdsOk.nil))))), ?_⟩
    have nh : isNb m (.int h) = true := by
      show (decide (0 ≤ h) && decide (h < m)) = true
      rw [decide_eq_true h0, decide_eq_true h1]
      rfl
    have nf : isNb m (.int f) = true := by
      show (decide (0 ≤ f) && decide (f < m)) = true
      rw [decide_eq_true f0, decide_eq_true f1]
      rfl
    walk_at "rd"
    rcases q with ⟨rfl, q⟩ | ⟨wd, hok, hwd, q⟩
    · refine ⟨rfl, ?_⟩
      walk_at "rd"
      refine rd_yes rfl ?_
      walk_at "rd"
      refine rd_disp rfl fun t1 n1 => ?_
      have s1 := same_new (o := .tup [.str "told"]) n1
      refine rd_callS ?_
      walk_at "rd"
      refine ⟨p, a, m, L, sp, mo, .int h, .int h, vst, rfl, hw.s s1, tp_int, (fun z => by rw [nh] at z; cases z), fun h' eh _ => ?_⟩
      cases eh
      refine ⟨st, hst.s s1, hs, fun z => ?_, fun e1 e2 t H' s' hp' => ?_⟩
      · refine ⟨false, T.e_NotSpringNoWord, (fun y => by cases y), fun _ => ?_⟩
        refine ⟨true, T.e_NotSpring, fun _ y hny => ?_, fun y => by cases y⟩
        walk_at "rd"
        refine rd_disp rfl fun t2 n2 => ?_
        refine q _ _ (s1.trans (same_new n2)) ?_
        unfold dueS
        rw [if_neg (fun y => by
          rcases z with z | z
          · exact z y.1
          · rw [y.2] at z; cases z)]
        exact pl_tup upd_same (plAll_cons pl_str (plAll_cons pl_str plAll_nil))
      · obtain ⟨tt, xs, rfl, ht, hx⟩ := pl_tup' hp'
        have lx := hx.len
        have ht1 := s' _ _ (upd_same (H := H) (a := t1) (o := .tup [.str "told"]))
        refine rd_catP ht1 ht (by simp at lx ⊢; omega) fun c H2 s2 hc => ?_
        refine q _ _ ((s1.trans s').trans s2) ?_
        unfold dueS
        rw [if_pos ⟨e1, e2⟩]
        exact told_of hp' ht s2 hc
    · obtain ⟨wda, rfl, hwd'⟩ := pl_word hwd
      refine ⟨rfl, ?_⟩
      walk_at "rd"
      refine rd_no rfl ?_
      walk_at "rd"
      refine rd_disp rfl fun t1 n1 => ?_
      have s1 := same_new (o := .tup [.str "told"]) n1
      refine rd_callS ?_
      walk_at "rd"
      refine ⟨p, a, m, L, sp, mo, .int h, .int f, wd.d, .int h, vst, .int f, .ref wda, rfl, hw.s s1, tp_int, tp_int, pl_tp (s1 _ _ hp) _ _ (hwd.s s1), (fun z => by rw [nh] at z; cases z), (fun _ z => by rw [nf] at z; cases z), fun h' f' eh ef _ _ => ?_⟩
      cases eh
      cases ef
      refine ⟨st, hst.s s1, hs, fun z => ?_, fun wd' ew _ => ?_⟩
      · exfalso
        have : isWdD wd.d = true := wd_is hok
        rw [this] at z
        cases z
      · have ew' : wd = wd' := wd_inj ew
        subst ew'
        refine ⟨fun zn H' s' => ?_, fun r zr t H' s' hp' => ?_⟩
        · refine ⟨true, T.e_NoWord, fun _ y hny => ?_, fun y => by cases y⟩
          walk_at "rd"
          refine rd_disp rfl fun t2 n2 => ?_
          refine q _ _ ((s1.trans s').trans (same_new n2)) ?_
          rw [dueH_none zn]
          exact pl_tup upd_same (plAll_cons pl_str (plAll_cons pl_str plAll_nil))
        · obtain ⟨tt, xs, rfl, ht, hx⟩ := pl_tup' hp'
          have lx := hx.len
          have ht1 := s' _ _ (upd_same (H := H) (a := t1) (o := .tup [.str "told"]))
          refine rd_catP ht1 ht (by simp at lx ⊢; omega) fun c H2 s2 hc => ?_
          refine q _ _ ((s1.trans s').trans s2) ?_
          rw [dueH_some zr]
          exact told_of hp' ht s2 hc
end
end Mw

/-! L13 -/
namespace Mw
open PySem L2
theorem tp_isTL {C p : Addr} {K : PySem.W.Frag} {H : Hp} (W : WebTy K C) {d : PyData} {v : V} {tp : Addr} {Q : VK} (h : Tp C p H d v) (ht : H tp = some (.tup [.ty "tuple", .ty "list"])) (q : Q (.bl (isT d || isL d)) H) : rIsiT K [v, .ref tp] H Q := by
  obtain ⟨t, ty, _, _, k3, k4, _⟩ := h.ty W
  refine ⟨v, tp, _, t, _, _, rfl, ht, .cons (.ty _) (.cons (.ty _) .nil), ty, ?_, q⟩
  unfold PySem.W.kitAny
  rw [k3]
  cases isT d with
  | true => rfl
  | false =>
    unfold PySem.W.kitAny
    rw [k4]
    cases isL d <;> rfl
theorem depthAll_get : ∀ {ds : List PyData} {i : Nat} {d : PyData}, ds[i]? = some d → d.depth ≤ PyData.depthAll ds
  | [], i, d, e => by simp at e
  | c :: ds, 0, d, e => by
    cases e
    exact Nat.le_max_left _ _
  | c :: ds, i + 1, d, e => Nat.le_trans (depthAll_get (by simpa using e)) (Nat.le_max_right _ _)
mutual
def fewD : PyData → Prop
  | .tuple ds => ds.length ≤ 1000 ∧ fewAll ds
  | _ => True
def fewAll : List PyData → Prop
  | [] => True
  | d :: ds => fewD d ∧ fewAll ds
end
theorem fewAll_get : ∀ {ds : List PyData} {i : Nat} {d : PyData}, fewAll ds → ds[i]? = some d → fewD d
  | [], i, d, _, e => by simp at e
  | c :: ds, 0, d, h, e => by
    simp at e
    subst e
    simp only [fewAll] at h
    exact h.1
  | c :: ds, i + 1, d, h, e => by
    simp only [fewAll] at h
    exact fewAll_get h.2 (by simpa using e)
def spLIs (n : Nat) : Sp := fun vs H Q _ => ∃ (p : Addr) (d : PyData) (v1 v2 : V), vs = [v1, v2] ∧ d.depth < n ∧ fewD d ∧ (∃ us, H p = some (.lst us)) ∧ Pl H d v1 ∧ Pl H d v2 ∧ ∀ H', Same H H' → Q (.bl true) H'
section
variable {P : Program} {w : World} {K : PySem.W.Frag} {mg : Str → Option Value} {base : Heap}
local macro_rules | `(tactic| walk_at "rd") => `(tactic| (repeat (first
  | ((with_reducible refine' rd_var ?h0 ?_); (case h0 => rfl))
  | with_reducible refine rd_c ?_
  | with_reducible refine rd_op ?_
  | with_reducible refine rd_nil ?_
  | with_reducible refine rd_cons ?_
  | with_reducible refine rd_tup ?_
  | with_reducible refine rd_lst ?_
  | with_reducible refine rd_ifs ?_
  | with_reducible refine rd_seq ?_
  | with_reducible refine rd_next ?_
  | with_reducible refine rd_ret ?_
  | with_reducible refine rd_asg ?_
  | ((with_reducible refine' rd_gset ?hs ?_); (case hs => ((simp only [L2.start, List.map_cons, List.map_nil, List.length_cons, List.length_nil, List.cons_append, List.nil_append, List.set_cons_zero, List.set_cons_succ, Nat.reduceAdd, Nat.reduceSub, Nat.zero_add, List.reduceReplicate]); rfl)))
  | with_reducible refine rd_drop ?_
  | with_reducible refine rd_test ?_
  | with_reducible refine rd_B ?_
  | with_reducible refine rd_bl ?_
  | with_reducible refine rd_blP ?_
  | with_reducible refine rd_andV ?_
  | with_reducible refine rd_orV ?_
  | with_reducible refine rd_notV ?_
  | with_reducible refine rd_and ?_
  | with_reducible refine rd_or ?_
  | with_reducible refine rd_not ?_
  | with_reducible refine rd_chain ?_
  | with_reducible refine rd_dput ?_
  | with_reducible refine rd_dget ?_
  | with_reducible refine rd_cb ?_
  | with_reducible refine rd_call ?_
  | with_reducible refine rd_un ?_
  | with_reducible refine rd_sl ?_
  | with_reducible refine rd_nopart ?_
  | with_reducible refine rd_part ?_
  | with_reducible refine rd_intP ?_
  | with_reducible refine rd_rU ?_
  | with_reducible refine rd_fld ?_
  | with_reducible refine rd_eqI ?_
  | with_reducible refine rd_neI ?_
  | with_reducible refine rd_mko ?_
  | with_reducible refine rd_bm ?_
  | with_reducible refine rd_gsub ?_
  | with_reducible refine rd_i0 ?_)))
theorem is_step (T : Tx K mg) (B : Bk K mg T) {n k : Nat} (G_law_is : FnOk P w K mg base CX0 k B.law_is.f B.law_is.fd ["told", "due"] (spLIs n)) :
    FnOk P w K mg base CX0 (k + 1) B.law_is.f B.law_is.fd ["told", "due"] (spLIs (n + 1)) := by
  refine B.law_is.F.ok sc_law_is (fun vs H Q E h => ?_) (fun cdv A outer s H vs Q E hr h => ?_)
  · obtain ⟨p, d, v1, v2, rfl, _⟩ := h
    rfl
  · obtain ⟨p, d, v1, v2, rfl, hdep, hfew, ⟨us, hp⟩, g1, g2, q⟩ := h
    refine ⟨_, (pss_cons (ps_if (pt_val (pe_callB call_isiT (by rfl) T.b_isinstance (by decide +kernel) (pa_cons (pv 1) (pa_cons (pe_tup (pa_cons (pe_bltn (v := .ty "tuple") (by rfl) T.b_tuple (by decide +kernel) rfl) (pa_cons (pe_bltn (v := .ty "list") (by rfl) T.b_list (by decide +kernel) rfl) pa_nil))) pa_nil)))) (pss_cons (ps_if (PW.pt (pw_or (pt_cmpR op_ne (pe_callB call_isi (by rfl) T.b_isinstance (by decide +kernel) (pa_cons (pv 0) (pa_cons (pe_bltn (v := .ty "tuple") (by rfl) T.b_tuple (by decide +kernel) rfl) pa_nil))) (pe_callB call_isi (by rfl) T.b_isinstance (by decide +kernel) (pa_cons (pv 1) (pa_cons (pe_bltn (v := .ty "tuple") (by rfl) T.b_tuple (by decide +kernel) rfl) pa_nil))) (nomark _)) (pw_or1 (pt_not (pt_val (pe_callB call_isiT (by rfl) T.b_isinstance (by decide +kernel) (pa_cons (pv 0) (pa_cons (pe_tup (pa_cons (pe_bltn (v := .ty "tuple") (by rfl) T.b_tuple (by decide +kernel) rfl) (pa_cons (pe_bltn (v := .ty "list") (by rfl) T.b_list (by decide +kernel) rfl) pa_nil))) pa_nil)))))))) (pss_one (ps_ret pe_bl)) pss_nil)
      (pss_one (ps_ret (pe_and (pe_cmpR op_eq (pe_callB call_len_seq (by rfl) T.b_len (by decide +kernel) (pa_cons (pv 0) pa_nil)) (pe_callB call_len_seq (by rfl) T.b_len (by decide +kernel) (pa_cons (pv 1) pa_nil)) (nomark _)) (pe_one (pe_callB (cr_all rfl) (by rfl) T.b_all (by decide +kernel) (pa_cons (pe_lc (own := [("one", 2), ("two", 3)]) (g := (gTup K 2 (gCons (gName 2) (gCons (gName 3) gNil)))) rfl sc_law_is.nd (RZ.pi_zipA (by rfl) T.b_zip (pa_cons (pv 0) (pa_cons (pv 1) pa_nil))) (blkOk_by (own := [("one", 2), ("two", 3)]) (N := ["told", "due", "one", "two"]) (sc := defScope s_law_is) (by decide +kernel)) (fun _ _ _ _ _ => (pg_tup (by rfl) (pgs_cons (pg_name (i := 2) sc_law_is.nd rfl (Or.inl rfl)) (pgs_cons (pg_name (i := 3) sc_law_is.nd rfl (Or.inl rfl)) pgs_nil)))) (fun _ _ _ _ _ => pts_nil) (fun _ _ _ _ _ => (pe_call G_law_is (hr.mono (by omega)) rfl B.law_is.m B.law_is.F.kp B.law_is.b .nil pass0 (pa_cons (pv 2) (pa_cons (pv 3) pa_nil))))) pa_nil))))))) pss_nil)
      (pss_one (ps_ret (pe_and (pe_cmpR op_eq (pe_callB call_isi (by rfl) T.b_isinstance (by decide +kernel) (pa_cons (pv 0) (pa_cons (pe_bltn (v := .ty "bool") (by rfl) T.b_bool (by decide +kernel) rfl) pa_nil))) (pe_callB call_isi (by rfl) T.b_isinstance (by decide +kernel) (pa_cons (pv 1) (pa_cons (pe_bltn (v := .ty "bool") (by rfl) T.b_bool (by decide +kernel) rfl) pa_nil))) (nomark _)) (pe_one (pe_cmpR op_eq (pv 0) (pv 1) (nomark _))))))), ?_⟩
    have t1 : Tp T.c_Web p H d v1 := pl_tp hp _ _ g1
    have t2 : Tp T.c_Web p H d v2 := pl_tp hp _ _ g2
    walk_at "rd"
    refine rd_disp rfl fun ta na => ?_
    have s1 := same_new (o := .tup [.ty "tuple", .ty "list"]) na
    walk_at "rd"
    refine tp_isTL T.W (t2.sm s1) upd_same ?_
    have tta := upd_same (H := H) (a := ta) (o := .tup [.ty "tuple", .ty "list"])
    generalize upd H ta (.tup [.ty "tuple", .ty "list"]) = H1 at s1 tta ⊢
    cases d with
    | tuple ds =>
      obtain ⟨a1, xs1, rfl, ha1, hx1⟩ := pl_tup' g1
      obtain ⟨a2, xs2, rfl, ha2, hx2⟩ := pl_tup' g2
      simp only [fewD] at hfew
      have hl1 := hx1.len
      have hl2 := hx2.len
      walk_at "rd"
      refine rd_yes rfl ?_
      walk_at "rd"
      refine tp_isT T.W (t1.sm s1) ?_
      walk_at "rd"
      refine tp_isT T.W (t2.sm s1) ?_
      refine rd_ne rfl ?_
      walk_at "rd"
      refine rd_no rfl ?_
      walk_at "rd"
      refine rd_disp rfl fun tb nb => ?_
      have s2 := s1.trans (same_new (o := .tup [.ty "tuple", .ty "list"]) nb)
      walk_at "rd"
      refine tp_isTL T.W (t1.sm s2) upd_same ?_
      generalize upd H1 tb (.tup [.ty "tuple", .ty "list"]) = H2 at s2 ⊢
      walk_at "rd"
      refine rd_no rfl ?_
      walk_at "rd"
      refine ⟨a1, xs1, rfl, .inr (SqT.of (s2 _ _ ha1)), ?_⟩
      walk_at "rd"
      refine ⟨a2, xs2, rfl, .inr (SqT.of (s2 _ _ ha2)), ?_⟩
      walk_at "rd"
      refine rd_yes (decide_eq_true (by omega)) ?_
      walk_at "rd"
      show RZ.iZipA _ _ _ _ _
      refine rd_izip ?_
      walk_at "rd"
      refine ⟨a1, a2, xs1, xs2, rfl, .inr ⟨SqT.of (s2 _ _ ha1), SqT.of (s2 _ _ ha2), fun D hD => lc_zipT (K := K) (a := a1) (b := a2) (xs := xs1) (ys := xs2) (by omega) (fun i H3 => Same H2 H3 ∧ H3 D = some (.lst ((List.replicate i true).map V.bl))) ⟨same_new hD, upd_same⟩ (fun i H3 hh => ⟨SqT.of (hh.1 _ _ (s2 _ _ ha1)), SqT.of (hh.1 _ _ (s2 _ _ ha2))⟩) ?_ ?_⟩⟩
      · rintro i x y U H3 hx hy ⟨s3, hacc⟩ hU
        obtain ⟨d1, e1, f1⟩ := hx1.get' hx
        obtain ⟨d2, e2, f2⟩ := hx2.get' hy
        rw [e1] at e2
        cases e2
        have hil := (List.getElem?_eq_some_iff.mp hx).1
        have s4 := s3.trans (same_new (o := .tup [x, y]) hU)
        have s24 := s2.trans s4
        refine ⟨U, _, rfl, SqT.of upd_same, rfl, _, _, rfl, _, _, rfl, rfl, ?_⟩
        refine ⟨rfl, ?_⟩
        refine rd_tyes ?_
        refine rd_yes rfl ?_
        walk_at "rd"
        have hdd : d1.depth < n := by
          have z := depthAll_get e1
          have e : PyData.depth (.tuple ds) = PyData.depthAll ds + 1 := rfl
          omega
        refine ⟨p, d1, x, y, rfl, hdd, fewAll_get hfew.2 e1, ⟨us, s24 _ _ hp⟩, f1.s s24, f2.s s24, fun H5 s5 => ?_⟩
        have hDU : D ≠ U := ne_of_none hacc hU
        have hacc5 := s5 _ _ ((upd_ne hDU).trans hacc : (upd H3 U (.tup [x, y])) D = _)
        refine ⟨_, hacc5, small' ?_, fun z o ez => (upd_ne (ne_of_none ez hD)).trans (s5 _ _ (s4 _ _ ez)), ?_⟩
        · rw [List.length_map, List.length_replicate]
          have := hfew.1
          omega
        · rw [upd_same, List.replicate_succ', List.map_append]
          rfl
      · rintro H3 ⟨s3, hacc⟩
        walk_at "rd"
        refine ⟨D, _, rfl, SqL.of hacc, ?_⟩
        have e : (List.replicate xs1.length true).all id = true := by simp
        rw [e]
        exact q _ (s2.trans s3)
    | list ds => simp only [Pl] at g1
    | dict ds => simp only [Pl] at g1
    | none =>
      simp only [Pl] at g1 g2
      subst g1 g2
      walk_at "rd"
      refine rd_no rfl ?_
      walk_at "rd"
      refine tp_isB T.W (t1.sm s1) ?_
      walk_at "rd"
      refine tp_isB T.W (t2.sm s1) ?_
      refine rd_eq rfl ?_
      refine ⟨_, rfl, ?_⟩
      refine rd_yes (by simp) ?_
      walk_at "rd"
      refine rd_eq rfl ?_
      simpa using q _ s1
    | bool b =>
      simp only [Pl] at g1 g2
      subst g1 g2
      walk_at "rd"
      refine rd_no rfl ?_
      walk_at "rd"
      refine tp_isB T.W (t1.sm s1) ?_
      walk_at "rd"
      refine tp_isB T.W (t2.sm s1) ?_
      refine rd_eq rfl ?_
      refine ⟨_, rfl, ?_⟩
      refine rd_yes (by simp) ?_
      walk_at "rd"
      first | (refine rd_eq rfl ?_; simpa using q _ s1) | simpa using q _ s1
    | int b =>
      simp only [Pl] at g1 g2
      subst g1 g2
      walk_at "rd"
      refine rd_no rfl ?_
      walk_at "rd"
      refine tp_isB T.W (t1.sm s1) ?_
      walk_at "rd"
      refine tp_isB T.W (t2.sm s1) ?_
      refine rd_eq rfl ?_
      refine ⟨_, rfl, ?_⟩
      refine rd_yes (by simp) ?_
      walk_at "rd"
      first | (refine rd_eq rfl ?_; simpa using q _ s1) | simpa using q _ s1
    | str b =>
      simp only [Pl] at g1 g2
      subst g1 g2
      walk_at "rd"
      refine rd_no rfl ?_
      walk_at "rd"
      refine tp_isB T.W (t1.sm s1) ?_
      walk_at "rd"
      refine tp_isB T.W (t2.sm s1) ?_
      refine rd_eq rfl ?_
      refine ⟨_, rfl, ?_⟩
      refine rd_yes (by simp) ?_
      walk_at "rd"
      refine rd_eq rfl ?_
      simpa using q _ s1
theorem ok_law_is0 (T : Tx K mg) (B : Bk K mg T) : FnOk P w K mg base CX0 1 B.law_is.f B.law_is.fd ["told", "due"] (spLIs 0) := fn_no fun vs H Q E z => by
  obtain ⟨p, d, v1, v2, _, h, _⟩ := z
  exact Nat.not_lt_zero _ h
theorem ok_law_is_n (T : Tx K mg) (B : Bk K mg T) : ∀ n : Nat, FnOk P w K mg base CX0 (n + 1) B.law_is.f B.law_is.fd ["told", "due"] (spLIs n)
  | 0 => ok_law_is0 T B
  | n + 1 => is_step T B (ok_law_is_n T B n)
end
end Mw

/-! L14 -/
namespace Mw
open PySem L2
theorem right_mk {m : Int} {L : List Tie} {sp mo : Int} (h1 : 2 ≤ m) (h2 : m ≤ 10) (h3 : ∀ q ∈ L, TieIn m q) (h4 : ∀ (j : Nat) q r, L[j]? = some q → L[j + 1]? = some r → le2 r.1 r.2.1 q.1 q.2.1 = false) (a0 : 0 ≤ sp) (a1 : sp < m) (b0 : 0 ≤ mo) (b1 : mo < m) (ne : mo ≠ sp) : Right m L sp mo := by
  have ht : tiesBad m (.tuple (L.map tieD)) = none := by
    rw [tiesBad_none]
    intro j hj
    rw [List.length_map] at hj
    have hq : L[j]? = some L[j] := by simp [hj]
    have ok := tieD_in.mpr (h3 L[j] (List.mem_of_getElem? hq))
    unfold badAt
    rw [List.getElem?_map, hq]
    simp only [Option.map_some, ok, Bool.not_true, Bool.false_or, Bool.and_eq_false_iff, decide_eq_false_iff_not]
    cases j with
    | zero => exact .inl (by omega)
    | succ j =>
      refine .inr ?_
      have hj' : j < L.length := by omega
      have hr : L[j]? = some L[j] := by simp [hj']
      rw [Nat.add_sub_cancel, List.getElem?_map, hr]
      exact h4 j _ _ hr hq
  unfold Right webBad
  simp [inI, h1, h2, ht, isNb, a0, a1, b0, b1, sameI, ne]

def pairD (x : Int × Int) : PyData := .tuple [.int x.1, .int x.2]
theorem pl_pair2 {H : Hp} {x : Int × Int} {v : V} (h : Pl H (pairD x) v) : ∃ t, v = .ref t ∧ H t = some (.tup [.int x.1, .int x.2]) := by
  obtain ⟨a, xs, rfl, ha, hx⟩ := pl_tup' h
  obtain ⟨x1, r1, rfl, h1, hx⟩ := plAll_cons' hx
  obtain ⟨x2, r2, rfl, h2, hx⟩ := plAll_cons' hx
  cases plAll_nil' hx
  cases pl_int' h1
  cases pl_int' h2
  exact ⟨a, rfl, ha⟩
/-- pairs of houses, rising, below a bound -/
structure PKs (m : Int) (PK : List (Int × Int)) (bd : Int) : Prop where
  ok : ∀ x ∈ PK, 0 ≤ x.1 ∧ x.1 < x.2 ∧ x.2 < m
  up : PK.Pairwise fun x y => x.1 * 10 + x.2 < y.1 * 10 + y.2
  bd : ∀ x ∈ PK, x.1 * 10 + x.2 < bd
theorem PKs.mono {m : Int} {PK : List (Int × Int)} {b c : Int} (h : PKs m PK b) (le : b ≤ c) : PKs m PK c := ⟨h.ok, h.up, fun x hx => Int.lt_of_lt_of_le (h.bd x hx) le⟩
theorem PKs.snoc {m : Int} {PK : List (Int × Int)} {a b : Int} (h : PKs m PK (a * 10 + b)) (h0 : 0 ≤ a) (h1 : a < b) (h2 : b < m) : PKs m (PK ++ [(a, b)]) (a * 10 + b + 1) := by
  refine ⟨fun x hx => ?_, ?_, fun x hx => ?_⟩
  · rcases List.mem_append.mp hx with z | z
    · exact h.ok x z
    · rw [List.mem_singleton.mp z]
      exact ⟨h0, h1, h2⟩
  · rw [List.pairwise_append]
    refine ⟨h.up, List.pairwise_singleton _ _, fun x hx y hy => ?_⟩
    rw [List.mem_singleton.mp hy]
    exact h.bd x hx
  · rcases List.mem_append.mp hx with z | z
    · have := h.bd x z
      omega
    · rw [List.mem_singleton.mp z]
      show a * 10 + b < _
      omega
theorem rd_rng2' {ta : TA} {σ : L2.St} {H : Hp} {R : It → Hp → Prop} (h : ta σ H fun vs H1 => ∃ i j : Int, vs = [.int i, .int j] ∧ (-(2 ^ 62) ≤ i ∧ i < 2 ^ 62 ∧ -(2 ^ 62) ≤ j ∧ j < 2 ^ 62) ∧ R (Itr i (j - i).toNat) H1) : iRng2 ta σ H R := h
def spLWeb : Sp := fun vs H Q _ => ∃ (p l0 : Addr), vs = [.ref p, .int 6] ∧ HandAt p l0 H ∧ ∀ m L sp mo v H', Right m L sp mo → Pl H' (planD m L sp mo) v → HandAt p l0 H' → Keep p H H' → Q v H'
section
variable {P : Program} {w : World} {K : PySem.W.Frag} {mg : Str → Option Value} {base : Heap}
local macro_rules | `(tactic| walk_at "rd") => `(tactic| (repeat (first
  | ((with_reducible refine' rd_var ?h0 ?_); (case h0 => rfl))
  | with_reducible refine rd_c ?_
  | with_reducible refine rd_op ?_
  | with_reducible refine rd_nil ?_
  | with_reducible refine rd_cons ?_
  | with_reducible refine rd_tup ?_
  | with_reducible refine rd_lst ?_
  | with_reducible refine rd_ifs ?_
  | with_reducible refine rd_seq ?_
  | with_reducible refine rd_next ?_
  | with_reducible refine rd_ret ?_
  | with_reducible refine rd_asg ?_
  | ((with_reducible refine' rd_gset ?hs ?_); (case hs => ((simp only [L2.start, List.map_cons, List.map_nil, List.length_cons, List.length_nil, List.cons_append, List.nil_append, List.set_cons_zero, List.set_cons_succ, Nat.reduceAdd, Nat.reduceSub, Nat.zero_add, List.reduceReplicate]); rfl)))
  | with_reducible refine rd_drop ?_
  | with_reducible refine rd_test ?_
  | with_reducible refine rd_B ?_
  | with_reducible refine rd_bl ?_
  | with_reducible refine rd_blP ?_
  | with_reducible refine rd_andV ?_
  | with_reducible refine rd_orV ?_
  | with_reducible refine rd_notV ?_
  | with_reducible refine rd_and ?_
  | with_reducible refine rd_or ?_
  | with_reducible refine rd_not ?_
  | with_reducible refine rd_chain ?_
  | with_reducible refine rd_dput ?_
  | with_reducible refine rd_dget ?_
  | with_reducible refine rd_cb ?_
  | with_reducible refine rd_call ?_
  | with_reducible refine rd_un ?_
  | with_reducible refine rd_sl ?_
  | with_reducible refine rd_nopart ?_
  | with_reducible refine rd_part ?_
  | with_reducible refine rd_intP ?_
  | with_reducible refine rd_rU ?_
  | with_reducible refine rd_fld ?_
  | with_reducible refine rd_eqI ?_
  | with_reducible refine rd_neI ?_
  | with_reducible refine rd_mko ?_
  | with_reducible refine rd_bm ?_
  | with_reducible refine rd_gsub ?_
  | with_reducible refine rd_i0 ?_)))
theorem ok_law_web (T : Tx K mg) (B : Bk K mg T) : FnOk P w K mg base CX0 3 B.law_web.f B.law_web.fd ["hand", "most"] spLWeb := by
  have G_law_draw := ok_law_draw (P := P) (w := w) (base := base) T B
  have G_law_lot := ok_law_lot (P := P) (w := w) (base := base) T B
  refine B.law_web.F.ok sc_law_web (fun vs H Q E h => ?_) (fun cdv A outer s H vs Q E hr h => ?_)
  · obtain ⟨p, l0, rfl, _⟩ := h
    rfl
  · obtain ⟨p, l0, rfl, hh, q⟩ := h
    refine ⟨_, (pss_cons (ps_set (i := 2) sc_law_web.nd rfl (Or.inl rfl) (pe_op op_add pe_int (pe_call G_law_draw (hr.mono (by decide)) rfl B.law_draw.m B.law_draw.F.kp B.law_draw.b .nil pass0 (pa_cons (pv 0) (pa_cons (pe_op op_sub (pv 1) pe_int) pa_nil)))))
      (pss_cons (ps_set (i := 3) sc_law_web.nd rfl (Or.inl rfl) (pe_lst pa_nil))
      (pss_cons (ps_set (i := 4) sc_law_web.nd rfl (Or.inl rfl) (pe_call G_law_draw (hr.mono (by decide)) rfl B.law_draw.m B.law_draw.F.kp B.law_draw.b .nil pass0 (pa_cons (pv 0) (pa_cons pe_int pa_nil))))
      (pss_cons (ps_for PassesOwn.never rfl (pi_range1 (by rfl) T.b_range (pa_cons (pv 2) pa_nil)) (pg_name (i := 5) sc_law_web.nd rfl (Or.inl rfl)) (pss_one (ps_for PassesOwn.never rfl (pi_range2 (by rfl) T.b_range (pa_cons (pe_op op_add (pv 5) pe_int) (pa_cons (pv 2) pa_nil))) (pg_name (i := 6) sc_law_web.nd rfl (Or.inl rfl)) (pss_one (ps_if (PW.pt (pw_or (PW.pt (pw_and (pt_cmpR op_eq (pv 6) (pe_op op_add (pv 5) pe_int) (nomark _)) (pw_and1 (pt_cmpR op_gt (pe_call G_law_draw (hr.mono (by decide)) rfl B.law_draw.m B.law_draw.F.kp B.law_draw.b .nil pass0 (pa_cons (pv 0) (pa_cons pe_int pa_nil))) pe_int (nomark _))))) (pw_or1 (pt_cmpR op_le (pe_call G_law_draw (hr.mono (by decide)) rfl B.law_draw.m B.law_draw.F.kp B.law_draw.b .nil pass0 (pa_cons (pv 0) (pa_cons pe_int pa_nil))) (pv 4) (nomark _))))) (pss_one (ps_expr (pe_bm PySem.F.plainAttrs_list PySem.F.slot_list_append PySem.F.type_list_append mt_append (pv 3) (pa_cons (pe_tup (pa_cons (pv 5) (pa_cons (pv 6) pa_nil))) pa_nil)))) pss_nil)))))
      (pss_cons (ps_set (i := 7) sc_law_web.nd rfl (Or.inr rfl) (pe_ix ix_list (pe_lst (pa_cons pe_int (pa_cons pe_int (pa_cons pe_int (pa_cons pe_int pa_nil))))) (pe_call G_law_draw (hr.mono (by decide)) rfl B.law_draw.m B.law_draw.F.kp B.law_draw.b .nil pass0 (pa_cons (pv 0) (pa_cons pe_int pa_nil))) (fun _ _ => rfl)))
      (pss_cons (ps_set (i := 8) sc_law_web.nd rfl (Or.inl rfl) (pe_callTy call_tuple_of (by rfl) T.b_tuple (by decide +kernel) (pa_cons (pe_lc (own := [("pair", 11)]) (g := gName 11) rfl sc_law_web.nd (pi_list (pv 3)) (blkOk_by (own := [("pair", 11)]) (N := ["hand", "most", "many", "pairs", "dense", "a", "b", "span", "ties", "spring", "mouth", "pair"]) (sc := defScope s_law_web) (by decide +kernel)) (fun _ _ _ _ _ => pg_name (i := 11) sc_law_web.nd rfl (Or.inl rfl)) (fun _ _ _ _ _ => pts_nil) (fun _ _ _ _ _ => (pe_op (r := rCatA K) op_catA (pv 11) (pe_tup (pa_cons (pe_call G_law_lot (hr.mono (by decide)) rfl B.law_lot.m B.law_lot.F.kp B.law_lot.b .nil pass0 (pa_cons (pv 0) (pa_cons (pv 7) pa_nil))) (pa_cons (pe_call G_law_lot (hr.mono (by decide)) rfl B.law_lot.m B.law_lot.F.kp B.law_lot.b .nil pass0 (pa_cons (pv 0) (pa_cons (pv 7) pa_nil))) pa_nil)))))) pa_nil)))
      (pss_cons (ps_set (i := 9) sc_law_web.nd rfl (Or.inl rfl) (pe_call G_law_draw (hr.mono (by decide)) rfl B.law_draw.m B.law_draw.F.kp B.law_draw.b .nil pass0 (pa_cons (pv 0) (pa_cons (pv 2) pa_nil))))
      (pss_cons (ps_set (i := 10) sc_law_web.nd rfl (Or.inl rfl) (pe_call G_law_draw (hr.mono (by decide)) rfl B.law_draw.m B.law_draw.F.kp B.law_draw.b .nil pass0 (pa_cons (pv 0) (pa_cons (pe_op op_sub (pv 2) pe_int) pa_nil))))
      (pss_one (ps_ret (pe_tup (pa_cons (pv 2) (pa_cons (pv 8) (pa_cons (pv 9) (pa_cons (pe_op op_add (pv 10) (pe_callTy call_int1 (by rfl) T.b_int (by decide +kernel) (pa_cons (pe_cmpR op_ge (pv 10) (pv 9) (nomark _)) pa_nil))) pa_nil))))))))))))))), ?_⟩
    walk_at "rd"
    refine ⟨p, l0, _, rfl, by omega, by omega, hh, fun m0 H1 a0 a1 hh1 k1 => ?_⟩
    have hm : 2 ≤ 2 + m0 ∧ 2 + m0 ≤ 6 := by omega
    walk_at "rd"
    generalize 2 + m0 = m at hm ⊢
    refine rd_disp rfl fun l nl => ?_
    have s2 := same_new (o := .lst []) nl
    have hh2 := hh1.keep s2
    have nlp : l ≠ p := hh1.ne nl
    have nl0 : l ≠ l0 := by
      obtain ⟨u, hu⟩ := hh1.there2
      exact (ne_of_none hu nl).symm
    have nlH : H l = none := by
      cases e : H l with
      | none => rfl
      | some o =>
        rw [k1 l o nlp e] at nl
        cases nl
    have K2 := k1.trans (Keep.same s2)
    have hl2 := upd_same (H := H1) (a := l) (o := .lst [])
    generalize upd H1 l (.lst []) = H2 at hh2 K2 hl2 ⊢
    walk_at "rd"
    refine ⟨p, l0, 3, rfl, by omega, by omega, hh2, fun dn H3 d0 d1 hh3 k3 => ?_⟩
    have K3 := K2.trans k3
    have hl3 := k3 _ _ nlp hl2
    walk_at "rd"
    show iRng1 _ _ _ _
    refine rd_rng1 ?_
    walk_at "rd"
    refine ⟨_, rfl, by omega, by omega, for_range (lo := 0) (n := m.toNat) (fun a σ H4 => Keep p H H4 ∧ HandAt p l0 H4 ∧ (∃ xs PK, H4 l = some (.lst xs) ∧ PlAll H4 (PK.map pairD) xs ∧ PKs m PK ((a : Int) * 10) ∧ PK.length ≤ 10 * a) ∧ ∃ u5 u6, σ = [some (.ref p), some (.int 6), some (.int m), some (.ref l), some (.int dn), u5, u6, none, none, none, none, none])
      ⟨K3, hh3, ⟨[], [], hl3, plAll_nil, ⟨fun x hx => (by cases hx), List.Pairwise.nil, fun x hx => (by cases hx)⟩, Nat.zero_le _⟩, _, _, rfl⟩ ?_ ?_⟩
    · rintro a σ H4 ha ⟨K4, hh4, ⟨xs, PK, hl4, hxs, hPK, hPl⟩, u5, u6, rfl⟩
      have ha' : (a : Int) < m := by omega
      walk_at "rd"
      refine rd_rng2' ?_
      walk_at "rd"
      refine ⟨_, _, rfl, ⟨by omega, by omega, by omega, by omega⟩, for_range (lo := 0 + (a : Int) + 1) (n := (m - (0 + (a : Int) + 1)).toNat) (fun j σ H5 => Keep p H H5 ∧ HandAt p l0 H5 ∧ (∃ xs PK, H5 l = some (.lst xs) ∧ PlAll H5 (PK.map pairD) xs ∧ PKs m PK ((a : Int) * 10 + (a : Int) + 1 + (j : Int)) ∧ PK.length ≤ 10 * a + j) ∧ ∃ u6, σ = [some (.ref p), some (.int 6), some (.int m), some (.ref l), some (.int dn), some (.int (0 + (a : Int))), u6, none, none, none, none, none])
        ⟨K4, hh4, ⟨xs, PK, hl4, hxs, hPK.mono (by omega), by omega⟩, _, rfl⟩ ?_ ?_⟩
      · rintro j σ H5 hj ⟨K5, hh5, ⟨xs, PK, hl5, hxs, hPK, hPl⟩, u6, rfl⟩
        have lxs := hxs.len
        rw [List.length_map] at lxs
        have hjm : 0 + (a : Int) + 1 + (j : Int) < m := by omega
        have add : ∀ (H' HZ : Hp) (c : Addr), Keep p H H' → HandAt p l0 H' → H' l = some (.lst xs) → PlAll H' (PK.map pairD) xs → H' c = none → HZ = upd (upd H' c (.tup [.int (0 + (a : Int)), .int (0 + (a : Int) + 1 + (j : Int))])) l (.lst (xs ++ [.ref c])) →
            Keep p H HZ ∧ HandAt p l0 HZ ∧ (∃ xs PK, HZ l = some (.lst xs) ∧ PlAll HZ (PK.map pairD) xs ∧ PKs m PK ((a : Int) * 10 + (a : Int) + 1 + ((j + 1 : Nat) : Int)) ∧ PK.length ≤ 10 * a + (j + 1)) := by
          intro H' HZ c K' hh' hl' hx' nc eZ
          have sc := same_new (o := .tup [.int (0 + (a : Int)), .int (0 + (a : Int) + 1 + (j : Int))]) nc
          have kt : KT (upd H' c (.tup [.int (0 + (a : Int)), .int (0 + (a : Int) + 1 + (j : Int))])) HZ := by
            rw [eZ]
            exact KT.mut (sc _ _ hl') (by intro zs z; cases z)
          refine ⟨fun b o nb e => ?_, ?_, ⟨xs ++ [.ref c], PK ++ [(0 + (a : Int), 0 + (a : Int) + 1 + (j : Int))], by rw [eZ]; exact upd_same, ?_, ?_, ?_⟩⟩
          · rw [eZ]
            exact (upd_ne (ne_of_none e nlH)).trans (sc _ _ (K' b o nb e))
          · rw [eZ]
            exact (hh'.keep sc).put nlp nl0
          · rw [List.map_append]
            refine ((hx'.s sc).t kt).append (plAll_cons ?_ plAll_nil)
            exact (pl_tup (upd_same : (upd H' c _) c = _) (plAll_cons pl_int (plAll_cons pl_int plAll_nil))).t kt
          · have := (hPK.mono (show (a : Int) * 10 + (a : Int) + 1 + (j : Int) ≤ (0 + (a : Int)) * 10 + (0 + (a : Int) + 1 + (j : Int)) by omega)).snoc (by omega) (by omega) hjm
            exact this.mono (by omega)
          · rw [List.length_append, List.length_singleton]
            omega
        walk_at "rd"
        refine rd_ite (fun e0 => ?_) (fun e0 => ?_)
        · walk_at "rd"
          refine ⟨p, l0, 8, rfl, by omega, by omega, hh5, fun ry H6 y0 y1 hh6 ky => ?_⟩
          have hl6 := ky _ _ nlp hl5
          have hx6 := hxs.t (hh5.kt ky)
          have K6 := K5.trans ky
          walk_at "rd"
          refine rd_ite (fun e1 => ?_) (fun e1 => ?_)
          · refine rd_yes rfl ?_
            walk_at "rd"
            refine ⟨.inl ⟨rfl, xs, SqL.of hl6⟩, ?_⟩
            walk_at "rd"
            refine rd_disp rfl fun c nc => ?_
            have sc := same_new (o := .tup [.int (0 + (a : Int)), .int (0 + (a : Int) + 1 + (j : Int))]) nc
            walk_at "rd"
            refine rd_appendS (sc _ _ hl6) (by omega) fun HZ eZ => ?_
            obtain ⟨y1, y2, y3⟩ := add H6 HZ c K6 hh6 hl6 hx6 nc eZ
            exact ⟨y1, y2, y3, _, rfl⟩
          · walk_at "rd"
            refine ⟨p, l0, 4, rfl, by omega, by omega, hh6, fun rz H7 z0 z1 hh7 kz => ?_⟩
            have hl7 := kz _ _ nlp hl6
            have hx7 := hx6.t (HandAt.kt hh6 kz)
            have K7 := (K6).trans kz
            walk_at "rd"
            refine rd_ite (fun e2 => ?_) (fun e2 => ?_)
            · walk_at "rd"
              refine ⟨.inl ⟨rfl, xs, SqL.of hl7⟩, ?_⟩
              walk_at "rd"
              refine rd_disp rfl fun c nc => ?_
              have sc := same_new (o := .tup [.int (0 + (a : Int)), .int (0 + (a : Int) + 1 + (j : Int))]) nc
              walk_at "rd"
              refine rd_appendS (sc _ _ hl7) (by omega) fun HZ eZ => ?_
              obtain ⟨y1, y2, y3⟩ := add H7 HZ c K7 hh7 hl7 hx7 nc eZ
              exact ⟨y1, y2, y3, _, rfl⟩
            · exact ⟨K7, hh7, ⟨xs, PK, hl7, hx7, hPK.mono (by omega), by omega⟩, _, rfl⟩
        · refine rd_no rfl ?_
          walk_at "rd"
          refine ⟨p, l0, 4, rfl, by omega, by omega, hh5, fun rz H7 z0 z1 hh7 kz => ?_⟩
          have hl7 := kz _ _ nlp hl5
          have hx7 := hxs.t (HandAt.kt hh5 kz)
          have K7 := (K5).trans kz
          walk_at "rd"
          refine rd_ite (fun e2 => ?_) (fun e2 => ?_)
          · walk_at "rd"
            refine ⟨.inl ⟨rfl, xs, SqL.of hl7⟩, ?_⟩
            walk_at "rd"
            refine rd_disp rfl fun c nc => ?_
            have sc := same_new (o := .tup [.int (0 + (a : Int)), .int (0 + (a : Int) + 1 + (j : Int))]) nc
            walk_at "rd"
            refine rd_appendS (sc _ _ hl7) (by omega) fun HZ eZ => ?_
            obtain ⟨y1, y2, y3⟩ := add H7 HZ c K7 hh7 hl7 hx7 nc eZ
            exact ⟨y1, y2, y3, _, rfl⟩
          · exact ⟨K7, hh7, ⟨xs, PK, hl7, hx7, hPK.mono (by omega), by omega⟩, _, rfl⟩
      · rintro σ H5 ⟨K5, hh5, ⟨xs, PK, hl5, hxs, hPK, hPl⟩, u6, rfl⟩
        exact ⟨K5, hh5, ⟨xs, PK, hl5, hxs, hPK.mono (by omega), by omega⟩, _, _, rfl⟩
    · rintro σ H4 ⟨K4, hh4, ⟨xs, PK, hl4, hxs, hPK, hPl⟩, u5, u6, rfl⟩
      dsimp only
      walk_at "rd"
      refine rd_disp rfl fun ts nts => ?_
      have s5 := same_new (o := .lst [.int 3, .int 8, .int 50, .int 1000000]) nts
      have nsp := hh4.ne nts
      walk_at "rd"
      refine ⟨p, l0, 4, rfl, by omega, by omega, hh4.keep s5, fun r5 H5 b0 b1 hh5 k5 => ?_⟩
      have hts := k5 _ _ nsp upd_same
      have K5 := (K4.trans (Keep.same s5)).trans k5
      have hl5 := k5 _ _ nlp (s5 _ _ hl4)
      have hx5 := (hxs.s s5).t ((hh4.keep s5).kt k5)
      have lxs := hxs.len
      rw [List.length_map] at lxs
      obtain ⟨sn, n1, n2, en⟩ : ∃ x : Int, 2 ≤ x ∧ x ≤ 1000000 ∧ atI [V.int 3, .int 8, .int 50, .int 1000000] r5 = some (.int x) := by
        have : r5 = 0 ∨ r5 = 1 ∨ r5 = 2 ∨ r5 = 3 := by omega
        rcases this with rfl | rfl | rfl | rfl
        · exact ⟨3, by omega, by omega, rfl⟩
        · exact ⟨8, by omega, by omega, rfl⟩
        · exact ⟨50, by omega, by omega, rfl⟩
        · exact ⟨1000000, by omega, by omega, rfl⟩
      refine rd_ixL hts en ?_
      walk_at "rd"
      dsimp only
      walk_at "rd"
      show iList _ _ _ _ _
      refine rd_ilist ?_
      walk_at "rd"
      refine ⟨l, rfl, ⟨_, SqL.of hl5⟩, fun D hD => lc_list (K := K) (a := l) (xs := xs) (fun i H6 => Keep p H H6 ∧ HandAt p l0 H6 ∧ H6 l = some (.lst xs) ∧ PlAll H6 (PK.map pairD) xs ∧ ∃ acc TL, H6 D = some (.lst acc) ∧ PlAll H6 (TL.map tieD) acc ∧ TL.map (fun q => (q.1, q.2.1)) = PK.take i ∧ ∀ q ∈ TL, (0 ≤ q.2.2.1 ∧ q.2.2.1 < 1000000) ∧ 0 ≤ q.2.2.2 ∧ q.2.2.2 < 1000000)
        ⟨K5.trans (Keep.same (same_new hD)), hh5.keep (same_new hD), (same_new hD) _ _ hl5, hx5.s (same_new hD), [], [], upd_same, plAll_nil, by simp, fun q hq => (by cases hq)⟩ (fun i H6 _ hh => SqL.of hh.2.2.1) ?_ ?_⟩
      · rintro i y H6 hi ⟨K6, hh6, hl6, hx6, acc, TL, hacc, hTL, eTL, bTL⟩
        obtain ⟨d, ed, hd⟩ := hx6.get' hi
        rw [List.getElem?_map] at ed
        cases epk : PK[i]? with
        | none =>
          rw [epk] at ed
          cases ed
        | some x =>
          rw [epk] at ed
          obtain rfl : pairD x = d := Option.some.inj ed
          obtain ⟨t, rfl, ht⟩ := pl_pair2 hd
          have hip := (List.getElem?_eq_some_iff.mp epk).1
          have hDp : D ≠ p := by
            intro z
            obtain ⟨u, hu⟩ := hh5.there
            rw [z, hu] at hD
            cases hD
          have hDH : H D = none := by
            cases e : H D with
            | none => rfl
            | some o =>
              rw [K5 D o hDp e] at hD
              cases hD
          have hDl0 : D ≠ l0 := by
            intro z
            obtain ⟨u, hu⟩ := hh5.there2
            rw [z, hu] at hD
            cases hD
          have hDl : D ≠ l := by
            intro z
            rw [z, hl5] at hD
            cases hD
          have lacc := hTL.len
          have lTL := congrArg List.length eTL
          rw [List.length_map] at lacc lTL
          rw [List.length_take] at lTL
          refine ⟨rfl, ?_⟩
          refine rd_tyes ?_
          refine rd_yes rfl ?_
          walk_at "rd"
          refine ⟨p, l0, sn, rfl, n1, n2, hh6, fun c1 H7 g0 g1 hh7 k7 => ?_⟩
          walk_at "rd"
          refine ⟨p, l0, sn, rfl, n1, n2, hh7, fun c2 H8 g2 g3 hh8 k8 => ?_⟩
          have k68 := k7.trans k8
          have kt8 : KT H6 H8 := hh6.kt k68
          walk_at "rd"
          refine rd_disp rfl fun t2 m2 => ?_
          have s9 := same_new (o := .tup [.int c1, .int c2]) m2
          walk_at "rd"
          refine rd_catP (s9 _ _ (kt8 _ _ ht)) upd_same (by simp) fun cc H9 s10 hcc => ?_
          have s910 := s9.trans s10
          have hacc9 := s910 _ _ (k68 _ _ hDp hacc)
          have kt : KT H9 (upd H9 D (.lst (acc ++ [.ref cc]))) := KT.mut hacc9 (by intro zs z; cases z)
          have KTa : KT H6 (upd H9 D (.lst (acc ++ [.ref cc]))) := fun a xs e => kt a xs (KT.same s910 a xs (kt8 a xs e))
          refine ⟨acc, hacc9, small' (by omega), fun b o nb e => (upd_ne (ne_of_none e hDH)).trans (s910 _ _ (k68 _ _ nb (K6 b o nb e))), (hh8.keep s910).put hDp hDl0, (upd_ne hDl.symm).trans (s910 _ _ (k68 _ _ nlp hl6)), hx6.t KTa, acc ++ [.ref cc], TL ++ [(x.1, x.2, c1, c2)], upd_same, ?_, ?_, fun q' hq' => ?_⟩
          · rw [List.map_append]
            refine (hTL.t KTa).append (plAll_cons ?_ plAll_nil)
            exact (pl_tup hcc (plAll_cons pl_int (plAll_cons pl_int (plAll_cons pl_int (plAll_cons pl_int plAll_nil))))).t kt
          · rw [List.map_append, eTL, take_snoc epk]
            rfl
          · rcases List.mem_append.mp hq' with z | z
            · exact bTL q' z
            · rw [List.mem_singleton.mp z]
              exact ⟨⟨g0, by show c1 < 1000000; omega⟩, g2, by show c2 < 1000000; omega⟩
      · rintro H6 ⟨K6, hh6, hl6, hx6, acc, TL, hacc, hTL, eTL, bTL⟩
        rw [← lxs, List.take_length] at eTL
        walk_at "rd"
        refine ⟨D, _, rfl, .inl ⟨SqL.of hacc, fun tt mtt => ?_⟩⟩
        have s7 := same_new (o := .tup acc) mtt
        have hR : ∀ sp mo : Int, 0 ≤ sp → sp < m → 0 ≤ mo → mo < m → mo ≠ sp → Right m TL sp mo := fun sp mo c0 c1 c2 c3 c4 => by
          have key : ∀ (i : Nat) q, TL[i]? = some q → PK[i]? = some (q.1, q.2.1) := fun i q e => by
            rw [← eTL, List.getElem?_map, e]
            rfl
          refine right_mk hm.1 (by omega) (fun q hq => ?_) (fun j q r e1 e2 => ?_) c0 c1 c2 c3 c4
          · obtain ⟨i, hi, ei⟩ := List.getElem_of_mem hq
            have hk := hPK.ok _ (List.mem_of_getElem? (key i q (by rw [List.getElem?_eq_getElem hi, ei])))
            have hb := bTL q hq
            exact ⟨hk.1, hk.2.1, hk.2.2, hb.1.1, hb.1.2, hb.2.1, hb.2.2⟩
          · have f1 := key _ _ e1
            have f2 := key _ _ e2
            have g1 := List.getElem?_eq_some_iff.mp f1
            have g2 := List.getElem?_eq_some_iff.mp f2
            have up := List.pairwise_iff_getElem.mp hPK.up j (j + 1) g1.1 g2.1 (Nat.lt_succ_self j)
            rw [g1.2, g2.2] at up
            have o1 := hPK.ok _ (List.mem_of_getElem? f1)
            have o2 := hPK.ok _ (List.mem_of_getElem? f2)
            simp only at up o1 o2
            unfold le2
            split
            · exact decide_eq_false (by omega)
            · exact decide_eq_false (by omega)
        walk_at "rd"
        refine ⟨p, l0, m, rfl, by omega, by omega, hh6.keep s7, fun sp H8 c0 c1 hh8 k8 => ?_⟩
        walk_at "rd"
        refine ⟨p, l0, _, rfl, by omega, by omega, hh8, fun mo H9 c2 c3 hh9 k9 => ?_⟩
        have k79 := k8.trans k9
        have kt := (hh6.keep s7).kt k79
        walk_at "rd"
        refine .inr ⟨_, rfl, ?_⟩
        walk_at "rd"
        refine rd_disp rfl fun tv mtv => ?_
        have s10 := same_new (o := .tup [.int m, .ref tt, .int sp, .int (mo + if decide (sp ≤ mo) = true then 1 else 0)]) mtv
        refine q m TL sp (mo + if decide (sp ≤ mo) = true then 1 else 0) _ _ (hR _ _ c0 c1 ?_ ?_ ?_) ?_ (hh9.keep s10) (((K6.trans (Keep.same s7)).trans k79).trans (Keep.same s10))
        · split <;> omega
        · split <;> omega
        · split
          · rename_i z
            have := of_decide_eq_true z
            omega
          · rename_i z
            have : ¬ sp ≤ mo := fun y => z (decide_eq_true y)
            omega
        · refine pl_tup upd_same (plAll_cons pl_int (plAll_cons ?_ (plAll_cons pl_int (plAll_cons pl_int plAll_nil))))
          exact pl_tup (s10 _ _ (kt _ _ upd_same)) ((((hTL.s s7).t kt).s s10))
end
end Mw

/-! L16 -/
namespace Mw
open PySem L2
theorem depth_tup {ds : List PyData} {k : Nat} (h : ∀ d ∈ ds, d.depth ≤ k) : (PyData.tuple ds).depth ≤ k + 1 := by
  show PyData.depthAll ds + 1 ≤ k + 1
  have : PyData.depthAll ds ≤ k := by
    induction ds with
    | nil => exact Nat.zero_le _
    | cons d ds ih => exact Nat.max_le.mpr ⟨h d (by simp), ih fun x hx => h x (List.mem_cons_of_mem _ hx)⟩
  omega
theorem few_tup {ds : List PyData} (h : ∀ d ∈ ds, fewD d) (l : ds.length ≤ 1000) : fewD (.tuple ds) := by
  simp only [fewD]
  refine ⟨l, ?_⟩
  clear l
  induction ds with
  | nil => simp only [fewAll]
  | cons d ds ih =>
    simp only [fewAll]
    exact ⟨h d (by simp), ih fun x hx => h x (List.mem_cons_of_mem _ hx)⟩
theorem ints_deep {l : List Int} (h : l.length ≤ 1000) : (intsD l).depth ≤ 1 ∧ fewD (intsD l) := by
  refine ⟨depth_tup fun d hd => ?_, few_tup (fun d hd => ?_) (by rw [List.length_map]; exact h)⟩
  · obtain ⟨i, _, rfl⟩ := List.mem_map.mp hd
    exact Nat.le_refl _
  · obtain ⟨i, _, rfl⟩ := List.mem_map.mp hd
    simp only [fewD]
theorem wd_deep (w : Wd) : w.d.depth ≤ 1 ∧ fewD w.d := by
  cases w <;> exact ⟨depth_tup (by simp [PyData.depth]), few_tup (by simp [fewD]) (by simp)⟩
theorem st_deep {s : St} (h1 : s.str.length ≤ 1000) (h2 : s.bel.length ≤ 1000) (h3 : s.snt.length ≤ 1000) : s.d.depth ≤ 2 ∧ fewD s.d := by
  have i1 := ints_deep h1
  have i2 := ints_deep h2
  have i3 := ints_deep h3
  have a0 : ∀ x : Str, (PyData.str x).depth ≤ 1 := fun x => Nat.zero_le _
  have a1 : ∀ x : Int, (PyData.int x).depth ≤ 1 := fun x => Nat.zero_le _
  have b0 : ∀ x : Str, fewD (PyData.str x) := fun x => by simp only [fewD]
  have b1 : ∀ x : Int, fewD (PyData.int x) := fun x => by simp only [fewD]
  refine ⟨depth_tup fun d hd => ?_, few_tup (fun d hd => ?_) (by simp)⟩
  · simp only [List.mem_cons, List.not_mem_nil, or_false] at hd
    rcases hd with rfl | rfl | rfl | rfl | rfl | rfl
    · exact a0 _
    · exact a1 _
    · exact a1 _
    · exact i1.1
    · exact i2.1
    · exact i3.1
  · simp only [List.mem_cons, List.not_mem_nil, or_false] at hd
    rcases hd with rfl | rfl | rfl | rfl | rfl | rfl
    · exact b0 _
    · exact b1 _
    · exact b1 _
    · exact i1.2
    · exact i2.2
    · exact i3.2
theorem told_deep {e : Ev} {r : St × List (Int × Wd)} (h : SOk e r.1) (hn : e.nb.length ≤ 1000) (hl : r.2.length ≤ 1000) : (toldD r).depth < 7 ∧ fewD (toldD r) := by
  obtain ⟨s1, s2⟩ := st_deep (by rw [h.l1]; exact hn) (by rw [h.l2]; exact hn) (by rw [h.l3]; exact hn)
  have nd : ∀ d ∈ r.2.map ndD, d.depth ≤ 2 ∧ fewD d := fun d hd => by
    obtain ⟨x, _, rfl⟩ := List.mem_map.mp hd
    have w := wd_deep x.2
    refine ⟨depth_tup fun y hy => ?_, few_tup (fun y hy => ?_) (by simp)⟩
    · simp only [List.mem_cons, List.not_mem_nil, or_false] at hy
      rcases hy with rfl | rfl
      · exact Nat.zero_le _
      · exact w.1
    · simp only [List.mem_cons, List.not_mem_nil, or_false] at hy
      rcases hy with rfl | rfl
      · simp only [fewD]
      · exact w.2
  have o1 : (PyData.tuple (r.2.map ndD)).depth ≤ 3 := depth_tup fun d hd => (nd d hd).1
  have o2 : fewD (PyData.tuple (r.2.map ndD)) := few_tup (fun d hd => (nd d hd).2) (by rw [List.length_map]; exact hl)
  have : (toldD r).depth ≤ 4 := depth_tup fun d hd => by
    simp only [List.mem_cons, List.not_mem_nil, or_false] at hd
    rcases hd with rfl | rfl | rfl
    · exact Nat.zero_le _
    · omega
    · exact o1
  refine ⟨by omega, few_tup (fun d hd => ?_) (by simp)⟩
  simp only [List.mem_cons, List.not_mem_nil, or_false] at hd
  rcases hd with rfl | rfl | rfl
  · simp only [fewD]
  · exact s2
  · exact o2
theorem ref_deep (s : Str) : (refD s).depth < 7 ∧ fewD (refD s) := by
  have : (refD s).depth ≤ 1 := depth_tup (by simp [PyData.depth])
  exact ⟨by omega, few_tup (by simp [fewD]) (by simp)⟩
theorem heard_ok {L : List Tie} {sp mo h : Int} {m : Int} (R : Right m L sp mo) {s : St} (hs : SOk (evOf L h) s) {f : Int} {wd : Wd} {r : St × List (Int × Wd)} (z : heardM (evOf L h) sp mo h s f wd = some r) : SOk (evOf L h) r.1 ∧ r.2.length ≤ 300 := by
  have hn : (evOf L h).nb.length ≤ 10 := nb_len R h
  have d1 := done_ok hs ((evOf L h).nb.idxOf f) wd
  have d2 := done_len s ((evOf L h).nb.idxOf f) wd
  have a1 := acts_ok (fuel (evOf L h)) _ d1
  have a2 := acts_len (fuel (evOf L h)) _ d1
  have a3 : fuel (evOf L h) * ((evOf L h).nb.length + 1) ≤ 22 * 11 := Nat.mul_le_mul (by unfold fuel; omega) (by omega)
  rcases heardM_form z with e | e
  · rw [e]
    exact ⟨d1, by rw [List.length_map]; omega⟩
  · rw [e]
    exact ⟨a1, by rw [List.length_append, List.length_map]; omega⟩
theorem startM_len {L : List Tie} {sp mo h : Int} {m : Int} (R : Right m L sp mo) (s : St) : (startM (evOf L h) s).2.length ≤ 300 := by
  have hn : (evOf L h).nb.length ≤ 10 := nb_len R h
  show ((((evOf L h).nb.zip (rooms (evOf L h) s)).filter fun x => decide (0 < x.2)).map fun x => (x.1, Wd.pour x.2)).length ≤ _
  rw [List.length_map]
  have := List.length_filter_le (fun x : Int × Int => decide (0 < x.2)) ((evOf L h).nb.zip (rooms (evOf L h) s))
  rw [List.length_zip] at this
  omega
theorem dueH_deep {L : List Tie} {sp mo h : Int} {m : Int} (R : Right m L sp mo) {s : St} (hs : SOk (evOf L h) s) (f : Int) (wd : Wd) : (dueH L sp mo h s f wd).depth < 7 ∧ fewD (dueH L sp mo h s f wd) := by
  cases z : heardM (evOf L h) sp mo h s f wd with
  | none =>
    rw [dueH_none z]
    exact ref_deep _
  | some r =>
    rw [dueH_some z]
    obtain ⟨o1, o2⟩ := heard_ok R hs z
    exact told_deep o1 (by have : (evOf L h).nb.length ≤ 10 := nb_len R h; omega) (by omega)
theorem dueS_deep {L : List Tie} {sp mo h : Int} {m : Int} (R : Right m L sp mo) {s : St} (hs : SOk (evOf L h) s) : (dueS L sp h s).depth < 7 ∧ fewD (dueS L sp h s) := by
  unfold dueS
  split
  · exact told_deep (start_ok hs) (by have : (evOf L h).nb.length ≤ 10 := nb_len R h; omega) (by have := startM_len (h := h) R s; omega)
  · exact ref_deep _
/-- what is known of all states when words are judged -/
structure Sane (m : Int) (L : List Tie) (sp : Int) (S : Sts) : Prop where
  sok : ∀ h, 0 ≤ h → h < m → SOk (evOf L h) (S h)
  ht : ∀ h, 0 ≤ h → h < m → 0 ≤ (S h).ht ∧ (S h).ht ≤ 900
  near : ∀ h f, f ∈ nbL L h → gi (S h).str ((nbL L h).idxOf f) ≤ 1000000 ∧ 0 ≤ gi (S h).snt ((nbL L h).idxOf f)
  room : (S sp).up = false → ∀ i, i < (nbL L sp).length → 0 ≤ gi (rooms (evOf L sp) (S sp)) i
def LastAt (H : Hp) (m : Int) (v : V) : Prop := v = .non ∨ ∃ t h f w wd, v = .ref t ∧ H t = some (.tup [.int h, .int f, w]) ∧ Pl H (Wd.d wd) w ∧ wd.Ok ∧ 0 ≤ h ∧ h < m ∧ 0 ≤ f ∧ f < m
theorem LastAt.t {H H' : Hp} {m : Int} {v : V} (h : LastAt H m v) (k : KT H H') : LastAt H' m v := by
  rcases h with h | ⟨t, h', f, w, wd, e, h1, h2, r⟩
  · exact .inl h
  · exact .inr ⟨t, h', f, w, wd, e, k _ _ h1, h2.t k, r⟩
def spLAre (C : Addr) : Sp := fun vs H Q _ => ∃ (p l0 aw a : Addr) (m : Int) (L : List Tie) (sp mo : Int) (v la : V) (S : Sts), vs = [.ref p, v, .ref aw, .ref a, la] ∧ HandAt p l0 H ∧ Pl H (planD m L sp mo) v ∧ WbAt C p H aw m L sp mo ∧ StsAt H a m S ∧ a ≠ p ∧ Sane m L sp S ∧ LastAt H m la ∧
  ∀ H', HandAt p l0 H' → Keep p H H' → Q (.bl true) H'
section
variable {P : Program} {w : World} {K : PySem.W.Frag} {mg : Str → Option Value} {base : Heap}
local macro_rules | `(tactic| walk_at "rd") => `(tactic| (repeat (first
  | ((with_reducible refine' rd_var ?h0 ?_); (case h0 => rfl))
  | with_reducible refine rd_c ?_
  | with_reducible refine rd_op ?_
  | with_reducible refine rd_nil ?_
  | with_reducible refine rd_cons ?_
  | with_reducible refine rd_tup ?_
  | with_reducible refine rd_lst ?_
  | with_reducible refine rd_ifs ?_
  | with_reducible refine rd_seq ?_
  | with_reducible refine rd_next ?_
  | with_reducible refine rd_ret ?_
  | with_reducible refine rd_asg ?_
  | ((with_reducible refine' rd_gset ?hs ?_); (case hs => ((simp only [L2.start, List.map_cons, List.map_nil, List.length_cons, List.length_nil, List.cons_append, List.nil_append, List.set_cons_zero, List.set_cons_succ, Nat.reduceAdd, Nat.reduceSub, Nat.zero_add, List.reduceReplicate]); rfl)))
  | with_reducible refine rd_drop ?_
  | with_reducible refine rd_test ?_
  | with_reducible refine rd_B ?_
  | with_reducible refine rd_bl ?_
  | with_reducible refine rd_blP ?_
  | with_reducible refine rd_andV ?_
  | with_reducible refine rd_orV ?_
  | with_reducible refine rd_notV ?_
  | with_reducible refine rd_and ?_
  | with_reducible refine rd_or ?_
  | with_reducible refine rd_not ?_
  | with_reducible refine rd_chain ?_
  | with_reducible refine rd_dput ?_
  | with_reducible refine rd_dget ?_
  | with_reducible refine rd_cb ?_
  | with_reducible refine rd_call ?_
  | with_reducible refine rd_un ?_
  | with_reducible refine rd_sl ?_
  | with_reducible refine rd_nopart ?_
  | with_reducible refine rd_part ?_
  | with_reducible refine rd_intP ?_
  | with_reducible refine rd_rU ?_
  | with_reducible refine rd_fld ?_
  | with_reducible refine rd_eqI ?_
  | with_reducible refine rd_neI ?_
  | with_reducible refine rd_mko ?_
  | with_reducible refine rd_bm ?_
  | with_reducible refine rd_gsub ?_
  | with_reducible refine rd_i0 ?_)))
theorem ok_law_are_words (T : Tx K mg) (B : Bk K mg T) : FnOk P w K mg base CX0 12 B.law_are_words.f B.law_are_words.fd ["hand", "web", "told_web", "states", "last"] (spLAre T.c_Web) := by
  have G_law_draw := ok_law_draw (P := P) (w := w) (base := base) T B
  have G_law_beside := ok_law_beside (P := P) (w := w) (base := base) T B
  have G_law_any_word := ok_law_any_word (P := P) (w := w) (base := base) T B
  have G_law_near_word := ok_law_near_word (P := P) (w := w) (base := base) T B
  have G_law_heard := ok_law_heard (P := P) (w := w) (base := base) T B
  have G_law_started := ok_law_started (P := P) (w := w) (base := base) T B
  have G_law_called := ok_law_called (P := P) (w := w) (base := base) T B
  have G_law_is := ok_law_is_n (P := P) (w := w) (base := base) T B 7
  refine B.law_are_words.F.ok sc_law_are_words (fun vs H Q E h => ?_) (fun cdv A outer s H vs Q E hr h => ?_)
  · obtain ⟨p, l0, aw, a, m, L, sp, mo, v, la, S, rfl, _⟩ := h
    rfl
  · obtain ⟨p, l0, aw, a, m, L, sp, mo, v, la, S, rfl, hh, hv, hwb, hS, nap, hsane, hla, q⟩ := h
    have R := hwb.2
    obtain ⟨hm2, hm10, _⟩ := R.parts
    obtain ⟨wa, wc, wx, rfl, hwa, hwc, hwx⟩ := pl_plan hv
    refine ⟨_, (pss_cons (ps_for PassesOwn.never rfl (pi_range1 (by rfl) T.b_range (pa_cons pe_int pa_nil)) (pg_name (i := 5) sc_law_are_words.nd rfl (Or.inl rfl)) (pss_cons (ps_set (i := 6) sc_law_are_words.nd rfl (Or.inl rfl) (pe_call G_law_draw (hr.mono (by decide)) rfl B.law_draw.m B.law_draw.F.kp B.law_draw.b .nil pass0 (pa_cons (pv 0) (pa_cons (pe_ix ix_tup (pv 1) pe_int (fun _ _ => rfl)) pa_nil))))
      (pss_cons (ps_set (i := 7) sc_law_are_words.nd rfl (Or.inl rfl) (pe_call G_law_draw (hr.mono (by decide)) rfl B.law_draw.m B.law_draw.F.kp B.law_draw.b .nil pass0 (pa_cons (pv 0) (pa_cons (pe_ix ix_tup (pv 1) pe_int (fun _ _ => rfl)) pa_nil))))
      (pss_cons (ps_set (i := 8) sc_law_are_words.nd rfl (Or.inl rfl) (pe_call G_law_beside (hr.mono (by decide)) rfl B.law_beside.m B.law_beside.F.kp B.law_beside.b .nil pass0 (pa_cons (pv 1) (pa_cons (pv 6) pa_nil))))
      (pss_cons (ps_set (i := 9) sc_law_are_words.nd rfl (Or.inl rfl) (pe_call G_law_any_word (hr.mono (by decide)) rfl B.law_any_word.m B.law_any_word.F.kp B.law_any_word.b .nil pass0 (pa_cons (pv 0) pa_nil)))
      (C8.pss_cut (ps_if (PW.pt (pw_and (pt_cmpR op_gt (pe_callB call_len_seq (by rfl) T.b_len (by decide +kernel) (pa_cons (pv 8) pa_nil)) pe_int (nomark _)) (pw_and1 (pt_cmpR op_gt (pe_call G_law_draw (hr.mono (by decide)) rfl B.law_draw.m B.law_draw.F.kp B.law_draw.b .nil pass0 (pa_cons (pv 0) (pa_cons pe_int pa_nil))) pe_int (nomark _))))) (pss_cons (ps_set (i := 7) sc_law_are_words.nd rfl (Or.inl rfl) (pe_ix ix_list (pv 8) (pe_call G_law_draw (hr.mono (by decide)) rfl B.law_draw.m B.law_draw.F.kp B.law_draw.b .nil pass0 (pa_cons (pv 0) (pa_cons (pe_callB call_len_seq (by rfl) T.b_len (by decide +kernel) (pa_cons (pv 8) pa_nil)) pa_nil))) (fun _ _ => rfl)))
      (pss_one (ps_if (pt_cmpR op_eq (pe_call G_law_draw (hr.mono (by decide)) rfl B.law_draw.m B.law_draw.F.kp B.law_draw.b .nil pass0 (pa_cons (pv 0) (pa_cons pe_int pa_nil))) pe_int (nomark _)) (pss_one (ps_set (i := 9) sc_law_are_words.nd rfl (Or.inl rfl) (pe_call G_law_near_word (hr.mono (by decide)) rfl B.law_near_word.m B.law_near_word.F.kp B.law_near_word.b .nil pass0 (pa_cons (pv 0) (pa_cons (pv 1) (pa_cons (pv 3) (pa_cons (pv 6) (pa_cons (pv 7) pa_nil)))))))) pss_nil))) pss_nil)
      (C8.pss_cut (ps_if (PW.pt (pw_and (pt_cmpR op_eq (pv 5) pe_int (nomark _)) (pw_and1 (pt_cmpR op_notN (pv 4) pe_non (nomark _))))) (pss_one (ps_asg (pv 4) (pg_tup (by rfl) (pgs_cons (pg_name (i := 6) sc_law_are_words.nd rfl (Or.inl rfl)) (pgs_cons (pg_name (i := 7) sc_law_are_words.nd rfl (Or.inl rfl)) (pgs_cons (pg_name (i := 9) sc_law_are_words.nd rfl (Or.inl rfl)) pgs_nil)))))) pss_nil)
      (pss_cons (ps_set (i := 10) sc_law_are_words.nd rfl (Or.inl rfl) (pe_call G_law_heard (hr.mono (by decide)) rfl B.law_heard.m B.law_heard.F.kp B.law_heard.b .nil pass0 (pa_cons (pv 1) (pa_cons (pv 6) (pa_cons (pe_ix ix_list (pv 3) (pv 6) (fun _ _ => rfl)) (pa_cons (pv 7) (pa_cons (pv 9) pa_nil)))))))
      (pss_one (ps_if (pt_not (pt_val (pe_call G_law_is (hr.mono (by decide)) rfl B.law_is.m B.law_is.F.kp B.law_is.b .nil pass0 (pa_cons (pe_call G_law_called (hr.mono (by decide)) rfl B.law_called.m B.law_called.F.kp B.law_called.b .nil pass0 (pa_cons (pv 2) (pa_cons (pv 6) (pa_cons (pe_ix ix_list (pv 3) (pv 6) (fun _ _ => rfl)) (pa_cons (pv 7) (pa_cons (pv 9) pa_nil)))))) (pa_cons (pv 10) pa_nil))))) (pss_one (ps_ret pe_bl)) pss_nil))))))))))
      (pss_cons (ps_set (i := 6) sc_law_are_words.nd rfl (Or.inl rfl) (pe_ix ix_list (pe_lst (pa_cons (pe_call G_law_draw (hr.mono (by decide)) rfl B.law_draw.m B.law_draw.F.kp B.law_draw.b .nil pass0 (pa_cons (pv 0) (pa_cons (pe_ix ix_tup (pv 1) pe_int (fun _ _ => rfl)) pa_nil))) (pa_cons (pe_ix ix_tup (pv 1) pe_int (fun _ _ => rfl)) pa_nil))) (pe_call G_law_draw (hr.mono (by decide)) rfl B.law_draw.m B.law_draw.F.kp B.law_draw.b .nil pass0 (pa_cons (pv 0) (pa_cons pe_int pa_nil))) (fun _ _ => rfl)))
      (pss_cons (ps_set (i := 10) sc_law_are_words.nd rfl (Or.inl rfl) (pe_call G_law_started (hr.mono (by decide)) rfl B.law_started.m B.law_started.F.kp B.law_started.b .nil pass0 (pa_cons (pv 1) (pa_cons (pv 6) (pa_cons (pe_ix ix_list (pv 3) (pv 6) (fun _ _ => rfl)) pa_nil)))))
      (pss_one (ps_ret (pe_call G_law_is (hr.mono (by decide)) rfl B.law_is.m B.law_is.F.kp B.law_is.b .nil pass0 (pa_cons (pe_call G_law_called (hr.mono (by decide)) rfl B.law_called.m B.law_called.F.kp B.law_called.b .nil pass0 (pa_cons (pv 2) (pa_cons (pv 6) (pa_cons (pe_ix ix_list (pv 3) (pv 6) (fun _ _ => rfl)) (pa_cons pe_int (pa_cons pe_non pa_nil)))))) (pa_cons (pv 10) pa_nil)))))))), ?_⟩
    have fk : ∀ H', Keep p H H' → Fx [p] H H' := fun H' k => hh.fx k
    walk_at "rd"
    show iRng1 _ _ _ _
    refine rd_rng1 ?_
    walk_at "rd"
    refine ⟨_, rfl, by omega, by omega, for_range (lo := 0) (n := (6 : Int).toNat) (fun i σ H1 => HandAt p l0 H1 ∧ Keep p H H1 ∧ ∃ u5 u6 u7 u8 u9 u10, σ = [some (.ref p), some (.ref wa), some (.ref aw), some (.ref a), some la, u5, u6, u7, u8, u9, u10]) ⟨hh, Keep.refl, _, _, _, _, _, _, rfl⟩ ?_ ?_⟩
    · rintro i σ H1 hi ⟨hh1, k1, u5, u6, u7, u8, u9, u10, rfl⟩
      have kt1 := hh.kt k1
      walk_at "rd"
      refine rd_ixT (kt1 _ _ hwa) rfl ?_
      walk_at "rd"
      refine ⟨p, l0, m, rfl, by omega, by omega, hh1, fun h H2 h0 h1 hh2 k2 => ?_⟩
      have K2 := k1.trans k2
      walk_at "rd"
      refine rd_ixT (hh.kt K2 _ _ hwa) rfl ?_
      walk_at "rd"
      refine ⟨p, l0, m, rfl, by omega, by omega, hh2, fun f H3 f0 f1 hh3 k3 => ?_⟩
      have K3 := K2.trans k3
      walk_at "rd"
      refine ⟨m, L, sp, mo, h, .ref wa, rfl, hv.t (hh.kt K3), R, fun r H4 s4 nr hr4 => ?_⟩
      have K4 := K3.trans (Keep.same s4)
      have hh4 := hh3.keep s4
      have nrp := hh3.ne nr
      walk_at "rd"
      refine ⟨p, l0, rfl, hh4, fun wd w1 H5 hok hw1 hh5 k5 => ?_⟩
      have K5 := K4.trans k5
      have hr5 := k5 _ _ nrp hr4
      walk_at "rd"
      refine ⟨fun σ' H' => ∃ (f : Int) (w1 : V) (wd : Wd), σ' = [some (.ref p), some (.ref wa), some (.ref aw), some (.ref a), some la, some (.int (0 + (i : Int))), some (.int h), some (.int f), some (.ref r), some w1, u10] ∧ 0 ≤ f ∧ f < m ∧ wd.Ok ∧ Pl H' wd.d w1 ∧ HandAt p l0 H' ∧ Keep p H H', ?_, ?_⟩
      · walk_at "rd"
        refine ⟨r, _, rfl, .inl (SqL.of hr5), ?_⟩
        rw [List.length_map]
        walk_at "rd"
        refine rd_ite (fun e1 => ?_) (fun e1 => ?_)
        · have hlen : 0 < (nbL L h).length := by have := of_decide_eq_true e1; omega
          walk_at "rd"
          refine ⟨p, l0, 8, rfl, by omega, by omega, hh5, fun r6 H6 a0 a1 hh6 k6 => ?_⟩
          have K6 := K5.trans k6
          have hr6 := k6 _ _ nrp hr5
          have hw6 := hw1.t (hh5.kt k6)
          walk_at "rd"
          refine rd_ite (fun e2 => ?_) (fun e2 => ?_)
          · walk_at "rd"
            refine ⟨r, _, rfl, .inl (SqL.of hr6), ?_⟩
            rw [List.length_map]
            walk_at "rd"
            have hnb := nb_len R h
            refine ⟨p, l0, _, rfl, by omega, by omega, hh6, fun r7 H7 b0 b1 hh7 k7 => ?_⟩
            have K7 := K6.trans k7
            have hr7 := k7 _ _ nrp hr6
            have hw7 := hw6.t (hh6.kt k7)
            have hj : r7.toNat < (nbL L h).length := by omega
            have hfm : gi (nbL L h) r7.toNat ∈ nbL L h := List.mem_of_getElem? (gi_get hj)
            have hfb := nb_in R hfm
            refine rd_ixL (v := .int (gi (nbL L h) r7.toNat)) hr7 (by have := at_gi (l := nbL L h) hj; rwa [show ((r7.toNat : Nat) : Int) = r7 by omega] at this) ?_
            walk_at "rd"
            refine ⟨p, l0, 2, rfl, by omega, by omega, hh7, fun r8 H8 c0 c1 hh8 k8 => ?_⟩
            have K8 := K7.trans k8
            have hw8 := hw7.t (hh7.kt k8)
            walk_at "rd"
            refine rd_ite (fun e3 => ?_) (fun e3 => ?_)
            · walk_at "rd"
              have hn := hsane.near h _ hfm
              have ht := hsane.ht h h0 h1
              refine ⟨p, l0, m, L, sp, mo, h, _, .ref wa, a, S, rfl, hh8, hv.t (hh.kt K8), R, hS.fx (fk _ K8) (by simpa using nap), nap, h0, h1, hfm, hsane.sok h h0 h1, hn.1, hn.2, ht.1, ht.2, fun wd' w2 H9 hok' hw2 hh9 k9 => ?_⟩
              exact ⟨_, w2, wd', rfl, hfb.1, hfb.2.1, hok', hw2, hh9, K8.trans k9⟩
            · exact ⟨_, w1, wd, rfl, hfb.1, hfb.2.1, hok, hw8, hh8, K8⟩
          · exact ⟨f, w1, wd, rfl, f0, f1, hok, hw6, hh6, K6⟩
        · exact ⟨f, w1, wd, rfl, f0, f1, hok, hw1, hh5, K5⟩
      · clear hok hw1 hr5 K5 hh5 k5 f0 f1
        rintro σ' H6 ⟨f, w1, wd, rfl, f0, f1, hok, hw6, hh6, K6⟩
        refine ⟨fun σ' H' => ∃ (h f : Int) (w1 : V) (wd : Wd), σ' = [some (.ref p), some (.ref wa), some (.ref aw), some (.ref a), some la, some (.int (0 + (i : Int))), some (.int h), some (.int f), some (.ref r), some w1, u10] ∧ 0 ≤ h ∧ h < m ∧ 0 ≤ f ∧ f < m ∧ wd.Ok ∧ Pl H' wd.d w1 ∧ HandAt p l0 H' ∧ Keep p H H', ?_, ?_⟩
        · walk_at "rd"
          refine rd_ite (fun e1 => ?_) (fun e1 => ?_)
          · walk_at "rd"
            rcases hla.t (hh.kt K6) with rfl | ⟨t, h', f', w', wd', rfl, ht, hw', hok', a0, a1, a2, a3⟩
            · refine ⟨rfl, ?_⟩
              walk_at "rd"
              refine rd_no rfl ?_
              exact ⟨h, f, w1, wd, rfl, h0, h1, f0, f1, hok, hw6, hh6, K6⟩
            · refine ⟨rfl, ?_⟩
              walk_at "rd"
              refine rd_yes rfl ?_
              walk_at "rd"
              refine ⟨t, _, rfl, SqT.of ht, rfl, _, _, rfl, _, _, rfl, _, _, rfl, rfl, ?_⟩
              exact ⟨h', f', w', wd', rfl, a0, a1, a2, a3, hok', hw', hh6, K6⟩
          · exact ⟨h, f, w1, wd, rfl, h0, h1, f0, f1, hok, hw6, hh6, K6⟩
        · clear hok hw6 h0 h1 f0 f1 hh6 K6
          rintro σ' H6 ⟨h, f, w1, wd, rfl, h0, h1, f0, f1, hok, hw6, hh6, K6⟩
          obtain ⟨xs, vst, hxa, hat, hpS⟩ := (hS.fx (fk _ K6) (by simpa using nap)).get h0 h1
          have hs := hsane.sok h h0 h1
          obtain ⟨us, hus⟩ := hh6.there
          walk_at "rd"
          refine rd_ixL hxa hat ?_
          walk_at "rd"
          refine ⟨m, L, sp, mo, h, f, .ref wa, vst, w1, S h, wd, rfl, hv.t (hh.kt K6), R, hpS, hs, hw6, fun due H7 s7 hdue => ?_⟩
          have K7 := K6.trans (Keep.same s7)
          walk_at "rd"
          refine rd_ixL (s7 _ _ hxa) hat ?_
          walk_at "rd"
          refine ⟨p, aw, m, L, sp, mo, h, f, vst, w1, S h, rfl, hwb.keep K7, ⟨us, s7 _ _ hus⟩, h0, h1, f0, f1, hpS.s s7, hs, .inr ⟨wd, hok, hw6.s s7, fun tv H8 s8 htv => ?_⟩⟩
          obtain ⟨dd, ff⟩ := dueH_deep R hs f wd
          walk_at "rd"
          refine ⟨p, _, tv, due, rfl, dd, ff, ⟨us, s8 _ _ (s7 _ _ hus)⟩, htv, hdue.s s8, fun H9 s9 => ?_⟩
          walk_at "rd"
          refine rd_no rfl ?_
          have s79 := s7.trans (s8.trans s9)
          exact ⟨hh6.keep s79, K6.trans (Keep.same s79), _, _, _, _, _, _, rfl⟩
    · rintro σ H1 ⟨hh1, k1, u5, u6, u7, u8, u9, u10, rfl⟩
      have kt1 := hh.kt k1
      walk_at "rd"
      refine rd_ixT (kt1 _ _ hwa) rfl ?_
      walk_at "rd"
      refine ⟨p, l0, m, rfl, by omega, by omega, hh1, fun x1 H2 a0 a1 hh2 k2 => ?_⟩
      have K2 := k1.trans k2
      walk_at "rd"
      refine rd_ixT (hh.kt K2 _ _ hwa) rfl ?_
      refine rd_disp rfl fun t3 n3 => ?_
      have s3 := same_new (o := .lst [.int x1, .int sp]) n3
      have nt3 := hh2.ne n3
      walk_at "rd"
      refine ⟨p, l0, 2, rfl, by omega, by omega, hh2.keep s3, fun r4 H4 b0 b1 hh4 k4 => ?_⟩
      have K4 := (K2.trans (Keep.same s3)).trans k4
      have ht4 := k4 _ _ nt3 upd_same
      have spm : 0 ≤ sp ∧ sp < m := by
        have := R.parts
        omega
      obtain ⟨h, h0, h1, eh⟩ : ∃ h : Int, 0 ≤ h ∧ h < m ∧ atI [V.int x1, .int sp] r4 = some (.int h) := by
        have : r4 = 0 ∨ r4 = 1 := by omega
        rcases this with rfl | rfl
        · exact ⟨x1, a0, a1, rfl⟩
        · exact ⟨sp, spm.1, spm.2, rfl⟩
      refine rd_ixL ht4 eh ?_
      obtain ⟨xs, vst, hxa, hat, hpS⟩ := (hS.fx (fk _ K4) (by simpa using nap)).get h0 h1
      have hs := hsane.sok h h0 h1
      obtain ⟨us, hus⟩ := hh4.there
      walk_at "rd"
      refine rd_ixL hxa hat ?_
      refine ⟨m, L, sp, mo, h, .ref wa, vst, S h, rfl, hv.t (hh.kt K4), R, hpS, hs, fun e eu => (by subst e; exact hsane.room eu), fun due H7 s7 hdue => ?_⟩
      have K7 := K4.trans (Keep.same s7)
      walk_at "rd"
      refine rd_ixL (s7 _ _ hxa) hat ?_
      walk_at "rd"
      refine ⟨p, aw, m, L, sp, mo, h, 0, vst, .non, S h, rfl, hwb.keep K7, ⟨us, s7 _ _ hus⟩, h0, h1, by omega, by omega, hpS.s s7, hs, .inl ⟨rfl, fun tv H8 s8 htv => ?_⟩⟩
      obtain ⟨dd, ff⟩ := dueS_deep (h := h) R hs
      walk_at "rd"
      refine ⟨p, _, tv, due, rfl, dd, ff, ⟨us, s8 _ _ (s7 _ _ hus)⟩, htv, hdue.s s8, fun H9 s9 => ?_⟩
      have s79 := s7.trans (s8.trans s9)
      exact q _ (hh4.keep s79) (K4.trans (Keep.same s79))
end
end Mw

/-! L17 -/
namespace Mw
open PySem L2
def spLaw (K : PySem.W.Frag) : Sp := fun vs H Q _ => ∃ (a : Addr) (ns : List Int), vs = [.ref a] ∧ SqL K H a (ns.map V.int) ∧ ∀ H', Q (.bl true) H'
theorem rd_makeW {C : Addr} {sp : Sp} {dvs : List V} {E : XK} {t : TA} {σ : L2.St} {H : Hp} {Q : VK} (h : t σ H fun vs H1 => ∀ x dx, H1 x = none → H1 dx = none → dx ≠ x → sp (.ref x :: (vs ++ dvs)) (upd (upd H1 dx (.own x)) x (.ins C dx [])) (fun v H2 => v = .non ∧ Q (.ref x) H2) E) : tMake C sp dvs E t σ H Q := h
theorem sane_of {m : Int} {L : List Tie} {sp mo : Int} {S : Sts} {W : Wys} {k : Int} (R : Right m L sp mo) (g : GI m L sp mo S W) (hb : HB k m S W) (hk : k ≤ 900) (s0 : 0 ≤ sp) (s1 : sp < m) : Sane m L sp S := by
  refine ⟨g.sok, fun h h0 h1 => ?_, fun h f hf => ?_, fun up i hi => ?_⟩
  · have := hb.ht h h0 h1
    omega
  · have := g.near R hf
    have c := cap_in R h f
    omega
  · have hm : gi (nbL L sp) i ∈ nbL L sp := List.mem_of_getElem? (gi_get hi)
    have hidx : (nbL L sp).idxOf (gi (nbL L sp) i) = i := by
      have hlt := List.idxOf_lt_length_iff.mpr hm
      have e1 := List.getElem_idxOf hlt
      have e2 := (List.getElem?_eq_some_iff.mp (gi_get hi)).2
      exact (List.getElem_inj (nb_nodup R sp)).mp (e1.trans e2.symm)
    have e := GI.out_gi (g.sok sp s0 s1) hm
    rw [hidx] at e
    rw [e]
    have c : fl L S sp (gi (nbL L sp) i) ≤ capOf L sp (gi (nbL L sp) i) := (g.pr sp _ hm).d1.cap
    unfold fl at c
    rw [hidx] at c
    omega
/-- what a right move leads to, all invariants kept -/
theorem move_to {m : Int} {L : List Tie} {sp mo : Int} {S : Sts} {W : Wys} {k : Int} (R : Right m L sp mo) (g : GI m L sp mo S W) (hb : HB k m S W) (hk : k ≤ 900) (s0 : 0 ≤ sp) (s1 : sp < m) {mv : Mv} (ok : Mv.Ok S W sp mv) :
    ∃ h r W', 0 ≤ h ∧ h < m ∧ MvTo L sp mo S W h r W' mv ∧ r.2.length ≤ 300 ∧ GI m L sp mo (setS S h r.1) (addW W' h r.2) ∧ HB (k + 1) m (setS S h r.1) (addW W' h r.2) := by
  cases mv with
  | start x =>
    obtain ⟨rfl, up⟩ := ok
    have sn := sane_of R g hb hk s0 s1
    exact ⟨x, startM (evOf L x) (S x), W, s0, s1, ⟨rfl, rfl, up, sn.room up, rfl, rfl⟩, startM_len R _, g.start R s0 s1 up, hb.start.mono (by omega)⟩
  | take f x =>
    have ok' : W f x ≠ [] := ok
    obtain ⟨wd, Wr, hW⟩ : ∃ wd Wr, W f x = wd :: Wr := by
      cases e : W f x with
      | nil => exact absurd e ok'
      | cons a b => exact ⟨a, b, rfl⟩
    have hfn := g.nb_of hW
    obtain ⟨f0, f1, x0, x1, _⟩ := nb_in R hfn
    obtain ⟨r, hr, g2⟩ := g.take R hW
    exact ⟨x, r, popW W f x, x0, x1, ⟨rfl, wd, Wr, hW, hr, rfl⟩, (heard_ok R (g.sok x x0 x1) hr).2, g2, hb.take R g hW x0 x1 hr⟩
section
variable {P : Program} {w : World} {K : PySem.W.Frag} {mg : Str → Option Value} {base : Heap}
local macro_rules | `(tactic| walk_at "rd") => `(tactic| (repeat (first
  | ((with_reducible refine' rd_var ?h0 ?_); (case h0 => rfl))
  | with_reducible refine rd_c ?_
  | with_reducible refine rd_op ?_
  | with_reducible refine rd_nil ?_
  | with_reducible refine rd_cons ?_
  | with_reducible refine rd_tup ?_
  | with_reducible refine rd_lst ?_
  | with_reducible refine rd_ifs ?_
  | with_reducible refine rd_seq ?_
  | with_reducible refine rd_next ?_
  | with_reducible refine rd_ret ?_
  | with_reducible refine rd_asg ?_
  | ((with_reducible refine' rd_gset ?hs ?_); (case hs => ((simp only [L2.start, List.map_cons, List.map_nil, List.length_cons, List.length_nil, List.cons_append, List.nil_append, List.set_cons_zero, List.set_cons_succ, Nat.reduceAdd, Nat.reduceSub, Nat.zero_add, List.reduceReplicate]); rfl)))
  | with_reducible refine rd_drop ?_
  | with_reducible refine rd_test ?_
  | with_reducible refine rd_B ?_
  | with_reducible refine rd_bl ?_
  | with_reducible refine rd_blP ?_
  | with_reducible refine rd_andV ?_
  | with_reducible refine rd_orV ?_
  | with_reducible refine rd_notV ?_
  | with_reducible refine rd_and ?_
  | with_reducible refine rd_or ?_
  | with_reducible refine rd_not ?_
  | with_reducible refine rd_chain ?_
  | with_reducible refine rd_dput ?_
  | with_reducible refine rd_dget ?_
  | with_reducible refine rd_cb ?_
  | with_reducible refine rd_call ?_
  | with_reducible refine rd_un ?_
  | with_reducible refine rd_sl ?_
  | with_reducible refine rd_nopart ?_
  | with_reducible refine rd_part ?_
  | with_reducible refine rd_intP ?_
  | with_reducible refine rd_rU ?_
  | with_reducible refine rd_fld ?_
  | with_reducible refine rd_eqI ?_
  | with_reducible refine rd_neI ?_
  | with_reducible refine rd_mko ?_
  | with_reducible refine rd_bm ?_
  | with_reducible refine rd_gsub ?_
  | with_reducible refine rd_i0 ?_)))
theorem ok_law (T : Tx K mg) (B : Bk K mg T) : FnOk P w K mg base CX0 13 B.law.f B.law.fd ["script"] (spLaw K) := by
  have G_law_hand := ok_law_hand (P := P) (w := w) (base := base) T B
  have G_law_web := ok_law_web (P := P) (w := w) (base := base) T B
  have G_Web_init := ok_Web_init (P := P) (w := w) (base := base) T B
  have G_law_begun := ok_law_begun (P := P) (w := w) (base := base) T B
  have G_law_draw := ok_law_draw (P := P) (w := w) (base := base) T B
  have G_law_are_words := ok_law_are_words (P := P) (w := w) (base := base) T B
  have G_law_some_move := ok_law_some_move (P := P) (w := w) (base := base) T B
  have G_law_moved := ok_law_moved (P := P) (w := w) (base := base) T B
  refine B.law.F.ok sc_law (fun vs H Q E h => ?_) (fun cdv A outer s H vs Q E hr h => ?_)
  · obtain ⟨a, ns, rfl, _⟩ := h
    rfl
  · obtain ⟨a, ns, rfl, ha, q⟩ := h
    refine ⟨_, (pss_cons (ps_set (i := 1) sc_law.nd rfl (Or.inl rfl) (pe_call G_law_hand (hr.mono (by decide)) rfl B.law_hand.m B.law_hand.F.kp B.law_hand.b .nil pass0 (pa_cons (pv 0) pa_nil)))
      (pss_cons (ps_set (i := 2) sc_law.nd rfl (Or.inr rfl) (pe_call G_law_web (hr.mono (by decide)) rfl B.law_web.m B.law_web.F.kp B.law_web.b .nil pass0 (pa_cons (pv 1) (pa_cons pe_int pa_nil))))
      (pss_cons (ps_set (i := 3) sc_law.nd rfl (Or.inl rfl) (pe_make (mk_of_dm T B.Web_init) G_Web_init (hr.mono (by decide)) rfl T.g_Web B.Web_init.b .nil passL (pa_cons (pe_ix ix_tup (pv 2) pe_int (fun _ _ => rfl)) (pa_cons (pe_ix ix_tup (pv 2) pe_int (fun _ _ => rfl)) (pa_cons (pe_ix ix_tup (pv 2) pe_int (fun _ _ => rfl)) (pa_cons (pe_ix ix_tup (pv 2) pe_int (fun _ _ => rfl)) pa_nil))))))
      (pss_cons (ps_setLc (i := 4) (own := [("house", 11)]) (g := gName 11) rfl sc_law.nd rfl rfl (sw_true rfl rfl rfl (by decide +kernel)) (pi_range1 (by rfl) T.b_range (pa_cons (pe_ix ix_tup (pv 2) pe_int (fun _ _ => rfl)) pa_nil)) (blkOk_by (own := [("house", 11)]) (N := ["script", "hand", "web", "told_web", "states", "ways", "last", "mode", "turn", "move", "told", "house", "way"]) (sc := defScope s_law) (by decide +kernel)) (fun _ _ _ _ _ => pg_name (i := 11) sc_law.nd rfl (Or.inl rfl)) (fun _ _ _ _ _ => pts_nil) (fun _ _ _ _ _ => (pe_call G_law_begun (hr.mono (by decide)) rfl B.law_begun.m B.law_begun.F.kp B.law_begun.b .nil pass0 (pa_cons (pv 2) (pa_cons (pv 11) pa_nil)))))
      (pss_cons (ps_set (i := 5) sc_law.nd rfl (Or.inl rfl) (pe_lst pa_nil))
      (pss_cons (ps_set (i := 6) sc_law.nd rfl (Or.inl rfl) pe_non)
      (pss_cons (ps_set (i := 7) sc_law.nd rfl (Or.inl rfl) (pe_call G_law_draw (hr.mono (by decide)) rfl B.law_draw.m B.law_draw.F.kp B.law_draw.b .nil pass0 (pa_cons (pv 1) (pa_cons pe_int pa_nil))))
      (pss_cons (ps_for PassesOwn.never rfl (pi_range1 (by rfl) T.b_range (pa_cons (pe_call G_law_draw (hr.mono (by decide)) rfl B.law_draw.m B.law_draw.F.kp B.law_draw.b .nil pass0 (pa_cons (pv 1) (pa_cons pe_int pa_nil))) pa_nil)) (pg_name (i := 8) sc_law.nd rfl (Or.inl rfl)) (C8.pss_cut (ps_if (PW.pt (pw_and (pt_cmpR op_eq (pe_op op_mod (pv 8) pe_int) pe_int (nomark _)) (pw_and1 (pt_not (pt_val (pe_call G_law_are_words (hr.mono (by decide)) rfl B.law_are_words.m B.law_are_words.F.kp B.law_are_words.b .nil pass0 (pa_cons (pv 1) (pa_cons (pv 2) (pa_cons (pv 3) (pa_cons (pv 4) (pa_cons (pv 6) pa_nil))))))))))) (pss_one (ps_ret pe_bl)) pss_nil)
      (pss_cons (ps_set (i := 9) sc_law.nd rfl (Or.inr rfl) (pe_call G_law_some_move (hr.mono (by decide)) rfl B.law_some_move.m B.law_some_move.F.kp B.law_some_move.b .nil pass0 (pa_cons (pv 1) (pa_cons (pv 2) (pa_cons (pv 4) (pa_cons (pv 5) (pa_cons (pv 7) pa_nil)))))))
      (pss_cons (ps_if (pt_cmpR op_isN (pv 9) pe_non (nomark _)) (pss_one ps_break) pss_nil)
      (pss_cons (ps_set (i := 6) sc_law.nd rfl (Or.inl rfl) pe_non)
      (C8.pss_cut (ps_if (pt_cmpR op_eq (pe_ix ix_tup (pv 9) pe_int (fun _ _ => rfl)) pe_str (nomark _)) (pss_one (ps_set (i := 6) sc_law.nd rfl (Or.inl rfl) (pe_tup (pa_cons (pe_ix ix_tup (pv 9) pe_int (fun _ _ => rfl)) (pa_cons (pe_ix ix_tup (pv 9) pe_int (fun _ _ => rfl)) (pa_cons (pe_ix ix_tup (pe_ix ix_list (pe_lc (own := [("way", 12)]) (g := gName 12) rfl sc_law.nd (pi_list (pv 5)) (blkOk_by (own := [("way", 12)]) (N := ["script", "hand", "web", "told_web", "states", "ways", "last", "mode", "turn", "move", "told", "house", "way"]) (sc := defScope s_law) (by decide +kernel)) (fun _ _ _ _ _ => pg_name (i := 12) sc_law.nd rfl (Or.inl rfl)) (fun _ _ _ _ _ => (pts_one (pt_cmpR (r := rEqD K) (op_eqD hr.units) (pe_slice (r := rSlA K) sl_tupA (pv 12) po_none (po_some pe_int)) (pe_slice (r := rSlA K) sl_tupA (pv 9) (po_some pe_int) po_none) (nomark _)))) (fun _ _ _ _ _ => (pe_ix (r := rIxT K) ix_tup (pv 12) pe_int (fun _ _ => rfl)))) pe_int (fun _ _ => rfl)) pe_int (fun _ _ => rfl)) pa_nil)))))) pss_nil)
      (pss_one (ps_asg (pe_call G_law_moved (hr.mono (by decide)) rfl B.law_moved.m B.law_moved.F.kp B.law_moved.b .nil pass0 (pa_cons (pv 2) (pa_cons (pv 4) (pa_cons (pv 5) (pa_cons (pv 9) pa_nil))))) (pg_tup (by rfl) (pgs_cons (pg_name (i := 10) sc_law.nd rfl (Or.inl rfl)) (pgs_cons (pg_name (i := 4) sc_law.nd rfl (Or.inl rfl)) (pgs_cons (pg_name (i := 5) sc_law.nd rfl (Or.inl rfl)) pgs_nil))))))))))))
      (pss_one (ps_ret (pe_call G_law_are_words (hr.mono (by decide)) rfl B.law_are_words.m B.law_are_words.F.kp B.law_are_words.b .nil pass0 (pa_cons (pv 1) (pa_cons (pv 2) (pa_cons (pv 3) (pa_cons (pv 4) (pa_cons (pv 6) pa_nil)))))))))))))))), ?_⟩
    walk_at "rd"
    refine ⟨a, ns, rfl, ha, fun p l0 H1 np nl0 hh1 s1 => ?_⟩
    walk_at "rd"
    refine ⟨p, l0, rfl, hh1, fun m L sp mo v H2 R hv2 hh2 k2 => ?_⟩
    obtain ⟨hm2, hm10, _⟩ := R.parts
    have spm : 0 ≤ sp ∧ sp < m := by
      have := R.parts
      omega
    obtain ⟨wa, wc, wx, rfl, hwa, hwc, hwx⟩ := pl_plan hv2
    obtain ⟨us, hus⟩ := hh2.there
    walk_at "rd"
    dsimp only
    walk_at "rd"
    refine rd_makeW ?_
    walk_at "rd"
    refine rd_ixT hwa rfl ?_
    walk_at "rd"
    refine rd_ixT hwa rfl ?_
    walk_at "rd"
    refine rd_ixT hwa rfl ?_
    walk_at "rd"
    refine rd_ixT hwa rfl ?_
    walk_at "rd"
    intro x dx nx ndx ne
    have s3 : Same H2 (upd (upd H2 dx (.own x)) x (.ins T.c_Web dx [])) := (same_new (o := .own x) ndx).trans (same_new (o := .ins T.c_Web dx []) (by rw [upd_ne ne.symm]; exact nx))
    have npx : x ≠ p := (ne_of_none hus nx).symm
    have ptt : ∀ d v, Pl H2 d v → Tp T.c_Web p H2 d v := fun d v h => pl_tp hus d v h
    have tt : Tp T.c_Web p H2 (.tuple (L.map tieD)) (.ref wc) := ptt _ _ (pl_tup hwc hwx)
    have hn : webBad (.int m) (.tuple (L.map tieD)) (.int sp) (.int mo) = none := R
    refine ⟨p, x, dx, _, _, _, _, .int m, .tuple (L.map tieD), .int sp, .int mo, rfl, upd_same, tp_int, tt.sm s3, tp_int, tp_int, fun hn' H3 dx' v5 v6 hx3 k3 hwy => ⟨rfl, ?_⟩, fun part hb => (by rw [hn] at hb; cases hb)⟩
    have s23 : Same H2 H3 := fun b o e => k3 b o (ne_of_none e nx) (s3 b o e)
    have hwy3 : Ways H3 v5 v6 m L (fun b => b ≠ p) := (hwy m L rfl rfl).mono fun b hb z => by
      rw [z, s3 _ _ hus] at hb
      cases hb
    have hwb : WbAt T.c_Web p H3 x m L sp mo := ⟨⟨dx', .ref wc, v5, v6, ⟨npx, hx3⟩, tt.sm s23, hwy3, fun q hq => (R.parts.2.2.1 q hq).2.1⟩, R⟩
    have hh3 := hh2.keep s23
    have hv3 := hv2.s s23
    walk_at "rd"
    show iRng1 _ _ _ _
    refine rd_rng1 ?_
    walk_at "rd"
    refine rd_ixT (s23 _ _ hwa) rfl ?_
    walk_at "rd"
    refine ⟨_, rfl, by omega, by omega, fun D hD => lc_range (lo := 0) (n := m.toNat) (fun i H4 => Same H3 H4 ∧ ∃ acc, H4 D = some (.lst acc) ∧ PlAll H4 ((List.range i).map fun (j : Nat) => (begM m L sp (j : Int)).d) acc) ⟨same_new hD, [], upd_same, plAll_nil⟩ ?_ ?_⟩
    · rintro i H4 hi ⟨s4, acc, hacc, hpl⟩
      have lacc := hpl.len
      rw [List.length_map, List.length_range] at lacc
      refine ⟨rfl, ?_⟩
      refine rd_tyes ?_
      refine rd_yes rfl ?_
      walk_at "rd"
      refine ⟨m, L, sp, mo, _, .ref wa, rfl, hv3.s s4, R, fun t H5 s5 ht => ?_⟩
      have kt : KT H5 (upd H5 D (.lst (acc ++ [t]))) := KT.mut (s5 _ _ hacc) (by intro zs z; cases z)
      refine ⟨acc, s5 _ _ hacc, small' (by omega), fun b o e => (upd_ne (ne_of_none e hD)).trans (s5 _ _ (s4 _ _ e)), acc ++ [t], upd_same, ?_⟩
      rw [List.range_succ, List.map_append]
      refine ((hpl.s s5).t kt).append (plAll_cons ?_ plAll_nil)
      rw [show (0 : Int) + (i : Int) = (i : Int) by omega] at ht
      exact ht.t kt
    · rintro H4 ⟨s4, acc, hacc, hpl⟩
      have hh4 := hh3.keep s4
      have nDp : D ≠ p := hh3.ne hD
      walk_at "rd"
      refine rd_disp rfl fun D2 n2 => ?_
      have s5 := same_new (o := .lst []) n2
      have nD2p : D2 ≠ p := hh4.ne n2
      have s35 := s4.trans s5
      have hS5 : StsAt (upd H4 D2 (.lst [])) D m (begM m L sp) := ⟨acc, s5 _ _ hacc, hpl.s s5⟩
      have hW5 : WaysAt (upd H4 D2 (.lst [])) D2 (fun _ _ => []) 0 := ⟨[], [], upd_same, plAll_nil, ⟨List.nodup_nil, fun x hx => (by cases hx), fun a b => rfl⟩, Nat.le_refl _, fun a b => Nat.le_refl _⟩
      have hh5 := hh4.keep s5
      have hwb5 := hwb.s s35
      have hv5 := hv3.s s35
      generalize upd H4 D2 (.lst []) = H5 at hS5 hW5 hh5 hwb5 hv5 ⊢
      walk_at "rd"
      refine ⟨p, l0, 4, rfl, by omega, by omega, hh5, fun mode H6 m0 m1 hh6 k6 => ?_⟩
      walk_at "rd"
      show iRng1 _ _ _ _
      refine rd_rng1 ?_
      walk_at "rd"
      refine ⟨p, l0, 120, rfl, by omega, by omega, hh6, fun nt H7 t0 t1 hh7 k7 => ?_⟩
      have k57 := k6.trans k7
      have f57 := hh5.fx k57
      walk_at "rd"
      refine ⟨_, rfl, by omega, by omega, for_range (lo := 0) (n := nt.toNat) (fun i σ H8 => ∃ (as_ bs_ : Addr) (la : V) (S : Sts) (W : Wys) (n : Nat) (u8 u9 u10 : Option V), σ = [some (.ref a), some (.ref p), some (.ref wa), some (.ref x), some (.ref as_), some (.ref bs_), some la, some (.int mode), u8, u9, u10, none, none] ∧ Keep p H7 H8 ∧ HandAt p l0 H8 ∧ StsAt H8 as_ m S ∧ WaysAt H8 bs_ W n ∧ n ≤ 301 * i ∧ as_ ≠ p ∧ bs_ ≠ p ∧ LastAt H8 m la ∧ GI m L sp mo S W ∧ HB (10 + (i : Int)) m S W)
        ⟨D, D2, .non, begM m L sp, _, 0, _, _, _, rfl, Keep.refl, hh7, hS5.fx f57 (by simpa using nDp), hW5.fx f57 (by simpa using nD2p), Nat.le_refl _, nDp, nD2p, .inl rfl, GI.first R, (HB.first (by omega)).mono (by omega)⟩ ?_ ?_⟩
      · rintro i σ H8 hi ⟨as_, bs_, la, S, W, n, u8, u9, u10, rfl, k8, hh8, hS8, hW8, hn8, nas, nbs, hla, g, hb⟩
        have hi120 : i < 120 := by omega
        have hv8 := hv5.t (hh5.kt (k57.trans k8))
        have hwb8 := hwb5.keep (k57.trans k8)
        walk_at "rd"
        refine ⟨fun σ' H9 => σ' = [some (.ref a), some (.ref p), some (.ref wa), some (.ref x), some (.ref as_), some (.ref bs_), some la, some (.int mode), some (.int (0 + (i : Int))), u9, u10, none, none] ∧ HandAt p l0 H9 ∧ Keep p H8 H9, ?_, ?_⟩
        · walk_at "rd"
          refine rd_iC (show (0 : Int) < 3 by decide) ?_
          walk_at "rd"
          refine rd_ite (fun e1 => ?_) (fun e1 => ?_)
          · walk_at "rd"
            refine ⟨p, l0, x, as_, m, L, sp, mo, .ref wa, la, S, rfl, hh8, hv8, hwb8, hS8, nas, sane_of R g hb (by omega) spm.1 spm.2, hla, fun H9 hh9 k9 => ?_⟩
            walk_at "rd"
            refine rd_no rfl ?_
            exact ⟨rfl, hh9, k9⟩
          · exact ⟨rfl, hh8, Keep.refl⟩
        · rintro σ' H9 ⟨rfl, hh9, k9⟩
          have k89 := k8.trans k9
          have K59 := k57.trans k89
          have hv9 := hv5.t (hh5.kt K59)
          have f9 := hh8.fx k9
          have hS9 := hS8.fx f9 (by simpa using nas)
          have hW9 : WaysAt H9 bs_ W n := hW8.fx f9 (by
            obtain ⟨us8, hu8⟩ := hh8.there
            intro z
            have z' : bs_ = p := by simpa using z
            exact nbs z')
          have hla9 := hla.t (hh8.kt k9)
          walk_at "rd"
          refine ⟨p, l0, as_, bs_, m, L, sp, mo, .ref wa, S, W, n, mode, rfl, hh9, hv9, R, hS9, hW9, by omega, m0, m1, fun H10 hh10 k10 => ?_, fun mv t H10 ok ht hh10 k10 => ?_⟩
          · have K510 := K59.trans k10
            walk_at "rd"
            dsimp only
            walk_at "rd"
            refine ⟨rfl, ?_⟩
            walk_at "rd"
            refine rd_yes rfl ?_
            walk_at "rd"
            refine rd_break ?_
            dsimp only
            walk_at "rd"
            refine ⟨p, l0, x, as_, m, L, sp, mo, .ref wa, la, S, rfl, hh10, hv5.t (hh5.kt K510), hwb5.keep K510, hS9.fx (hh9.fx k10) (by simpa using nas), nas, sane_of R g hb (by omega) spm.1 spm.2, hla9.t (hh9.kt k10), fun H11 _ _ => ?_⟩
            exact q _
          · have K510 := K59.trans k10
            have hv10 := hv5.t (hh5.kt K510)
            have hS10 := hS9.fx (hh9.fx k10) (by simpa using nas)
            have hW10 := hW9.fx (hh9.fx k10) (by simpa using nbs)
            obtain ⟨h, r, W', h0, h1, hto, hrl, g2, hb2⟩ := move_to R g hb (by omega) spm.1 spm.2 ok
            obtain ⟨ta, zs, et, hta, hshape⟩ : ∃ ta zs, t = .ref ta ∧ H10 ta = some (.tup zs) ∧ ((∃ z, mv = .start z ∧ zs = [.str "start", .int z]) ∨ ∃ f z, mv = .take f z ∧ zs = [.str "take", .int f, .int z]) := by
              cases mv with
              | start z =>
                obtain ⟨ta, zs, rfl, hta, hz⟩ := pl_tup' ht
                obtain ⟨z1, r1, rfl, g1, hz⟩ := plAll_cons' hz
                obtain ⟨z2, r2, rfl, g2, hz⟩ := plAll_cons' hz
                cases plAll_nil' hz
                cases pl_str' g1
                cases pl_int' g2
                exact ⟨ta, _, rfl, hta, .inl ⟨z, rfl, rfl⟩⟩
              | take f z =>
                obtain ⟨ta, zs, rfl, hta, hz⟩ := pl_tup' ht
                obtain ⟨z1, r1, rfl, g1, hz⟩ := plAll_cons' hz
                obtain ⟨z2, r2, rfl, g2, hz⟩ := plAll_cons' hz
                obtain ⟨z3, r3, rfl, g3, hz⟩ := plAll_cons' hz
                cases plAll_nil' hz
                cases pl_str' g1
                cases pl_int' g2
                cases pl_int' g3
                exact ⟨ta, _, rfl, hta, .inr ⟨f, z, rfl, rfl⟩⟩
            subst et
            walk_at "rd"
            dsimp only
            walk_at "rd"
            refine ⟨rfl, ?_⟩
            walk_at "rd"
            refine rd_no rfl ?_
            walk_at "rd"
            refine ⟨fun σ' H11 => ∃ la', σ' = [some (.ref a), some (.ref p), some (.ref wa), some (.ref x), some (.ref as_), some (.ref bs_), some la', some (.int mode), some (.int (0 + (i : Int))), some (.ref ta), u10, none, none] ∧ Same H10 H11 ∧ LastAt H11 m la', ?_, ?_⟩
            · rcases hshape with ⟨z, rfl, rfl⟩ | ⟨f, z, rfl, rfl⟩
              · walk_at "rd"
                refine rd_ixT hta rfl ?_
                walk_at "rd"
                refine rd_eq rfl ?_
                walk_at "rd"
                refine rd_no rfl ?_
                exact ⟨_, rfl, Same.refl _, .inl rfl⟩
              · obtain ⟨rfl, wd, Wr, hW, hhd, e5⟩ := hto
                walk_at "rd"
                refine rd_ixT hta rfl ?_
                walk_at "rd"
                refine rd_eq rfl ?_
                walk_at "rd"
                refine rd_yes rfl ?_
                have hok := g.head_ok R hb (by omega) hW
                have hfn := nb_in R (g.nb_of hW)
                obtain ⟨ys, WL, hbw, hyw, hRp, hWl, hWn⟩ := hW10
                have lyw := hyw.len
                rw [List.length_map] at lyw
                walk_at "rd"
                refine rd_ixT hta rfl ?_
                walk_at "rd"
                refine rd_ixT hta rfl ?_
                walk_at "rd"
                show iList _ _ _ _ _
                refine rd_ilist ?_
                walk_at "rd"
                refine ⟨bs_, rfl, ⟨_, SqL.of hbw⟩, fun D3 hD3 => lc_list (K := K) (a := bs_) (xs := ys) (fun i H11 => Same H10 H11 ∧ ∃ acc, H11 D3 = some (.lst acc) ∧ (∀ y ∈ acc, Pl H11 (wsD (W f z)) y) ∧ ((f, z) ∈ (WL.take i).map (fun z => (z.1, z.2.1)) → acc ≠ []) ∧ acc.length ≤ i) ⟨same_new hD3, [], upd_same, fun y hy => (by cases hy), fun z => (by simp at z), Nat.le_refl _⟩ (fun i H11 _ hh => SqL.of (hh.1 _ _ hbw)) ?_ ?_⟩
                · rintro i y H11 hi ⟨s11, acc, hacc, hal, hne, hlen⟩
                  obtain ⟨z', t1, w1, hz1, rfl, ht1, hw1⟩ := ways_at hyw hi
                  have hil := (List.getElem?_eq_some_iff.mp hz1).1
                  refine ⟨rfl, ?_⟩
                  walk_at "rd"
                  refine rd_slP (s11 _ _ ht1) fun c1 H12 s12 hk1 => ?_
                  walk_at "rd"
                  refine rd_slP (s12 _ _ (s11 _ _ hta)) fun c2 H13 s13 hk2 => ?_
                  replace hk1 : H12 c1 = some (.tup [.int z'.1, .int z'.2.1]) := hk1
                  replace hk2 : H13 c2 = some (.tup [.int f, .int z]) := hk2
                  refine rd_eq2 (s13 _ _ hk1) hk2 ?_
                  walk_at "rd"
                  have s23' := s12.trans s13
                  refine rd_ite (fun e2 => ?_) (fun e2 => ?_)
                  · have e2' : z'.1 = f ∧ z'.2.1 = z := by simpa using e2
                    walk_at "rd"
                    refine rd_ixT (s23' _ _ (s11 _ _ ht1)) rfl ?_
                    have kt : KT H13 (upd H13 D3 (.lst (acc ++ [w1]))) := KT.mut (s23' _ _ hacc) (by intro zs z; cases z)
                    have hw3 : Pl H13 (wsD (W f z)) w1 := by
                      have e := lkp_mem hRp.nd (List.mem_of_getElem? hz1)
                      rw [hRp.eq, e2'.1, e2'.2] at e
                      rw [e]
                      exact (hw1.s s11).s s23'
                    refine ⟨acc, s23' _ _ hacc, small' (by omega), fun c o ez => (upd_ne (ne_of_none ez hD3)).trans (s23' _ _ (s11 _ _ ez)), acc ++ [w1], upd_same, fun y hy => ?_, fun _ => by simp, by rw [List.length_append, List.length_singleton]; omega⟩
                    rcases List.mem_append.mp hy with q | q
                    · exact ((hal y q).s s23').t kt
                    · rw [List.mem_singleton.mp q]
                      exact hw3.t kt
                  · refine ⟨s11.trans s23', acc, s23' _ _ hacc, fun y hy => (hal y hy).s s23', fun zz => hne ?_, by omega⟩
                    rw [take_snoc hz1, List.map_append] at zz
                    rcases List.mem_append.mp zz with q | q
                    · exact q
                    · rw [List.map_singleton, List.mem_singleton] at q
                      cases q
                      simp at e2
                · rintro H11 ⟨s11, acc, hacc, hal, hne, hlen⟩
                  rw [← lyw, List.take_length] at hne
                  have hin : (f, z) ∈ WL.map (fun z => (z.1, z.2.1)) := by
                    apply Classical.byContradiction
                    intro y
                    have := lkp_none y
                    rw [hRp.eq, hW] at this
                    cases this
                  obtain ⟨y0, acc', rfl⟩ : ∃ y0 acc', acc = y0 :: acc' := by
                    cases acc with
                    | nil => exact absurd rfl (hne hin)
                    | cons y l => exact ⟨y, l, rfl⟩
                  have hy0 := hal y0 (by simp)
                  rw [hW] at hy0
                  obtain ⟨wa', ws, rfl, hwa', hws⟩ := pl_tup' hy0
                  obtain ⟨w0, ws', rfl, hw0, hws'⟩ := plAll_cons' hws
                  walk_at "rd"
                  refine rd_ixL hacc at0 ?_
                  walk_at "rd"
                  refine rd_ixT hwa' at0 ?_
                  walk_at "rd"
                  refine rd_disp rfl fun t9 n9 => ?_
                  have s9 := same_new (o := .tup [.int z, .int f, w0]) n9
                  refine ⟨_, rfl, s11.trans s9, .inr ⟨t9, z, f, w0, wd, rfl, upd_same, hw0.s s9, hok, hfn.2.2.1, hfn.2.2.2.1, hfn.1, hfn.2.1⟩⟩
            · rintro σ' H11 ⟨la', rfl, s11, hla'⟩
              have hh11 := hh10.keep s11
              obtain ⟨us11, hus11⟩ := hh11.there
              walk_at "rd"
              refine ⟨as_, bs_, m, L, sp, mo, .ref wa, .ref ta, S, W, W', n, mv, h, r, rfl, hv10.s s11, R, hS10.s s11, hW10.s s11, by omega, ht.s s11, h0, h1, g.sok h h0 h1, hto, by omega, fun to a' b' x' H12 s12 hS12 hW12 na nb hx => ?_⟩
              refine ⟨x', _, rfl, SqT.of hx, rfl, _, _, rfl, _, _, rfl, _, _, rfl, rfl, ?_⟩
              refine ⟨a', b', la', _, _, _, _, _, _, rfl, ((k89.trans k10).trans (Keep.same s11)).trans (Keep.same s12), hh11.keep s12, hS12, hW12, by omega, fun z => ?_, fun z => ?_, hla'.t (KT.same s12), g2, ?_⟩
              · rw [z, hus11] at na
                cases na
              · rw [z, hus11] at nb
                cases nb
              · rw [show (10 : Int) + ((i + 1 : Nat) : Int) = 10 + (i : Int) + 1 by omega]
                exact hb2
      · rintro σ H8 ⟨as_, bs_, la, S, W, n, u8, u9, u10, rfl, k8, hh8, hS8, hW8, hn8, nas, nbs, hla, g, hb⟩
        walk_at "rd"
        refine ⟨p, l0, x, as_, m, L, sp, mo, .ref wa, la, S, rfl, hh8, hv5.t (hh5.kt (k57.trans k8)), hwb5.keep (k57.trans k8), hS8, nas, sane_of R g hb (by omega) spm.1 spm.2, hla, fun H9 _ _ => ?_⟩
        exact q _
end
end Mw

/-! Z1 -/
namespace Mw
open PySem L2
theorem kit_bt {K : PySem.W.Frag} {C : Addr} {T : String} {b : Bool} (h : PySem.W.mroIn K C (.type T) = some b) (hm : PySem.W.kitMeta T = true) (hne : (Value.ref C == .type T) = false) : PySem.W.kitOne K (.ref C) (.type T) = some b := by
  unfold PySem.W.kitOne PySem.W.kitCls
  rw [if_neg (by rw [hne]; simp)]
  simp only [hm, if_true]
  exact h
theorem kit_cls {K : PySem.W.Frag} {t : Value} {C : Addr} {b : Bool} (hne : (t == .ref C) = false) (h2 : PySem.W.isClsIn K C = true) (h3 : PySem.W.typeIn K (.ref C) = some (.type "type")) (h : PySem.W.subIn K t (.ref C) = some b) : PySem.W.kitOne K t (.ref C) = some b := by
  have e2 : ((PySem.W.clsIn K C).isSome && PySem.W.typeIn K (.ref C) == some (.type "type")) = true := by
    have h2' : (PySem.W.clsIn K C).isSome = true := h2
    rw [h2', h3] <;> rfl
  unfold PySem.W.kitOne PySem.W.kitCls
  rw [if_neg (by rw [hne]; simp)]
  simp only [e2]
  exact h
theorem exm_cls {K : PySem.W.Frag} {S D : Addr} {b : Bool} (h1 : PySem.W.subIn K (.ref D) (.type "BaseException") = some true) (h2 : PySem.W.isClsIn K D = true) (h3 : PySem.W.typeIn K (.ref D) = some (.type "type")) (h4 : PySem.W.subIn K (.ref S) (.ref D) = some b) : PySem.W.exmOne K (.ref S) (.ref D) = some b := by
  have e2 : ((PySem.W.clsIn K D).isSome && PySem.W.typeIn K (.ref D) == some (.type "type")) = true := by
    have h2' : (PySem.W.clsIn K D).isSome = true := h2
    rw [h2', h3] <;> rfl
  unfold PySem.W.exmOne PySem.W.kitCls
  rw [if_pos (by rw [h1] <;> rfl)]
  simp only [e2]
  exact h4
theorem kit_subT {K : PySem.W.Frag} {C : Addr} {T : String} (hm : PySem.W.kitMeta T = true) (h : PySem.W.subIn K (.ref C) (.type T) = some true) : PySem.W.kitOne K (.ref C) (.type T) = some true := by
  unfold PySem.W.kitOne PySem.W.kitCls
  split
  · rfl
  · simp only [hm, if_true]
    exact h
theorem kit_subR {K : PySem.W.Frag} {A C : Addr} (h2 : PySem.W.isClsIn K C = true) (h3 : PySem.W.typeIn K (.ref C) = some (.type "type")) (h : PySem.W.subIn K (.ref A) (.ref C) = some true) : PySem.W.kitOne K (.ref A) (.ref C) = some true := by
  have e2 : ((PySem.W.clsIn K C).isSome && PySem.W.typeIn K (.ref C) == some (.type "type")) = true := by
    have h2' : (PySem.W.clsIn K C).isSome = true := h2
    rw [h2', h3] <;> rfl
  unfold PySem.W.kitOne PySem.W.kitCls
  split
  · rfl
  · simp only [e2]
    exact h
theorem kit_subN {K : PySem.W.Frag} {A C : Addr} (h2 : PySem.W.isClsIn K C = true) (h3 : PySem.W.typeIn K (.ref C) = some (.type "type")) (h : PySem.W.subIn K (.ref A) (.ref C) = some false) (hs : PySem.W.subIn K (.ref A) (.ref A) = some true) : PySem.W.kitOne K (.ref A) (.ref C) = some false := by
  have ne : A ≠ C := fun z => by
    rw [← z, hs] at h
    cases h
  have e2 : ((PySem.W.clsIn K C).isSome && PySem.W.typeIn K (.ref C) == some (.type "type")) = true := by
    have h2' : (PySem.W.clsIn K C).isSome = true := h2
    rw [h2', h3] <;> rfl
  unfold PySem.W.kitOne PySem.W.kitCls
  split
  · rename_i z
    exact absurd (Value.ref.inj (beq_iff_eq.mp z)) ne
  · simp only [e2]
    exact h
theorem tup_not {K : PySem.W.Frag} {C : Addr} : PySem.W.subIn K (.type "tuple") (.ref C) = some false := rfl
theorem fin_of {l : PySem.W.OpenLaw} {w : World} {K : PySem.W.Frag} {mg : Str → Option Value} {fa : Addr} (T : Tx K mg) (B : Bk K mg T) (hfa : mg "law" = some (.ref fa)) (hb : ∀ (s : Shared) (v : Value), BindsTo s B.law.fd ⟨[v], []⟩ [("script", v)]) :
    ∃ fd : FuncData, (∀ (s : Shared) (v : Value), BindsTo s fd ⟨[v], []⟩ [("script", v)]) ∧ ∀ base : Heap, K.In base → base.Ns mainGlobals mg → FnOk l.prog w K mg base CX0 13 fa fd ["script"] (spLaw K) := by
  have e : fa = B.law.f := by
    have z := hfa.symm.trans B.law.m
    injection z with z
    injection z
  subst e
  exact ⟨B.law.fd, hb, fun base _ _ => ok_law T B⟩
theorem all_mk {l : PySem.W.OpenLaw} {w : World} {K : PySem.W.Frag} {h : Heap} {mg : Str → Option Value} {fa c_Web c_BadWeb c_NoHouse c_NoTie c_NotSpring c_NoWord c_StreamError f0 f1 f2 f3 f4 f5 f6 f7 f8 f9 f10 f11 f12 f13 f14 f15 f16 f17 f18 f19 f20 f21 f22 f23 f24 f25 f26 f27 f28 f29 f30 f31 f32 f33 f34 f35 f36 f37 f38 f39 f40 f41 f42 f43 f44 f45 f46 f47 f48 f49 f50 f51 f52 f53 f54 f55 f56 f57 f58 f59 f60 f61 f62 : Addr} (X : K.In h) (G : h.Ns mainGlobals mg) (hfa : mg "law" = some (.ref fa)) {tk1 tk2 tk3 tk4 tk5 : Tok}
    {nm0 q0 : Str} {N0 ss0 : Addr} {bs0 : List Value} {sn0 : List Str} {sub0 : List Value} {ab0 : Bool} {col0 : Option Bool} {dd0 : Option Addr} {ma0 mb0 mc0 md0 me0 : Option Value} {nm1 q1 : Str} {N1 ss1 : Addr} {bs1 : List Value} {sn1 : List Str} {sub1 : List Value} {ab1 : Bool} {col1 : Option Bool} {dd1 : Option Addr} {ma1 mb1 mc1 md1 me1 : Option Value} {nm2 q2 : Str} {N2 ss2 : Addr} {bs2 : List Value} {sn2 : List Str} {sub2 : List Value} {ab2 : Bool} {col2 : Option Bool} {dd2 : Option Addr} {ma2 mb2 mc2 md2 me2 : Option Value} {nm3 q3 : Str} {N3 ss3 : Addr} {bs3 : List Value} {sn3 : List Str} {sub3 : List Value} {ab3 : Bool} {col3 : Option Bool} {dd3 : Option Addr} {ma3 mb3 mc3 md3 me3 : Option Value} {nm4 q4 : Str} {N4 ss4 : Addr} {bs4 : List Value} {sn4 : List Str} {sub4 : List Value} {ab4 : Bool} {col4 : Option Bool} {dd4 : Option Addr} {ma4 mb4 mc4 md4 me4 : Option Value}
    {od0 an0 : Option Addr} {sl0 : Array (Option Value)} {oc0 kV0 dc0 pm0 cd0 ct0 : Value}
    {od1 an1 : Option Addr} {sl1 : Array (Option Value)} {oc1 kV1 dc1 pm1 cd1 ct1 : Value}
    {od2 an2 : Option Addr} {sl2 : Array (Option Value)} {oc2 kV2 dc2 pm2 cd2 ct2 : Value}
    {od3 an3 : Option Addr} {sl3 : Array (Option Value)} {oc3 kV3 dc3 pm3 cd3 ct3 : Value}
    {od4 an4 : Option Addr} {sl4 : Array (Option Value)} {oc4 kV4 dc4 pm4 cd4 ct4 : Value}
    {od5 an5 : Option Addr} {sl5 : Array (Option Value)} {oc5 kV5 dc5 pm5 cd5 ct5 : Value}
    {od6 an6 : Option Addr} {sl6 : Array (Option Value)} {oc6 kV6 dc6 pm6 cd6 ct6 : Value}
    {od7 an7 : Option Addr} {sl7 : Array (Option Value)} {oc7 kV7 dc7 pm7 cd7 ct7 : Value}
    {od8 an8 : Option Addr} {sl8 : Array (Option Value)} {oc8 kV8 dc8 pm8 cd8 ct8 : Value}
    {od9 an9 : Option Addr} {sl9 : Array (Option Value)} {oc9 kV9 dc9 pm9 cd9 ct9 : Value}
    {od10 an10 : Option Addr} {sl10 : Array (Option Value)} {oc10 kV10 dc10 pm10 cd10 ct10 : Value}
    {od11 an11 : Option Addr} {sl11 : Array (Option Value)} {oc11 kV11 dc11 pm11 cd11 ct11 : Value}
    {od12 an12 : Option Addr} {sl12 : Array (Option Value)} {oc12 kV12 dc12 pm12 cd12 ct12 : Value}
    {od13 an13 : Option Addr} {sl13 : Array (Option Value)} {oc13 kV13 dc13 pm13 cd13 ct13 : Value}
    {od14 an14 : Option Addr} {sl14 : Array (Option Value)} {oc14 kV14 dc14 pm14 cd14 ct14 : Value}
    {od15 an15 : Option Addr} {sl15 : Array (Option Value)} {oc15 kV15 dc15 pm15 cd15 ct15 : Value}
    {od16 an16 : Option Addr} {sl16 : Array (Option Value)} {oc16 kV16 dc16 pm16 cd16 ct16 : Value}
    {od17 an17 : Option Addr} {sl17 : Array (Option Value)} {oc17 kV17 dc17 pm17 cd17 ct17 : Value}
    {od18 an18 : Option Addr} {sl18 : Array (Option Value)} {oc18 kV18 dc18 pm18 cd18 ct18 : Value}
    {od19 an19 : Option Addr} {sl19 : Array (Option Value)} {oc19 kV19 dc19 pm19 cd19 ct19 : Value}
    {od20 an20 : Option Addr} {sl20 : Array (Option Value)} {oc20 kV20 dc20 pm20 cd20 ct20 : Value}
    {od21 an21 : Option Addr} {sl21 : Array (Option Value)} {oc21 kV21 dc21 pm21 cd21 ct21 : Value}
    {od22 an22 : Option Addr} {sl22 : Array (Option Value)} {oc22 kV22 dc22 pm22 cd22 ct22 : Value}
    {od23 an23 : Option Addr} {sl23 : Array (Option Value)} {oc23 kV23 dc23 pm23 cd23 ct23 : Value}
    {od24 an24 : Option Addr} {sl24 : Array (Option Value)} {oc24 kV24 dc24 pm24 cd24 ct24 : Value}
    {od25 an25 : Option Addr} {sl25 : Array (Option Value)} {oc25 kV25 dc25 pm25 cd25 ct25 : Value}
    {od26 an26 : Option Addr} {sl26 : Array (Option Value)} {oc26 kV26 dc26 pm26 cd26 ct26 : Value}
    {od27 an27 : Option Addr} {sl27 : Array (Option Value)} {oc27 kV27 dc27 pm27 cd27 ct27 : Value}
    {od28 an28 : Option Addr} {sl28 : Array (Option Value)} {oc28 kV28 dc28 pm28 cd28 ct28 : Value}
    {od29 an29 : Option Addr} {sl29 : Array (Option Value)} {oc29 kV29 dc29 pm29 cd29 ct29 : Value}
    {od30 an30 : Option Addr} {sl30 : Array (Option Value)} {oc30 kV30 dc30 pm30 cd30 ct30 : Value}
    {od31 an31 : Option Addr} {sl31 : Array (Option Value)} {oc31 kV31 dc31 pm31 cd31 ct31 : Value}
    {od32 an32 : Option Addr} {sl32 : Array (Option Value)} {oc32 kV32 dc32 pm32 cd32 ct32 : Value}
    {od33 an33 : Option Addr} {sl33 : Array (Option Value)} {oc33 kV33 dc33 pm33 cd33 ct33 : Value}
    {od34 an34 : Option Addr} {sl34 : Array (Option Value)} {oc34 kV34 dc34 pm34 cd34 ct34 : Value}
    {od35 an35 : Option Addr} {sl35 : Array (Option Value)} {oc35 kV35 dc35 pm35 cd35 ct35 : Value}
    {od36 an36 : Option Addr} {sl36 : Array (Option Value)} {oc36 kV36 dc36 pm36 cd36 ct36 : Value}
    {od37 an37 : Option Addr} {sl37 : Array (Option Value)} {oc37 kV37 dc37 pm37 cd37 ct37 : Value}
    {od38 an38 : Option Addr} {sl38 : Array (Option Value)} {oc38 kV38 dc38 pm38 cd38 ct38 : Value}
    {od39 an39 : Option Addr} {sl39 : Array (Option Value)} {oc39 kV39 dc39 pm39 cd39 ct39 : Value}
    {od40 an40 : Option Addr} {sl40 : Array (Option Value)} {oc40 kV40 dc40 pm40 cd40 ct40 : Value}
    {od41 an41 : Option Addr} {sl41 : Array (Option Value)} {oc41 kV41 dc41 pm41 cd41 ct41 : Value}
    {od42 an42 : Option Addr} {sl42 : Array (Option Value)} {oc42 kV42 dc42 pm42 cd42 ct42 : Value}
    {od43 an43 : Option Addr} {sl43 : Array (Option Value)} {oc43 kV43 dc43 pm43 cd43 ct43 : Value}
    {od44 an44 : Option Addr} {sl44 : Array (Option Value)} {oc44 kV44 dc44 pm44 cd44 ct44 : Value}
    {od45 an45 : Option Addr} {sl45 : Array (Option Value)} {oc45 kV45 dc45 pm45 cd45 ct45 : Value}
    {od46 an46 : Option Addr} {sl46 : Array (Option Value)} {oc46 kV46 dc46 pm46 cd46 ct46 : Value}
    {od47 an47 : Option Addr} {sl47 : Array (Option Value)} {oc47 kV47 dc47 pm47 cd47 ct47 : Value}
    {od48 an48 : Option Addr} {sl48 : Array (Option Value)} {oc48 kV48 dc48 pm48 cd48 ct48 : Value}
    {od49 an49 : Option Addr} {sl49 : Array (Option Value)} {oc49 kV49 dc49 pm49 cd49 ct49 : Value}
    {od50 an50 : Option Addr} {sl50 : Array (Option Value)} {oc50 kV50 dc50 pm50 cd50 ct50 : Value}
    {od51 an51 : Option Addr} {sl51 : Array (Option Value)} {oc51 kV51 dc51 pm51 cd51 ct51 : Value}
    {od52 an52 : Option Addr} {sl52 : Array (Option Value)} {oc52 kV52 dc52 pm52 cd52 ct52 : Value}
    {od53 an53 : Option Addr} {sl53 : Array (Option Value)} {oc53 kV53 dc53 pm53 cd53 ct53 : Value}
    {od54 an54 : Option Addr} {sl54 : Array (Option Value)} {oc54 kV54 dc54 pm54 cd54 ct54 : Value}
    {od55 an55 : Option Addr} {sl55 : Array (Option Value)} {oc55 kV55 dc55 pm55 cd55 ct55 : Value}
    {od56 an56 : Option Addr} {sl56 : Array (Option Value)} {oc56 kV56 dc56 pm56 cd56 ct56 : Value}
    {od57 an57 : Option Addr} {sl57 : Array (Option Value)} {oc57 kV57 dc57 pm57 cd57 ct57 : Value}
    {od58 an58 : Option Addr} {sl58 : Array (Option Value)} {oc58 kV58 dc58 pm58 cd58 ct58 : Value}
    {od59 an59 : Option Addr} {sl59 : Array (Option Value)} {oc59 kV59 dc59 pm59 cd59 ct59 : Value}
    {od60 an60 : Option Addr} {sl60 : Array (Option Value)} {oc60 kV60 dc60 pm60 cd60 ct60 : Value}
    {od61 an61 : Option Addr} {sl61 : Array (Option Value)} {oc61 kV61 dc61 pm61 cd61 ct61 : Value}
    {od62 an62 : Option Addr} {sl62 : Array (Option Value)} {oc62 kV62 dc62 pm62 cd62 ct62 : Value}
    (g_c_Web : PySem.W.nsIn K mainGlobals "Web" = some (some (.ref c_Web)))
    (g_c_BadWeb : PySem.W.nsIn K mainGlobals "BadWeb" = some (some (.ref c_BadWeb)))
    (g_c_NoHouse : PySem.W.nsIn K mainGlobals "NoHouse" = some (some (.ref c_NoHouse)))
    (g_c_NoTie : PySem.W.nsIn K mainGlobals "NoTie" = some (some (.ref c_NoTie)))
    (g_c_NotSpring : PySem.W.nsIn K mainGlobals "NotSpring" = some (some (.ref c_NotSpring)))
    (g_c_NoWord : PySem.W.nsIn K mainGlobals "NoWord" = some (some (.ref c_NoWord)))
    (g_c_StreamError : PySem.W.nsIn K mainGlobals "StreamError" = some (some (.ref c_StreamError)))
    (g_FEWEST_HOUSES : PySem.W.nsIn K mainGlobals "FEWEST_HOUSES" = some (some (.int 2 tk1)))
    (g_MOST_HOUSES : PySem.W.nsIn K mainGlobals "MOST_HOUSES" = some (some (.int 10 tk2)))
    (g_LETS_LIMIT : PySem.W.nsIn K mainGlobals "LETS_LIMIT" = some (some (.int 1000000 tk3)))
    (g_UNITS_LIMIT : PySem.W.nsIn K mainGlobals "UNITS_LIMIT" = some (some (.int 1000000000 tk4)))
    (g_HEIGHT_LIMIT : PySem.W.nsIn K mainGlobals "HEIGHT_LIMIT" = some (some (.int 1000 tk5)))
    (b_isinstance : PySem.W.nsIn K mainGlobals "isinstance" = some none)
    (b_int : PySem.W.nsIn K mainGlobals "int" = some none)
    (b_bool : PySem.W.nsIn K mainGlobals "bool" = some none)
    (b_tuple : PySem.W.nsIn K mainGlobals "tuple" = some none)
    (b_list : PySem.W.nsIn K mainGlobals "list" = some none)
    (b_str : PySem.W.nsIn K mainGlobals "str" = some none)
    (b_len : PySem.W.nsIn K mainGlobals "len" = some none)
    (b_range : PySem.W.nsIn K mainGlobals "range" = some none)
    (b_enumerate : PySem.W.nsIn K mainGlobals "enumerate" = some none)
    (b_zip : PySem.W.nsIn K mainGlobals "zip" = some none)
    (b_sorted : PySem.W.nsIn K mainGlobals "sorted" = some none)
    (b_set : PySem.W.nsIn K mainGlobals "set" = some none)
    (b_min : PySem.W.nsIn K mainGlobals "min" = some none)
    (b_max : PySem.W.nsIn K mainGlobals "max" = some none)
    (b_sum : PySem.W.nsIn K mainGlobals "sum" = some none)
    (b_any : PySem.W.nsIn K mainGlobals "any" = some none)
    (b_all : PySem.W.nsIn K mainGlobals "all" = some none)
    (w_pg : PySem.W.plainGet K c_Web Str.empty = true)
    (w_hd : PySem.W.hasDictIn K c_Web = true)
    (w_po : PySem.W.plainOver K c_Web = true)
    (w_sa : PySem.W.findIn K (.ref c_Web) "__setattr__" = some (some (.builtin "object.__setattr__")))
    (w_ca : PySem.W.findIn K (.ref c_Web) "__class__" = some (some (.builtin "object.__class__")))
    (w_co : PySem.W.mroIn K c_Web (.type "object") = some true)
    (w_ki : PySem.W.mroIn K c_Web (.type "int") = some false)
    (w_kb : PySem.W.mroIn K c_Web (.type "bool") = some false)
    (w_kt : PySem.W.mroIn K c_Web (.type "tuple") = some false)
    (w_kl : PySem.W.mroIn K c_Web (.type "list") = some false)
    (w_ks : PySem.W.mroIn K c_Web (.type "str") = some false)
    (w_is : PySem.W.isClsIn K c_Web = true)
    (w_ty : PySem.W.typeIn K (.ref c_Web) = some (.type "type"))
    (w_mk : PySem.W.makesIn K c_Web = true)
    (w_kp : PySem.W.keepIn K (.ref c_Web) = true)
    (w_nf : PySem.W.notFirst K c_Web (.type "tuple") = true)
    (w_cg : PySem.W.specialIn K (.builtin "object.__class__") "__get__" = some (some (.builtin "getset_descriptor.__get__")))
    (w_ct : PySem.W.takesIn K (.builtin "object.__class__") = some true)
    (w_na_many : PySem.W.findIn K (.ref c_Web) "many" = some none)
    (w_na_ties : PySem.W.findIn K (.ref c_Web) "ties" = some none)
    (w_na_spring : PySem.W.findIn K (.ref c_Web) "spring" = some none)
    (w_na_mouth : PySem.W.findIn K (.ref c_Web) "mouth" = some none)
    (w_na_through : PySem.W.findIn K (.ref c_Web) "through" = some none)
    (w_na_around : PySem.W.findIn K (.ref c_Web) "around" = some none)
    (x0_l : K.lookup c_BadWeb = some (excClassObj nm0 q0 c_BadWeb N0 bs0 [.ref ss0, .type "ValueError", .type "Exception", .type "BaseException", .type "object"] true sn0 sub0 ab0 col0 dd0 ma0 mb0 mc0 md0 me0 "ValueError.__new__"))
    (x0_sa : PySem.W.findIn K (.ref c_BadWeb) "__setattr__" = some (some (.builtin "object.__setattr__")))
    (x0_ex : PySem.W.subIn K (.ref c_BadWeb) (.type "BaseException") = some true)
    (x0_ty : PySem.W.typeIn K (.ref c_BadWeb) = some (.type "type"))
    (x0_kp : PySem.W.keepIn K (.ref c_BadWeb) = true)
    (x0_is : PySem.W.isClsIn K c_BadWeb = true)
    (x1_l : K.lookup c_NoHouse = some (excClassObj nm1 q1 c_NoHouse N1 bs1 [.ref ss1, .type "ValueError", .type "Exception", .type "BaseException", .type "object"] true sn1 sub1 ab1 col1 dd1 ma1 mb1 mc1 md1 me1 "ValueError.__new__"))
    (x1_sa : PySem.W.findIn K (.ref c_NoHouse) "__setattr__" = some (some (.builtin "object.__setattr__")))
    (x1_ex : PySem.W.subIn K (.ref c_NoHouse) (.type "BaseException") = some true)
    (x1_ty : PySem.W.typeIn K (.ref c_NoHouse) = some (.type "type"))
    (x1_kp : PySem.W.keepIn K (.ref c_NoHouse) = true)
    (x1_is : PySem.W.isClsIn K c_NoHouse = true)
    (x2_l : K.lookup c_NoTie = some (excClassObj nm2 q2 c_NoTie N2 bs2 [.ref ss2, .type "ValueError", .type "Exception", .type "BaseException", .type "object"] true sn2 sub2 ab2 col2 dd2 ma2 mb2 mc2 md2 me2 "ValueError.__new__"))
    (x2_sa : PySem.W.findIn K (.ref c_NoTie) "__setattr__" = some (some (.builtin "object.__setattr__")))
    (x2_ex : PySem.W.subIn K (.ref c_NoTie) (.type "BaseException") = some true)
    (x2_ty : PySem.W.typeIn K (.ref c_NoTie) = some (.type "type"))
    (x2_kp : PySem.W.keepIn K (.ref c_NoTie) = true)
    (x2_is : PySem.W.isClsIn K c_NoTie = true)
    (x3_l : K.lookup c_NotSpring = some (excClassObj nm3 q3 c_NotSpring N3 bs3 [.ref ss3, .type "ValueError", .type "Exception", .type "BaseException", .type "object"] true sn3 sub3 ab3 col3 dd3 ma3 mb3 mc3 md3 me3 "ValueError.__new__"))
    (x3_sa : PySem.W.findIn K (.ref c_NotSpring) "__setattr__" = some (some (.builtin "object.__setattr__")))
    (x3_ex : PySem.W.subIn K (.ref c_NotSpring) (.type "BaseException") = some true)
    (x3_ty : PySem.W.typeIn K (.ref c_NotSpring) = some (.type "type"))
    (x3_kp : PySem.W.keepIn K (.ref c_NotSpring) = true)
    (x3_is : PySem.W.isClsIn K c_NotSpring = true)
    (x4_l : K.lookup c_NoWord = some (excClassObj nm4 q4 c_NoWord N4 bs4 [.ref ss4, .type "ValueError", .type "Exception", .type "BaseException", .type "object"] true sn4 sub4 ab4 col4 dd4 ma4 mb4 mc4 md4 me4 "ValueError.__new__"))
    (x4_sa : PySem.W.findIn K (.ref c_NoWord) "__setattr__" = some (some (.builtin "object.__setattr__")))
    (x4_ex : PySem.W.subIn K (.ref c_NoWord) (.type "BaseException") = some true)
    (x4_ty : PySem.W.typeIn K (.ref c_NoWord) = some (.type "type"))
    (x4_kp : PySem.W.keepIn K (.ref c_NoWord) = true)
    (x4_is : PySem.W.isClsIn K c_NoWord = true)
    (p0_na : PySem.W.findIn K (.ref c_BadWeb) "part" = some none)
    (p0_ga : PySem.W.findIn K (.ref c_BadWeb) "__getattribute__" = some (some (.builtin "BaseException.__getattribute__")))
    (p0_gg : PySem.W.findIn K (.ref c_BadWeb) "__getattr__" = some none)
    (p0_hd : PySem.W.hasDictIn K c_BadWeb = true)
    (se_NoWord : PySem.W.subIn K (.ref c_NoWord) (.ref c_NoWord) = some true)
    (se_NotSpring : PySem.W.subIn K (.ref c_NotSpring) (.ref c_NotSpring) = some true)
    (se_NotSpringNoWord : PySem.W.subIn K (.ref c_NotSpring) (.ref c_NoWord) = some false)
    (a0 : PySem.W.findIn K (.ref c_BadWeb) "__init__" = some (some (.ref f0)))
    (i0 : PySem.W.isFn K (.ref f0) = true)
    (t0 : PySem.W.typeIn K (.ref f0) = some (.type "function"))
    (l0 : K.lookup f0 = some ⟨oc0, od0, .func (PySem.W.fnOf "__init__" "BadWeb.__init__" (defArgs s_BadWeb_init) (defBody s_BadWeb_init) (defScope s_BadWeb_init) .none kV0 dc0 pm0 an0 cd0 ct0), sl0⟩)
    (c0 : PySem.W.codeIn K cd0 "BadWeb.__init__" = true)
    (k0 : PySem.W.keepIn K (.ref f0) = true)
    (a1 : PySem.W.findIn K (.ref c_NoHouse) "__init__" = some (some (.ref f1)))
    (i1 : PySem.W.isFn K (.ref f1) = true)
    (t1 : PySem.W.typeIn K (.ref f1) = some (.type "function"))
    (l1 : K.lookup f1 = some ⟨oc1, od1, .func (PySem.W.fnOf "__init__" "NoHouse.__init__" (defArgs s_NoHouse_init) (defBody s_NoHouse_init) (defScope s_NoHouse_init) .none kV1 dc1 pm1 an1 cd1 ct1), sl1⟩)
    (c1 : PySem.W.codeIn K cd1 "NoHouse.__init__" = true)
    (k1 : PySem.W.keepIn K (.ref f1) = true)
    (a2 : PySem.W.findIn K (.ref c_NoTie) "__init__" = some (some (.ref f2)))
    (i2 : PySem.W.isFn K (.ref f2) = true)
    (t2 : PySem.W.typeIn K (.ref f2) = some (.type "function"))
    (l2 : K.lookup f2 = some ⟨oc2, od2, .func (PySem.W.fnOf "__init__" "NoTie.__init__" (defArgs s_NoTie_init) (defBody s_NoTie_init) (defScope s_NoTie_init) .none kV2 dc2 pm2 an2 cd2 ct2), sl2⟩)
    (c2 : PySem.W.codeIn K cd2 "NoTie.__init__" = true)
    (k2 : PySem.W.keepIn K (.ref f2) = true)
    (a3 : PySem.W.findIn K (.ref c_NotSpring) "__init__" = some (some (.ref f3)))
    (i3 : PySem.W.isFn K (.ref f3) = true)
    (t3 : PySem.W.typeIn K (.ref f3) = some (.type "function"))
    (l3 : K.lookup f3 = some ⟨oc3, od3, .func (PySem.W.fnOf "__init__" "NotSpring.__init__" (defArgs s_NotSpring_init) (defBody s_NotSpring_init) (defScope s_NotSpring_init) .none kV3 dc3 pm3 an3 cd3 ct3), sl3⟩)
    (c3 : PySem.W.codeIn K cd3 "NotSpring.__init__" = true)
    (k3 : PySem.W.keepIn K (.ref f3) = true)
    (a4 : PySem.W.findIn K (.ref c_NoWord) "__init__" = some (some (.ref f4)))
    (i4 : PySem.W.isFn K (.ref f4) = true)
    (t4 : PySem.W.typeIn K (.ref f4) = some (.type "function"))
    (l4 : K.lookup f4 = some ⟨oc4, od4, .func (PySem.W.fnOf "__init__" "NoWord.__init__" (defArgs s_NoWord_init) (defBody s_NoWord_init) (defScope s_NoWord_init) .none kV4 dc4 pm4 an4 cd4 ct4), sl4⟩)
    (c4 : PySem.W.codeIn K cd4 "NoWord.__init__" = true)
    (k4 : PySem.W.keepIn K (.ref f4) = true)
    (a5 : PySem.W.nsIn K mainGlobals "is_int" = some (some (.ref f5)))
    (l5 : K.lookup f5 = some ⟨oc5, od5, .func (PySem.W.fnOf "is_int" "is_int" (defArgs s_is_int) (defBody s_is_int) (defScope s_is_int) .none kV5 dc5 pm5 an5 cd5 ct5), sl5⟩)
    (c5 : PySem.W.codeIn K cd5 "is_int" = true)
    (k5 : PySem.W.keepIn K (.ref f5) = true)
    (a6 : PySem.W.nsIn K mainGlobals "is_number" = some (some (.ref f6)))
    (l6 : K.lookup f6 = some ⟨oc6, od6, .func (PySem.W.fnOf "is_number" "is_number" (defArgs s_is_number) (defBody s_is_number) (defScope s_is_number) .none kV6 dc6 pm6 an6 cd6 ct6), sl6⟩)
    (c6 : PySem.W.codeIn K cd6 "is_number" = true)
    (k6 : PySem.W.keepIn K (.ref f6) = true)
    (a7 : PySem.W.nsIn K mainGlobals "is_number_below" = some (some (.ref f7)))
    (l7 : K.lookup f7 = some ⟨oc7, od7, .func (PySem.W.fnOf "is_number_below" "is_number_below" (defArgs s_is_number_below) (defBody s_is_number_below) (defScope s_is_number_below) .none kV7 dc7 pm7 an7 cd7 ct7), sl7⟩)
    (c7 : PySem.W.codeIn K cd7 "is_number_below" = true)
    (k7 : PySem.W.keepIn K (.ref f7) = true)
    (a8 : PySem.W.nsIn K mainGlobals "is_tuple_of" = some (some (.ref f8)))
    (l8 : K.lookup f8 = some ⟨oc8, od8, .func (PySem.W.fnOf "is_tuple_of" "is_tuple_of" (defArgs s_is_tuple_of) (defBody s_is_tuple_of) (defScope s_is_tuple_of) .none kV8 dc8 pm8 an8 cd8 ct8), sl8⟩)
    (c8 : PySem.W.codeIn K cd8 "is_tuple_of" = true)
    (k8 : PySem.W.keepIn K (.ref f8) = true)
    (a9 : PySem.W.findIn K (.ref c_Web) "__init__" = some (some (.ref f9)))
    (i9 : PySem.W.isFn K (.ref f9) = true)
    (t9 : PySem.W.typeIn K (.ref f9) = some (.type "function"))
    (l9 : K.lookup f9 = some ⟨oc9, od9, .func (PySem.W.fnOf "__init__" "Web.__init__" (defArgs s_Web_init) (defBody s_Web_init) (defScope s_Web_init) .none kV9 dc9 pm9 an9 cd9 ct9), sl9⟩)
    (c9 : PySem.W.codeIn K cd9 "Web.__init__" = true)
    (k9 : PySem.W.keepIn K (.ref f9) = true)
    (a10 : PySem.W.findIn K (.ref c_Web) "__eq__" = some (some (.ref f10)))
    (i10 : PySem.W.isFn K (.ref f10) = true)
    (t10 : PySem.W.typeIn K (.ref f10) = some (.type "function"))
    (l10 : K.lookup f10 = some ⟨oc10, od10, .func (PySem.W.fnOf "__eq__" "Web.__eq__" (defArgs s_Web_eq) (defBody s_Web_eq) (defScope s_Web_eq) .none kV10 dc10 pm10 an10 cd10 ct10), sl10⟩)
    (c10 : PySem.W.codeIn K cd10 "Web.__eq__" = true)
    (k10 : PySem.W.keepIn K (.ref f10) = true)
    (a11 : PySem.W.nsIn K mainGlobals "_check_many" = some (some (.ref f11)))
    (l11 : K.lookup f11 = some ⟨oc11, od11, .func (PySem.W.fnOf "_check_many" "_check_many" (defArgs s_check_many) (defBody s_check_many) (defScope s_check_many) .none kV11 dc11 pm11 an11 cd11 ct11), sl11⟩)
    (c11 : PySem.W.codeIn K cd11 "_check_many" = true)
    (k11 : PySem.W.keepIn K (.ref f11) = true)
    (a12 : PySem.W.nsIn K mainGlobals "_check_ties" = some (some (.ref f12)))
    (l12 : K.lookup f12 = some ⟨oc12, od12, .func (PySem.W.fnOf "_check_ties" "_check_ties" (defArgs s_check_ties) (defBody s_check_ties) (defScope s_check_ties) .none kV12 dc12 pm12 an12 cd12 ct12), sl12⟩)
    (c12 : PySem.W.codeIn K cd12 "_check_ties" = true)
    (k12 : PySem.W.keepIn K (.ref f12) = true)
    (a13 : PySem.W.nsIn K mainGlobals "_is_tie" = some (some (.ref f13)))
    (l13 : K.lookup f13 = some ⟨oc13, od13, .func (PySem.W.fnOf "_is_tie" "_is_tie" (defArgs s_is_tie) (defBody s_is_tie) (defScope s_is_tie) .none kV13 dc13 pm13 an13 cd13 ct13), sl13⟩)
    (c13 : PySem.W.codeIn K cd13 "_is_tie" = true)
    (k13 : PySem.W.keepIn K (.ref f13) = true)
    (a14 : PySem.W.nsIn K mainGlobals "_through" = some (some (.ref f14)))
    (l14 : K.lookup f14 = some ⟨oc14, od14, .func (PySem.W.fnOf "_through" "_through" (defArgs s_through) (defBody s_through) (defScope s_through) .none kV14 dc14 pm14 an14 cd14 ct14), sl14⟩)
    (c14 : PySem.W.codeIn K cd14 "_through" = true)
    (k14 : PySem.W.keepIn K (.ref f14) = true)
    (a15 : PySem.W.nsIn K mainGlobals "_around" = some (some (.ref f15)))
    (l15 : K.lookup f15 = some ⟨oc15, od15, .func (PySem.W.fnOf "_around" "_around" (defArgs s_around) (defBody s_around) (defScope s_around) .none kV15 dc15 pm15 an15 cd15 ct15), sl15⟩)
    (c15 : PySem.W.codeIn K cd15 "_around" = true)
    (k15 : PySem.W.keepIn K (.ref f15) = true)
    (a16 : PySem.W.nsIn K mainGlobals "check_house" = some (some (.ref f16)))
    (l16 : K.lookup f16 = some ⟨oc16, od16, .func (PySem.W.fnOf "check_house" "check_house" (defArgs s_check_house) (defBody s_check_house) (defScope s_check_house) .none kV16 dc16 pm16 an16 cd16 ct16), sl16⟩)
    (c16 : PySem.W.codeIn K cd16 "check_house" = true)
    (k16 : PySem.W.keepIn K (.ref f16) = true)
    (a17 : PySem.W.nsIn K mainGlobals "neighbours" = some (some (.ref f17)))
    (l17 : K.lookup f17 = some ⟨oc17, od17, .func (PySem.W.fnOf "neighbours" "neighbours" (defArgs s_neighbours) (defBody s_neighbours) (defScope s_neighbours) .none kV17 dc17 pm17 an17 cd17 ct17), sl17⟩)
    (c17 : PySem.W.codeIn K cd17 "neighbours" = true)
    (k17 : PySem.W.keepIn K (.ref f17) = true)
    (a18 : PySem.W.nsIn K mainGlobals "lets" = some (some (.ref f18)))
    (l18 : K.lookup f18 = some ⟨oc18, od18, .func (PySem.W.fnOf "lets" "lets" (defArgs s_lets) (defBody s_lets) (defScope s_lets) .none kV18 dc18 pm18 an18 cd18 ct18), sl18⟩)
    (c18 : PySem.W.codeIn K cd18 "lets" = true)
    (k18 : PySem.W.keepIn K (.ref f18) = true)
    (a19 : PySem.W.nsIn K mainGlobals "_is_units" = some (some (.ref f19)))
    (l19 : K.lookup f19 = some ⟨oc19, od19, .func (PySem.W.fnOf "_is_units" "_is_units" (defArgs s_is_units) (defBody s_is_units) (defScope s_is_units) .none kV19 dc19 pm19 an19 cd19 ct19), sl19⟩)
    (c19 : PySem.W.codeIn K cd19 "_is_units" = true)
    (k19 : PySem.W.keepIn K (.ref f19) = true)
    (a20 : PySem.W.nsIn K mainGlobals "_is_height" = some (some (.ref f20)))
    (l20 : K.lookup f20 = some ⟨oc20, od20, .func (PySem.W.fnOf "_is_height" "_is_height" (defArgs s_is_height) (defBody s_is_height) (defScope s_is_height) .none kV20 dc20 pm20 an20 cd20 ct20), sl20⟩)
    (c20 : PySem.W.codeIn K cd20 "_is_height" = true)
    (k20 : PySem.W.keepIn K (.ref f20) = true)
    (a21 : PySem.W.nsIn K mainGlobals "is_word" = some (some (.ref f21)))
    (l21 : K.lookup f21 = some ⟨oc21, od21, .func (PySem.W.fnOf "is_word" "is_word" (defArgs s_is_word) (defBody s_is_word) (defScope s_is_word) .none kV21 dc21 pm21 an21 cd21 ct21), sl21⟩)
    (c21 : PySem.W.codeIn K cd21 "is_word" = true)
    (k21 : PySem.W.keepIn K (.ref f21) = true)
    (a22 : PySem.W.nsIn K mainGlobals "_rooms" = some (some (.ref f22)))
    (l22 : K.lookup f22 = some ⟨oc22, od22, .func (PySem.W.fnOf "_rooms" "_rooms" (defArgs s_rooms) (defBody s_rooms) (defScope s_rooms) .none kV22 dc22 pm22 an22 cd22 ct22), sl22⟩)
    (c22 : PySem.W.codeIn K cd22 "_rooms" = true)
    (k22 : PySem.W.keepIn K (.ref f22) = true)
    (a23 : PySem.W.nsIn K mainGlobals "started" = some (some (.ref f23)))
    (l23 : K.lookup f23 = some ⟨oc23, od23, .func (PySem.W.fnOf "started" "started" (defArgs s_started) (defBody s_started) (defScope s_started) .none kV23 dc23 pm23 an23 cd23 ct23), sl23⟩)
    (c23 : PySem.W.codeIn K cd23 "started" = true)
    (k23 : PySem.W.keepIn K (.ref f23) = true)
    (a24 : PySem.W.nsIn K mainGlobals "heard" = some (some (.ref f24)))
    (l24 : K.lookup f24 = some ⟨oc24, od24, .func (PySem.W.fnOf "heard" "heard" (defArgs s_heard) (defBody s_heard) (defScope s_heard) .none kV24 dc24 pm24 an24 cd24 ct24), sl24⟩)
    (c24 : PySem.W.codeIn K cd24 "heard" = true)
    (k24 : PySem.W.keepIn K (.ref f24) = true)
    (a25 : PySem.W.nsIn K mainGlobals "_can_hear" = some (some (.ref f25)))
    (l25 : K.lookup f25 = some ⟨oc25, od25, .func (PySem.W.fnOf "_can_hear" "_can_hear" (defArgs s_can_hear) (defBody s_can_hear) (defScope s_can_hear) .none kV25 dc25 pm25 an25 cd25 ct25), sl25⟩)
    (c25 : PySem.W.codeIn K cd25 "_can_hear" = true)
    (k25 : PySem.W.keepIn K (.ref f25) = true)
    (a26 : PySem.W.nsIn K mainGlobals "_done" = some (some (.ref f26)))
    (l26 : K.lookup f26 = some ⟨oc26, od26, .func (PySem.W.fnOf "_done" "_done" (defArgs s_done) (defBody s_done) (defScope s_done) .none kV26 dc26 pm26 an26 cd26 ct26), sl26⟩)
    (c26 : PySem.W.codeIn K cd26 "_done" = true)
    (k26 : PySem.W.keepIn K (.ref f26) = true)
    (a27 : PySem.W.nsIn K mainGlobals "_put" = some (some (.ref f27)))
    (l27 : K.lookup f27 = some ⟨oc27, od27, .func (PySem.W.fnOf "_put" "_put" (defArgs s_put) (defBody s_put) (defScope s_put) .none kV27 dc27 pm27 an27 cd27 ct27), sl27⟩)
    (c27 : PySem.W.codeIn K cd27 "_put" = true)
    (k27 : PySem.W.keepIn K (.ref f27) = true)
    (a28 : PySem.W.nsIn K mainGlobals "_woken" = some (some (.ref f28)))
    (l28 : K.lookup f28 = some ⟨oc28, od28, .func (PySem.W.fnOf "_woken" "_woken" (defArgs s_woken) (defBody s_woken) (defScope s_woken) .none kV28 dc28 pm28 an28 cd28 ct28), sl28⟩)
    (c28 : PySem.W.codeIn K cd28 "_woken" = true)
    (k28 : PySem.W.keepIn K (.ref f28) = true)
    (a29 : PySem.W.nsIn K mainGlobals "_moved" = some (some (.ref f29)))
    (l29 : K.lookup f29 = some ⟨oc29, od29, .func (PySem.W.fnOf "_moved" "_moved" (defArgs s_moved) (defBody s_moved) (defScope s_moved) .none kV29 dc29 pm29 an29 cd29 ct29), sl29⟩)
    (c29 : PySem.W.codeIn K cd29 "_moved" = true)
    (k29 : PySem.W.keepIn K (.ref f29) = true)
    (a30 : PySem.W.nsIn K mainGlobals "_taken" = some (some (.ref f30)))
    (l30 : K.lookup f30 = some ⟨oc30, od30, .func (PySem.W.fnOf "_taken" "_taken" (defArgs s_taken) (defBody s_taken) (defScope s_taken) .none kV30 dc30 pm30 an30 cd30 ct30), sl30⟩)
    (c30 : PySem.W.codeIn K cd30 "_taken" = true)
    (k30 : PySem.W.keepIn K (.ref f30) = true)
    (a31 : PySem.W.nsIn K mainGlobals "_held_again" = some (some (.ref f31)))
    (l31 : K.lookup f31 = some ⟨oc31, od31, .func (PySem.W.fnOf "_held_again" "_held_again" (defArgs s_held_again) (defBody s_held_again) (defScope s_held_again) .none kV31 dc31 pm31 an31 cd31 ct31), sl31⟩)
    (c31 : PySem.W.codeIn K cd31 "_held_again" = true)
    (k31 : PySem.W.keepIn K (.ref f31) = true)
    (a32 : PySem.W.nsIn K mainGlobals "_believed" = some (some (.ref f32)))
    (l32 : K.lookup f32 = some ⟨oc32, od32, .func (PySem.W.fnOf "_believed" "_believed" (defArgs s_believed) (defBody s_believed) (defScope s_believed) .none kV32 dc32 pm32 an32 cd32 ct32), sl32⟩)
    (c32 : PySem.W.codeIn K cd32 "_believed" = true)
    (k32 : PySem.W.keepIn K (.ref f32) = true)
    (a33 : PySem.W.nsIn K mainGlobals "_sent" = some (some (.ref f33)))
    (l33 : K.lookup f33 = some ⟨oc33, od33, .func (PySem.W.fnOf "_sent" "_sent" (defArgs s_sent) (defBody s_sent) (defScope s_sent) .none kV33 dc33 pm33 an33 cd33 ct33), sl33⟩)
    (c33 : PySem.W.codeIn K cd33 "_sent" = true)
    (k33 : PySem.W.keepIn K (.ref f33) = true)
    (a34 : PySem.W.nsIn K mainGlobals "_answered" = some (some (.ref f34)))
    (l34 : K.lookup f34 = some ⟨oc34, od34, .func (PySem.W.fnOf "_answered" "_answered" (defArgs s_answered) (defBody s_answered) (defScope s_answered) .none kV34 dc34 pm34 an34 cd34 ct34), sl34⟩)
    (c34 : PySem.W.codeIn K cd34 "_answered" = true)
    (k34 : PySem.W.keepIn K (.ref f34) = true)
    (a35 : PySem.W.nsIn K mainGlobals "_acted" = some (some (.ref f35)))
    (l35 : K.lookup f35 = some ⟨oc35, od35, .func (PySem.W.fnOf "_acted" "_acted" (defArgs s_acted) (defBody s_acted) (defScope s_acted) .none kV35 dc35 pm35 an35 cd35 ct35), sl35⟩)
    (c35 : PySem.W.codeIn K cd35 "_acted" = true)
    (k35 : PySem.W.keepIn K (.ref f35) = true)
    (a36 : PySem.W.nsIn K mainGlobals "_next_act" = some (some (.ref f36)))
    (l36 : K.lookup f36 = some ⟨oc36, od36, .func (PySem.W.fnOf "_next_act" "_next_act" (defArgs s_next_act) (defBody s_next_act) (defScope s_next_act) .none kV36 dc36 pm36 an36 cd36 ct36), sl36⟩)
    (c36 : PySem.W.codeIn K cd36 "_next_act" = true)
    (k36 : PySem.W.keepIn K (.ref f36) = true)
    (a37 : PySem.W.nsIn K mainGlobals "_pushing" = some (some (.ref f37)))
    (l37 : K.lookup f37 = some ⟨oc37, od37, .func (PySem.W.fnOf "_pushing" "_pushing" (defArgs s_pushing) (defBody s_pushing) (defScope s_pushing) .none kV37 dc37 pm37 an37 cd37 ct37), sl37⟩)
    (c37 : PySem.W.codeIn K cd37 "_pushing" = true)
    (k37 : PySem.W.keepIn K (.ref f37) = true)
    (a38 : PySem.W.nsIn K mainGlobals "_rising" = some (some (.ref f38)))
    (l38 : K.lookup f38 = some ⟨oc38, od38, .func (PySem.W.fnOf "_rising" "_rising" (defArgs s_rising) (defBody s_rising) (defScope s_rising) .none kV38 dc38 pm38 an38 cd38 ct38), sl38⟩)
    (c38 : PySem.W.codeIn K cd38 "_rising" = true)
    (k38 : PySem.W.keepIn K (.ref f38) = true)
    (a39 : PySem.W.nsIn K mainGlobals "_law_hand" = some (some (.ref f39)))
    (l39 : K.lookup f39 = some ⟨oc39, od39, .func (PySem.W.fnOf "_law_hand" "_law_hand" (defArgs s_law_hand) (defBody s_law_hand) (defScope s_law_hand) .none kV39 dc39 pm39 an39 cd39 ct39), sl39⟩)
    (c39 : PySem.W.codeIn K cd39 "_law_hand" = true)
    (k39 : PySem.W.keepIn K (.ref f39) = true)
    (a40 : PySem.W.nsIn K mainGlobals "_law_draw" = some (some (.ref f40)))
    (l40 : K.lookup f40 = some ⟨oc40, od40, .func (PySem.W.fnOf "_law_draw" "_law_draw" (defArgs s_law_draw) (defBody s_law_draw) (defScope s_law_draw) .none kV40 dc40 pm40 an40 cd40 ct40), sl40⟩)
    (c40 : PySem.W.codeIn K cd40 "_law_draw" = true)
    (k40 : PySem.W.keepIn K (.ref f40) = true)
    (a41 : PySem.W.nsIn K mainGlobals "_law_is" = some (some (.ref f41)))
    (l41 : K.lookup f41 = some ⟨oc41, od41, .func (PySem.W.fnOf "_law_is" "_law_is" (defArgs s_law_is) (defBody s_law_is) (defScope s_law_is) .none kV41 dc41 pm41 an41 cd41 ct41), sl41⟩)
    (c41 : PySem.W.codeIn K cd41 "_law_is" = true)
    (k41 : PySem.W.keepIn K (.ref f41) = true)
    (a42 : PySem.W.nsIn K mainGlobals "_law_lot" = some (some (.ref f42)))
    (l42 : K.lookup f42 = some ⟨oc42, od42, .func (PySem.W.fnOf "_law_lot" "_law_lot" (defArgs s_law_lot) (defBody s_law_lot) (defScope s_law_lot) .none kV42 dc42 pm42 an42 cd42 ct42), sl42⟩)
    (c42 : PySem.W.codeIn K cd42 "_law_lot" = true)
    (k42 : PySem.W.keepIn K (.ref f42) = true)
    (a43 : PySem.W.nsIn K mainGlobals "_law_web" = some (some (.ref f43)))
    (l43 : K.lookup f43 = some ⟨oc43, od43, .func (PySem.W.fnOf "_law_web" "_law_web" (defArgs s_law_web) (defBody s_law_web) (defScope s_law_web) .none kV43 dc43 pm43 an43 cd43 ct43), sl43⟩)
    (c43 : PySem.W.codeIn K cd43 "_law_web" = true)
    (k43 : PySem.W.keepIn K (.ref f43) = true)
    (a44 : PySem.W.nsIn K mainGlobals "_law_beside" = some (some (.ref f44)))
    (l44 : K.lookup f44 = some ⟨oc44, od44, .func (PySem.W.fnOf "_law_beside" "_law_beside" (defArgs s_law_beside) (defBody s_law_beside) (defScope s_law_beside) .none kV44 dc44 pm44 an44 cd44 ct44), sl44⟩)
    (c44 : PySem.W.codeIn K cd44 "_law_beside" = true)
    (k44 : PySem.W.keepIn K (.ref f44) = true)
    (a45 : PySem.W.nsIn K mainGlobals "_law_lets" = some (some (.ref f45)))
    (l45 : K.lookup f45 = some ⟨oc45, od45, .func (PySem.W.fnOf "_law_lets" "_law_lets" (defArgs s_law_lets) (defBody s_law_lets) (defScope s_law_lets) .none kV45 dc45 pm45 an45 cd45 ct45), sl45⟩)
    (c45 : PySem.W.codeIn K cd45 "_law_lets" = true)
    (k45 : PySem.W.keepIn K (.ref f45) = true)
    (a46 : PySem.W.nsIn K mainGlobals "_law_begun" = some (some (.ref f46)))
    (l46 : K.lookup f46 = some ⟨oc46, od46, .func (PySem.W.fnOf "_law_begun" "_law_begun" (defArgs s_law_begun) (defBody s_law_begun) (defScope s_law_begun) .none kV46 dc46 pm46 an46 cd46 ct46), sl46⟩)
    (c46 : PySem.W.codeIn K cd46 "_law_begun" = true)
    (k46 : PySem.W.keepIn K (.ref f46) = true)
    (a47 : PySem.W.nsIn K mainGlobals "_law_with" = some (some (.ref f47)))
    (l47 : K.lookup f47 = some ⟨oc47, od47, .func (PySem.W.fnOf "_law_with" "_law_with" (defArgs s_law_with) (defBody s_law_with) (defScope s_law_with) .none kV47 dc47 pm47 an47 cd47 ct47), sl47⟩)
    (c47 : PySem.W.codeIn K cd47 "_law_with" = true)
    (k47 : PySem.W.keepIn K (.ref f47) = true)
    (a48 : PySem.W.nsIn K mainGlobals "_law_room" = some (some (.ref f48)))
    (l48 : K.lookup f48 = some ⟨oc48, od48, .func (PySem.W.fnOf "_law_room" "_law_room" (defArgs s_law_room) (defBody s_law_room) (defScope s_law_room) .none kV48 dc48 pm48 an48 cd48 ct48), sl48⟩)
    (c48 : PySem.W.codeIn K cd48 "_law_room" = true)
    (k48 : PySem.W.keepIn K (.ref f48) = true)
    (a49 : PySem.W.nsIn K mainGlobals "_law_started" = some (some (.ref f49)))
    (l49 : K.lookup f49 = some ⟨oc49, od49, .func (PySem.W.fnOf "_law_started" "_law_started" (defArgs s_law_started) (defBody s_law_started) (defScope s_law_started) .none kV49 dc49 pm49 an49 cd49 ct49), sl49⟩)
    (c49 : PySem.W.codeIn K cd49 "_law_started" = true)
    (k49 : PySem.W.keepIn K (.ref f49) = true)
    (a50 : PySem.W.nsIn K mainGlobals "_law_believes" = some (some (.ref f50)))
    (l50 : K.lookup f50 = some ⟨oc50, od50, .func (PySem.W.fnOf "_law_believes" "_law_believes" (defArgs s_law_believes) (defBody s_law_believes) (defScope s_law_believes) .none kV50 dc50 pm50 an50 cd50 ct50), sl50⟩)
    (c50 : PySem.W.codeIn K cd50 "_law_believes" = true)
    (k50 : PySem.W.keepIn K (.ref f50) = true)
    (a51 : PySem.W.nsIn K mainGlobals "_law_acts" = some (some (.ref f51)))
    (l51 : K.lookup f51 = some ⟨oc51, od51, .func (PySem.W.fnOf "_law_acts" "_law_acts" (defArgs s_law_acts) (defBody s_law_acts) (defScope s_law_acts) .none kV51 dc51 pm51 an51 cd51 ct51), sl51⟩)
    (c51 : PySem.W.codeIn K cd51 "_law_acts" = true)
    (k51 : PySem.W.keepIn K (.ref f51) = true)
    (a52 : PySem.W.nsIn K mainGlobals "_law_is_then" = some (some (.ref f52)))
    (l52 : K.lookup f52 = some ⟨oc52, od52, .func (PySem.W.fnOf "_law_is_then" "_law_is_then" (defArgs s_law_is_then) (defBody s_law_is_then) (defScope s_law_is_then) .none kV52 dc52 pm52 an52 cd52 ct52), sl52⟩)
    (c52 : PySem.W.codeIn K cd52 "_law_is_then" = true)
    (k52 : PySem.W.keepIn K (.ref f52) = true)
    (a53 : PySem.W.nsIn K mainGlobals "_law_does" = some (some (.ref f53)))
    (l53 : K.lookup f53 = some ⟨oc53, od53, .func (PySem.W.fnOf "_law_does" "_law_does" (defArgs s_law_does) (defBody s_law_does) (defScope s_law_does) .none kV53 dc53 pm53 an53 cd53 ct53), sl53⟩)
    (c53 : PySem.W.codeIn K cd53 "_law_does" = true)
    (k53 : PySem.W.keepIn K (.ref f53) = true)
    (a54 : PySem.W.nsIn K mainGlobals "_law_heard" = some (some (.ref f54)))
    (l54 : K.lookup f54 = some ⟨oc54, od54, .func (PySem.W.fnOf "_law_heard" "_law_heard" (defArgs s_law_heard) (defBody s_law_heard) (defScope s_law_heard) .none kV54 dc54 pm54 an54 cd54 ct54), sl54⟩)
    (c54 : PySem.W.codeIn K cd54 "_law_heard" = true)
    (k54 : PySem.W.keepIn K (.ref f54) = true)
    (a55 : PySem.W.nsIn K mainGlobals "_law_with_words" = some (some (.ref f55)))
    (l55 : K.lookup f55 = some ⟨oc55, od55, .func (PySem.W.fnOf "_law_with_words" "_law_with_words" (defArgs s_law_with_words) (defBody s_law_with_words) (defScope s_law_with_words) .none kV55 dc55 pm55 an55 cd55 ct55), sl55⟩)
    (c55 : PySem.W.codeIn K cd55 "_law_with_words" = true)
    (k55 : PySem.W.keepIn K (.ref f55) = true)
    (a56 : PySem.W.nsIn K mainGlobals "_law_some_move" = some (some (.ref f56)))
    (l56 : K.lookup f56 = some ⟨oc56, od56, .func (PySem.W.fnOf "_law_some_move" "_law_some_move" (defArgs s_law_some_move) (defBody s_law_some_move) (defScope s_law_some_move) .none kV56 dc56 pm56 an56 cd56 ct56), sl56⟩)
    (c56 : PySem.W.codeIn K cd56 "_law_some_move" = true)
    (k56 : PySem.W.keepIn K (.ref f56) = true)
    (a57 : PySem.W.nsIn K mainGlobals "_law_moved" = some (some (.ref f57)))
    (l57 : K.lookup f57 = some ⟨oc57, od57, .func (PySem.W.fnOf "_law_moved" "_law_moved" (defArgs s_law_moved) (defBody s_law_moved) (defScope s_law_moved) .none kV57 dc57 pm57 an57 cd57 ct57), sl57⟩)
    (c57 : PySem.W.codeIn K cd57 "_law_moved" = true)
    (k57 : PySem.W.keepIn K (.ref f57) = true)
    (a58 : PySem.W.nsIn K mainGlobals "_law_any_word" = some (some (.ref f58)))
    (l58 : K.lookup f58 = some ⟨oc58, od58, .func (PySem.W.fnOf "_law_any_word" "_law_any_word" (defArgs s_law_any_word) (defBody s_law_any_word) (defScope s_law_any_word) .none kV58 dc58 pm58 an58 cd58 ct58), sl58⟩)
    (c58 : PySem.W.codeIn K cd58 "_law_any_word" = true)
    (k58 : PySem.W.keepIn K (.ref f58) = true)
    (a59 : PySem.W.nsIn K mainGlobals "_law_called" = some (some (.ref f59)))
    (l59 : K.lookup f59 = some ⟨oc59, od59, .func (PySem.W.fnOf "_law_called" "_law_called" (defArgs s_law_called) (defBody s_law_called) (defScope s_law_called) .none kV59 dc59 pm59 an59 cd59 ct59), sl59⟩)
    (c59 : PySem.W.codeIn K cd59 "_law_called" = true)
    (k59 : PySem.W.keepIn K (.ref f59) = true)
    (a60 : PySem.W.nsIn K mainGlobals "_law_near_word" = some (some (.ref f60)))
    (l60 : K.lookup f60 = some ⟨oc60, od60, .func (PySem.W.fnOf "_law_near_word" "_law_near_word" (defArgs s_law_near_word) (defBody s_law_near_word) (defScope s_law_near_word) .none kV60 dc60 pm60 an60 cd60 ct60), sl60⟩)
    (c60 : PySem.W.codeIn K cd60 "_law_near_word" = true)
    (k60 : PySem.W.keepIn K (.ref f60) = true)
    (a61 : PySem.W.nsIn K mainGlobals "_law_are_words" = some (some (.ref f61)))
    (l61 : K.lookup f61 = some ⟨oc61, od61, .func (PySem.W.fnOf "_law_are_words" "_law_are_words" (defArgs s_law_are_words) (defBody s_law_are_words) (defScope s_law_are_words) .none kV61 dc61 pm61 an61 cd61 ct61), sl61⟩)
    (c61 : PySem.W.codeIn K cd61 "_law_are_words" = true)
    (k61 : PySem.W.keepIn K (.ref f61) = true)
    (a62 : PySem.W.nsIn K mainGlobals "law" = some (some (.ref f62)))
    (l62 : K.lookup f62 = some ⟨oc62, od62, .func (PySem.W.fnOf "law" "law" (defArgs s_law) (defBody s_law) (defScope s_law) .none kV62 dc62 pm62 an62 cd62 ct62), sl62⟩)
    (c62 : PySem.W.codeIn K cd62 "law" = true)
    (k62 : PySem.W.keepIn K (.ref f62) = true) :
    ∃ fd : FuncData, (∀ (s : Shared) (v : Value), BindsTo s fd ⟨[v], []⟩ [("script", v)]) ∧ ∀ base : Heap, K.In base → base.Ns mainGlobals mg → FnOk l.prog w K mg base CX0 13 fa fd ["script"] (spLaw K) := by
  have hb : ∀ (s : Shared) (v : Value), BindsTo s (PySem.W.fnOf "law" "law" (defArgs s_law) (defBody s_law) (defScope s_law) .none kV62 dc62 pm62 an62 cd62 ct62) ⟨[v], []⟩ [("script", v)] := fun s v => .of_eq rfl
  let T : Tx K mg := {
    c_Web := c_Web, c_BadWeb := c_BadWeb, c_NoHouse := c_NoHouse, c_NoTie := c_NoTie, c_NotSpring := c_NotSpring, c_NoWord := c_NoWord, c_StreamError := c_StreamError,
    b_isinstance := PySem.W.mg_none_of X G b_isinstance,
    b_int := PySem.W.mg_none_of X G b_int,
    b_bool := PySem.W.mg_none_of X G b_bool,
    b_tuple := PySem.W.mg_none_of X G b_tuple,
    b_list := PySem.W.mg_none_of X G b_list,
    b_str := PySem.W.mg_none_of X G b_str,
    b_len := PySem.W.mg_none_of X G b_len,
    b_range := PySem.W.mg_none_of X G b_range,
    b_enumerate := PySem.W.mg_none_of X G b_enumerate,
    b_zip := PySem.W.mg_none_of X G b_zip,
    b_sorted := PySem.W.mg_none_of X G b_sorted,
    b_set := PySem.W.mg_none_of X G b_set,
    b_min := PySem.W.mg_none_of X G b_min,
    b_max := PySem.W.mg_none_of X G b_max,
    b_sum := PySem.W.mg_none_of X G b_sum,
    b_any := PySem.W.mg_none_of X G b_any,
    b_all := PySem.W.mg_none_of X G b_all,
    g_Web := PySem.W.mg_of X G g_c_Web,
    g_BadWeb := PySem.W.mg_of X G g_c_BadWeb,
    g_NoHouse := PySem.W.mg_of X G g_c_NoHouse,
    g_NoTie := PySem.W.mg_of X G g_c_NoTie,
    g_NotSpring := PySem.W.mg_of X G g_c_NotSpring,
    g_NoWord := PySem.W.mg_of X G g_c_NoWord,
    g_StreamError := PySem.W.mg_of X G g_c_StreamError,
    k1 := tk1, k2 := tk2, k3 := tk3, k4 := tk4, k5 := tk5,
    g_FEWEST_HOUSES := PySem.W.mg_of X G g_FEWEST_HOUSES,
    g_MOST_HOUSES := PySem.W.mg_of X G g_MOST_HOUSES,
    g_LETS_LIMIT := PySem.W.mg_of X G g_LETS_LIMIT,
    g_UNITS_LIMIT := PySem.W.mg_of X G g_UNITS_LIMIT,
    g_HEIGHT_LIMIT := PySem.W.mg_of X G g_HEIGHT_LIMIT,
    W := ⟨⟨w_pg, w_hd, w_po, w_sa⟩, w_ca, w_cg, w_ct, w_co, kit_bt w_ki rfl rfl, kit_bt w_kb rfl rfl, kit_bt w_kt rfl rfl, kit_bt w_kl rfl rfl, kit_bt w_ks rfl rfl⟩, makes := w_mk, keeps := w_kp, kTW := kit_cls rfl w_is w_ty tup_not, nfW := w_nf,
    na_many := w_na_many,
    na_ties := w_na_ties,
    na_spring := w_na_spring,
    na_mouth := w_na_mouth,
    na_through := w_na_through,
    na_around := w_na_around,
    x_BadWeb := ⟨⟨_, _, _, _, _, _, _, _, _, _, _, _, _, _, _, x0_l, rfl⟩, x0_sa, x0_ex, x0_ty, x0_kp⟩,
    x_NoHouse := ⟨⟨_, _, _, _, _, _, _, _, _, _, _, _, _, _, _, x1_l, rfl⟩, x1_sa, x1_ex, x1_ty, x1_kp⟩,
    x_NoTie := ⟨⟨_, _, _, _, _, _, _, _, _, _, _, _, _, _, _, x2_l, rfl⟩, x2_sa, x2_ex, x2_ty, x2_kp⟩,
    x_NotSpring := ⟨⟨_, _, _, _, _, _, _, _, _, _, _, _, _, _, _, x3_l, rfl⟩, x3_sa, x3_ex, x3_ty, x3_kp⟩,
    x_NoWord := ⟨⟨_, _, _, _, _, _, _, _, _, _, _, _, _, _, _, x4_l, rfl⟩, x4_sa, x4_ex, x4_ty, x4_kp⟩,
    xn_BadWeb := p0_na, xf_BadWeb := ⟨p0_ga, p0_gg, x0_ex, p0_hd⟩,
    na_part := p0_na,
    e_NoWord := exm_cls x4_ex x4_is x4_ty se_NoWord,
    e_NotSpring := exm_cls x3_ex x3_is x3_ty se_NotSpring,
    e_NotSpringNoWord := exm_cls x4_ex x4_is x4_ty se_NotSpringNoWord }
  let B : Bk K mg T := {
    BadWeb_init := ⟨f0, _, fun_mk (st := s_BadWeb_init) l0 c0 k0, a0, i0, t0, (fun_mk (st := s_BadWeb_init) l0 c0 k0).binds (ps := ["self", "part"]) fun _ _ _ _ _ _ us hl => match us, hl with | [_, _], _ => rfl⟩,
    NoHouse_init := ⟨f1, _, fun_mk (st := s_NoHouse_init) l1 c1 k1, a1, i1, t1, (fun_mk (st := s_NoHouse_init) l1 c1 k1).binds (ps := ["self"]) fun _ _ _ _ _ _ us hl => match us, hl with | [_], _ => rfl⟩,
    NoTie_init := ⟨f2, _, fun_mk (st := s_NoTie_init) l2 c2 k2, a2, i2, t2, (fun_mk (st := s_NoTie_init) l2 c2 k2).binds (ps := ["self"]) fun _ _ _ _ _ _ us hl => match us, hl with | [_], _ => rfl⟩,
    NotSpring_init := ⟨f3, _, fun_mk (st := s_NotSpring_init) l3 c3 k3, a3, i3, t3, (fun_mk (st := s_NotSpring_init) l3 c3 k3).binds (ps := ["self"]) fun _ _ _ _ _ _ us hl => match us, hl with | [_], _ => rfl⟩,
    NoWord_init := ⟨f4, _, fun_mk (st := s_NoWord_init) l4 c4 k4, a4, i4, t4, (fun_mk (st := s_NoWord_init) l4 c4 k4).binds (ps := ["self"]) fun _ _ _ _ _ _ us hl => match us, hl with | [_], _ => rfl⟩,
    is_int := ⟨f5, _, fun_mk (st := s_is_int) l5 c5 k5, PySem.W.mg_of X G a5, (fun_mk (st := s_is_int) l5 c5 k5).binds (ps := ["thing"]) fun _ _ _ _ _ _ us hl => match us, hl with | [_], _ => rfl⟩,
    is_number := ⟨f6, _, fun_mk (st := s_is_number) l6 c6 k6, PySem.W.mg_of X G a6, (fun_mk (st := s_is_number) l6 c6 k6).binds (ps := ["thing"]) fun _ _ _ _ _ _ us hl => match us, hl with | [_], _ => rfl⟩,
    is_number_below := ⟨f7, _, fun_mk (st := s_is_number_below) l7 c7 k7, PySem.W.mg_of X G a7, (fun_mk (st := s_is_number_below) l7 c7 k7).binds (ps := ["limit", "thing"]) fun _ _ _ _ _ _ us hl => match us, hl with | [_, _], _ => rfl⟩,
    is_tuple_of := ⟨f8, _, fun_mk (st := s_is_tuple_of) l8 c8 k8, PySem.W.mg_of X G a8, (fun_mk (st := s_is_tuple_of) l8 c8 k8).binds (ps := ["many", "thing"]) fun _ _ _ _ _ _ us hl => match us, hl with | [_, _], _ => rfl⟩,
    Web_init := ⟨f9, _, fun_mk (st := s_Web_init) l9 c9 k9, a9, i9, t9, (fun_mk (st := s_Web_init) l9 c9 k9).binds (ps := ["self", "many", "ties", "spring", "mouth"]) fun _ _ _ _ _ _ us hl => match us, hl with | [_, _, _, _, _], _ => rfl⟩,
    Web_eq := ⟨f10, _, fun_mk (st := s_Web_eq) l10 c10 k10, a10, i10, t10, (fun_mk (st := s_Web_eq) l10 c10 k10).binds (ps := ["self", "other"]) fun _ _ _ _ _ _ us hl => match us, hl with | [_, _], _ => rfl⟩,
    check_many := ⟨f11, _, fun_mk (st := s_check_many) l11 c11 k11, PySem.W.mg_of X G a11, (fun_mk (st := s_check_many) l11 c11 k11).binds (ps := ["many"]) fun _ _ _ _ _ _ us hl => match us, hl with | [_], _ => rfl⟩,
    check_ties := ⟨f12, _, fun_mk (st := s_check_ties) l12 c12 k12, PySem.W.mg_of X G a12, (fun_mk (st := s_check_ties) l12 c12 k12).binds (ps := ["many", "ties"]) fun _ _ _ _ _ _ us hl => match us, hl with | [_, _], _ => rfl⟩,
    is_tie := ⟨f13, _, fun_mk (st := s_is_tie) l13 c13 k13, PySem.W.mg_of X G a13, (fun_mk (st := s_is_tie) l13 c13 k13).binds (ps := ["many", "thing"]) fun _ _ _ _ _ _ us hl => match us, hl with | [_, _], _ => rfl⟩,
    through := ⟨f14, _, fun_mk (st := s_through) l14 c14 k14, PySem.W.mg_of X G a14, (fun_mk (st := s_through) l14 c14 k14).binds (ps := ["ties"]) fun _ _ _ _ _ _ us hl => match us, hl with | [_], _ => rfl⟩,
    around := ⟨f15, _, fun_mk (st := s_around) l15 c15 k15, PySem.W.mg_of X G a15, (fun_mk (st := s_around) l15 c15 k15).binds (ps := ["through", "house"]) fun _ _ _ _ _ _ us hl => match us, hl with | [_, _], _ => rfl⟩,
    check_house := ⟨f16, _, fun_mk (st := s_check_house) l16 c16 k16, PySem.W.mg_of X G a16, (fun_mk (st := s_check_house) l16 c16 k16).binds (ps := ["web", "house"]) fun _ _ _ _ _ _ us hl => match us, hl with | [_, _], _ => rfl⟩,
    neighbours := ⟨f17, _, fun_mk (st := s_neighbours) l17 c17 k17, PySem.W.mg_of X G a17, (fun_mk (st := s_neighbours) l17 c17 k17).binds (ps := ["web", "house"]) fun _ _ _ _ _ _ us hl => match us, hl with | [_, _], _ => rfl⟩,
    lets := ⟨f18, _, fun_mk (st := s_lets) l18 c18 k18, PySem.W.mg_of X G a18, (fun_mk (st := s_lets) l18 c18 k18).binds (ps := ["web", "one", "other"]) fun _ _ _ _ _ _ us hl => match us, hl with | [_, _, _], _ => rfl⟩,
    is_units := ⟨f19, _, fun_mk (st := s_is_units) l19 c19 k19, PySem.W.mg_of X G a19, (fun_mk (st := s_is_units) l19 c19 k19).binds (ps := ["thing"]) fun _ _ _ _ _ _ us hl => match us, hl with | [_], _ => rfl⟩,
    is_height := ⟨f20, _, fun_mk (st := s_is_height) l20 c20 k20, PySem.W.mg_of X G a20, (fun_mk (st := s_is_height) l20 c20 k20).binds (ps := ["thing"]) fun _ _ _ _ _ _ us hl => match us, hl with | [_], _ => rfl⟩,
    is_word := ⟨f21, _, fun_mk (st := s_is_word) l21 c21 k21, PySem.W.mg_of X G a21, (fun_mk (st := s_is_word) l21 c21 k21).binds (ps := ["thing"]) fun _ _ _ _ _ _ us hl => match us, hl with | [_], _ => rfl⟩,
    rooms := ⟨f22, _, fun_mk (st := s_rooms) l22 c22 k22, PySem.W.mg_of X G a22, (fun_mk (st := s_rooms) l22 c22 k22).binds (ps := ["web", "house", "state"]) fun _ _ _ _ _ _ us hl => match us, hl with | [_, _, _], _ => rfl⟩,
    started := ⟨f23, _, fun_mk (st := s_started) l23 c23 k23, PySem.W.mg_of X G a23, (fun_mk (st := s_started) l23 c23 k23).binds (ps := ["web", "house", "state"]) fun _ _ _ _ _ _ us hl => match us, hl with | [_, _, _], _ => rfl⟩,
    heard := ⟨f24, _, fun_mk (st := s_heard) l24 c24 k24, PySem.W.mg_of X G a24, (fun_mk (st := s_heard) l24 c24 k24).binds (ps := ["web", "house", "state", "sender", "word"]) fun _ _ _ _ _ _ us hl => match us, hl with | [_, _, _, _, _], _ => rfl⟩,
    can_hear := ⟨f25, _, fun_mk (st := s_can_hear) l25 c25 k25, PySem.W.mg_of X G a25, (fun_mk (st := s_can_hear) l25 c25 k25).binds (ps := ["web", "house", "state", "sender", "word"]) fun _ _ _ _ _ _ us hl => match us, hl with | [_, _, _, _, _], _ => rfl⟩,
    done := ⟨f26, _, fun_mk (st := s_done) l26 c26 k26, PySem.W.mg_of X G a26, (fun_mk (st := s_done) l26 c26 k26).binds (ps := ["state", "at", "word"]) fun _ _ _ _ _ _ us hl => match us, hl with | [_, _, _], _ => rfl⟩,
    put := ⟨f27, _, fun_mk (st := s_put) l27 c27 k27, PySem.W.mg_of X G a27, (fun_mk (st := s_put) l27 c27 k27).binds (ps := ["numbers", "at", "number"]) fun _ _ _ _ _ _ us hl => match us, hl with | [_, _, _], _ => rfl⟩,
    woken := ⟨f28, _, fun_mk (st := s_woken) l28 c28 k28, PySem.W.mg_of X G a28, (fun_mk (st := s_woken) l28 c28 k28).binds (ps := ["state"]) fun _ _ _ _ _ _ us hl => match us, hl with | [_], _ => rfl⟩,
    moved := ⟨f29, _, fun_mk (st := s_moved) l29 c29 k29, PySem.W.mg_of X G a29, (fun_mk (st := s_moved) l29 c29 k29).binds (ps := ["state", "at", "units"]) fun _ _ _ _ _ _ us hl => match us, hl with | [_, _, _], _ => rfl⟩,
    taken := ⟨f30, _, fun_mk (st := s_taken) l30 c30 k30, PySem.W.mg_of X G a30, (fun_mk (st := s_taken) l30 c30 k30).binds (ps := ["state", "at", "units"]) fun _ _ _ _ _ _ us hl => match us, hl with | [_, _, _], _ => rfl⟩,
    held_again := ⟨f31, _, fun_mk (st := s_held_again) l31 c31 k31, PySem.W.mg_of X G a31, (fun_mk (st := s_held_again) l31 c31 k31).binds (ps := ["state", "at"]) fun _ _ _ _ _ _ us hl => match us, hl with | [_, _], _ => rfl⟩,
    believed := ⟨f32, _, fun_mk (st := s_believed) l32 c32 k32, PySem.W.mg_of X G a32, (fun_mk (st := s_believed) l32 c32 k32).binds (ps := ["state", "at", "told"]) fun _ _ _ _ _ _ us hl => match us, hl with | [_, _, _], _ => rfl⟩,
    sent := ⟨f33, _, fun_mk (st := s_sent) l33 c33 k33, PySem.W.mg_of X G a33, (fun_mk (st := s_sent) l33 c33 k33).binds (ps := ["state", "at", "units"]) fun _ _ _ _ _ _ us hl => match us, hl with | [_, _, _], _ => rfl⟩,
    answered := ⟨f34, _, fun_mk (st := s_answered) l34 c34 k34, PySem.W.mg_of X G a34, (fun_mk (st := s_answered) l34 c34 k34).binds (ps := ["state", "at"]) fun _ _ _ _ _ _ us hl => match us, hl with | [_, _], _ => rfl⟩,
    acted := ⟨f35, _, fun_mk (st := s_acted) l35 c35 k35, PySem.W.mg_of X G a35, (fun_mk (st := s_acted) l35 c35 k35).binds (ps := ["web", "house", "state"]) fun _ _ _ _ _ _ us hl => match us, hl with | [_, _, _], _ => rfl⟩,
    next_act := ⟨f36, _, fun_mk (st := s_next_act) l36 c36 k36, PySem.W.mg_of X G a36, (fun_mk (st := s_next_act) l36 c36 k36).binds (ps := ["web", "house", "state"]) fun _ _ _ _ _ _ us hl => match us, hl with | [_, _, _], _ => rfl⟩,
    pushing := ⟨f37, _, fun_mk (st := s_pushing) l37 c37 k37, PySem.W.mg_of X G a37, (fun_mk (st := s_pushing) l37 c37 k37).binds (ps := ["web", "house", "state", "at", "units"]) fun _ _ _ _ _ _ us hl => match us, hl with | [_, _, _, _, _], _ => rfl⟩,
    rising := ⟨f38, _, fun_mk (st := s_rising) l38 c38 k38, PySem.W.mg_of X G a38, (fun_mk (st := s_rising) l38 c38 k38).binds (ps := ["web", "house", "state", "height"]) fun _ _ _ _ _ _ us hl => match us, hl with | [_, _, _, _], _ => rfl⟩,
    law_hand := ⟨f39, _, fun_mk (st := s_law_hand) l39 c39 k39, PySem.W.mg_of X G a39, (fun_mk (st := s_law_hand) l39 c39 k39).binds (ps := ["script"]) fun _ _ _ _ _ _ us hl => match us, hl with | [_], _ => rfl⟩,
    law_draw := ⟨f40, _, fun_mk (st := s_law_draw) l40 c40 k40, PySem.W.mg_of X G a40, (fun_mk (st := s_law_draw) l40 c40 k40).binds (ps := ["hand", "many"]) fun _ _ _ _ _ _ us hl => match us, hl with | [_, _], _ => rfl⟩,
    law_is := ⟨f41, _, fun_mk (st := s_law_is) l41 c41 k41, PySem.W.mg_of X G a41, (fun_mk (st := s_law_is) l41 c41 k41).binds (ps := ["told", "due"]) fun _ _ _ _ _ _ us hl => match us, hl with | [_, _], _ => rfl⟩,
    law_lot := ⟨f42, _, fun_mk (st := s_law_lot) l42 c42 k42, PySem.W.mg_of X G a42, (fun_mk (st := s_law_lot) l42 c42 k42).binds (ps := ["hand", "span"]) fun _ _ _ _ _ _ us hl => match us, hl with | [_, _], _ => rfl⟩,
    law_web := ⟨f43, _, fun_mk (st := s_law_web) l43 c43 k43, PySem.W.mg_of X G a43, (fun_mk (st := s_law_web) l43 c43 k43).binds (ps := ["hand", "most"]) fun _ _ _ _ _ _ us hl => match us, hl with | [_, _], _ => rfl⟩,
    law_beside := ⟨f44, _, fun_mk (st := s_law_beside) l44 c44 k44, PySem.W.mg_of X G a44, (fun_mk (st := s_law_beside) l44 c44 k44).binds (ps := ["web", "house"]) fun _ _ _ _ _ _ us hl => match us, hl with | [_, _], _ => rfl⟩,
    law_lets := ⟨f45, _, fun_mk (st := s_law_lets) l45 c45 k45, PySem.W.mg_of X G a45, (fun_mk (st := s_law_lets) l45 c45 k45).binds (ps := ["web", "one", "other"]) fun _ _ _ _ _ _ us hl => match us, hl with | [_, _, _], _ => rfl⟩,
    law_begun := ⟨f46, _, fun_mk (st := s_law_begun) l46 c46 k46, PySem.W.mg_of X G a46, (fun_mk (st := s_law_begun) l46 c46 k46).binds (ps := ["web", "house"]) fun _ _ _ _ _ _ us hl => match us, hl with | [_, _], _ => rfl⟩,
    law_with := ⟨f47, _, fun_mk (st := s_law_with) l47 c47 k47, PySem.W.mg_of X G a47, (fun_mk (st := s_law_with) l47 c47 k47).binds (ps := ["row", "at", "item"]) fun _ _ _ _ _ _ us hl => match us, hl with | [_, _, _], _ => rfl⟩,
    law_room := ⟨f48, _, fun_mk (st := s_law_room) l48 c48 k48, PySem.W.mg_of X G a48, (fun_mk (st := s_law_room) l48 c48 k48).binds (ps := ["web", "house", "s", "at"]) fun _ _ _ _ _ _ us hl => match us, hl with | [_, _, _, _], _ => rfl⟩,
    law_started := ⟨f49, _, fun_mk (st := s_law_started) l49 c49 k49, PySem.W.mg_of X G a49, (fun_mk (st := s_law_started) l49 c49 k49).binds (ps := ["web", "house", "state"]) fun _ _ _ _ _ _ us hl => match us, hl with | [_, _, _], _ => rfl⟩,
    law_believes := ⟨f50, _, fun_mk (st := s_law_believes) l50 c50 k50, PySem.W.mg_of X G a50, (fun_mk (st := s_law_believes) l50 c50 k50).binds (ps := ["s", "at", "height"]) fun _ _ _ _ _ _ us hl => match us, hl with | [_, _, _], _ => rfl⟩,
    law_acts := ⟨f51, _, fun_mk (st := s_law_acts) l51 c51 k51, PySem.W.mg_of X G a51, (fun_mk (st := s_law_acts) l51 c51 k51).binds (ps := ["web", "house", "s", "out"]) fun _ _ _ _ _ _ us hl => match us, hl with | [_, _, _, _], _ => rfl⟩,
    law_is_then := ⟨f52, _, fun_mk (st := s_law_is_then) l52 c52 k52, PySem.W.mg_of X G a52, (fun_mk (st := s_law_is_then) l52 c52 k52).binds (ps := ["web", "house", "state", "sender", "word"]) fun _ _ _ _ _ _ us hl => match us, hl with | [_, _, _, _, _], _ => rfl⟩,
    law_does := ⟨f53, _, fun_mk (st := s_law_does) l53 c53 k53, PySem.W.mg_of X G a53, (fun_mk (st := s_law_does) l53 c53 k53).binds (ps := ["web", "s", "out", "sender", "at", "word"]) fun _ _ _ _ _ _ us hl => match us, hl with | [_, _, _, _, _, _], _ => rfl⟩,
    law_heard := ⟨f54, _, fun_mk (st := s_law_heard) l54 c54 k54, PySem.W.mg_of X G a54, (fun_mk (st := s_law_heard) l54 c54 k54).binds (ps := ["web", "house", "state", "sender", "word"]) fun _ _ _ _ _ _ us hl => match us, hl with | [_, _, _, _, _], _ => rfl⟩,
    law_with_words := ⟨f55, _, fun_mk (st := s_law_with_words) l55 c55 k55, PySem.W.mg_of X G a55, (fun_mk (st := s_law_with_words) l55 c55 k55).binds (ps := ["ways", "house", "out"]) fun _ _ _ _ _ _ us hl => match us, hl with | [_, _, _], _ => rfl⟩,
    law_some_move := ⟨f56, _, fun_mk (st := s_law_some_move) l56 c56 k56, PySem.W.mg_of X G a56, (fun_mk (st := s_law_some_move) l56 c56 k56).binds (ps := ["hand", "web", "states", "ways", "mode"]) fun _ _ _ _ _ _ us hl => match us, hl with | [_, _, _, _, _], _ => rfl⟩,
    law_moved := ⟨f57, _, fun_mk (st := s_law_moved) l57 c57 k57, PySem.W.mg_of X G a57, (fun_mk (st := s_law_moved) l57 c57 k57).binds (ps := ["web", "states", "ways", "move"]) fun _ _ _ _ _ _ us hl => match us, hl with | [_, _, _, _], _ => rfl⟩,
    law_any_word := ⟨f58, _, fun_mk (st := s_law_any_word) l58 c58 k58, PySem.W.mg_of X G a58, (fun_mk (st := s_law_any_word) l58 c58 k58).binds (ps := ["hand"]) fun _ _ _ _ _ _ us hl => match us, hl with | [_], _ => rfl⟩,
    law_called := ⟨f59, _, fun_mk (st := s_law_called) l59 c59 k59, PySem.W.mg_of X G a59, (fun_mk (st := s_law_called) l59 c59 k59).binds (ps := ["told_web", "house", "state", "sender", "word"]) fun _ _ _ _ _ _ us hl => match us, hl with | [_, _, _, _, _], _ => rfl⟩,
    law_near_word := ⟨f60, _, fun_mk (st := s_law_near_word) l60 c60 k60, PySem.W.mg_of X G a60, (fun_mk (st := s_law_near_word) l60 c60 k60).binds (ps := ["hand", "web", "states", "house", "sender"]) fun _ _ _ _ _ _ us hl => match us, hl with | [_, _, _, _, _], _ => rfl⟩,
    law_are_words := ⟨f61, _, fun_mk (st := s_law_are_words) l61 c61 k61, PySem.W.mg_of X G a61, (fun_mk (st := s_law_are_words) l61 c61 k61).binds (ps := ["hand", "web", "told_web", "states", "last"]) fun _ _ _ _ _ _ us hl => match us, hl with | [_, _, _, _, _], _ => rfl⟩,
    law := ⟨f62, _, fun_mk (st := s_law) l62 c62 k62, PySem.W.mg_of X G a62, (fun_mk (st := s_law) l62 c62 k62).binds (ps := ["script"]) fun _ _ _ _ _ _ us hl => match us, hl with | [_], _ => rfl⟩ }
  exact fin_of T B hfa hb
theorem walk {l : PySem.W.OpenLaw} {q : Program} {loose : List Str} {XP : (Str → Option Value) → Heap → Prop} {YP : World → Heap → Prop} {d : DefRec} {K : Params → PySem.W.Frag} (hn : l.most = some 63) (hdf : d.params.defaults = [])
    (hY : ∀ (w : World) (h : Heap), YP w h → (K w.params).In h)
    (F : ∀ (w : World) (mg : Str → Option Value) (fa : Addr) (h : Heap), (K w.params).In h → h.Ns mainGlobals mg → mg d.name = some (.ref fa) →
      ∃ fd : FuncData, (∀ (s : Shared) (u : Value), BindsTo s fd ⟨[u], []⟩ [("script", u)]) ∧ ∀ base : Heap, (K w.params).In base → base.Ns mainGlobals mg → FnOk l.prog w (K w.params) mg base CX0 13 fa fd ["script"] (spLaw (K w.params))) :
    PySem.W.WalkO q loose XP YP l.row.toRowW d [] (fun f vs => PySem.call f vs) :=
  L2.walk_of (n := 63) (k := 13) (x := "script") (CX := fun _ => CX0) (sp := fun w => spLaw (K w.params)) hn (by decide) hdf ⟨rfl, by decide, by decide⟩ hY F (fun _ _ a ns hl _ hS => ⟨a, ns, rfl, hS, fun _ => rfl⟩) fun _ _ _ _ _ z => z
end Mw

/-! Z2 -/
open PySem PySem.W PyProof.Rows in
set_option maxRecDepth 100000 in
set_option maxHeartbeats 0 in
theorem PySem.Challenge.cw_moststream_k08_whole_words_that_are_none_holds : PySem.Challenge.rw_moststream_k08_whole_words_that_are_none.Holds := by
  w_on; o_law; k_head; (case hw => w_witness2)
  k_fill
  refine Mw.walk (l := PySem.Challenge.rw_moststream_k08_whole_words_that_are_none) rfl rfl (fun w h Y => PySem.W.kIn_of Y) ?F
  case F =>
    intro w mg fa h KX G hmg
    refine' Mw.all_mk KX G hmg ?g_c_Web ?g_c_BadWeb ?g_c_NoHouse ?g_c_NoTie ?g_c_NotSpring ?g_c_NoWord ?g_c_StreamError ?g_FEWEST_HOUSES ?g_MOST_HOUSES ?g_LETS_LIMIT ?g_UNITS_LIMIT ?g_HEIGHT_LIMIT ?b_isinstance ?b_int ?b_bool ?b_tuple ?b_list ?b_str ?b_len ?b_range ?b_enumerate ?b_zip ?b_sorted ?b_set ?b_min ?b_max ?b_sum ?b_any ?b_all ?w_pg ?w_hd ?w_po ?w_sa ?w_ca ?w_co ?w_ki ?w_kb ?w_kt ?w_kl ?w_ks ?w_is ?w_ty ?w_mk ?w_kp ?w_nf ?w_cg ?w_ct ?w_na_many ?w_na_ties ?w_na_spring ?w_na_mouth ?w_na_through ?w_na_around ?x0_l ?x0_sa ?x0_ex ?x0_ty ?x0_kp ?x0_is ?x1_l ?x1_sa ?x1_ex ?x1_ty ?x1_kp ?x1_is ?x2_l ?x2_sa ?x2_ex ?x2_ty ?x2_kp ?x2_is ?x3_l ?x3_sa ?x3_ex ?x3_ty ?x3_kp ?x3_is ?x4_l ?x4_sa ?x4_ex ?x4_ty ?x4_kp ?x4_is ?p0_na ?p0_ga ?p0_gg ?p0_hd ?se_NoWord ?se_NotSpring ?se_NotSpringNoWord ?a0 ?i0 ?t0 ?l0 ?c0 ?k0 ?a1 ?i1 ?t1 ?l1 ?c1 ?k1 ?a2 ?i2 ?t2 ?l2 ?c2 ?k2 ?a3 ?i3 ?t3 ?l3 ?c3 ?k3 ?a4 ?i4 ?t4 ?l4 ?c4 ?k4 ?a5 ?l5 ?c5 ?k5 ?a6 ?l6 ?c6 ?k6 ?a7 ?l7 ?c7 ?k7 ?a8 ?l8 ?c8 ?k8 ?a9 ?i9 ?t9 ?l9 ?c9 ?k9 ?a10 ?i10 ?t10 ?l10 ?c10 ?k10 ?a11 ?l11 ?c11 ?k11 ?a12 ?l12 ?c12 ?k12 ?a13 ?l13 ?c13 ?k13 ?a14 ?l14 ?c14 ?k14 ?a15 ?l15 ?c15 ?k15 ?a16 ?l16 ?c16 ?k16 ?a17 ?l17 ?c17 ?k17 ?a18 ?l18 ?c18 ?k18 ?a19 ?l19 ?c19 ?k19 ?a20 ?l20 ?c20 ?k20 ?a21 ?l21 ?c21 ?k21 ?a22 ?l22 ?c22 ?k22 ?a23 ?l23 ?c23 ?k23 ?a24 ?l24 ?c24 ?k24 ?a25 ?l25 ?c25 ?k25 ?a26 ?l26 ?c26 ?k26 ?a27 ?l27 ?c27 ?k27 ?a28 ?l28 ?c28 ?k28 ?a29 ?l29 ?c29 ?k29 ?a30 ?l30 ?c30 ?k30 ?a31 ?l31 ?c31 ?k31 ?a32 ?l32 ?c32 ?k32 ?a33 ?l33 ?c33 ?k33 ?a34 ?l34 ?c34 ?k34 ?a35 ?l35 ?c35 ?k35 ?a36 ?l36 ?c36 ?k36 ?a37 ?l37 ?c37 ?k37 ?a38 ?l38 ?c38 ?k38 ?a39 ?l39 ?c39 ?k39 ?a40 ?l40 ?c40 ?k40 ?a41 ?l41 ?c41 ?k41 ?a42 ?l42 ?c42 ?k42 ?a43 ?l43 ?c43 ?k43 ?a44 ?l44 ?c44 ?k44 ?a45 ?l45 ?c45 ?k45 ?a46 ?l46 ?c46 ?k46 ?a47 ?l47 ?c47 ?k47 ?a48 ?l48 ?c48 ?k48 ?a49 ?l49 ?c49 ?k49 ?a50 ?l50 ?c50 ?k50 ?a51 ?l51 ?c51 ?k51 ?a52 ?l52 ?c52 ?k52 ?a53 ?l53 ?c53 ?k53 ?a54 ?l54 ?c54 ?k54 ?a55 ?l55 ?c55 ?k55 ?a56 ?l56 ?c56 ?k56 ?a57 ?l57 ?c57 ?k57 ?a58 ?l58 ?c58 ?k58 ?a59 ?l59 ?c59 ?k59 ?a60 ?l60 ?c60 ?k60 ?a61 ?l61 ?c61 ?k61 ?a62 ?l62 ?c62 ?k62
    (case g_c_Web => k_is)
    (case g_c_BadWeb => k_is)
    (case g_c_NoHouse => k_is)
    (case g_c_NoTie => k_is)
    (case g_c_NotSpring => k_is)
    (case g_c_NoWord => k_is)
    (case g_c_StreamError => k_is)
    (case g_FEWEST_HOUSES => k_is)
    (case g_MOST_HOUSES => k_is)
    (case g_LETS_LIMIT => k_is)
    (case g_UNITS_LIMIT => k_is)
    (case g_HEIGHT_LIMIT => k_is)
    (case b_isinstance => k_is)
    (case b_int => k_is)
    (case b_bool => k_is)
    (case b_tuple => k_is)
    (case b_list => k_is)
    (case b_str => k_is)
    (case b_len => k_is)
    (case b_range => k_is)
    (case b_enumerate => k_is)
    (case b_zip => k_is)
    (case b_sorted => k_is)
    (case b_set => k_is)
    (case b_min => k_is)
    (case b_max => k_is)
    (case b_sum => k_is)
    (case b_any => k_is)
    (case b_all => k_is)
    (case w_pg => k_is)
    (case w_hd => k_is)
    (case w_po => k_is)
    (case w_sa => k_is)
    (case w_ca => k_is)
    (case w_co => k_is)
    (case w_ki => k_is)
    (case w_kb => k_is)
    (case w_kt => k_is)
    (case w_kl => k_is)
    (case w_ks => k_is)
    (case w_is => k_is)
    (case w_ty => k_is)
    (case w_mk => k_is)
    (case w_kp => k_is)
    (case w_nf => k_is)
    (case w_cg => k_is)
    (case w_ct => k_is)
    (case w_na_many => k_is)
    (case w_na_ties => k_is)
    (case w_na_spring => k_is)
    (case w_na_mouth => k_is)
    (case w_na_through => k_is)
    (case w_na_around => k_is)
    (case x0_l => k_is)
    (case x0_sa => k_is)
    (case x0_ex => k_is)
    (case x0_ty => k_is)
    (case x0_kp => k_is)
    (case x0_is => k_is)
    (case x1_l => k_is)
    (case x1_sa => k_is)
    (case x1_ex => k_is)
    (case x1_ty => k_is)
    (case x1_kp => k_is)
    (case x1_is => k_is)
    (case x2_l => k_is)
    (case x2_sa => k_is)
    (case x2_ex => k_is)
    (case x2_ty => k_is)
    (case x2_kp => k_is)
    (case x2_is => k_is)
    (case x3_l => k_is)
    (case x3_sa => k_is)
    (case x3_ex => k_is)
    (case x3_ty => k_is)
    (case x3_kp => k_is)
    (case x3_is => k_is)
    (case x4_l => k_is)
    (case x4_sa => k_is)
    (case x4_ex => k_is)
    (case x4_ty => k_is)
    (case x4_kp => k_is)
    (case x4_is => k_is)
    (case p0_na => k_is)
    (case p0_ga => k_is)
    (case p0_gg => k_is)
    (case p0_hd => k_is)
    (case se_NoWord => k_is)
    (case se_NotSpring => k_is)
    (case se_NotSpringNoWord => k_is)
    (case a0 => k_is)
    (case i0 => k_is)
    (case t0 => k_is)
    (case l0 => k_is)
    (case c0 => k_is)
    (case k0 => k_is)
    (case a1 => k_is)
    (case i1 => k_is)
    (case t1 => k_is)
    (case l1 => k_is)
    (case c1 => k_is)
    (case k1 => k_is)
    (case a2 => k_is)
    (case i2 => k_is)
    (case t2 => k_is)
    (case l2 => k_is)
    (case c2 => k_is)
    (case k2 => k_is)
    (case a3 => k_is)
    (case i3 => k_is)
    (case t3 => k_is)
    (case l3 => k_is)
    (case c3 => k_is)
    (case k3 => k_is)
    (case a4 => k_is)
    (case i4 => k_is)
    (case t4 => k_is)
    (case l4 => k_is)
    (case c4 => k_is)
    (case k4 => k_is)
    (case a5 => k_is)
    (case l5 => k_is)
    (case c5 => k_is)
    (case k5 => k_is)
    (case a6 => k_is)
    (case l6 => k_is)
    (case c6 => k_is)
    (case k6 => k_is)
    (case a7 => k_is)
    (case l7 => k_is)
    (case c7 => k_is)
    (case k7 => k_is)
    (case a8 => k_is)
    (case l8 => k_is)
    (case c8 => k_is)
    (case k8 => k_is)
    (case a9 => k_is)
    (case i9 => k_is)
    (case t9 => k_is)
    (case l9 => k_is)
    (case c9 => k_is)
    (case k9 => k_is)
    (case a10 => k_is)
    (case i10 => k_is)
    (case t10 => k_is)
    (case l10 => k_is)
    (case c10 => k_is)
    (case k10 => k_is)
    (case a11 => k_is)
    (case l11 => k_is)
    (case c11 => k_is)
    (case k11 => k_is)
    (case a12 => k_is)
    (case l12 => k_is)
    (case c12 => k_is)
    (case k12 => k_is)
    (case a13 => k_is)
    (case l13 => k_is)
    (case c13 => k_is)
    (case k13 => k_is)
    (case a14 => k_is)
    (case l14 => k_is)
    (case c14 => k_is)
    (case k14 => k_is)
    (case a15 => k_is)
    (case l15 => k_is)
    (case c15 => k_is)
    (case k15 => k_is)
    (case a16 => k_is)
    (case l16 => k_is)
    (case c16 => k_is)
    (case k16 => k_is)
    (case a17 => k_is)
    (case l17 => k_is)
    (case c17 => k_is)
    (case k17 => k_is)
    (case a18 => k_is)
    (case l18 => k_is)
    (case c18 => k_is)
    (case k18 => k_is)
    (case a19 => k_is)
    (case l19 => k_is)
    (case c19 => k_is)
    (case k19 => k_is)
    (case a20 => k_is)
    (case l20 => k_is)
    (case c20 => k_is)
    (case k20 => k_is)
    (case a21 => k_is)
    (case l21 => k_is)
    (case c21 => k_is)
    (case k21 => k_is)
    (case a22 => k_is)
    (case l22 => k_is)
    (case c22 => k_is)
    (case k22 => k_is)
    (case a23 => k_is)
    (case l23 => k_is)
    (case c23 => k_is)
    (case k23 => k_is)
    (case a24 => k_is)
    (case l24 => k_is)
    (case c24 => k_is)
    (case k24 => k_is)
    (case a25 => k_is)
    (case l25 => k_is)
    (case c25 => k_is)
    (case k25 => k_is)
    (case a26 => k_is)
    (case l26 => k_is)
    (case c26 => k_is)
    (case k26 => k_is)
    (case a27 => k_is)
    (case l27 => k_is)
    (case c27 => k_is)
    (case k27 => k_is)
    (case a28 => k_is)
    (case l28 => k_is)
    (case c28 => k_is)
    (case k28 => k_is)
    (case a29 => k_is)
    (case l29 => k_is)
    (case c29 => k_is)
    (case k29 => k_is)
    (case a30 => k_is)
    (case l30 => k_is)
    (case c30 => k_is)
    (case k30 => k_is)
    (case a31 => k_is)
    (case l31 => k_is)
    (case c31 => k_is)
    (case k31 => k_is)
    (case a32 => k_is)
    (case l32 => k_is)
    (case c32 => k_is)
    (case k32 => k_is)
    (case a33 => k_is)
    (case l33 => k_is)
    (case c33 => k_is)
    (case k33 => k_is)
    (case a34 => k_is)
    (case l34 => k_is)
    (case c34 => k_is)
    (case k34 => k_is)
    (case a35 => k_is)
    (case l35 => k_is)
    (case c35 => k_is)
    (case k35 => k_is)
    (case a36 => k_is)
    (case l36 => k_is)
    (case c36 => k_is)
    (case k36 => k_is)
    (case a37 => k_is)
    (case l37 => k_is)
    (case c37 => k_is)
    (case k37 => k_is)
    (case a38 => k_is)
    (case l38 => k_is)
    (case c38 => k_is)
    (case k38 => k_is)
    (case a39 => k_is)
    (case l39 => k_is)
    (case c39 => k_is)
    (case k39 => k_is)
    (case a40 => k_is)
    (case l40 => k_is)
    (case c40 => k_is)
    (case k40 => k_is)
    (case a41 => k_is)
    (case l41 => k_is)
    (case c41 => k_is)
    (case k41 => k_is)
    (case a42 => k_is)
    (case l42 => k_is)
    (case c42 => k_is)
    (case k42 => k_is)
    (case a43 => k_is)
    (case l43 => k_is)
    (case c43 => k_is)
    (case k43 => k_is)
    (case a44 => k_is)
    (case l44 => k_is)
    (case c44 => k_is)
    (case k44 => k_is)
    (case a45 => k_is)
    (case l45 => k_is)
    (case c45 => k_is)
    (case k45 => k_is)
    (case a46 => k_is)
    (case l46 => k_is)
    (case c46 => k_is)
    (case k46 => k_is)
    (case a47 => k_is)
    (case l47 => k_is)
    (case c47 => k_is)
    (case k47 => k_is)
    (case a48 => k_is)
    (case l48 => k_is)
    (case c48 => k_is)
    (case k48 => k_is)
    (case a49 => k_is)
    (case l49 => k_is)
    (case c49 => k_is)
    (case k49 => k_is)
    (case a50 => k_is)
    (case l50 => k_is)
    (case c50 => k_is)
    (case k50 => k_is)
    (case a51 => k_is)
    (case l51 => k_is)
    (case c51 => k_is)
    (case k51 => k_is)
    (case a52 => k_is)
    (case l52 => k_is)
    (case c52 => k_is)
    (case k52 => k_is)
    (case a53 => k_is)
    (case l53 => k_is)
    (case c53 => k_is)
    (case k53 => k_is)
    (case a54 => k_is)
    (case l54 => k_is)
    (case c54 => k_is)
    (case k54 => k_is)
    (case a55 => k_is)
    (case l55 => k_is)
    (case c55 => k_is)
    (case k55 => k_is)
    (case a56 => k_is)
    (case l56 => k_is)
    (case c56 => k_is)
    (case k56 => k_is)
    (case a57 => k_is)
    (case l57 => k_is)
    (case c57 => k_is)
    (case k57 => k_is)
    (case a58 => k_is)
    (case l58 => k_is)
    (case c58 => k_is)
    (case k58 => k_is)
    (case a59 => k_is)
    (case l59 => k_is)
    (case c59 => k_is)
    (case k59 => k_is)
    (case a60 => k_is)
    (case l60 => k_is)
    (case c60 => k_is)
    (case k60 => k_is)
    (case a61 => k_is)
    (case l61 => k_is)
    (case c61 => k_is)
    (case k61 => k_is)
    (case a62 => k_is)
    (case l62 => k_is)
    (case c62 => k_is)
    (case k62 => k_is)
