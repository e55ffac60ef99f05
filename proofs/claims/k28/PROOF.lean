import PyProof.Rows.All
import Wide.All
import OpenK.AllK
import Wide.FinOn
import PyProof.EqAt
import PyProof.EqKinds
import PyProof.TupleCall
import HandS.Base
import HandS.Call
import HandS.List
import HandS.Comp
import HandS.Iter
import HandS.Ends
import HandS.Exc
import HandS.Words
import PyProof.Draws
import HandS.Zip0
import KE.KFromBytes
import HandS.ExcInit
import HandS.OwnEq
import HandS.IsInst
import HandS.ForMost
import HandS.ForExc
import HandS.TryMany
import HandS.ExcField
import HandS.TupAny
import HandS.TupLe
import HandS.TupSets
import HandS.Zip
import HandS.Style
import HandS.Conv
import HandS.SortInts
import KE.KDictSum
import KE.KDictWalk
import HandS.GenList
import KE.KDictZip
import KE.GoesEnumKw
import PyProof.Rows.CallKwBuiltin
import HandS.Dict
import HandS.More
import HandS.Codes
import HandS.Walk
import HandS.Text
import HandS.RaiseMore
import HandS.TupMul
import HandS.ExcIs
import PyProof.StrOps2
import PySem.Challenge.RW_moststream_k28_whole_rows_there_and_back
set_option Elab.async false
set_option linter.all false
set_option maxRecDepth 100000
set_option maxHeartbeats 4000000
/-! M0 -/
/-! Readings one step at a time: each lemma turns a reading into what is left to be shown. -/
namespace Mw
open PySem L2
section
variable {σ : St} {H : Hp} {v x y : V} {i : Nat} {Q : VK} {ta tb te : TE} {r : R2} {D : Ends} {K : PySem.W.Frag}
theorem rd_var (h : σ[i]? = some (some v)) (q : Q v H) : tVar i σ H Q := ⟨v, h, q⟩
theorem rd_c (q : Q v H) : tC v σ H Q := q
theorem rd_op (h : ta σ H fun x H1 => tb σ H1 fun y H2 => r x y H2 Q) : tOp r ta tb σ H Q := h
theorem rd_un {r : V → Hp → VK → Prop} (h : ta σ H fun x H1 => r x H1 Q) : tUn r ta σ H Q := h
theorem rd_nil {Q : List V → Hp → Prop} (q : Q [] H) : tNil σ H Q := q
theorem rd_cons {tr : TA} {Q : List V → Hp → Prop} (h : ta σ H fun x H1 => tr σ H1 fun xs H2 => Q (x :: xs) H2) : tCons ta tr σ H Q := h
theorem rd_disp {xs : List V} {B : Prop} (hl : Nat.ble xs.length 1000 = true) (q : B) : xs.length ≤ sizeLine ∧ B := ⟨Nat.le_trans (Nat.le_of_ble_eq_true hl) (by decide), q⟩
theorem rd_tup {t : TA} (h : t σ H fun xs H1 => xs.length ≤ sizeLine ∧ ∀ p, H1 p = none → Q (.ref p) (upd H1 p (.tup xs))) : tTup t σ H Q := h
theorem rd_lst {t : TA} (h : t σ H fun xs H1 => xs.length ≤ sizeLine ∧ ∀ p, H1 p = none → Q (.ref p) (upd H1 p (.lst xs))) : tLst t σ H Q := h
theorem rd_ifs {c : TT} {t u : TS} (h : c σ H fun b H1 => if b = true then t D σ H1 else u D σ H1) : tIfS c t u D σ H := h
theorem rd_seq {t u : TS} (h : t { D with nx := u D } σ H) : tSeq t u D σ H := h
theorem rd_next (h : D.nx σ H) : tNext D σ H := h
theorem rd_ret (h : te σ H D.rt) : tRet te D σ H := h
theorem rd_asg {g : TG} (h : te σ H fun x H1 => g x σ H1 D.nx) : tAsg te g D σ H := h
theorem rd_gname {Q : St → Hp → Prop} (h : Q (σ.set i (some v)) H) : gName i v σ H Q := h
theorem rd_drop (h : te σ H fun _ H1 => D.nx σ H1) : tDrop te D σ H := h
theorem rd_test {Q : Bool → Hp → Prop} (h : te σ H fun x H' => ∃ k, x = .bl k ∧ Q k H') : tTest te σ H Q := h
theorem rd_B {Q : Bool → Hp → Prop} (h : te σ H fun x H1 => ∃ c, x = .bl c ∧ Q c H1) : tB te σ H Q := h
theorem rd_bl {b : Bool} {Q : Bool → Hp → Prop} (q : Q b H) : ∃ k, V.bl b = .bl k ∧ Q k H := ⟨b, rfl, q⟩
theorem rd_blP {b : Bool} {Q : Bool → Prop} (q : Q b) : ∃ k, V.bl b = .bl k ∧ Q k := ⟨b, rfl, q⟩
theorem rd_andV (h : ta σ H fun x H1 => ∃ c, x = .bl c ∧ if c = true then tb σ H1 Q else Q (.bl false) H1) : tAndV ta tb σ H Q := h
theorem rd_orV (h : ta σ H fun x H1 => ∃ c, x = .bl c ∧ if c = true then Q (.bl true) H1 else tb σ H1 Q) : tOrV ta tb σ H Q := h
theorem rd_notV (h : ta σ H fun x H1 => ∃ c, x = .bl c ∧ Q (.bl (!c)) H1) : tNotV ta σ H Q := h
theorem rd_and {t u : TT} {Q : Bool → Hp → Prop} (h : t σ H fun c H1 => if c = true then u σ H1 Q else Q false H1) : tAnd t u σ H Q := h
theorem rd_or {t u : TT} {Q : Bool → Hp → Prop} (h : t σ H fun c H1 => if c = true then Q true H1 else u σ H1 Q) : tOr t u σ H Q := h
theorem rd_not {t : TT} {Q : Bool → Hp → Prop} (h : t σ H fun c H1 => Q (!c) H1) : tNot t σ H Q := h
theorem rd_cb {r : List V → Hp → VK → Prop} {t : TA} (h : t σ H fun vs H1 => r vs H1 Q) : tCB r t σ H Q := h
theorem rd_call {sp : Sp} {dvs : List V} {E : XK} {t : TA} (h : t σ H fun vs H1 => sp (vs ++ dvs) H1 Q E) : tCall sp dvs E t σ H Q := h
theorem rd_i0 {g : Int → Int → V} {a b : Int} (q : Q (g a b) H) : rI0 g (.int a) (.int b) H Q := ⟨a, b, rfl, rfl, q⟩
theorem rd_eq (hs : scal x y = true) (q : Q (.bl (decide (x = y))) H) : rEq x y H Q := ⟨hs, q⟩
end
section
variable {σ : L2.St} {H : Hp} {x y : V} {Q : VK} {te : TE} {K : PySem.W.Frag}
theorem rd_sl {r : V → Option Int → Option Int → Hp → VK → Prop} {tl th : TO} (h : te σ H fun x H1 => tl σ H1 fun l H2 => th σ H2 fun u H3 => r x l u H3 Q) : tSl r te tl th σ H Q := h
theorem rd_nopart {Q : Option Int → Hp → Prop} (h : Q none H) : tNoPart σ H Q := h
theorem rd_part {Q : Option Int → Hp → Prop} (h : te σ H fun x H1 => ∃ i, x = .int i ∧ Q (some i) H1) : tPart te σ H Q := h
theorem rd_intP {j : Int} {P : Int → Prop} (h : P j) : ∃ i, V.int j = .int i ∧ P i := ⟨j, rfl, h⟩
theorem rd_fld {f : Str} (h : te σ H fun x H1 => ∃ a C dx fs v, x = .ref a ∧ H1 a = some (.ins C dx fs) ∧ Cls K C ∧ NoAttr K C f ∧ fs.lookup f = some v ∧ Q v H1) : tFld K te f σ H Q := h
theorem rd_ne (hs : scal x y = true) (q : Q (.bl (!decide (x = y))) H) : rNe x y H Q := ⟨hs, q⟩
theorem rd_rU {g : Int → V} {a : Int} (q : Q (g a) H) : rU g (.int a) H Q := ⟨a, rfl, q⟩
theorem rd_iC {C : Int → Int → Prop} {g : Int → Int → V} {a b : Int} (hc : C a b) (q : Q (g a b) H) : rI C g (.int a) (.int b) H Q := ⟨a, b, rfl, rfl, hc, q⟩
theorem rd_eqI {a b : Int} (q : Q (.bl (decide (a = b))) H) : rEq (.int a) (.int b) H Q := ⟨rfl, by rw [show decide (V.int a = V.int b) = decide (a = b) by simp]; exact q⟩
theorem rd_neI {a b : Int} (q : Q (.bl (!decide (a = b))) H) : rNe (.int a) (.int b) H Q := ⟨rfl, by rw [show decide (V.int a = V.int b) = decide (a = b) by simp]; exact q⟩
end
/-! the step: all that needs no choice -/
local macro_rules | `(tactic| walk_at "rd") => `(tactic| (repeat (first
  | ((with_reducible refine' rd_var ?h0 ?_); (case h0 => rfl))
  | with_reducible refine rd_c ?_
  | with_reducible refine rd_op ?_
  | with_reducible refine rd_nil ?_
  | with_reducible refine rd_cons ?_
  | with_reducible refine rd_tup ?_
  | with_reducible refine rd_lst ?_
  | with_reducible refine rd_ifs ?_
  | with_reducible refine rd_seq ?_
  | with_reducible refine rd_next ?_
  | with_reducible refine rd_ret ?_
  | with_reducible refine rd_asg ?_
  | with_reducible refine rd_gname ?_
  | with_reducible refine rd_drop ?_
  | with_reducible refine rd_test ?_
  | with_reducible refine rd_B ?_
  | with_reducible refine rd_bl ?_
  | with_reducible refine rd_blP ?_
  | with_reducible refine rd_andV ?_
  | with_reducible refine rd_orV ?_
  | with_reducible refine rd_notV ?_
  | with_reducible refine rd_and ?_
  | with_reducible refine rd_or ?_
  | with_reducible refine rd_not ?_
  | with_reducible refine rd_cb ?_
  | with_reducible refine rd_call ?_
  | with_reducible refine rd_un ?_
  | with_reducible refine rd_sl ?_
  | with_reducible refine rd_nopart ?_
  | with_reducible refine rd_part ?_
  | with_reducible refine rd_intP ?_
  | with_reducible refine rd_rU ?_
  | with_reducible refine rd_fld ?_
  | with_reducible refine rd_eqI ?_
  | with_reducible refine rd_neI ?_
  | with_reducible refine rd_i0 ?_)))
end Mw

/-! MR1 -/
/-! enumerate over a tuple. -/
namespace Mw
open PySem PySem.Spec PyProof.Rows L2
section
variable {prog : Program} {w : World} {A : Around} {E : Value → Shared → Prop} {s : Shared}
/-- a tuple's own iterator, as something that is drawn from -/
theorem drawsT (hh : A.handled = none) {it a : Addr} {items : Array Value} (hne : a ≠ it) :
    Draws prog w A it [it, a] items.size (fun i x => items[i]? = some x) (fun i h => h.IsTupleIter it a i ∧ h.IsTuple a items) where
  live := fun i h st => by
    obtain ⟨⟨o, ho, _⟩, _⟩ := st
    exact ⟨o, ho⟩
  frame := fun i h h' st k => by
    obtain ⟨⟨o, ho, r⟩, ⟨o2, ho2, r2⟩⟩ := st
    exact ⟨⟨o, k it (by simp) o ho, r⟩, ⟨o2, k a (by simp) o2 ho2, r2⟩⟩
  item := fun i s Q E hi st hQ => by
    obtain ⟨h1, h2⟩ := st
    refine RZ.nextOf_tuple_item h1 h2 (x := items[i]) (by simp [hi]) fun h' hit' sb => ?_
    obtain ⟨o2, ho2, r2⟩ := h2
    exact hQ _ h' s.toks (by simp [hi]) ⟨hit', ⟨o2, (sb.2 a hne).trans ho2, r2⟩⟩ sb
  done := fun s Q E st hE => RZ.nextOf_tuple_end hh st.1 st.2 (by simp) hE
theorem enum_newT (l : Addr) (items : Array Value) :
    Meets (Builtin.«enumerate.__new__» ⟨[.type "enumerate", .ref l], []⟩) (fun _ R s => s.heap.IsTuple l items ∧
      R (.ok (.ret (.ref (s.heap.push { cls := .type "tuple_iterator", data := .fields #[.ref l, .int 0 0] }).objs.size)))
        { s with heap := (s.heap.push { cls := .type "tuple_iterator", data := .fields #[.ref l, .int 0 0] }).push { cls := .type "enumerate", data := .fields #[.none, .bool false, .ref s.heap.objs.size, rawInt 0, .none, .none] } }) :=
  .of_wp fun prog w A R s h => by
    obtain ⟨hp, g, d, tk, os⟩ := s
    obtain ⟨hl, h⟩ := h
    have hsub := sub_enumerate
    have hT : Heap.IsTuple (Shared.heap ⟨hp, g, d, tk, os⟩) l items := hl
    wp_walk using wpAny_pyIter_tuple hT
    refine wpAny_stack_any fun st => wpAny_pure ?_
    split
    · rename_i c _ _ _ _ _
      cases (c == Value.type "enumerate")
      all_goals
        wp_walk using wpAny_pyIter_tuple hT
        exact ⟨_, rfl, h⟩
    · wp_walk using wpAny_pyIter_tuple hT
      exact ⟨_, rfl, h⟩
theorem call_enumT {l : Addr} {items : Array Value} {Q : Value → Shared → Prop} (hT : s.heap.IsTuple l items)
    (h : ∀ h', IsEnum h' (s.heap.objs.size + 1) s.heap.objs.size 0 .none → h'.IsTupleIter s.heap.objs.size l 0 →
      (∀ c u, s.heap.get? c = some u → h'.get? c = some u) → Q (.ref (s.heap.objs.size + 1)) { s with heap := h' }) :
    wpAny (model prog w) A (call (.type "enumerate") [.ref l]) Q E s := by
  refine callType_new F.called_enumerate (by decide) (F.typeCall_enumerate_1 _) (F.newCall_enumerate_1 _) (fun o => F.args_object_init_2 o _) F.entry_enumerate_new (enum_newT l items) ⟨hT, ?_⟩
  generalize hit : ({ cls := .type "tuple_iterator", data := .fields #[.ref l, .int 0 0] } : Obj) = oi
  have hz : (s.heap.push oi).objs.size = s.heap.objs.size + 1 := Heap.size_push ..
  show _ ∧ _
  rw [hz]
  have he : IsEnum ((s.heap.push oi).push { cls := .type "enumerate", data := .fields #[.none, .bool false, .ref s.heap.objs.size, rawInt 0, .none, .none] }) (s.heap.objs.size + 1) s.heap.objs.size 0 .none := by
    have q := Heap.get?_push_size (s.heap.push oi) (o := { cls := .type "enumerate", data := .fields #[.none, .bool false, .ref s.heap.objs.size, rawInt 0, .none, .none] }) rfl
    rw [hz] at q
    exact q
  refine ⟨⟨_, he, rfl⟩, h _ he ⟨oi, Heap.get?_push_of_some _ (Heap.get?_push_size _ (by rw [← hit]; rfl)), by rw [← hit], by rw [← hit]; rfl⟩ fun c u x => Heap.get?_push_of_some _ (Heap.get?_push_of_some _ x)⟩
end
/-- the tuple at a, each item in a new pair with its number -/
def IteT (K : PySem.W.Frag) (a : Addr) : It :=
  ⟨fun i H => ∃ (xs : List V) (x : V), SqT K H a xs ∧ xs[i]? = some x, fun i H v H' => ∃ T x, v = .ref T ∧ H T = none ∧ H' = upd H T (.tup [.int (i : Nat), x]) ∧ ∀ ys, SqT K H a ys → ys[i]? = some x,
    fun i H => ∃ xs : List V, SqT K H a xs ∧ xs.length ≤ i⟩
theorem turn_enumT {P : Program} {w : World} {K : PySem.W.Frag} {elts : List Expr} {kk : Nat} {tpos : Pos} (a e it : Addr) (hea : e ≠ a) (hia : a ≠ it) :
    Turn P w K (.Tuple elts kk tpos) (IteT K a) [e, it] e (fun i h => (∃ old, IsEnum h e it ((i : Nat) : Int) old) ∧ h.IsTupleIter it a i ∧ e ≠ it) where
  mem := by simp
  obj := fun i h st b hb => by
    obtain ⟨⟨old, he⟩, ⟨o, ho, hc, hd⟩, _⟩ := st
    have e' : b = e ∨ b = it := by simpa using hb
    rcases e' with z | z
    · rw [z]; exact ⟨_, he, fun v q => nomatch q⟩
    · exact ⟨o, by rw [z]; exact ho, fun v q => by rw [hd] at q; cases q⟩
  keep := fun i h h' st k => by
    obtain ⟨⟨old, he⟩, hi, hne⟩ := st
    exact ⟨⟨old, k e (by simp) _ he⟩, hi.at fun o q => k it (by simp) o q, hne⟩
  item := by
    intro X hP hw hK hc i pins s σ H E I hf st hg
    subst hP hw hK
    obtain ⟨⟨old, he⟩, hit, hne⟩ := st
    obtain ⟨xs, x, hq, hx⟩ := hg
    obtain ⟨its, rv, p, hz⟩ := I.tuple hq
    obtain ⟨u, hu, ru⟩ := rv.get hx
    have hel : e < s.heap.objs.size := Heap.lt_size he
    have hil : it < s.heap.objs.size := by
      obtain ⟨_, q, _⟩ := hit
      exact Heap.lt_size q
    have hT : s.heap.IsTuple a its.toArray := p
    have hlt : i < its.toArray.size := by
      have q := (List.getElem?_eq_some_iff.mp hu).1
      simpa using q
    refine wpAny_pyNext_enum_itemD (drawsT (A := X.A.in1) (prog := X.prog) (w := X.w) (I.ok.hd hc) hia) he ⟨hit, hT⟩ hlt hne (by simp [hne, hea]) fun x' h' tk hx' ho hs' hT' hsz hk => ?_
    obtain rfl : x' = u := by
      have q : its[i]? = some x' := by simpa using hx'
      rw [hu] at q
      exact (Option.some.inj q).symm
    refine ⟨_, rfl, wpAny_letOwnedTupleGo_enum (s := { s with heap := h', toks := tk + 1 }) ho fun h2 he2 sb => ?_⟩
    have hT2 : h2.get? s.heap.objs.size = some { cls := .type "tuple", data := .seq #[.int i tk, x'] } := (sb.2 _ (Nat.ne_of_gt hel)).trans hT'
    have new : ObjOk X.prog X.w (upd H s.heap.objs.size (.tup [.int (i : Nat), x])) h2 s.heap.objs.size (.tup [.int (i : Nat), x]) :=
      ⟨(by decide : 2 ≤ sizeLine), [.int i tk, x'], .cons ⟨_, rfl⟩ (.cons ru .nil), ⟨_, hT2, rfl, _, rfl⟩⟩
    have I1 : Inv X pins σ (upd H s.heap.objs.size (.tup [.int (i : Nat), x])) { s with heap := h2, toks := tk + 1 } :=
      I.turnedNew (ch := [e, it]) (fun b u hb q => (sb.2 b fun z => hb (by simp [z])).trans (hk b u (fun z => hb (by simp [z])) (fun z => hb (by simp [z])) q)) hf (Nat.le_refl _) new
    refine ⟨.ref s.heap.objs.size, _, I1, rfl, ⟨_, x, rfl, I.hok.fresh (Nat.le_refl _), rfl, fun ys hy => by rw [I.tuple_inj hy hq]; exact hx⟩, ⟨⟨x', ?_⟩, hs'.1.at fun o q => (sb.2 it (Ne.symm hne)).trans q, hne⟩, fun b hb => ?_⟩
    · rw [show ((i + 1 : Nat) : Int) = (i : Int) + 1 by omega]
      exact he2
    · have hb' : b < s.heap.objs.size := by
        have e' : b = e ∨ b = it := by simpa using hb
        rcases e' with z | z <;> rw [z] <;> assumption
      rw [upd_ne (Nat.ne_of_lt hb')]
      exact (hf b hb).1
  done := by
    intro X hP hw hK hc i pins s σ H E I hf st hg
    subst hP hw hK
    obtain ⟨⟨old, he⟩, hit, hne⟩ := st
    obtain ⟨xs, hq, hx⟩ := hg
    obtain ⟨its, rv, p, hz⟩ := I.tuple hq
    obtain ⟨f0, f1, f2, f3, f4, f5⟩ := hf it (by simp)
    have hl := rv.length
    have hT : s.heap.IsTuple a its.toArray := p
    have D : Draws X.prog X.w X.A.in1 it [it, a] i (fun _ _ => False) (fun j h => j = i ∧ h.IsTupleIter it a i ∧ h.IsTuple a its.toArray) := {
      live := fun j h st => (drawsT (A := X.A.in1) (prog := X.prog) (w := X.w) (items := its.toArray) (I.ok.hd hc) hia).live i h st.2
      frame := fun j h h' st k => ⟨st.1, (drawsT (A := X.A.in1) (prog := X.prog) (w := X.w) (items := its.toArray) (I.ok.hd hc) hia).frame i h h' st.2 k⟩
      item := fun j s Q E hj st hQ => absurd hj (by rw [st.1]; omega)
      done := fun s Q E st hE => RZ.nextOf_tuple_end (I.ok.hd hc) st.2.1 st.2.2 (by simp; omega) hE }
    exact wpAny_pyNext_enum_endD D he ⟨rfl, hit, hT⟩ fun h' eb => ⟨rfl, I.turned (t' := s.toks) (fun b o hb q => eb b o hb q) f0 f1 f3 f4 f5⟩
  self := fun A i s Q E st h => by
    obtain ⟨⟨_, he⟩, _⟩ := st
    exact wpAny_pyIter_enum he h
def iEnumT (K : PySem.W.Frag) (ta : TA) : TI := fun σ H R => ta σ H fun vs H1 => ∃ a xs, vs = [.ref a] ∧ SqT K H1 a xs ∧ R (IteT K a) H1
theorem pi_enumT {X : Cx} {e : Expr} {ta : TA} {p pos tpos : Pos} {elts : List Expr} {kk : Nat} (hg : Gl X "enumerate") (hm : X.mg "enumerate" = none) (ha : PA X [e] ta) (hs : starEach [e] X.env = [(false, eval e X.env)] := by rfl) :
    PI X (.Tuple elts kk tpos) (.Call (.Name "enumerate" p) [e] [] pos) (iEnumT X.K ta) := by
  refine ⟨fun pins s σ H R I h => ?_⟩
  refine Call_ (ld_blt I hg hm boot_enumerate (PyProof.Rows.callWith_type1 (thn (ha.run pos pins s σ H _ I h) fun us s1 hh => ?_) hs rfl))
  obtain ⟨vs, H1, I1, r1, a, xs, ex, hq, q⟩ := hh
  subst ex
  cases r1 with
  | cons r rr =>
    cases rr
    cases r
    obtain ⟨its, rv, p1, hz⟩ := I1.tuple hq
    have hT : s1.heap.IsTuple a its.toArray := p1
    have hal : a < s1.heap.objs.size := by
      obtain ⟨o, ho, _⟩ := id hT
      exact Heap.lt_size ho
    refine call_enumT hT fun h' he hit hk => wpAny_pyIter_enum he ?_
    have I2 : Inv X pins σ H1 { s1 with heap := h' } := I1.kept (t' := s1.toks) hk
    refine ⟨s1.heap.objs.size + 1, [s1.heap.objs.size + 1, s1.heap.objs.size], _, _, H1, rfl, I2, turn_enumT a (s1.heap.objs.size + 1) s1.heap.objs.size (Nat.ne_of_gt (Nat.lt_succ_of_lt hal)) (Nat.ne_of_lt hal), ⟨⟨.none, he⟩, hit, Nat.succ_ne_self _⟩, fun b hb => ?_, q⟩
    have e' : b = s1.heap.objs.size + 1 ∨ b = s1.heap.objs.size := by simpa using hb
    have hle : s1.heap.objs.size ≤ b := by
      rcases e' with z | z
      · exact Nat.le_trans (Nat.le_succ _) (Nat.le_of_eq z.symm)
      · exact Nat.le_of_eq z.symm
    exact I1.fpOk hle (I1.hok.fresh hle)
/-- a loop over it -/
theorem for_enumT {K : PySem.W.Frag} {a : Addr} {xs : List V} {g : TG} {tb : TS} {D : Ends} {σ : L2.St} {H : Hp} (Pv : Nat → L2.St → Hp → Prop) (h0 : Pv 0 σ H) (hl : ∀ i σ H, Pv i σ H → SqT K H a xs)
    (hs : ∀ i x T σ H, xs[i]? = some x → Pv i σ H → H T = none → g (.ref T) σ (upd H T (.tup [.int (i : Nat), x])) fun σ2 H2 => tb { D with nx := Pv (i + 1), ct := Pv (i + 1), bk := D.nx } σ2 H2) (hd : ∀ σ H, Pv xs.length σ H → D.nx σ H) :
    ∃ W : Nat → Nat → L2.St → Hp → Prop, (∃ m, W 0 m σ H) ∧ ∀ i m σ H, W i m σ H →
      ((IteT K a).stop i H ∧ D.nx σ H) ∨ ((IteT K a).go i H ∧ ∃ N : L2.St → Hp → Prop, (∀ σ' H', N σ' H' → ∃ m', m' < m ∧ W (i + 1) m' σ' H') ∧ ∀ x H', (IteT K a).yld i H x H' → g x σ H' fun σ2 H2 => tb { D with nx := N, ct := N, bk := D.nx } σ2 H2) := by
  refine ⟨fun i m σ H => m + i = xs.length ∧ Pv i σ H, ⟨xs.length, rfl, h0⟩, ?_⟩
  rintro i m σ H ⟨hm, pv⟩
  have q := hl i σ H pv
  cases m with
  | zero =>
    have e : i = xs.length := by omega
    subst e
    exact .inl ⟨⟨xs, q, Nat.le_refl _⟩, hd σ H pv⟩
  | succ m =>
    have hlt : i < xs.length := by omega
    have hx : xs[i]? = some xs[i] := by simp [hlt]
    refine .inr ⟨⟨xs, xs[i], q, hx⟩, Pv (i + 1), fun σ' H' p' => ⟨m, by omega, by omega, p'⟩, fun v H' y => ?_⟩
    obtain ⟨T, x, ev, hT, eH, hy⟩ := y
    subst ev eH
    have hx2 := hy xs q
    exact hs i x T σ H hx2 pv hT
end Mw

/-! MR2 -/
/-! An own error whose __init__ only passes; is of a flag; == by an own __eq__ with both answers. -/
namespace Mw
open PySem PySem.Spec PyProof.Rows L2
abbrev Sl := L2.St
/-- C(), its own __init__ keeping sp: it takes the new exception and leaves all as it was -/
def tMkP (C : Addr) (sp : Sp) : Sl → Hp → XK → Prop := fun _ H Q => ∀ a, H a = none → sp [.ref a] (upd H a (exo a C none)) (fun v H2 => v = .non ∧ H2 = upd H a (exo a C none)) (fun _ _ _ => False) ∧ Q (.ref C) none H
theorem mkP_end {X : Cx} {pins : List (Addr × Obj)} {σ : Sl} {H : Hp} {Q : XK} {hp hp2 h2 : Heap} {g1 g2 : Array GenState} {d1 d2 : Drawn} {t1 t2 : Nat} {os1 os2 : OsState} {a C : Addr} (T : Raises X (.ref C)) (I : Inv X pins σ H ⟨hp, g1, d1, t1, os1⟩)
    (ha : hp.objs.size ≤ a) (k : ∀ c u, hp.get? c = some u → hp2.get? c = some u) (un : Un (frs X.stack) [] (upd H a (exo a C none)) (upd H a (exo a C none)) hp2 h2) (hok : HOk X.prog X.w (upd H a (exo a C none)) h2) (ho : os2 = os1) (hb : AllBare g2)
    (q : Q (.ref C) none H) : MkP X pins σ Q (.ref a) ⟨h2, g2, d2, t2, os2⟩ := by
  obtain ⟨t0, hoe⟩ := exo_at hok (upd_same (H := H) (a := a) (o := exo a C none))
  have hn : H a = none := I.hok.fresh ha
  obtain ⟨G, y1, y2⟩ := restrict h2 fun c => decide (c ≠ a)
  have gk : ∀ c, c ≠ a → G.get? c = h2.get? c := fun c hc => y1 c (decide_eq_true hc)
  have ge : G.get? a = none := y2 a (by simp)
  have nha : ∀ {c : Addr} {u : Obj}, hp.get? c = some u → c ≠ a := fun {c u} z => Nat.ne_of_lt (Nat.lt_of_lt_of_le (Heap.lt_size z) ha)
  have up : ∀ {c : Addr}, c ≠ a → H c = none → upd H a (exo a C none) c = none := fun {c} hc n => (upd_ne hc).trans n
  have U : Un (frs X.stack) [] H H hp G := {
    keep := fun c u z n hf hx => (gk c (nha z)).trans (un.keep c u (k c u z) (up (nha z) n) hf hx)
    slot := fun c u z n hf hx => by
      obtain ⟨sl, e⟩ := un.slot c u (k c u z) (up (nha z) n) hf hx
      exact ⟨sl, (gk c (nha z)).trans e⟩
    free := fun _ _ _ n _ => n
    there := fun c u z hx => by
      obtain ⟨u', e⟩ := un.there c u (k c u z) hx
      exact ⟨u', (gk c (nha z)).trans e⟩
    tups := fun _ _ z => z
    frzs := fun _ _ _ z => z
    tbls := fun _ ps z => ⟨#[], by rw [z]; simp⟩ }
  have hok3 : HOk X.prog X.w H G := fun c o z => by
    have hca : c ≠ a := ne_of_none z hn
    have z2 : upd H a (exo a C none) c = some o := (upd_ne hca).trans z
    have noa : ∀ {x : Addr} {u : HO}, upd H a (exo a C none) x = some u → u ≠ exo a C none → x ≠ a := fun {x u} hx hu e => hu (by rw [e, upd_same] at hx; exact (Option.some.inj hx).symm)
    refine (hok c o z2).stay (fun x v hx y => ?_) (fun x hx => ?_) (fun x xs hx => ?_)
    · have hxa : x ≠ a := by
        rcases hx with hx | hx
        · rw [hx]
          exact hca
        · exact noa hx (Ne.symm exo_own)
      exact (gk x hxa).trans y
    · exact (upd_ne (noa hx (Ne.symm exo_own))).symm.trans hx
    · exact (upd_ne (noa hx (Ne.symm exo_tup))).symm.trans hx
  have J : Inv X pins σ H ⟨G, g2, d2, t2, os2⟩ := I.call' (ch := []) ho U hok3 hb (fun c z => absurd z (by simp))
  refine ⟨a, _, _, ⟨G, g2, d2, t2, os2⟩, H, .ref C, none, rfl, J, fun c u z => ?_, ge, hoe, ⟨rfl, rfl⟩, rfl, rfl, hn, rfl, hb, T, q⟩
  by_cases hca : c = a
  · rw [hca, ge] at z
    cases z
  · exact (gk c hca).symm.trans z
theorem pmk_pass {X : Cx} {CX : CXT} {x : Str} {C fI : Addr} {k : Nat} {fd : FuncData} {ps : List Str} {sp : Sp} {p pos : Pos} (T : OexC X.K C) (iC : PySem.W.findIn X.K (.ref C) "__init__" = some (some (.ref fI))) (tI : PySem.W.typeIn X.K (.ref fI) = some (.type "function"))
    (F1 : FnOk X.prog X.w X.K X.mg X.base CX k fI fd ps sp) (hr : Room (k + 1) X.A) (hb : Binds X.K fd ps []) (hx : Passes CX X (fun _ _ _ => False)) (hg : Gl X x) (hm : X.mg x = some (.ref C))
    (hdb : (x == ("__debug__" : Str)) = false := by decide) : PMk X (.Call (.Name x p) [] [] pos) (tMkP C sp) := by
  intro pins s σ H Q I h
  obtain ⟨nm, q, N, bs, bm, sn, sub, ab, col, dd, k0, k1, k2, k3, k5, hC, hbm⟩ := T.cls
  refine wpAny_Call_Name_kw (ld_glob I hg hm ?_ hdb)
  refine PySem.W.callWith_K0 I.kIn T.kC ?_
  obtain ⟨hp, g, dr, tk, os⟩ := s
  have hsz : hp.objs.size ≤ hp.objs.size + 1 := Nat.le_succ _
  obtain ⟨hq, hQ⟩ := h (hp.objs.size + 1) (I.hok.fresh hsz)
  have kk : ∀ c u, hp.get? c = some u → ((hp.push (PySem.W.kdv_tup [])).push (PySem.HandSPX.excO C hp.objs.size)).get? c = some u := fun c u e => Heap.get?_push_of_some _ (Heap.get?_push_of_some _ e)
  have hget : ((hp.push (PySem.W.kdv_tup [])).push (PySem.HandSPX.excO C hp.objs.size)).get? (hp.objs.size + 1) = some (PySem.HandSPX.excO C hp.objs.size) := by heap_get
  have I2 : Inv X pins σ (upd H (hp.objs.size + 1) (exo (hp.objs.size + 1) C none)) ⟨(hp.push (PySem.W.kdv_tup [])).push (PySem.HandSPX.excO C hp.objs.size), g, dr, tk, os⟩ :=
    I.laid (t' := tk) (a := hp.objs.size + 1) (o := exo (hp.objs.size + 1) C none) (h' := (hp.push (PySem.W.kdv_tup [])).push (PySem.HandSPX.excO C hp.objs.size)) kk hsz (exo_ok hget)
  have hl : [Value.ref (hp.objs.size + 1)].length = ps.length := (F1.len _ _ _ _ hq)
  refine wpAny_call (PySem.HandSPX.call_own F.excBase_ValueError (fun Y => PySem.HandSPX.refsVE_contains Y bm hbm) (I.kIn _ _ hC) (PySem.W.looks_findIn I.kIn iC) (fun self => PySem.W.bind_fn I.kIn self tI) (by show 0 ≤ sizeLine; exact Nat.zero_le _)
    (codeAny_mono (F1.run _ X.stack _ _ ⟨[Value.ref (hp.objs.size + 1)], []⟩ [Value.ref (hp.objs.size + 1)] [V.ref (hp.objs.size + 1)] _ (fun _ _ _ => False) (hr.make C [] []) (I2.env0.make C [] []) (by
      have b := hb _ [Value.ref (hp.objs.size + 1)] I2.kIn hl
      simpa using b) (show Vals [V.ref _] [Value.ref _] from .cons rfl .nil) hq) fun r s' hq' => ?_))
  cases r with
  | error er => exact hx pins σ _ _ er s' I2 hq'
  | ok fl =>
    cases fl with
    | ret u =>
      obtain ⟨v, H2, os2, bare2, un2, hok2, rv, ev, eH⟩ := hq'
      subst ev eH
      obtain ⟨h2, g2, d2, t2, os'⟩ := s'
      exact ⟨rv, mkP_end (raises_own T.exC T.tyC) I hsz kk un2 hok2 os2 bare2 hQ⟩
    | next => exact False.elim hq'
    | brk => exact False.elim hq'
    | cont => exact False.elim hq'

/-! ### is True, is False -/
theorem is_flag {X : Cx} {b : Bool} : OpR X (compareOp .Is) (fun x y H Q => y = .bl b ∧ Q (.bl (decide (x = .bl b))) H) := by
  intro pins s σ H x y v u Q I rx ry h
  obtain ⟨rfl, q⟩ := h
  cases (show u = Value.bool b from ry)
  by_cases e : x = .bl b
  · subst e
    cases (show v = Value.bool b from rx)
    exact wpAny_is_self rfl ⟨.bl true, H, I, rfl, by simpa using q⟩
  · have q' : Q (.bl false) H := by simpa [e] using q
    cases x with
    | bl c =>
      cases (show v = Value.bool c from rx)
      exact wpAny_is_other rfl (fun z => e (by cases z; rfl)) ⟨.bl false, H, I, rfl, q'⟩
    | int i =>
      obtain ⟨_, z⟩ := (show ∃ t, v = Value.int i t from rx)
      subst z
      exact wpAny_is_other rfl (fun z => nomatch z) ⟨.bl false, H, I, rfl, q'⟩
    | str i =>
      obtain ⟨_, z⟩ := (show ∃ t, v = Value.str i t from rx)
      subst z
      exact wpAny_is_other rfl (fun z => nomatch z) ⟨.bl false, H, I, rfl, q'⟩
    | byt i =>
      obtain ⟨_, z⟩ := (show ∃ t, v = Value.bytes i t from rx)
      subst z
      exact wpAny_is_other rfl (fun z => nomatch z) ⟨.bl false, H, I, rfl, q'⟩
    | flt i =>
      obtain ⟨_, z⟩ := (show ∃ t, v = Value.float i t from rx)
      subst z
      exact wpAny_is_other rfl (fun z => nomatch z) ⟨.bl false, H, I, rfl, q'⟩
    | non =>
      cases (show v = Value.none from rx)
      exact wpAny_is_other rfl (fun z => nomatch z) ⟨.bl false, H, I, rfl, q'⟩
    | ref i =>
      cases (show v = Value.ref i from rx)
      exact wpAny_is_other rfl (fun z => nomatch z) ⟨.bl false, H, I, rfl, q'⟩
    | ty i =>
      cases (show v = Value.type i from rx)
      exact wpAny_is_other rfl (fun z => nomatch z) ⟨.bl false, H, I, rfl, q'⟩

/-! ### == by an own __eq__ of the class at C, whatever it answers -/
/-- what __eq__ promises: of the instance at a and the value y it answers r -/
def spEq2 (R : Addr → V → Hp → Bool → Prop) : Sp := fun vs H Q _ => ∃ a y r, vs = [.ref a, y] ∧ R a y H r ∧ Q (.bl r) H
/-- the left one an instance of C, the right one another such or a tuple -/
def rEqI (C : Addr) (R : Addr → V → Hp → Bool → Prop) : R2 := fun x y H Q => ∃ a b dx fs r, x = .ref a ∧ y = .ref b ∧ H a = some (.ins C dx fs) ∧ ((∃ dy gs, H b = some (.ins C dy gs)) ∨ ∃ ys, H b = some (.tup ys)) ∧ R a y H r ∧ Q (.bl r) H
theorem op_eqI {X : Cx} {CX : CXT} {n : Nat} {C f : Addr} {fd : FuncData} {ps : List Str} {R : Addr → V → Hp → Bool → Prop} {E : XK} (F : FnOk X.prog X.w X.K X.mg X.base CX n f fd ps (spEq2 R)) (hr : Room n X.A)
    (hs : PySem.W.findIn X.K (.ref C) "__eq__" = some (some (.ref f))) (hf : PySem.W.isFn X.K (.ref f) = true) (hb : Binds X.K fd ps []) (hx : Passes CX X E) (hn : PySem.W.notFirst X.K C (.type "tuple") = true) : OpR X (compareOp .Eq) (rEqI C R) := by
  intro pins s σ H x y u v Q I rx ry h
  obtain ⟨a, b, dx, fs, r0, rfl, rfl, ha, hb', hR, q⟩ := h
  cases rx
  cases ry
  have hsp : spEq2 R [.ref a, .ref b] H Q E := ⟨a, _, r0, rfl, hR, q⟩
  have hl := F.len _ _ _ _ hsp
  have r2 : Vals [V.ref a, V.ref b] [Value.ref a, Value.ref b] := .cons rfl (.cons rfl .nil)
  have go : wpAny (model X.prog X.w) X.A (call (.ref f) [.ref a, .ref b]) (PySem.W.CmpBack (EP X pins σ Q)) X.xe s := by
    refine wpAny_call (codeAny_mono (F.run X.A X.stack s H ⟨[.ref a, .ref b], []⟩ [.ref a, .ref b] [.ref a, .ref b] (fun z H' => (∃ c, z = .bl c) ∧ Q z H') E hr I.env0 (by
      have z := hb s [.ref a, .ref b] I.kIn (by simpa using hl)
      simpa using z) r2 ⟨a, _, r0, rfl, hR, ⟨_, rfl⟩, q⟩) fun r s' hq => ?_)
    cases r with
    | error e => exact hx pins σ H s e s' I hq
    | ok fl =>
      cases fl with
      | ret w =>
        obtain ⟨z, H', I', rz, ⟨c, ez⟩, q'⟩ := I.after hq
        subst ez
        cases rz
        exact ⟨V.bl c, H', I', rfl, q'⟩
      | next => exact False.elim hq
      | brk => exact False.elim hq
      | cont => exact False.elim hq
  obtain ⟨mA, J, _⟩ := ins_get I.hok ha
  obtain ⟨od, J, _⟩ := J.look
  obtain ⟨m, hF⟩ := I.fr
  rcases hb' with ⟨dy, gs, hb'⟩ | ⟨ys, hb'⟩
  · obtain ⟨mB, J', _⟩ := ins_get I.hok hb'
    obtain ⟨od', J', _⟩ := J'.look
    exact PySem.W.cmp_K (op := .Eq) (tb := .ref C) hr.units0 hF I.ok.mod.kin J J'.type (by simp [PySem.W.notFirst]) hs hf go
  · obtain ⟨P, Z, p, _⟩ := kit_of I (show L2.RelV (V.ref b) (Value.ref b) from rfl) (TyX.base (TyOf.tup hb'))
    exact PySem.W.cmp_K (op := .Eq) (tb := .type "tuple") hr.units0 hF I.ok.mod.kin J (Z.ty _ _ I.kIn p) hn hs hf go
end Mw

/-! M1 -/
/-! Data: what stands behind a value, apart from one object p (the hand) that may change. -/
namespace Mw
open PySem L2
/-- an object at a, not the one at p -/
def At (p : Addr) (H : Hp) (a : Addr) (o : HO) : Prop := a ≠ p ∧ H a = some o
/-- all but the object at p is as it was -/
def Keep (p : Addr) (H H' : Hp) : Prop := ∀ a o, a ≠ p → H a = some o → H' a = some o
theorem Keep.refl {p : Addr} {H : Hp} : Keep p H H := fun _ _ _ h => h
theorem Keep.trans {p : Addr} {H H1 H2 : Hp} (x : Keep p H H1) (y : Keep p H1 H2) : Keep p H H2 := fun a o n h => y a o n (x a o n h)
theorem Keep.same {p : Addr} {H H1 : Hp} (x : Same H H1) : Keep p H H1 := fun a o _ h => x a o h
theorem Keep.new {p q : Addr} {H : Hp} {o : HO} (h : H q = none) : Keep p H (upd H q o) := fun a u _ e => (upd_ne (ne_of_none e h)).trans e
theorem Keep.put {p q : Addr} {H H1 : Hp} {o : HO} (x : Keep p H H1) (h : H1 q = none) : Keep p H (upd H1 q o) := x.trans (Keep.new h)
theorem Keep.mut {p : Addr} {H : Hp} {o : HO} : Keep p H (upd H p o) := fun a u n e => (upd_ne n).trans e
theorem Same.put {q : Addr} {H H1 : Hp} {o : HO} (x : Same H H1) (h : H1 q = none) : Same H (upd H1 q o) := fun a u e => (upd_ne (ne_of_none (x a u e) h)).trans (x a u e)
theorem same_new {q : Addr} {H : Hp} {o : HO} (h : H q = none) : Same H (upd H q o) := fun _ _ e => (upd_ne (ne_of_none e h)).trans e
theorem At.keep {p a : Addr} {H H' : Hp} {o : HO} (x : At p H a o) (k : Keep p H H') : At p H' a o := ⟨x.1, k a o x.1 x.2⟩
theorem At.new {p a : Addr} {H : Hp} {o u : HO} (hp : H p = some u) (h : H a = none) : At p (upd H a o) a o := ⟨(ne_of_none hp h).symm, upd_same⟩
/-- what isinstance asks of the class at C -/
structure WebTy (K : PySem.W.Frag) (C : Addr) : Prop where
  cl : Cls K C
  ca : PySem.W.findIn K (.ref C) "__class__" = some (some (.builtin "object.__class__"))
  cg : PySem.W.specialIn K (.builtin "object.__class__") "__get__" = some (some (.builtin "getset_descriptor.__get__"))
  ct : PySem.W.takesIn K (.builtin "object.__class__") = some true
  co : PySem.W.mroIn K C (.type "object") = some true
  ki : PySem.W.kitOne K (.ref C) (.type "int") = some false
  kb : PySem.W.kitOne K (.ref C) (.type "bool") = some false
  kt : PySem.W.kitOne K (.ref C) (.type "tuple") = some false
  kl : PySem.W.kitOne K (.ref C) (.type "list") = some false
  ks : PySem.W.kitOne K (.ref C) (.type "str") = some false
/-- a thing that is none of the judged kinds: an empty dict, an instance of the class at C -/
def Oth (C p : Addr) (H : Hp) (v : V) : Prop := ∃ a, v = .ref a ∧ a ≠ p ∧ (H a = some (.dK []) ∨ ∃ dx fs, H a = some (.ins C dx fs))
mutual
def Tp (C p : Addr) (H : Hp) : PyData → V → Prop
  | .none, v => v = .non
  | .bool b, v => v = .bl b
  | .int i, v => v = .int i
  | .str s, v => v = .str s
  | .list ds, v => ∃ a xs, v = .ref a ∧ a ≠ p ∧ H a = some (.lst xs) ∧ TpAll C p H ds xs
  | .tuple ds, v => ∃ a xs, v = .ref a ∧ a ≠ p ∧ H a = some (.tup xs) ∧ TpAll C p H ds xs
  | .dict _, v => Oth C p H v
def TpAll (C p : Addr) (H : Hp) : List PyData → List V → Prop
  | [], xs => xs = []
  | d :: ds, xs => ∃ x r, xs = x :: r ∧ Tp C p H d x ∧ TpAll C p H ds r
end
section
variable {C p : Addr} {H H' : Hp} {K : PySem.W.Frag}
mutual
theorem Tp.keep (k : Keep p H H') : ∀ (d : PyData) (v : V), Tp C p H d v → Tp C p H' d v
  | .none, v, h => by simpa only [Tp] using h
  | .bool b, v, h => by simpa only [Tp] using h
  | .int i, v, h => by simpa only [Tp] using h
  | .str s, v, h => by simpa only [Tp] using h
  | .list ds, v, h => by
    simp only [Tp] at h ⊢
    obtain ⟨a, xs, e, n, ha, r⟩ := h
    exact ⟨a, xs, e, n, k a _ n ha, TpAll.keep k ds xs r⟩
  | .tuple ds, v, h => by
    simp only [Tp] at h ⊢
    obtain ⟨a, xs, e, n, ha, r⟩ := h
    exact ⟨a, xs, e, n, k a _ n ha, TpAll.keep k ds xs r⟩
  | .dict _, v, h => by
    simp only [Tp] at h ⊢
    obtain ⟨a, e, n, ha | ⟨dx, fs, ha⟩⟩ := h
    · exact ⟨a, e, n, .inl (k a _ n ha)⟩
    · exact ⟨a, e, n, .inr ⟨dx, fs, k a _ n ha⟩⟩
theorem TpAll.keep (k : Keep p H H') : ∀ (ds : List PyData) (xs : List V), TpAll C p H ds xs → TpAll C p H' ds xs
  | [], xs, h => by simpa only [TpAll] using h
  | d :: ds, xs, h => by
    simp only [TpAll] at h ⊢
    obtain ⟨x, r, e, h1, h2⟩ := h
    exact ⟨x, r, e, Tp.keep k d x h1, TpAll.keep k ds r h2⟩
end
theorem tpAll_iff : ∀ (ds : List PyData) (xs : List V), TpAll C p H ds xs ↔ ds.length = xs.length ∧ ∀ (i : Nat) d x, ds[i]? = some d → xs[i]? = some x → Tp C p H d x
  | [], xs => by
    simp only [TpAll]
    constructor
    · rintro rfl
      exact ⟨rfl, fun i d x h _ => by simp at h⟩
    · rintro ⟨h, _⟩
      exact List.length_eq_zero_iff.mp h.symm
  | d :: ds, xs => by
    simp only [TpAll]
    constructor
    · rintro ⟨x, r, rfl, h1, h2⟩
      obtain ⟨hl, hi⟩ := (tpAll_iff ds r).mp h2
      refine ⟨by simp [hl], fun i d' x' e1 e2 => ?_⟩
      cases i with
      | zero =>
        simp only [List.getElem?_cons_zero, Option.some.injEq] at e1 e2
        subst e1 e2
        exact h1
      | succ i =>
        simp only [List.getElem?_cons_succ] at e1 e2
        exact hi i d' x' e1 e2
    · rintro ⟨hl, hi⟩
      cases xs with
      | nil => simp at hl
      | cons x r => exact ⟨x, r, rfl, hi 0 d x rfl rfl, (tpAll_iff ds r).mpr ⟨by simpa using hl, fun i d' x' e1 e2 => hi (i + 1) d' x' (by simpa using e1) (by simpa using e2)⟩⟩
theorem TpAll.len {ds : List PyData} {xs : List V} (h : TpAll C p H ds xs) : ds.length = xs.length := ((tpAll_iff ds xs).mp h).1
theorem TpAll.get {ds : List PyData} {xs : List V} (h : TpAll C p H ds xs) {i : Nat} {d : PyData} (e : ds[i]? = some d) : ∃ x, xs[i]? = some x ∧ Tp C p H d x := by
  obtain ⟨hl, hi⟩ := (tpAll_iff ds xs).mp h
  have hlt := (List.getElem?_eq_some_iff.mp e).1
  have hx : xs[i]? = some (xs[i]'(by omega)) := by simp [show i < xs.length by omega]
  exact ⟨_, hx, hi i d _ e hx⟩
theorem TpAll.get' {ds : List PyData} {xs : List V} (h : TpAll C p H ds xs) {i : Nat} {x : V} (e : xs[i]? = some x) : ∃ d, ds[i]? = some d ∧ Tp C p H d x := by
  obtain ⟨hl, hi⟩ := (tpAll_iff ds xs).mp h
  have hlt := (List.getElem?_eq_some_iff.mp e).1
  have hx : ds[i]? = some (ds[i]'(by omega)) := by simp [show i < ds.length by omega]
  exact ⟨_, hx, hi i _ x hx e⟩
theorem TpAll.append {ds es : List PyData} {xs ys : List V} (h1 : TpAll C p H ds xs) (h2 : TpAll C p H es ys) : TpAll C p H (ds ++ es) (xs ++ ys) := by
  induction ds generalizing xs with
  | nil =>
    simp only [TpAll] at h1
    subst h1
    exact h2
  | cons d ds ih =>
    simp only [TpAll] at h1
    obtain ⟨x, r, rfl, a, b⟩ := h1
    show TpAll C p H (d :: (ds ++ es)) _
    simp only [TpAll]
    exact ⟨x, r ++ ys, rfl, a, ih b⟩
theorem TpAll.take {ds : List PyData} {xs : List V} (h : TpAll C p H ds xs) (n : Nat) : TpAll C p H (ds.take n) (xs.take n) := by
  obtain ⟨hl, hi⟩ := (tpAll_iff ds xs).mp h
  refine (tpAll_iff _ _).mpr ⟨by simp [hl], fun i d x e1 e2 => ?_⟩
  rw [List.getElem?_take] at e1 e2
  by_cases q : i < n
  · rw [if_pos q] at e1 e2
    exact hi i d x e1 e2
  · rw [if_neg q] at e1
    cases e1
theorem TpAll.drop {ds : List PyData} {xs : List V} (h : TpAll C p H ds xs) (n : Nat) : TpAll C p H (ds.drop n) (xs.drop n) := by
  obtain ⟨hl, hi⟩ := (tpAll_iff ds xs).mp h
  refine (tpAll_iff _ _).mpr ⟨by simp [hl], fun i d x e1 e2 => ?_⟩
  rw [List.getElem?_drop] at e1 e2
  exact hi _ d x e1 e2
theorem tpAll_nil : TpAll C p H [] [] := by simp only [TpAll]
theorem tpAll_cons {d : PyData} {ds : List PyData} {x : V} {xs : List V} (h1 : Tp C p H d x) (h2 : TpAll C p H ds xs) : TpAll C p H (d :: ds) (x :: xs) := by
  simp only [TpAll]
  exact ⟨x, xs, rfl, h1, h2⟩
theorem tp_int {i : Int} : Tp C p H (.int i) (.int i) := by simp only [Tp]
theorem tp_str {s : Str} : Tp C p H (.str s) (.str s) := by simp only [Tp]
theorem tp_bl {b : Bool} : Tp C p H (.bool b) (.bl b) := by simp only [Tp]
theorem tp_non : Tp C p H .none .non := by simp only [Tp]
theorem tp_tup {a : Addr} {ds : List PyData} {xs : List V} (h : At p H a (.tup xs)) (r : TpAll C p H ds xs) : Tp C p H (.tuple ds) (.ref a) := by
  simp only [Tp]
  exact ⟨a, xs, rfl, h.1, h.2, r⟩
theorem tp_lst {a : Addr} {ds : List PyData} {xs : List V} (h : At p H a (.lst xs)) (r : TpAll C p H ds xs) : Tp C p H (.list ds) (.ref a) := by
  simp only [Tp]
  exact ⟨a, xs, rfl, h.1, h.2, r⟩
theorem tp_tup' {v : V} {ds : List PyData} (h : Tp C p H (.tuple ds) v) : ∃ a xs, v = .ref a ∧ At p H a (.tup xs) ∧ TpAll C p H ds xs := by
  simp only [Tp] at h
  obtain ⟨a, xs, e, n, ha, r⟩ := h
  exact ⟨a, xs, e, ⟨n, ha⟩, r⟩
theorem tp_int' {v : V} {i : Int} (h : Tp C p H (.int i) v) : v = .int i := by simpa only [Tp] using h
theorem tp_str' {v : V} {i : Str} (h : Tp C p H (.str i) v) : v = .str i := by simpa only [Tp] using h

/-! ### kinds -/
def isI : PyData → Bool | .int _ => true | .bool _ => true | _ => false
def isB : PyData → Bool | .bool _ => true | _ => false
def isT : PyData → Bool | .tuple _ => true | _ => false
def isL : PyData → Bool | .list _ => true | _ => false
def isS : PyData → Bool | .str _ => true | _ => false
/-- an integer (no flag) within bounds -/
def inI (lo hi : Int) : PyData → Bool | .int i => decide (lo ≤ i) && decide (i ≤ hi) | _ => false
def isInt : PyData → Bool | .int _ => true | _ => false
theorem Tp.ty (W : WebTy K C) (d : PyData) (v : V) (h : Tp C p H d v) : ∃ t, TyX K H v t ∧ PySem.W.kitOne K t (.type "int") = some (isI d) ∧ PySem.W.kitOne K t (.type "bool") = some (isB d) ∧ PySem.W.kitOne K t (.type "tuple") = some (isT d) ∧
    PySem.W.kitOne K t (.type "list") = some (isL d) ∧ PySem.W.kitOne K t (.type "str") = some (isS d) := by
  cases d with
  | none =>
    simp only [Tp] at h
    subst h
    exact ⟨_, .base .non, kit_ty (show kitB "NoneType" "int" = some false from by decide +kernel), kit_ty (show kitB "NoneType" "bool" = some false from by decide +kernel), kit_ty (show kitB "NoneType" "tuple" = some false from by decide +kernel), kit_ty (show kitB "NoneType" "list" = some false from by decide +kernel), kit_ty (show kitB "NoneType" "str" = some false from by decide +kernel)⟩
  | bool b =>
    simp only [Tp] at h
    subst h
    exact ⟨_, .base (.bl b), kit_ty (show kitB "bool" "int" = some true from by decide +kernel), kit_ty (show kitB "bool" "bool" = some true from by decide +kernel), kit_ty (show kitB "bool" "tuple" = some false from by decide +kernel), kit_ty (show kitB "bool" "list" = some false from by decide +kernel), kit_ty (show kitB "bool" "str" = some false from by decide +kernel)⟩
  | int i =>
    simp only [Tp] at h
    subst h
    exact ⟨_, .base (.int i), kit_ty (show kitB "int" "int" = some true from by decide +kernel), kit_ty (show kitB "int" "bool" = some false from by decide +kernel), kit_ty (show kitB "int" "tuple" = some false from by decide +kernel), kit_ty (show kitB "int" "list" = some false from by decide +kernel), kit_ty (show kitB "int" "str" = some false from by decide +kernel)⟩
  | str s =>
    simp only [Tp] at h
    subst h
    exact ⟨_, .base (.str s), kit_ty (show kitB "str" "int" = some false from by decide +kernel), kit_ty (show kitB "str" "bool" = some false from by decide +kernel), kit_ty (show kitB "str" "tuple" = some false from by decide +kernel), kit_ty (show kitB "str" "list" = some false from by decide +kernel), kit_ty (show kitB "str" "str" = some true from by decide +kernel)⟩
  | list ds =>
    simp only [Tp] at h
    obtain ⟨a, xs, rfl, n, ha, r⟩ := h
    exact ⟨_, .base (.lst ha), kit_ty (show kitB "list" "int" = some false from by decide +kernel), kit_ty (show kitB "list" "bool" = some false from by decide +kernel), kit_ty (show kitB "list" "tuple" = some false from by decide +kernel), kit_ty (show kitB "list" "list" = some true from by decide +kernel), kit_ty (show kitB "list" "str" = some false from by decide +kernel)⟩
  | tuple ds =>
    simp only [Tp] at h
    obtain ⟨a, xs, rfl, n, ha, r⟩ := h
    exact ⟨_, .base (.tup ha), kit_ty (show kitB "tuple" "int" = some false from by decide +kernel), kit_ty (show kitB "tuple" "bool" = some false from by decide +kernel), kit_ty (show kitB "tuple" "tuple" = some true from by decide +kernel), kit_ty (show kitB "tuple" "list" = some false from by decide +kernel), kit_ty (show kitB "tuple" "str" = some false from by decide +kernel)⟩
  | dict kvs =>
    simp only [Tp] at h
    obtain ⟨a, rfl, n, ha | ⟨dx, fs, ha⟩⟩ := h
    · exact ⟨_, .base (.dK ha), kit_ty (show kitB "dict" "int" = some false from by decide +kernel), kit_ty (show kitB "dict" "bool" = some false from by decide +kernel), kit_ty (show kitB "dict" "tuple" = some false from by decide +kernel), kit_ty (show kitB "dict" "list" = some false from by decide +kernel), kit_ty (show kitB "dict" "str" = some false from by decide +kernel)⟩
    · exact ⟨_, .base (.ins ha W.cl W.ca W.cg W.ct W.co), W.ki, W.kb, W.kt, W.kl, W.ks⟩
theorem tp_isI (W : WebTy K C) {d : PyData} {v : V} {Q : VK} (h : Tp C p H d v) (q : Q (.bl (isI d)) H) : rIsi K [v, .ty "int"] H Q := by
  obtain ⟨t, ty, k, _⟩ := h.ty W
  exact ⟨v, _, t, _, _, rfl, .ty _, ty, k, q⟩
theorem tp_isB (W : WebTy K C) {d : PyData} {v : V} {Q : VK} (h : Tp C p H d v) (q : Q (.bl (isB d)) H) : rIsi K [v, .ty "bool"] H Q := by
  obtain ⟨t, ty, _, k, _⟩ := h.ty W
  exact ⟨v, _, t, _, _, rfl, .ty _, ty, k, q⟩
theorem tp_isT (W : WebTy K C) {d : PyData} {v : V} {Q : VK} (h : Tp C p H d v) (q : Q (.bl (isT d)) H) : rIsi K [v, .ty "tuple"] H Q := by
  obtain ⟨t, ty, _, _, k, _⟩ := h.ty W
  exact ⟨v, _, t, _, _, rfl, .ty _, ty, k, q⟩
theorem tp_isL (W : WebTy K C) {d : PyData} {v : V} {Q : VK} (h : Tp C p H d v) (q : Q (.bl (isL d)) H) : rIsi K [v, .ty "list"] H Q := by
  obtain ⟨t, ty, _, _, _, k, _⟩ := h.ty W
  exact ⟨v, _, t, _, _, rfl, .ty _, ty, k, q⟩
theorem tp_isS (W : WebTy K C) {d : PyData} {v : V} {Q : VK} (h : Tp C p H d v) (q : Q (.bl (isS d)) H) : rIsi K [v, .ty "str"] H Q := by
  obtain ⟨t, ty, _, _, _, _, k⟩ := h.ty W
  exact ⟨v, _, t, _, _, rfl, .ty _, ty, k, q⟩
end
theorem rd_mko {C : Addr} {sp : Sp} {dvs : List V} {ta : TA} {σ : L2.St} {H : Hp} {Q : XK} (h : ta σ H fun vs H1 => vs.length ≤ 1000 ∧ ∀ a, H1 a = none → sp (.ref a :: (vs ++ dvs)) (upd H1 a (exo a C none))
  (fun v H2 => v = .non ∧ ∃ (d : Addr) (fs : List (Str × V)), H2 a = some (exo a C (some d)) ∧ H2 d = some (exd d fs) ∧ H1 d = none ∧ Q (.ref C) (some d) (upd (del H2 a) d (.xd fs))) (fun _ _ _ => False)) : tMkO C sp dvs ta σ H Q := h
end Mw

/-! MR5 -/
/-! sorted(d) of a dict with whole numbers as keys. -/
namespace L2
open PySem PySem.Spec PyProof.Rows
def rSortedD : List V → Hp → VK → Prop := fun vs H Q => ∃ (d : Addr) (kvs : List (Key × V)) (ns : List Int), vs = [.ref d] ∧ H d = some (.dK kvs) ∧ kvs.map (·.1) = ns.map Sum.inl ∧
  ∀ (ns' : List Int) (p : Addr), ns'.Perm ns → ns'.Pairwise (· ≤ ·) → H p = none → Q (.ref p) (upd H p (.lst (ns'.map V.int)))
theorem cr_sortedD {X : Cx} (hc : X.calm = true) : CallR X (.builtin "sorted") rSortedD := by
  intro pins s σ H vs us Q I r h
  obtain ⟨d, kvs, ns, rfl, hk, en, q⟩ := h
  rw [Vals.ref1 r]
  obtain ⟨z, lo, ws, rk, hd⟩ := (show ObjOk X.prog X.w H s.heap d (.dK kvs) from I.hok d _ hk)
  obtain ⟨ep, hat⟩ := hd.dictAt
  have hl : kvs.length = ws.length := Paired.length rk
  refine Calls.call_function_entry kind_sorted plain_sorted entry_sorted (args_sorted1 _) ?_
  unfold Builtin.«sorted»
  refine wpAny_bind (m := checkCount "sorted" 1 1 _) (wpAny_pure ?_)
  refine wpAny_bind (PySem.W.kdu_collect (PySem.W.kdl_dict (knd := mixKind X.prog X.w) (kvs := ws) (ep := ep) lo) (I.ok.hd hc) hat (by rw [← hl]; exact z) fun h' tk acc kp hacc => ?_)
  have el : acc.toList.length = kvs.length := by rw [Array.length_toList, hacc.1, hl]
  have hns : ns.length = kvs.length := by
    have e := congrArg List.length en
    rw [List.length_map, List.length_map] at e
    exact e.symm
  have rv : Vals (ns.map V.int) acc.toList := by
    refine vals_of_at (by rw [List.length_map, el, hns]) fun j x w h1 h2 => ?_
    obtain ⟨k, y, hky, hi⟩ := hacc.2 j w (by rw [← Array.getElem?_toList]; exact h2)
    have e1 : (kvs.map (·.1))[j]? = some k := by rw [KV.keys rk, List.getElem?_map, hky] <;> rfl
    rw [en, List.getElem?_map] at e1
    rw [List.getElem?_map] at h1
    cases e2 : ns[j]? with
    | none =>
      rw [e2] at h1
      cases h1
    | some n =>
      rw [e2] at h1 e1
      cases h1
      have e3 : k = Sum.inl n := (Option.some.inj e1).symm
      have e4 : RelV (kV k) w := keyIs_rel hi
      rw [e3] at e4
      exact e4
  have hi := rv.ints
  have hz : acc.toList.length ≤ sizeLine := by rw [el]; exact z
  refine wpAny_bind (wpAny_newList ?_ hz)
  have hoL : (h'.push (seqObj "list" acc.toList.toArray 0)).get? h'.objs.size = some (seqObj "list" acc.toList.toArray 0) := Heap.get?_push_size _ rfl
  show wpAny _ _ _ _ _ { s with heap := h'.push (seqObj "list" acc.toList.toArray 0), toks := tk }
  refine wpAny_bind (wpAny_holding (wpAny_call_entry slot_list_sort ⟨_, hoL, rfl⟩ entry_list_sort (SrtO.list_sort_ord SrtO.swo_int hoL hz (fun h2 => SrtO.ints_sortable hi h2) fun out h1 h2 => ⟨_, rfl, ?_⟩) (args_list_sort _)))
  refine wpAny_pure ⟨_, rfl, ?_⟩
  obtain ⟨k1, k2, k3⟩ := SrtO.ints_out hi h1 h2
  obtain ⟨e, he⟩ := PyProof.Rows.sortedHeap_at (out := out.toArray) hoL
  have up : ∀ b o, h'.get? b = some o → (sortedHeap (h'.push (seqObj "list" acc.toList.toArray 0)) h'.objs.size acc.toList out.toArray).get? b = some o := fun b o hb => by
    have hlt : b < h'.objs.size := Heap.lt_size hb
    rw [PyProof.Rows.sortedHeap_old (Nat.ne_of_lt hlt) (by rw [size_push']; exact Nat.lt_succ_of_lt hlt)]
    exact Heap.get?_push_of_some _ hb
  have I1 : Inv X pins σ H { s with heap := h', toks := tk } := I.kept kp
  refine ⟨.ref h'.objs.size, upd H h'.objs.size (.lst ((out.map SrtO.iv).map V.int)), I1.laid (t' := tk) up (Nat.le_refl _) ⟨?_, out, e, vals_of_ints k1, he⟩, rfl, q _ _ k2 k3 (I1.hok.fresh (Nat.le_refl _))⟩
  rw [List.length_map, k2.length_eq, hns]
  exact z
end L2

/-! MR6 -/
/-! list(d.keys()) of a dict with pairs as keys. -/
namespace L2
open PySem PySem.Spec PyProof.Rows PySem.W
theorem lk_src {prog : Program} {w : World} {r d : Addr} {o : Obj} {es : Array DictEntry} {ep : Nat} (hx : o.ExactDict) (hd : o.data = .dict es ep) :
    KdlSrc prog w "dict_keys" r d es.size (fun i v => ∃ en : DictEntry, es[i]? = some en ∧ v = en.key) (fun h => KdlKeysView h r d ∧ h.get? d = some o) where
  type := fun _ hm => hm.1.typeIs
  there := fun _ hm => ⟨let ⟨_, ho, _⟩ := hm.1; Heap.lt_size ho, Heap.lt_size hm.2⟩
  keep := fun _ _ hm hk => ⟨let ⟨q, hq, x⟩ := hm.1; ⟨q, hk r (.inl rfl) q hq, x⟩, hk d (.inr rfl) _ hm.2⟩
  notList := by decide
  notTuple := by decide
  hint := fun _ _ _ _ hm hq => kdl_hint_keys hm.1.typeIs hq
  iter := fun _ s hh hm => ⟨_, _, (fun _ _ hq => wpAny_pyIter_keys_raw hm.1 ⟨o, hm.2, hx, hd⟩ hq), walks_raw hh _ d (Nat.ne_of_lt (Heap.lt_size hm.2)) hd, ⟨⟨_, Heap.get?_push_size _ rfl, rfl, rfl⟩, Heap.get?_push_of_some _ hm.2⟩⟩
section
variable {X : Cx}
def tListKeysT (te : TE) : TE := fun σ H Q => te σ H fun x H1 => ∃ (d : Addr) (kvs : List (List Key × V)), x = .ref d ∧ H1 d = some (.dT kvs) ∧ ∀ (p : Addr) (bs : List Addr), H1 p = none → IsKeys H1 kvs bs → Q (.ref p) (upd H1 p (.lst (bs.map V.ref)))
theorem pe_listKeysT {e : Expr} {te : TE} {p pos apos cpos : Pos} (hc : X.calm = true) (he : PE X e te) (hg : Gl X "list") (hm : X.mg "list" = none) (hbase : attributeBase e "keys" X.env (eval e X.env) = eval e X.env := by rfl) (hline : (apos.endLine == cpos.line) = true := by rfl)
    (hs : starEach [Expr.Call (.Attribute e "keys" apos) [] [] cpos] X.env = (false, eval (.Call (.Attribute e "keys" apos) [] [] cpos) X.env) :: starEach [] X.env := by rfl) :
    PE X (.Call (.Name "list" p) [.Call (.Attribute e "keys" apos) [] [] cpos] [] pos) (tListKeysT te) := by
  refine ⟨fun pins s σ H Q I hq => ?_⟩
  refine wpAny_Call_Name_kw (ld_blt I hg hm boot_list ?_)
  refine PyProof.Rows.callWith_type1 ?_ hs rfl
  rw [hs]
  show wpAny _ _ (spliced ((false, eval (.Call (.Attribute e "keys" apos) [] [] cpos) X.env) :: backTo pos (starEach [] X.env))) _ _ s
  refine Calls.spliced_cons ?_
  refine wpAny_Call_method (T := "dict") (id := "dict.keys") hbase rfl hline F.plainAttrs_dict F.slot_dict_keys F.type_dict_keys (thn (he.run pins s σ H _ I hq) fun u s1 ⟨x, H1, I1, rx, d, kvs, ex, hd, q⟩ => ?_)
  subst ex
  obtain rfl : u = Value.ref d := rx
  obtain ⟨z, lo, ks, pr, o, es, ep, ho, hx, hdt, hen, hn⟩ := dt_of I1.hok hd
  have l1 : es.size = ks.length := size_of_entries hen
  have l2 : kvs.length = ks.length := Paired.length pr
  have raw : s1.heap.DictRaw d es ep := ⟨o, ho, hx, hdt⟩
  have I2 : Inv X pins σ H1 { s1 with heap := s1.heap.push { cls := .type "dict_keys", data := .fields #[.ref d] } } := I1.kept (t' := s1.toks) fun b ob q => Heap.get?_push_of_some _ q
  refine ⟨raw.typeIs, fun b eb => ⟨o, by cases eb; exact ho, hx.2.1⟩, ?_⟩
  show wpAny _ _ (callWith cpos (.builtin "dict.keys") [.ref d] [] []) _ X.xe s1
  refine method_meetsIn F.slot_dict_keys F.entry_dict_keys rfl (PySem.evalArgs_none ⟨rfl, raw.typeIs, F.args_dict_keys_1 _, _, meets_dict_keys_raw d lo, ⟨es, ep, raw⟩, ?_⟩)
  refine Calls.spliced_nil ?_
  refine kdl_call (lk_src hx hdt) (I1.ok.hd hc) ⟨⟨_, Heap.get?_push_size _ rfl, rfl, rfl⟩, Heap.get?_push_of_some _ ho⟩ (by omega) fun h' tk acc' c' kp e it => ?_
  have ea : acc'.toList = ks.map fun x => Value.ref x.2.1 := by
    have hl : acc'.toList.length = ks.length := by rw [Array.length_toList, it.1]; exact l1
    apply List.ext_getElem?
    intro j
    rw [List.getElem?_map]
    cases hj : acc'.toList[j]? with
    | none =>
      have h1 := List.getElem?_eq_none_iff.mp hj
      rw [List.getElem?_eq_none (by omega)]
      rfl
    | some v =>
      obtain ⟨en, hen2, hv⟩ := it.2 j v (by rw [← Array.getElem?_toList]; exact hj)
      have qe := entry_at hen j
      rw [hen2] at qe
      cases hb : ks[j]? with
      | none =>
        rw [hb] at qe
        exact nomatch (show some en = none from qe)
      | some b =>
        rw [hb] at qe
        have e2 : en = entryOfKey (tupleKind (mixKind X.prog X.w)) b := Option.some.inj qe
        rw [hv, e2]
        rfl
  have eb : acc'.toList = (ks.map fun x => x.2.1).map Value.ref := by
    rw [ea, List.map_map]
    rfl
  have rv : Vals ((ks.map fun x => x.2.1).map V.ref) acc'.toList := by
    rw [eb]
    exact vals_refs _
  have hz : ((ks.map fun x => x.2.1).map V.ref).length ≤ sizeLine := by
    rw [List.length_map, List.length_map]
    omega
  refine ⟨.ref _, _, I2.laid (t' := tk) (o := .lst ((ks.map fun x => x.2.1).map V.ref)) kp (Nat.le_refl _) ⟨hz, acc'.toList, c', rv, by rw [Array.toArray_toList]; exact e⟩, rfl, q _ _ (I2.hok.fresh (Nat.le_refl _)) (isKeys_of pr)⟩
end
end L2

/-! MR8 -/
/-! list(d.keys()) of a dict with whole numbers as keys. -/
namespace L2
open PySem PySem.Spec PyProof.Rows PySem.W
section
variable {X : Cx}
def tListKeysK (te : TE) : TE := fun σ H Q => te σ H fun x H1 => ∃ (d : Addr) (kvs : List (Key × V)) (ns : List Int), x = .ref d ∧ H1 d = some (.dK kvs) ∧ kvs.map (·.1) = ns.map Sum.inl ∧ ∀ (p : Addr), H1 p = none → Q (.ref p) (upd H1 p (.lst (ns.map V.int)))
theorem pe_listKeysK {e : Expr} {te : TE} {p pos apos cpos : Pos} (hc : X.calm = true) (he : PE X e te) (hg : Gl X "list") (hm : X.mg "list" = none) (hbase : attributeBase e "keys" X.env (eval e X.env) = eval e X.env := by rfl) (hline : (apos.endLine == cpos.line) = true := by rfl)
    (hs : starEach [Expr.Call (.Attribute e "keys" apos) [] [] cpos] X.env = (false, eval (.Call (.Attribute e "keys" apos) [] [] cpos) X.env) :: starEach [] X.env := by rfl) :
    PE X (.Call (.Name "list" p) [.Call (.Attribute e "keys" apos) [] [] cpos] [] pos) (tListKeysK te) := by
  refine ⟨fun pins s σ H Q I hq => ?_⟩
  refine wpAny_Call_Name_kw (ld_blt I hg hm boot_list ?_)
  refine PyProof.Rows.callWith_type1 ?_ hs rfl
  rw [hs]
  show wpAny _ _ (spliced ((false, eval (.Call (.Attribute e "keys" apos) [] [] cpos) X.env) :: backTo pos (starEach [] X.env))) _ _ s
  refine Calls.spliced_cons ?_
  refine wpAny_Call_method (T := "dict") (id := "dict.keys") hbase rfl hline F.plainAttrs_dict F.slot_dict_keys F.type_dict_keys (thn (he.run pins s σ H _ I hq) fun u s1 ⟨x, H1, I1, rx, d, kvs, ns, ex, hd, en, q⟩ => ?_)
  subst ex
  obtain rfl : u = Value.ref d := rx
  obtain ⟨z, lo, ws, rk, hd'⟩ := dk_of I1.hok hd
  obtain ⟨es, ep, raw, hsz, hent⟩ := hd'.raw
  obtain ⟨o, ho, hx, hdt⟩ := id raw
  have l2 : kvs.length = ws.length := Paired.length rk
  have hns : ns.length = kvs.length := by
    have e := congrArg List.length en
    rw [List.length_map, List.length_map] at e
    exact e.symm
  have I2 : Inv X pins σ H1 { s1 with heap := s1.heap.push { cls := .type "dict_keys", data := .fields #[.ref d] } } := I1.kept (t' := s1.toks) fun b ob q => Heap.get?_push_of_some _ q
  refine ⟨raw.typeIs, fun b eb => ⟨o, by cases eb; exact ho, hx.2.1⟩, ?_⟩
  show wpAny _ _ (callWith cpos (.builtin "dict.keys") [.ref d] [] []) _ X.xe s1
  refine method_meetsIn F.slot_dict_keys F.entry_dict_keys rfl (PySem.evalArgs_none ⟨rfl, raw.typeIs, F.args_dict_keys_1 _, _, meets_dict_keys_raw d lo, ⟨es, ep, raw⟩, ?_⟩)
  refine Calls.spliced_nil ?_
  refine kdl_call (lk_src hx hdt) (I1.ok.hd hc) ⟨⟨_, Heap.get?_push_size _ rfl, rfl, rfl⟩, Heap.get?_push_of_some _ ho⟩ (by omega) fun h' tk acc' c' kp e it => ?_
  have el : acc'.toList.length = kvs.length := by rw [Array.length_toList, it.1, hsz, l2]
  have rv : Vals (ns.map V.int) acc'.toList := by
    refine vals_of_at (by rw [List.length_map, el, hns]) fun j x w h1 h2 => ?_
    obtain ⟨ent, hen, hv⟩ := it.2 j w (by rw [← Array.getElem?_toList]; exact h2)
    obtain ⟨hj, ej⟩ := Array.getElem?_eq_some_iff.mp hen
    have hjw : j < ws.length := by omega
    have hwj : ws[j]? = some (ws[j].1, ws[j].2) := by simp [hjw]
    obtain ⟨hi, _⟩ := hent j hj ws[j].1 ws[j].2 hwj
    have e1 : (kvs.map (·.1))[j]? = some ws[j].1 := by rw [KV.keys rk, List.getElem?_map, hwj] <;> rfl
    rw [en, List.getElem?_map] at e1
    rw [List.getElem?_map] at h1
    cases e2 : ns[j]? with
    | none =>
      rw [e2] at h1
      cases h1
    | some n =>
      rw [e2] at h1 e1
      cases h1
      have e3 : ws[j].1 = Sum.inl n := (Option.some.inj e1).symm
      rw [ej] at hi
      have e4 : RelV (kV ws[j].1) ent.key := keyIs_rel hi
      rw [e3] at e4
      rw [hv]
      exact e4
  have hz : (ns.map V.int).length ≤ sizeLine := by
    rw [List.length_map]
    omega
  refine ⟨.ref _, _, I2.laid (t' := tk) (o := .lst (ns.map V.int)) kp (Nat.le_refl _) ⟨hz, acc'.toList, c', rv, by rw [Array.toArray_toList]; exact e⟩, rfl, q _ (I2.hok.fresh (Nat.le_refl _))⟩
end
end L2

/-! MR4 -/
/-! list(zip(s, t)) of two tuples: a new list of new pairs. -/
namespace L2
open PySem PySem.Spec PyProof.Rows RZ
theorem lz_len : typeLookup (.type "zip") "__len__" = pure none := am_miss_of_fast (by decide +kernel)
theorem lz_hint : typeLookup (.type "zip") "__length_hint__" = pure none := am_miss_of_fast (by decide +kernel)
section
variable {prog : Program} {w : World} {A : Around} {E : Value → Shared → Prop} {s : Shared}
variable {z TI TO T i1 i2 l1 l2 : Addr} {f : Bool} {oT : Obj} {k1 k2 : Nat} {xs ys : Array Value}
/-- the next pair while the last one is still there -/
theorem lz_item {x y : Value} {Q : Option Value → Shared → Prop} (D : ZipApart z TI TO i1 i2 l1 l2)
    (hz : IsZipHeld s.heap z TI TO T f)
    (hT : s.heap.get? T = some oT)
    (hTI : IsPair s.heap TI (.ref i1) (.ref i2)) (h1 : s.heap.IsTupleIter i1 l1 k1)
    (h2 : s.heap.IsTupleIter i2 l2 k2) (hl1 : s.heap.IsTuple l1 xs)
    (hl2 : s.heap.IsTuple l2 ys) (hx : xs[k1]? = some x)
    (hy : ys[k2]? = some y)
    (q : ∀ h', IsZipHeld h' z TI TO T true → h'.IsTupleIter i1 l1 (k1 + 1) → h'.IsTupleIter i2 l2 (k2 + 1) → IsPair h' s.heap.objs.size x y → h'.objs.size = s.heap.objs.size + 1 → (∀ c o, c ≠ z → c ≠ i1 → c ≠ i2 → s.heap.get? c = some o → h'.get? c = some o) → Q (some (.ref s.heap.objs.size)) { s with heap := h' }) :
    wpAny (model prog w) A (pyNext (.ref z)) Q E s := by
  have ty : s.TypeIs (.ref z) "zip" := ⟨_, hz, rfl⟩
  unfold pyNext
  refine wpAny_bind (wpAny_attempt (wpAny_callSpecial?_slot (name := Str.ofString "__next__") ty F.slot_zip_next (wpAny_call_entry F.slot_zip_next ty F.entry_zip_next ?_ (F.args_zip_next_1 _))))
  show wpAny _ _ (field (.ref z) 2 >>= _) _ _ _
  refine wpAny_bind (wpAny_field hz rfl (x := .bool false) rfl ?_)
  show wpAny _ _ (field (.ref z) 3 >>= _) _ _ _
  refine wpAny_bind (wpAny_field hz rfl (x := .ref TI) rfl (wpAny_bind (wpAny_seqItems hTI rfl ?_)))
  show wpAny _ _ (Builtin.SmallTypes.ownedTupleIsFree (.ref z) >>= _) _ _ _
  refine wpAny_bind (wpAny_tupleHeld_zip hz hT fun g1 z1 b1 => ?_)
  simp only [Bool.false_eq_true, if_false]
  refine wpAny_bind ?_
  rw [← Array.forIn_toList]
  simp only [List.forIn_cons, List.forIn_nil]
  refine wpAny_bind (wpAny_bind (wpAny_holding ?_))
  show wpAny _ _ (Builtin.SmallTypes.nextOf (.ref i1) >>= _) _ _ _
  refine wpAny_bind (nextOf_tuple_item (s := { s with heap := g1 }) (h1.extBut b1.extBut D.i1z) (hl1.extBut b1.extBut D.l1z) hx fun g2 i2' b2 => wpAny_pure (wpAny_pure ?_))
  refine wpAny_bind (wpAny_bind (wpAny_holding ?_))
  show wpAny _ _ (Builtin.SmallTypes.nextOf (.ref i2) >>= _) _ _ _
  refine wpAny_bind (nextOf_tuple_item (s := { s with heap := g2 }) ((h2.extBut b1.extBut D.i2z).extBut b2.extBut D.i12.symm) ((hl2.extBut b1.extBut D.l2z).extBut b2.extBut D.l2i1) hy fun g3 i3' b3 => wpAny_pure ?_)
  refine wpAny_pure (wpAny_pure ?_)
  show wpAny _ _ (newTuple [x, y] >>= _) _ _ _
  refine wpAny_bind (wpAny_newTuple ?_)
  have sz : g3.objs.size = s.heap.objs.size := by rw [b3.1, b2.1, b1.1]
  have z3 : IsZipHeld g3 z TI TO T true := b3.extBut _ _ D.i2z.symm (b2.extBut _ _ D.i1z.symm z1)
  have kp : ∀ c o, c ≠ z → c ≠ i1 → c ≠ i2 → s.heap.get? c = some o → g3.get? c = some o := fun c o c1 c2 c3 e => b3.extBut _ _ c3 (b2.extBut _ _ c2 (b1.extBut _ _ c1 e))
  have j1 : g3.IsTupleIter i1 l1 (k1 + 1) := i2'.extBut b3.extBut D.i12
  refine wpAny_pure ⟨_, rfl, wpAny_pure ?_⟩
  show Q (some (.ref g3.objs.size)) _
  have pr : IsPair (g3.push { cls := .type "tuple", data := .seq #[x, y] }) g3.objs.size x y := Heap.get?_push_size _ rfl
  have sz4 : (g3.push { cls := .type "tuple", data := .seq #[x, y] }).objs.size = g3.objs.size + 1 := Heap.size_push ..
  rw [sz] at pr sz4 ⊢
  exact q _ (Heap.get?_push_of_some _ z3) (j1.at fun o e => Heap.get?_push_of_some _ e) (i3'.at fun o e => Heap.get?_push_of_some _ e) pr sz4 fun c o c1 c2 c3 e => Heap.get?_push_of_some _ (kp c o c1 c2 c3 e)
/-- no next pair while the last one is still there -/
theorem lz_end {Q : Option Value → Shared → Prop} (hh : A.handled = none) (D : ZipApart z TI TO i1 i2 l1 l2)
    (hz : IsZipHeld s.heap z TI TO T f)
    (hT : s.heap.get? T = some oT)
    (hTI : IsPair s.heap TI (.ref i1) (.ref i2)) (h1 : s.heap.IsTupleIter i1 l1 k1)
    (h2 : s.heap.IsTupleIter i2 l2 k2) (hl1 : s.heap.IsTuple l1 xs)
    (hl2 : s.heap.IsTuple l2 ys) (he : xs[k1]? = none ∨ ys[k2]? = none)
    (q : ∀ h', (∀ c o, c ≠ z → c ≠ i1 → c ≠ i2 → s.heap.get? c = some o → h'.get? c = some o) → Q none { s with heap := h' }) :
    wpAny (model prog w) A (pyNext (.ref z)) Q E s := by
  have ty : s.TypeIs (.ref z) "zip" := ⟨_, hz, rfl⟩
  unfold pyNext
  refine wpAny_bind (wpAny_attempt (wpAny_callSpecial?_slot (name := Str.ofString "__next__") ty F.slot_zip_next (wpAny_call_entry F.slot_zip_next ty F.entry_zip_next ?_ (F.args_zip_next_1 _))))
  show wpAny _ _ (field (.ref z) 2 >>= _) _ _ _
  refine wpAny_bind (wpAny_field hz rfl (x := .bool false) rfl ?_)
  show wpAny _ _ (field (.ref z) 3 >>= _) _ _ _
  refine wpAny_bind (wpAny_field hz rfl (x := .ref TI) rfl (wpAny_bind (wpAny_seqItems hTI rfl ?_)))
  show wpAny _ _ (Builtin.SmallTypes.ownedTupleIsFree (.ref z) >>= _) _ _ _
  refine wpAny_bind (wpAny_tupleHeld_zip hz hT fun g1 z1 b1 => ?_)
  simp only [Bool.false_eq_true, if_false]
  refine wpAny_bind ?_
  rw [← Array.forIn_toList]
  simp only [List.forIn_cons, List.forIn_nil]
  refine wpAny_bind (wpAny_bind (wpAny_holding ?_))
  show wpAny _ _ (Builtin.SmallTypes.nextOf (.ref i1) >>= _) _ _ _
  cases hx : xs[k1]? with
  | none =>
    refine wpAny_bind (nextOf_tuple_end (s := { s with heap := g1 }) hh (h1.extBut b1.extBut D.i1z) (hl1.extBut b1.extBut D.l1z) hx fun g2 e b2 ho => ?_)
    obtain ⟨o, ho, hc⟩ := ho
    refine wpAny_bind (wpAny_isInstance (T := "StopIteration") (b := true) ⟨o, ho, hc⟩ isSubtype_stop ?_)
    exact wpAny_pure (q _ fun c o c1 c2 _ x => b2 _ _ c2 (b1.extBut _ _ c1 x))
  | some x =>
    have hy : ys[k2]? = none := by
      rcases he with h | h
      · rw [hx] at h
        cases h
      · exact h
    refine wpAny_bind (nextOf_tuple_item (s := { s with heap := g1 }) (h1.extBut b1.extBut D.i1z) (hl1.extBut b1.extBut D.l1z) hx fun g2 i2' b2 => wpAny_pure (wpAny_pure ?_))
    refine wpAny_bind (wpAny_bind (wpAny_holding ?_))
    show wpAny _ _ (Builtin.SmallTypes.nextOf (.ref i2) >>= _) _ _ _
    refine wpAny_bind (nextOf_tuple_end (s := { s with heap := g2 }) hh ((h2.extBut b1.extBut D.i2z).extBut b2.extBut D.i12.symm) ((hl2.extBut b1.extBut D.l2z).extBut b2.extBut D.l2i1) hy fun g3 e b3 ho => ?_)
    obtain ⟨o, ho, hc⟩ := ho
    refine wpAny_bind (wpAny_isInstance (T := "StopIteration") (b := true) ⟨o, ho, hc⟩ isSubtype_stop ?_)
    exact wpAny_pure (q _ fun c o c1 c2 c3 x => b3 _ _ c3 (b2.extBut _ _ c2 (b1.extBut _ _ c1 x)))
end
/-! ### the loop -/
section
variable {X : Cx} {pins : List (Addr × Obj)} {σ : L2.St} {l1 l2 z TI TO i1 i2 D : Addr} {xs ys : List V} {H1 : Hp}
/-- behind i turns: ts the pairs that stand in the list at D -/
structure LzInv (X : Cx) (pins : List (Addr × Obj)) (σ : L2.St) (l1 l2 z TI TO i1 i2 D : Addr) (xs ys : List V) (H1 : Hp) (ts : List Addr) (s : Shared) (H : Hp) : Prop where
  I : Inv X pins σ H s
  same : Same H1 H
  fp : ∀ c ∈ [z, TI, TO, i1, i2], FpOk X pins H c
  zip : (ts = [] ∧ IsZip s.heap z TI TO .none ∧ ∃ a b, IsPair s.heap TO a b) ∨ ∃ T f oT, IsZipHeld s.heap z TI TO T f ∧ T ≠ z ∧ T ≠ TI ∧ T ≠ TO ∧ T ≠ i1 ∧ T ≠ i2 ∧ T ≠ D ∧ s.heap.get? T = some oT
  pTI : IsPair s.heap TI (.ref i1) (.ref i2)
  t1 : s.heap.IsTupleIter i1 l1 ts.length
  t2 : s.heap.IsTupleIter i2 l2 ts.length
  lst : H D = some (.lst (ts.map V.ref))
  lt : ∀ c ∈ [z, TI, TO, i1, i2], c < s.heap.objs.size
  few : ts.length ≤ xs.length ∧ ts.length ≤ ys.length
  prs : ∀ (j : Nat) (t : Addr) (x y : V), ts[j]? = some t → xs[j]? = some x → ys[j]? = some y → H t = some (.tup [x, y])
theorem lz_loop {A : Around} {R : Result → Shared → Prop} {res : Value} (hh : A.in1.handled = none) (Dz : ZipApart z TI TO i1 i2 l1 l2) (h1 : H1 l1 = some (.tup xs)) (h2 : H1 l2 = some (.tup ys)) (nD : H1 D = none)
    (hR : ∀ (ts : List Addr) (s' : Shared) (H' : Hp), Inv X pins σ H' s' → Same H1 H' → H' D = some (.lst (ts.map V.ref)) → ts.length = min xs.length ys.length → (∀ (j : Nat) (t : Addr) (x y : V), ts[j]? = some t → xs[j]? = some x → ys[j]? = some y → H' t = some (.tup [x, y])) → R (.ok (.ret res)) s') :
    ∀ (k : Nat) (ts : List Addr) (s : Shared) (H : Hp), min xs.length ys.length - ts.length = k → LzInv X pins σ l1 l2 z TI TO i1 i2 D xs ys H1 ts s H → codeAny (model X.prog X.w) A (.builtin "list.extend.loop" ⟨[.ref D, .ref z, res], []⟩) R s := by
  intro k
  induction k with
  | zero =>
    intro ts s H hk J
    refine codeAny_builtin F.entry_extend_loop ?_
    rw [Around.under_plainId F.plain_extend_loop _]
    show wpAny _ A.in1 (pyNext (.ref z) >>= _) _ _ s
    have f := J.few
    have hn : ts.length = min xs.length ys.length := by omega
    obtain ⟨its, rv, p, _⟩ := J.I.tuple (SqT.of (J.same _ _ h1))
    obtain ⟨its2, rv2, p2, _⟩ := J.I.tuple (SqT.of (J.same _ _ h2))
    have e1 := rv.length
    have e2 := rv2.length
    have he : its.toArray[ts.length]? = none ∨ its2.toArray[ts.length]? = none := by
      by_cases c : xs.length ≤ ys.length
      · exact .inl (by simp; omega)
      · exact .inr (by simp; omega)
    have fin : ∀ h', (∀ c o, c ≠ z → c ≠ TO → c ≠ i1 → c ≠ i2 → s.heap.get? c = some o → h'.get? c = some o) → R (.ok (.ret res)) { s with heap := h' } := fun h' kp =>
      hR ts _ H (J.I.turnedL (t' := s.toks) (ch := [z, TI, TO, i1, i2]) (fun c o hb q => kp c o (fun e => hb (by simp [e])) (fun e => hb (by simp [e])) (fun e => hb (by simp [e])) (fun e => hb (by simp [e])) q) J.fp) J.same J.lst hn J.prs
    rcases J.zip with ⟨_, hz, a, b, hTO⟩ | ⟨T, f, oT, hz, _, _, _, _, _, _, hT⟩
    · exact wpAny_bind (pyNext_zipT_end hh Dz hz J.pTI hTO J.t1 J.t2 p p2 he fun h' kp => wpAny_pure (fin h' kp))
    · exact wpAny_bind (lz_end hh Dz hz hT J.pTI J.t1 J.t2 p p2 he fun h' kp => wpAny_pure (fin h' fun c o c1 _ c3 c4 e => kp c o c1 c3 c4 e))
  | succ k ih =>
    intro ts s H hk J
    refine codeAny_builtin F.entry_extend_loop ?_
    rw [Around.under_plainId F.plain_extend_loop _]
    show wpAny _ A.in1 (pyNext (.ref z) >>= _) _ _ s
    obtain ⟨its, rv, p, _⟩ := J.I.tuple (SqT.of (J.same _ _ h1))
    obtain ⟨its2, rv2, p2, _⟩ := J.I.tuple (SqT.of (J.same _ _ h2))
    have hx : xs[ts.length]? = some (xs[ts.length]'(by omega)) := by simp
    have hy : ys[ts.length]? = some (ys[ts.length]'(by omega)) := by simp
    generalize xs[ts.length]'(by omega) = x at hx
    generalize ys[ts.length]'(by omega) = y at hy
    obtain ⟨u, hu, ru⟩ := rv.get hx
    obtain ⟨u2, hu2, ru2⟩ := rv2.get hy
    have push : ∀ h', (IsZipHeld h' z TI TO s.heap.objs.size false ∨ IsZipHeld h' z TI TO s.heap.objs.size true ∨ ∃ T f oT, IsZipHeld h' z TI TO T f ∧ T ≠ z ∧ T ≠ TI ∧ T ≠ TO ∧ T ≠ i1 ∧ T ≠ i2 ∧ T ≠ D ∧ h'.get? T = some oT) → h'.IsTupleIter i1 l1 (ts.length + 1) → h'.IsTupleIter i2 l2 (ts.length + 1) → IsPair h' s.heap.objs.size u u2 →
        (∀ c o, c ≠ z → c ≠ TO → c ≠ i1 → c ≠ i2 → s.heap.get? c = some o → h'.get? c = some o) →
        wpAny (model X.prog X.w) A.in1 (updateSeq D (·.push (.ref s.heap.objs.size)) >>= fun _ => again (.builtin "list.extend.loop" ⟨[.ref D, .ref z, res], []⟩))
          (fun fin s' => match fin with | .done f => R (.ok f) s' | .again c' => c'.quiet = true ∧ codeAny (model X.prog X.w) A c' R s') (fun e s' => R (.error e) s') { s with heap := h' } := by
      intro h' hzip a3 a4 a5 kp
      have nf : H s.heap.objs.size = none := J.I.hok.fresh (Nat.le_refl _)
      have new : ObjOk X.prog X.w (upd H s.heap.objs.size (.tup [x, y])) h' s.heap.objs.size (.tup [x, y]) := ⟨by show 2 ≤ sizeLine; decide, [u, u2], .cons ru (.cons ru2 .nil), ⟨_, a5, rfl, _, rfl⟩⟩
      have I1 : Inv X pins σ (upd H s.heap.objs.size (.tup [x, y])) { s with heap := h' } :=
        J.I.turnedNew (t' := s.toks) (ch := [z, TI, TO, i1, i2]) (fun c o hb q => kp c o (fun e => hb (by simp [e])) (fun e => hb (by simp [e])) (fun e => hb (by simp [e])) (fun e => hb (by simp [e])) q) J.fp (Nat.le_refl _) new
      have nTD : s.heap.objs.size ≠ D := (ne_of_none J.lst nf).symm
      have hD1 : (upd H s.heap.objs.size (.tup [x, y])) D = some (.lst (ts.map V.ref)) := (upd_ne nTD.symm).trans J.lst
      obtain ⟨hz, its3, n3, r3, l3, e3⟩ := I1.lstM hD1
      have len : (ts.map V.ref).length = ts.length := List.length_map _
      have zx : xs.length ≤ sizeLine := by
        obtain ⟨_, _, _, q⟩ := J.I.tuple (SqT.of (J.same _ _ h1))
        exact q
      have small : ts.length + 1 ≤ sizeLine := by omega
      have nc : ∀ c ∈ [z, TI, TO, i1, i2], c ≠ D := fun c hc => (ne_of_none J.lst (J.fp c hc).1).symm
      have oth : ∀ b o, b ≠ D → h'.get? b = some o → (h'.update D (Obj.mapSeq (·.push (.ref s.heap.objs.size)))).get? b = some o := fun b o hb e => (Heap.get?_update_other _ _ hb.symm).trans e
      have szT : s.heap.objs.size < h'.objs.size := Heap.lt_size a5
      refine wpAny_bind (wpAny_updateSeq e3 rfl ?_ (by rw [List.size_toArray, ← l3, len]; omega) (by show (its3.toArray.push _).size ≤ sizeLine + 1; rw [Array.size_push, List.size_toArray, ← l3, len]; omega))
      refine wpAny_pure ⟨plainId_quiet F.plain_extend_loop _, ih (ts ++ [s.heap.objs.size]) _ (upd (upd H s.heap.objs.size (.tup [x, y])) D (.lst ((ts ++ [s.heap.objs.size]).map V.ref))) (by rw [List.length_append]; simp; omega) ?_⟩
      have rT : Vals ((ts ++ [s.heap.objs.size]).map V.ref) (its3 ++ [Value.ref s.heap.objs.size]) := by
        rw [List.map_append]
        exact r3.append (.cons rfl .nil)
      refine {
        I := I1.lset (t' := s.toks) (its' := its3 ++ [Value.ref s.heap.objs.size]) hD1 e3 (by simp) rT (by rw [List.length_map, List.length_append]; simpa using small)
        same := fun b o e => ?_
        fp := fun c hc => ?_
        zip := .inr ?_
        pTI := oth _ _ (nc TI (by simp)) (kp _ _ Dz.TIz Dz.TITO Dz.TIi1 Dz.TIi2 J.pTI)
        t1 := ?_
        t2 := ?_
        lst := upd_same
        lt := fun c hc => ?_
        few := by rw [List.length_append]; simp; omega
        prs := fun j t x' y' ht hx' hy' => ?_ }
      · have e1 := J.same b o e
        rw [upd_ne (ne_of_none e nD), upd_ne (ne_of_none e1 nf)]
        exact e1
      · have q := J.fp c hc
        refine ⟨?_, q.2⟩
        rw [upd_ne (nc c hc), upd_ne (Nat.ne_of_lt (J.lt c hc))]
        exact q.1
      · have ht : (h'.update D (Obj.mapSeq (·.push (.ref s.heap.objs.size)))).get? s.heap.objs.size = some _ := oth _ _ nTD a5
        have ne : ∀ c ∈ [z, TI, TO, i1, i2], s.heap.objs.size ≠ c := fun c hc => (Nat.ne_of_lt (J.lt c hc)).symm
        rcases hzip with q | q | ⟨T, f, oT, q, n1, n2, n3, n4, n5, n6, hT⟩
        · exact ⟨_, _, _, oth _ _ (nc z (by simp)) q, ne z (by simp), ne TI (by simp), ne TO (by simp), ne i1 (by simp), ne i2 (by simp), nTD, ht⟩
        · exact ⟨_, _, _, oth _ _ (nc z (by simp)) q, ne z (by simp), ne TI (by simp), ne TO (by simp), ne i1 (by simp), ne i2 (by simp), nTD, ht⟩
        · exact ⟨T, f, oT, oth _ _ (nc z (by simp)) q, n1, n2, n3, n4, n5, n6, oth _ _ n6 hT⟩
      · rw [List.length_append]
        exact a3.at fun o e => oth _ o (nc i1 (by simp)) e
      · rw [List.length_append]
        exact a4.at fun o e => oth _ o (nc i2 (by simp)) e
      · have q := J.lt c hc
        show c < (h'.update D (Obj.mapSeq (·.push (.ref s.heap.objs.size)))).objs.size
        rw [Heap.size_update]
        exact Nat.lt_trans q szT
      · rw [List.getElem?_append] at ht
        by_cases hj : j < ts.length
        · rw [if_pos hj] at ht
          have q := J.prs j t x' y' ht hx' hy'
          rw [upd_ne (ne_of J.lst q (by intro z; cases z)).symm, upd_ne (ne_of_none q nf)]
          exact q
        · rw [if_neg hj] at ht
          have hj0 : j = ts.length := by
            have := (List.getElem?_eq_some_iff.mp ht).1
            simp at this
            omega
          subst hj0
          rw [hx] at hx'
          rw [hy] at hy'
          cases hx'
          cases hy'
          simp at ht
          subst ht
          rw [upd_ne nTD]
          exact upd_same
    rcases J.zip with ⟨_, hz, a, b, hTO⟩ | ⟨T, f, oT, hz, n1, n2, n3, n4, n5, n6, hT⟩
    · refine wpAny_bind (pyNext_zipT_item Dz hz J.pTI hTO J.t1 J.t2 p p2 (x := u) (y := u2) (by simpa using hu) (by simpa using hu2) fun h' a1 _ a3 a4 a5 _ kp => ?_)
      exact push h' (.inl a1) a3 a4 a5 kp
    · refine wpAny_bind (lz_item Dz hz hT J.pTI J.t1 J.t2 p p2 (x := u) (y := u2) (by simpa using hu) (by simpa using hu2) fun h' a1 a3 a4 a5 _ kp => ?_)
      exact push h' (.inr (.inr ⟨T, true, oT, a1, n1, n2, n3, n4, n5, n6, kp _ _ n1 n4 n5 hT⟩)) a3 a4 a5 fun c o c1 _ c3 c4 e => kp c o c1 c3 c4 e
end
/-! ### the whole expression -/
section
variable {X : Cx} {pins : List (Addr × Obj)} {σ : L2.St}
/-- a zip of the tuples at a and b, not begun -/
structure LzMade (X : Cx) (pins : List (Addr × Obj)) (σ : L2.St) (a b z TI TO i1 i2 : Addr) (H1 : Hp) (s : Shared) : Prop where
  I : Inv X pins σ H1 s
  ap : ZipApart z TI TO i1 i2 a b
  fp : ∀ c ∈ [z, TI, TO, i1, i2], FpOk X pins H1 c
  lt : ∀ c ∈ [z, TI, TO, i1, i2], c < s.heap.objs.size
  zip : IsZip s.heap z TI TO .none
  pTI : IsPair s.heap TI (.ref i1) (.ref i2)
  pTO : IsPair s.heap TO .none .none
  t1 : s.heap.IsTupleIter i1 a 0
  t2 : s.heap.IsTupleIter i2 b 0
def tListZip (ta : TA) : TE := fun σ H Q => ta σ H fun vs H1 => ∃ a b xs ys, vs = [.ref a, .ref b] ∧ H1 a = some (.tup xs) ∧ H1 b = some (.tup ys) ∧ ∀ (D : Addr) (ts : List Addr) (H' : Hp), Same H1 H' → H1 D = none → H' D = some (.lst (ts.map V.ref)) → ts.length = min xs.length ys.length →
  (∀ (j : Nat) (t : Addr) (x y : V), ts[j]? = some t → xs[j]? = some x → ys[j]? = some y → H' t = some (.tup [x, y])) → Q (.ref D) H'
theorem lz_zip {e e2 : Expr} {ta : TA} {p pos : Pos} {s : Shared} {H : Hp} {Q : List V → Hp → Prop} (hg : Gl X "zip") (hm : X.mg "zip" = none) (ha : PA X [e, e2] ta) (I : Inv X pins σ H s)
    (hs : starEach [e, e2] X.env = (false, eval e X.env) :: starEach [e2] X.env) (hpl : (backTo pos (starEach [e2] X.env)).any (·.1) = false)
    (hQ : ∀ vs H1, Q vs H1 → ∃ a b xs ys, vs = [.ref a, .ref b] ∧ H1 a = some (.tup xs) ∧ H1 b = some (.tup ys))
    (h : ta σ H Q) :
    wpAny (model X.prog X.w) X.A (eval (.Call (.Name "zip" p) [e, e2] [] pos) X.env) (fun v s' => ∃ a b z TI TO i1 i2 H1, v = .ref z ∧ LzMade X pins σ a b z TI TO i1 i2 H1 s' ∧ Q [.ref a, .ref b] H1) X.xe s := by
  refine Call_ (ld_blt I hg hm PyProof.Rows.boot_zip (PyProof.Rows.callWith_type1 (thn (ha.run pos pins s σ H _ I h) fun us s1 ⟨vs, H1, I1, r1, q⟩ => ?_) hs hpl))
  obtain ⟨a, b, xs, ys, ev, h1, h2⟩ := hQ vs H1 q
  subst ev
  cases r1 with
  | cons r rr =>
    cases rr with
    | cons r' rr =>
      cases rr
      cases r
      cases r'
      obtain ⟨its, _, p1, _⟩ := I1.tuple (SqT.of h1)
      obtain ⟨its2, _, p2, _⟩ := I1.tuple (SqT.of h2)
      obtain ⟨o1, ho1, _⟩ := id p1
      obtain ⟨o2, ho2, _⟩ := id p2
      refine call_zipT (show s1.heap.IsTuple a its.toArray from p1) (show s1.heap.IsTuple b its2.toArray from p2) fun h' hz hTI hTO t1 t2 hsz hk => ?_
      have ge : ∀ c ∈ [s1.heap.objs.size + 4, s1.heap.objs.size + 2, s1.heap.objs.size + 3, s1.heap.objs.size, s1.heap.objs.size + 1], s1.heap.objs.size ≤ c ∧ c < s1.heap.objs.size + 5 := fun c hc => by
        simp only [List.mem_cons, List.not_mem_nil, or_false] at hc
        rcases hc with q | q | q | q | q <;> rw [q] <;> exact ⟨by simp, by simp⟩
      refine ⟨a, b, s1.heap.objs.size + 4, s1.heap.objs.size + 2, s1.heap.objs.size + 3, s1.heap.objs.size, s1.heap.objs.size + 1, H1, rfl, ⟨I1.kept (t' := s1.toks) hk, PySem.W.ktu_apart s1.heap.objs.size a b (Heap.lt_size ho1) (Heap.lt_size ho2), fun c hc => ?_, fun c hc => ?_, hz, hTI, hTO, t1, t2⟩, q⟩
      · exact I1.fpOk (ge c hc).1 (I1.hok.fresh (ge c hc).1)
      · show c < h'.objs.size
        rw [hsz]
        exact (ge c hc).2
theorem lz_list {A : Around} {E : Value → Shared → Prop} {Q : Value → Shared → Prop} {a b z TI TO i1 i2 : Addr} {xs ys : List V} {H1 : Hp} {s : Shared} (hh : A.handled = none) (M : LzMade X pins σ a b z TI TO i1 i2 H1 s) (h1 : H1 a = some (.tup xs)) (h2 : H1 b = some (.tup ys))
    (hR : ∀ (D : Addr) (ts : List Addr) (s' : Shared) (H' : Hp), Inv X pins σ H' s' → Same H1 H' → H1 D = none → H' D = some (.lst (ts.map V.ref)) → ts.length = min xs.length ys.length → (∀ (j : Nat) (t : Addr) (x y : V), ts[j]? = some t → xs[j]? = some x → ys[j]? = some y → H' t = some (.tup [x, y])) → Q (.ref D) s') :
    wpAny (model X.prog X.w) A (call (.type "list") [.ref z]) Q E s := by
  have nDz : s.heap.objs.size ≠ z := (Nat.ne_of_lt (M.lt z (by simp))).symm
  refine callType_codes (Q₁ := fun obj s₁ => obj = .ref s.heap.objs.size ∧ s₁ = { s with heap := s.heap.push { cls := .type "list", data := .seq #[] } }) F.called_list (F.typeCall_list_1 _) F.entry_list_init (code_list_new _ ⟨rfl, rfl⟩) fun obj s₁ h₁ => ?_
  obtain ⟨rfl, rfl⟩ := h₁
  have d1 : (s.heap.push { cls := .type "list", data := .seq #[] }).get? s.heap.objs.size = some { cls := .type "list", data := .seq #[] } := Heap.get?_push_size _ rfl
  refine ⟨⟨_, d1, rfl⟩, F.args_list_init_2 _ _, ?_⟩
  show wpAny _ A.in1.in1 (Builtin.List.listItems (.ref s.heap.objs.size) >>= _) _ _ _
  refine wpAny_bind ?_
  unfold Builtin.List.listItems
  refine wpAny_bind (wpAny_seqItems d1 rfl (wpAny_pure ?_))
  show wpAny _ A.in1.in1 (updateSeq s.heap.objs.size (fun _ => #[]) >>= _) _ _ _
  refine wpAny_bind (wpAny_updateSeq d1 rfl ?_)
  have d2 := Heap.get?_update_self (Obj.mapSeq (fun _ => (#[] : Array Value))) d1 rfl
  refine wpAny_bind (wpAny_letGo ?_)
  unfold Builtin.List.listExtendWith
  have up : ∀ (g : Heap) (f : Obj → Obj), (∀ c o, s.heap.get? c = some o → g.get? c = some o) → ∀ c o, s.heap.get? c = some o → (g.update s.heap.objs.size f).get? c = some o := fun g f q c o e => (Heap.get?_update_other _ _ (Ne.symm (Nat.ne_of_lt (Heap.lt_size e)))).trans (q c o e)
  have u1 : ∀ c o, s.heap.get? c = some o → (s.heap.push { cls := .type "list", data := .seq #[] }).get? c = some o := fun c o e => Heap.get?_push_of_some _ e
  have u2 := up _ (Obj.mapSeq (fun _ => (#[] : Array Value))) u1
  have zt : ∀ {g : Heap}, (∀ c o, s.heap.get? c = some o → g.get? c = some o) → ({ s with heap := g } : Shared).TypeIs (.ref z) "zip" := fun {g} q => ⟨_, q _ _ M.zip, rfl⟩
  refine wpAny_bind (wpAny_typeOf (zt u2) ?_)
  have c1 : Builtin.List.listSameRef (.ref s.heap.objs.size) (.ref z) = false := by simp [Builtin.List.listSameRef, nDz]
  have c2 : (Value.type "zip" == Value.type "list") = false := by decide
  have c3 : (Value.type "zip" == Value.type "tuple") = false := by decide
  simp only [c1, c2, c3, Bool.or_false, Bool.false_eq_true, if_false]
  refine wpAny_bind (wpAny_pyIter_zip (u2 _ _ M.zip) ?_)
  refine wpAny_bind (wpAny_holding ?_)
  unfold Builtin.List.listLengthHint
  refine wpAny_bind (wpAny_specialOf (zt u2) lz_len ?_)
  show wpAny _ A.in1.in1 (specialOf (Value.ref z) (Str.ofString "__length_hint__") >>= _) _ _ _
  refine wpAny_bind (wpAny_specialOf (zt u2) lz_hint ?_)
  refine wpAny_pure ?_
  show wpAny _ A.in1.in1 (rule "list.extend.makes-room" >>= _) _ _ _
  refine wpAny_bind (wpAny_rule (wpAny_bind ?_))
  show wpAny _ A.in1.in1 (updateSeq s.heap.objs.size (·.push .none) >>= _) _ _ _
  refine wpAny_bind (wpAny_updateSeq d2 rfl ?_)
  have d3 := Heap.get?_update_self (Obj.mapSeq (·.push Value.none)) d2 rfl
  refine wpAny_updateSeq (hz := by seq_fits) d3 rfl ?_
  have d4 := Heap.get?_update_self (Obj.mapSeq (·.pop)) d3 rfl
  have u4 := up _ (Obj.mapSeq (·.pop)) (up _ (Obj.mapSeq (·.push Value.none)) u2)
  refine wpAny_pure ⟨plainId_quiet F.plain_extend_loop _, ?_⟩
  have nf : H1 s.heap.objs.size = none := M.I.hok.fresh (Nat.le_refl _)
  have szz : s.heap.objs.size < (((((s.heap.push { cls := .type "list", data := .seq #[] }).update s.heap.objs.size (Obj.mapSeq (fun _ => (#[] : Array Value)))).update s.heap.objs.size (Obj.mapSeq (·.push Value.none))).update s.heap.objs.size (Obj.mapSeq (·.pop)))).objs.size := Heap.lt_size d4
  refine lz_loop (A := A.in1) (H1 := H1) (xs := xs) (ys := ys) (l1 := a) (l2 := b) (TI := TI) (TO := TO) (i1 := i1) (i2 := i2) hh M.ap h1 h2 nf (fun ts s' H' I' sm hl hn hp => ⟨rfl, hR _ ts s' H' I' sm nf hl hn hp⟩) _ [] _ (upd H1 s.heap.objs.size (.lst [])) rfl {
    I := M.I.laid (t' := s.toks) u4 (Nat.le_refl _) ⟨Nat.zero_le _, [], _, .nil, d4⟩
    same := fun c o e => (upd_ne (ne_of_none e nf)).trans e
    fp := fun c hc => ⟨(upd_ne (Nat.ne_of_lt (M.lt c hc))).trans (M.fp c hc).1, (M.fp c hc).2⟩
    zip := .inl ⟨rfl, u4 _ _ M.zip, _, _, u4 _ _ M.pTO⟩
    pTI := u4 _ _ M.pTI
    t1 := M.t1.at fun o e => u4 _ o e
    t2 := M.t2.at fun o e => u4 _ o e
    lst := upd_same
    lt := fun c hc => Nat.lt_trans (M.lt c hc) szz
    few := ⟨Nat.zero_le _, Nat.zero_le _⟩
    prs := fun j t x y h => by simp at h }
theorem pe_listZip {X : Cx} {e e2 : Expr} {ta : TA} {p pos p2 pos2 : Pos} (hc : X.calm = true) (hg : Gl X "list") (hm : X.mg "list" = none) (hg2 : Gl X "zip") (hm2 : X.mg "zip" = none) (ha : PA X [e, e2] ta)
    (na : starEach [Expr.Call (.Name "zip" p2) [e, e2] [] pos2] X.env = (false, eval (.Call (.Name "zip" p2) [e, e2] [] pos2) X.env) :: starEach [] X.env := by rfl)
    (hs : starEach [e, e2] X.env = (false, eval e X.env) :: starEach [e2] X.env := by rfl) (hpl : (backTo pos2 (starEach [e2] X.env)).any (·.1) = false := by rfl) :
    PE X (.Call (.Name "list" p) [.Call (.Name "zip" p2) [e, e2] [] pos2] [] pos) (tListZip ta) := by
  refine ⟨fun pins s σ H Q I h => ?_⟩
  refine Call_ (ld_blt I hg hm boot_list (PyProof.Rows.callWith_type1 (args_cons (thn (lz_zip hg2 hm2 ha I hs hpl (fun vs H1 ⟨a, b, xs, ys, ev, h1, h2, _⟩ => ⟨a, b, xs, ys, ev, h1, h2⟩) h) fun v s1 ⟨a, b, z, TI, TO, i1, i2, H1, ev, M, q⟩ => args_nil ?_) na) na))
  subst ev
  obtain ⟨a', b', xs, ys, ev, h1, h2, q⟩ := q
  cases ev
  exact lz_list (I.ok.hd hc) M h1 h2 fun D ts s' H' I' sm nD hl hn hp => ⟨.ref D, H', I', rfl, q D ts H' sm nD hl hn hp⟩
end
end L2

/-! MR9 -/
/-! list(enumerate(xs, start=k)) of a list: a new list of new pairs. -/
namespace L2
open PySem PySem.Spec PyProof.Rows
theorem le_len : typeLookup (.type "enumerate") "__len__" = pure none := am_miss_of_fast (by decide +kernel)
theorem le_hint : typeLookup (.type "enumerate") "__length_hint__" = pure none := am_miss_of_fast (by decide +kernel)
section
variable {prog : Program} {w : World} {A : Around} {E : Value → Shared → Prop} {s : Shared}
variable {e it l T : Addr} {n : Nat} {c : Int} {zs : Array Value} {x o : Value} {f : Bool} {oT : Obj}
/-- the next pair while the last one is still there -/
theorem le_item {Q : Option Value → Shared → Prop} (he : IsEnumHeld s.heap e it c o T f) (hT : s.heap.get? T = some oT) (t1 : T ≠ e) (t2 : T ≠ it) (hi : s.heap.IsListIter it l n) (hl : s.heap.IsList l zs) (hx : zs[n]? = some x) (ne : e ≠ it)
    (q : ∀ h', IsEnumHeld h' e it (c + 1) o T true → h'.IsListIter it l (n + 1) → h'.get? s.heap.objs.size = some { cls := .type "tuple", data := .seq #[.int c s.toks, x] } → h'.objs.size = s.heap.objs.size + 1 → (∀ b u, b ≠ e → b ≠ it → s.heap.get? b = some u → h'.get? b = some u) → Q (some (.ref s.heap.objs.size)) { s with heap := h', toks := s.toks + 1 }) :
    wpAny (model prog w) A (pyNext (.ref e)) Q E s := by
  have ty : s.TypeIs (.ref e) "enumerate" := ⟨_, he, rfl⟩
  obtain ⟨h0, gg, dd, tk, os⟩ := s
  unfold pyNext
  refine wpAny_bind (wpAny_attempt (wpAny_callSpecial?_slot (name := Str.ofString "__next__") ty F.slot_enumerate_next (wpAny_call_entry F.slot_enumerate_next ty F.entry_enumerate_next ?_ (F.args_enumerate_next_1 _))))
  show wpAny _ _ (field (.ref e) 2 >>= _) _ _ _
  refine wpAny_bind (wpAny_field he rfl (x := .ref it) rfl ?_)
  refine wpAny_bind (wpAny_nextOf_list_item hi hl hx fun g1 i1 b1 => ?_)
  have b1' : Heap.SameBut it h0 g1 := b1
  have e1 : IsEnumHeld g1 e it c o T f := (b1'.2 e ne).trans he
  show wpAny _ _ (field (.ref e) 3 >>= _) _ _ ⟨g1, gg, dd, tk, os⟩
  refine wpAny_bind (wpAny_field e1 rfl (x := rawInt c) rfl ?_)
  show wpAny _ _ (field (.ref e) 4 >>= _) _ _ ⟨g1, gg, dd, tk, os⟩
  refine wpAny_bind (wpAny_field e1 rfl (x := .none) rfl ?_)
  show wpAny _ _ (mkInt c >>= _) _ _ ⟨g1, gg, dd, tk, os⟩
  refine wpAny_bind (wpAny_mkInt ?_)
  show wpAny _ _ (setField (.ref e) 3 (rawInt (c + 1)) >>= _) _ _ ⟨g1, gg, dd, tk + 1, os⟩
  refine wpAny_bind (wpAny_setField_rec e1 (by simp) fun g2 e2 b2 => ?_)
  have b2' : Heap.SameBut e g1 g2 := b2
  have e2' : IsEnumHeld g2 e it (c + 1) o T f := e2
  show wpAny _ _ (setField (.ref e) 4 .none >>= _) _ _ ⟨g2, gg, dd, tk + 1, os⟩
  refine wpAny_bind (wpAny_setField_rec e2' (by simp) fun g3 e3 b3 => ?_)
  have b3' : Heap.SameBut e g2 g3 := b3
  have e3' : IsEnumHeld g3 e it (c + 1) o T f := e3
  show wpAny _ _ (newTuple [.int c tk, x] >>= _) _ _ ⟨g3, gg, dd, tk + 1, os⟩
  refine wpAny_bind (wpAny_newTuple ?_)
  have sz : g3.objs.size = h0.objs.size := by rw [b3'.1, b2'.1, b1'.1]
  have lt : e < h0.objs.size := Heap.lt_size he
  have kp3 : ∀ b u, b ≠ e → b ≠ it → h0.get? b = some u → g3.get? b = some u := fun b u n1 n2 z => b3'.extBut b u n1 (b2'.extBut b u n1 (b1'.extBut b u n2 z))
  have i3 : g3.IsListIter it l (n + 1) := (i1.extBut b2'.extBut ne.symm).extBut b3'.extBut ne.symm
  obtain ⟨g4, hg4⟩ : ∃ g4, g4 = g3.push { cls := .type "tuple", data := .seq #[.int c tk, x] } := ⟨_, rfl⟩
  have e4 : IsEnumHeld g4 e it (c + 1) o T f := by
    rw [hg4]
    exact Heap.get?_push_of_some _ e3'
  have tu : g4.get? h0.objs.size = some { cls := .type "tuple", data := .seq #[.int c tk, x] } := by
    rw [hg4, ← sz]
    exact Heap.get?_push_size _ rfl
  have sz4 : g4.objs.size = h0.objs.size + 1 := by rw [hg4, Heap.size_push, sz]
  have kp4 : ∀ b u, b ≠ e → b ≠ it → h0.get? b = some u → g4.get? b = some u := fun b u n1 n2 z => by
    rw [hg4]
    exact Heap.get?_push_of_some _ (kp3 b u n1 n2 z)
  have i4 : g4.IsListIter it l (n + 1) := by
    rw [hg4]
    exact i3.at fun u z => Heap.get?_push_of_some _ z
  rw [← hg4, sz]
  clear hg4
  show wpAny _ _ (Builtin.SmallTypes.ownedTupleIsFree (.ref e) >>= _) _ _ ⟨g4, gg, dd, tk + 1, os⟩
  refine wpAny_bind (wpAny_tupleHeld_enum (s := ⟨g4, gg, dd, tk + 1, os⟩) e4 (kp4 T oT t1 t2 hT) fun g5 e5 b5 => ?_)
  have b5' : Heap.SameBut e g4 g5 := b5
  simp only [Bool.false_eq_true, if_false]
  refine wpAny_pure ⟨_, rfl, wpAny_pure ?_⟩
  refine q g5 e5 (i4.extBut b5'.extBut ne.symm) (b5'.extBut _ _ (Nat.ne_of_gt lt) tu) ?_ fun b u n1 n2 z => b5'.extBut b u n1 (kp4 b u n1 n2 z)
  show g5.objs.size = _
  rw [b5'.1, sz4]
theorem le_end {Q : Option Value → Shared → Prop} (hh : A.handled = none) (he : IsEnumHeld s.heap e it c o T f) (hi : s.heap.IsListIter it l n) (hl : s.heap.IsList l zs) (hx : zs[n]? = none) (q : ∀ h', Heap.ExtBut it s.heap h' → Q none { s with heap := h' }) :
    wpAny (model prog w) A (pyNext (.ref e)) Q E s := by
  have ty : s.TypeIs (.ref e) "enumerate" := ⟨_, he, rfl⟩
  unfold pyNext
  refine wpAny_bind (wpAny_attempt (wpAny_callSpecial?_slot (name := Str.ofString "__next__") ty F.slot_enumerate_next (wpAny_call_entry F.slot_enumerate_next ty F.entry_enumerate_next ?_ (F.args_enumerate_next_1 _))))
  show wpAny _ _ (field (.ref e) 2 >>= _) _ _ _
  refine wpAny_bind (wpAny_field he rfl (x := .ref it) rfl ?_)
  refine wpAny_bind (wpAny_nextOf_list_end hh hi hl hx fun g1 y b1 hy => ?_)
  obtain ⟨oy, hoy, hcy⟩ := hy
  refine wpAny_bind (wpAny_isInstance (T := "StopIteration") (b := true) ⟨oy, hoy, hcy⟩ isSubtype_stop ?_)
  exact wpAny_pure (q _ b1)
end
/-! ### the loop -/
section
variable {X : Cx} {pins : List (Addr × Obj)} {σ : L2.St} {l e it D : Addr} {k : Int} {xs : List V} {H1 : Hp}
structure LeInv (X : Cx) (pins : List (Addr × Obj)) (σ : L2.St) (l e it D : Addr) (k : Int) (xs : List V) (H1 : Hp) (ts : List Addr) (s : Shared) (H : Hp) : Prop where
  I : Inv X pins σ H s
  same : Same H1 H
  fp : ∀ c ∈ [e, it], FpOk X pins H c
  en : (ts = [] ∧ ∃ o, IsEnum s.heap e it k o) ∨ ∃ T f oT o, IsEnumHeld s.heap e it (k + (ts.length : Nat)) o T f ∧ T ≠ e ∧ T ≠ it ∧ T ≠ D ∧ s.heap.get? T = some oT
  li : s.heap.IsListIter it l ts.length
  lst : H D = some (.lst (ts.map V.ref))
  lt : ∀ c ∈ [e, it], c < s.heap.objs.size
  few : ts.length ≤ xs.length
  prs : ∀ (j : Nat) (t : Addr) (x : V), ts[j]? = some t → xs[j]? = some x → H t = some (.tup [.int (k + (j : Nat)), x])
theorem le_loop {A : Around} {R : Result → Shared → Prop} {res : Value} (hh : A.in1.handled = none) (ne : e ≠ it) (nl : l ≠ it) (h1 : H1 l = some (.lst xs)) (nD : H1 D = none)
    (hR : ∀ (ts : List Addr) (s' : Shared) (H' : Hp), Inv X pins σ H' s' → Same H1 H' → H' D = some (.lst (ts.map V.ref)) → ts.length = xs.length → (∀ (j : Nat) (t : Addr) (x : V), ts[j]? = some t → xs[j]? = some x → H' t = some (.tup [.int (k + (j : Nat)), x])) → R (.ok (.ret res)) s') :
    ∀ (m : Nat) (ts : List Addr) (s : Shared) (H : Hp), xs.length - ts.length = m → LeInv X pins σ l e it D k xs H1 ts s H → codeAny (model X.prog X.w) A (.builtin "list.extend.loop" ⟨[.ref D, .ref e, res], []⟩) R s := by
  intro m
  induction m with
  | zero =>
    intro ts s H hk J
    refine codeAny_builtin F.entry_extend_loop ?_
    rw [Around.under_plainId F.plain_extend_loop _]
    show wpAny _ A.in1 (pyNext (.ref e) >>= _) _ _ s
    have f := J.few
    have hn : ts.length = xs.length := by omega
    obtain ⟨z, its, n0, r0, len0, e0⟩ := J.I.lstM (J.same _ _ h1)
    have hL : s.heap.IsList l its.toArray := ⟨_, e0, rfl, n0, rfl⟩
    have hx : its.toArray[ts.length]? = none := by simp; omega
    have fin : ∀ h', Heap.ExtBut it s.heap h' → R (.ok (.ret res)) { s with heap := h' } := fun h' kp =>
      hR ts _ H (J.I.turnedL (t' := s.toks) (ch := [e, it]) (fun c u hb q => kp c u (fun z => hb (by simp [z])) q) J.fp) J.same J.lst hn J.prs
    rcases J.en with ⟨_, o, hz⟩ | ⟨T, f, oT, o, hz, _⟩
    · have hz0 : its.toArray.size = ts.length := by simp; omega
      refine wpAny_bind (wpAny_pyNext_enum_endD (Draws.list (A := A.in1.in1) (show A.in1.in1.handled = none from hh) it l nl its.toArray) hz ?_ fun h' kp => wpAny_pure (fin h' kp))
      rw [hz0]
      exact ⟨J.li, hL⟩
    · exact wpAny_bind (le_end hh hz J.li hL hx fun h' kp => wpAny_pure (fin h' kp))
  | succ m ih =>
    intro ts s H hk J
    refine codeAny_builtin F.entry_extend_loop ?_
    rw [Around.under_plainId F.plain_extend_loop _]
    show wpAny _ A.in1 (pyNext (.ref e) >>= _) _ _ s
    obtain ⟨z, its, n0, r0, len0, e0⟩ := J.I.lstM (J.same _ _ h1)
    have hL : s.heap.IsList l its.toArray := ⟨_, e0, rfl, n0, rfl⟩
    have hx : xs[ts.length]? = some (xs[ts.length]'(by omega)) := by simp
    generalize xs[ts.length]'(by omega) = x at hx
    obtain ⟨u, hu, ru⟩ := r0.get hx
    have hu' : its.toArray[ts.length]? = some u := by simpa using hu
    have push : ∀ (h' : Heap) (tk : Nat) (tt : Tok), (∃ T f oT o, IsEnumHeld h' e it (k + (ts.length : Nat) + 1) o T f ∧ T ≠ e ∧ T ≠ it ∧ T ≠ D ∧ (T = s.heap.objs.size ∨ h'.get? T = some oT)) → h'.IsListIter it l (ts.length + 1) → h'.get? s.heap.objs.size = some { cls := .type "tuple", data := .seq #[.int (k + (ts.length : Nat)) tt, u] } →
        (∀ c o, c ≠ e → c ≠ it → s.heap.get? c = some o → h'.get? c = some o) →
        wpAny (model X.prog X.w) A.in1 (updateSeq D (·.push (.ref s.heap.objs.size)) >>= fun _ => again (.builtin "list.extend.loop" ⟨[.ref D, .ref e, res], []⟩))
          (fun fin s' => match fin with | .done f => R (.ok f) s' | .again c' => c'.quiet = true ∧ codeAny (model X.prog X.w) A c' R s') (fun e s' => R (.error e) s') { s with heap := h', toks := tk } := by
      intro h' tk tt hen a3 a5 kp
      have nf : H s.heap.objs.size = none := J.I.hok.fresh (Nat.le_refl _)
      have new : ObjOk X.prog X.w (upd H s.heap.objs.size (.tup [.int (k + (ts.length : Nat)), x])) h' s.heap.objs.size (.tup [.int (k + (ts.length : Nat)), x]) := ⟨by show 2 ≤ sizeLine; decide, [.int (k + (ts.length : Nat)) tt, u], .cons ⟨_, rfl⟩ (.cons ru .nil), ⟨_, a5, rfl, _, rfl⟩⟩
      have I1 : Inv X pins σ (upd H s.heap.objs.size (.tup [.int (k + (ts.length : Nat)), x])) { s with heap := h', toks := tk } :=
        J.I.turnedNew (t' := tk) (ch := [e, it]) (fun c o hb q => kp c o (fun z => hb (by simp [z])) (fun z => hb (by simp [z])) q) J.fp (Nat.le_refl _) new
      have nTD : s.heap.objs.size ≠ D := (ne_of_none J.lst nf).symm
      have hD1 : (upd H s.heap.objs.size (.tup [.int (k + (ts.length : Nat)), x])) D = some (.lst (ts.map V.ref)) := (upd_ne nTD.symm).trans J.lst
      obtain ⟨hz, its3, n3, r3, l3, e3⟩ := I1.lstM hD1
      have len : (ts.map V.ref).length = ts.length := List.length_map _
      have small : ts.length + 1 ≤ sizeLine := by omega
      have nc : ∀ c ∈ [e, it], c ≠ D := fun c hc => (ne_of_none J.lst (J.fp c hc).1).symm
      have oth : ∀ b o, b ≠ D → h'.get? b = some o → (h'.update D (Obj.mapSeq (·.push (.ref s.heap.objs.size)))).get? b = some o := fun b o hb z => (Heap.get?_update_other _ _ hb.symm).trans z
      have szT : s.heap.objs.size < h'.objs.size := Heap.lt_size a5
      refine wpAny_bind (wpAny_updateSeq e3 rfl ?_ (by rw [List.size_toArray, ← l3, len]; omega) (by show (its3.toArray.push _).size ≤ sizeLine + 1; rw [Array.size_push, List.size_toArray, ← l3, len]; omega))
      refine wpAny_pure ⟨plainId_quiet F.plain_extend_loop _, ih (ts ++ [s.heap.objs.size]) _ (upd (upd H s.heap.objs.size (.tup [.int (k + (ts.length : Nat)), x])) D (.lst ((ts ++ [s.heap.objs.size]).map V.ref))) (by rw [List.length_append]; simp; omega) ?_⟩
      have rT : Vals ((ts ++ [s.heap.objs.size]).map V.ref) (its3 ++ [Value.ref s.heap.objs.size]) := by
        rw [List.map_append]
        exact r3.append (.cons rfl .nil)
      refine {
        I := I1.lset (t' := tk) (its' := its3 ++ [Value.ref s.heap.objs.size]) hD1 e3 (by simp) rT (by rw [List.length_map, List.length_append]; simpa using small)
        same := fun b o z => ?_
        fp := fun c hc => ?_
        en := .inr ?_
        li := ?_
        lst := upd_same
        lt := fun c hc => ?_
        few := by rw [List.length_append]; simp; omega
        prs := fun j t x' ht hx' => ?_ }
      · have z1 := J.same b o z
        rw [upd_ne (ne_of_none z nD), upd_ne (ne_of_none z1 nf)]
        exact z1
      · have q := J.fp c hc
        refine ⟨?_, q.2⟩
        rw [upd_ne (nc c hc), upd_ne (Nat.ne_of_lt (J.lt c hc))]
        exact q.1
      · obtain ⟨T, f, oT, o, q, n1, n2, n3', hT⟩ := hen
        have hT' : ∃ oT, (h'.update D (Obj.mapSeq (·.push (.ref s.heap.objs.size)))).get? T = some oT := by
          rcases hT with z | z
          · rw [z]
            exact ⟨_, oth _ _ nTD a5⟩
          · exact ⟨_, oth _ _ n3' z⟩
        obtain ⟨oT2, hT2⟩ := hT'
        refine ⟨T, f, oT2, o, ?_, n1, n2, n3', hT2⟩
        have ec : k + (((ts ++ [s.heap.objs.size]).length : Nat) : Int) = k + (ts.length : Nat) + 1 := by rw [List.length_append]; simp; omega
        rw [ec]
        exact oth _ _ (nc e (by simp)) q
      · rw [List.length_append]
        exact a3.at fun o z => oth _ o (nc it (by simp)) z
      · have q := J.lt c hc
        show c < (h'.update D (Obj.mapSeq (·.push (.ref s.heap.objs.size)))).objs.size
        rw [Heap.size_update]
        exact Nat.lt_trans q szT
      · rw [List.getElem?_append] at ht
        by_cases hj : j < ts.length
        · rw [if_pos hj] at ht
          have q := J.prs j t x' ht hx'
          rw [upd_ne (ne_of J.lst q (by intro z; cases z)).symm, upd_ne (ne_of_none q nf)]
          exact q
        · rw [if_neg hj] at ht
          have hj0 : j = ts.length := by
            have := (List.getElem?_eq_some_iff.mp ht).1
            simp at this
            omega
          subst hj0
          rw [hx] at hx'
          cases hx'
          simp at ht
          subst ht
          rw [upd_ne nTD]
          exact upd_same
    have ltm : ∀ c ∈ [e, it], s.heap.objs.size ≠ c := fun c hc => (Nat.ne_of_lt (J.lt c hc)).symm
    have nsD : s.heap.objs.size ≠ D := (ne_of_none J.lst (J.I.hok.fresh (Nat.le_refl _))).symm
    rcases J.en with ⟨hts, o, hz⟩ | ⟨T, f, oT, o, hz, n1, n2, n3, hT⟩
    · have hz' : IsEnum s.heap e it (k + (ts.length : Nat)) o := by
        rw [hts]
        simpa using hz
      refine wpAny_bind (wpAny_pyNext_enum_itemC (Draws.list (A := A.in1.in1) (show A.in1.in1.handled = none from hh) it l nl its.toArray) hz' ⟨J.li, hL⟩ (by simp; omega) ne (by
        simp only [List.mem_cons, List.not_mem_nil, or_false, not_or]
        refine ⟨ne, fun z => ?_⟩
        have q := (J.fp e (by simp)).1
        rw [z, J.same _ _ h1] at q
        cases q) fun x2 h' tk hP a1 a2 a3 a4 kp => ?_)
      have ex : x2 = u := by
        have q := hu'.symm.trans hP
        exact (Option.some.inj q).symm
      subst ex
      exact push h' (tk + 1) tk ⟨s.heap.objs.size, false, { cls := .type "tuple" }, _, a1, ltm e (by simp), ltm it (by simp), nsD, .inl rfl⟩ a2.1 a3 kp
    · refine wpAny_bind (le_item hz hT n1 n2 J.li hL hu' ne fun h' a1 a2 a3 a4 kp => ?_)
      exact push h' (s.toks + 1) s.toks ⟨T, true, oT, o, a1, n1, n2, n3, .inr (kp T oT n1 n2 hT)⟩ a2 a3 kp
end
/-! ### the whole expression -/
section
variable {M : Model} {A : Around} {E : Value → Shared → Prop} {s : Shared}
/-- a built-in class called with keywords -/
theorem ckt {pos : Pos} {T : String} {as : List (Bool × Sem Value)} {kws : List (Option Str × Sem Value)} {Q : Value → Shared → Prop} (h1 : as.any (·.1) = false) (h2 : kws.any (·.1.isNone) = false)
    (h : wpAny M A (evalArgs (.type T) true as kws) (fun a s1 => wpAny M A (call (.type T) a.pos a.kw) Q E s1) E s) : wpAny M A (callWith pos (.type T) [] as kws) Q E s := by
  unfold callWith
  refine wpAny_bind (wpAny_holding (wpAny_mono h (fun b t1 hb => wpAny_bind (wpAny_standAt ?_)) fun _ _ z => z))
  simp only [h1, h2, Bool.or_false, List.nil_append]
  refine wpAny_bind (wpAny_pure ?_)
  exact wpAny_bind (wpAny_mono hb (fun v t2 hv => wpAny_bind (wpAny_holding (wpAny_point (wpAny_pure hv)))) fun _ _ z => z)
end
section
variable {X : Cx} {pins : List (Addr × Obj)} {σ : L2.St}
structure LeMade (X : Cx) (pins : List (Addr × Obj)) (σ : L2.St) (l e it : Addr) (k : Int) (H1 : Hp) (s : Shared) : Prop where
  I : Inv X pins σ H1 s
  ne : e ≠ it
  fp : ∀ c ∈ [e, it], FpOk X pins H1 c
  lt : ∀ c ∈ [e, it], c < s.heap.objs.size
  en : ∃ o, IsEnum s.heap e it k o
  li : s.heap.IsListIter it l 0
def tListEnum (te tk : TE) : TE := fun σ H Q => te σ H fun x H1 => tk σ H1 fun y H2 => ∃ (l : Addr) (xs : List V) (k : Int), x = .ref l ∧ y = .int k ∧ H2 l = some (.lst xs) ∧ -(2 ^ 63) ≤ k ∧ k < 2 ^ 63 ∧ ∀ (D : Addr) (ts : List Addr) (H' : Hp), Same H2 H' → H2 D = none → H' D = some (.lst (ts.map V.ref)) → ts.length = xs.length →
  (∀ (j : Nat) (t : Addr) (x : V), ts[j]? = some t → xs[j]? = some x → H' t = some (.tup [.int (k + (j : Nat)), x])) → Q (.ref D) H'
theorem le_list {A : Around} {E : Value → Shared → Prop} {Q : Value → Shared → Prop} {l e it : Addr} {k : Int} {xs : List V} {H1 : Hp} {s : Shared} (hh : A.handled = none) (M : LeMade X pins σ l e it k H1 s) (h1 : H1 l = some (.lst xs))
    (hR : ∀ (D : Addr) (ts : List Addr) (s' : Shared) (H' : Hp), Inv X pins σ H' s' → Same H1 H' → H1 D = none → H' D = some (.lst (ts.map V.ref)) → ts.length = xs.length → (∀ (j : Nat) (t : Addr) (x : V), ts[j]? = some t → xs[j]? = some x → H' t = some (.tup [.int (k + (j : Nat)), x])) → Q (.ref D) s') :
    wpAny (model X.prog X.w) A (call (.type "list") [.ref e]) Q E s := by
  have nDe : s.heap.objs.size ≠ e := (Nat.ne_of_lt (M.lt e (by simp))).symm
  obtain ⟨o0, hen⟩ := M.en
  refine callType_codes (Q₁ := fun obj s₁ => obj = .ref s.heap.objs.size ∧ s₁ = { s with heap := s.heap.push { cls := .type "list", data := .seq #[] } }) F.called_list (F.typeCall_list_1 _) F.entry_list_init (code_list_new _ ⟨rfl, rfl⟩) fun obj s₁ h₁ => ?_
  obtain ⟨rfl, rfl⟩ := h₁
  have d1 : (s.heap.push { cls := .type "list", data := .seq #[] }).get? s.heap.objs.size = some { cls := .type "list", data := .seq #[] } := Heap.get?_push_size _ rfl
  refine ⟨⟨_, d1, rfl⟩, F.args_list_init_2 _ _, ?_⟩
  show wpAny _ A.in1.in1 (Builtin.List.listItems (.ref s.heap.objs.size) >>= _) _ _ _
  refine wpAny_bind ?_
  unfold Builtin.List.listItems
  refine wpAny_bind (wpAny_seqItems d1 rfl (wpAny_pure ?_))
  show wpAny _ A.in1.in1 (updateSeq s.heap.objs.size (fun _ => #[]) >>= _) _ _ _
  refine wpAny_bind (wpAny_updateSeq d1 rfl ?_)
  have d2 := Heap.get?_update_self (Obj.mapSeq (fun _ => (#[] : Array Value))) d1 rfl
  refine wpAny_bind (wpAny_letGo ?_)
  unfold Builtin.List.listExtendWith
  have up : ∀ (g : Heap) (f : Obj → Obj), (∀ c o, s.heap.get? c = some o → g.get? c = some o) → ∀ c o, s.heap.get? c = some o → (g.update s.heap.objs.size f).get? c = some o := fun g f q c o z => (Heap.get?_update_other _ _ (Ne.symm (Nat.ne_of_lt (Heap.lt_size z)))).trans (q c o z)
  have u1 : ∀ c o, s.heap.get? c = some o → (s.heap.push { cls := .type "list", data := .seq #[] }).get? c = some o := fun c o z => Heap.get?_push_of_some _ z
  have u2 := up _ (Obj.mapSeq (fun _ => (#[] : Array Value))) u1
  have zt : ∀ {g : Heap}, (∀ c o, s.heap.get? c = some o → g.get? c = some o) → ({ s with heap := g } : Shared).TypeIs (.ref e) "enumerate" := fun {g} q => ⟨_, q _ _ hen, rfl⟩
  refine wpAny_bind (wpAny_typeOf (zt u2) ?_)
  have c1 : Builtin.List.listSameRef (.ref s.heap.objs.size) (.ref e) = false := by simp [Builtin.List.listSameRef, nDe]
  have c2 : (Value.type "enumerate" == Value.type "list") = false := by decide
  have c3 : (Value.type "enumerate" == Value.type "tuple") = false := by decide
  simp only [c1, c2, c3, Bool.or_false, Bool.false_eq_true, if_false]
  refine wpAny_bind (wpAny_pyIter_enum (u2 _ _ hen) ?_)
  refine wpAny_bind (wpAny_holding ?_)
  unfold Builtin.List.listLengthHint
  refine wpAny_bind (wpAny_specialOf (zt u2) le_len ?_)
  show wpAny _ A.in1.in1 (specialOf (Value.ref e) (Str.ofString "__length_hint__") >>= _) _ _ _
  refine wpAny_bind (wpAny_specialOf (zt u2) le_hint ?_)
  refine wpAny_pure ?_
  show wpAny _ A.in1.in1 (rule "list.extend.makes-room" >>= _) _ _ _
  refine wpAny_bind (wpAny_rule (wpAny_bind ?_))
  show wpAny _ A.in1.in1 (updateSeq s.heap.objs.size (·.push .none) >>= _) _ _ _
  refine wpAny_bind (wpAny_updateSeq d2 rfl ?_)
  have d3 := Heap.get?_update_self (Obj.mapSeq (·.push Value.none)) d2 rfl
  refine wpAny_updateSeq (hz := by seq_fits) d3 rfl ?_
  have d4 := Heap.get?_update_self (Obj.mapSeq (·.pop)) d3 rfl
  have u4 := up _ (Obj.mapSeq (·.pop)) (up _ (Obj.mapSeq (·.push Value.none)) u2)
  refine wpAny_pure ⟨plainId_quiet F.plain_extend_loop _, ?_⟩
  have nf : H1 s.heap.objs.size = none := M.I.hok.fresh (Nat.le_refl _)
  have szz : s.heap.objs.size < (((((s.heap.push { cls := .type "list", data := .seq #[] }).update s.heap.objs.size (Obj.mapSeq (fun _ => (#[] : Array Value)))).update s.heap.objs.size (Obj.mapSeq (·.push Value.none))).update s.heap.objs.size (Obj.mapSeq (·.pop)))).objs.size := Heap.lt_size d4
  have nlit : l ≠ it := fun z => by
    have q := (M.fp it (by simp)).1
    rw [← z, h1] at q
    cases q
  refine le_loop (A := A.in1) (H1 := H1) (xs := xs) (l := l) (it := it) hh M.ne nlit h1 nf (fun ts s' H' I' sm hl hn hp => ⟨rfl, hR _ ts s' H' I' sm nf hl hn hp⟩) _ [] _ (upd H1 s.heap.objs.size (.lst [])) rfl {
    I := M.I.laid (t' := s.toks) u4 (Nat.le_refl _) ⟨Nat.zero_le _, [], _, .nil, d4⟩
    same := fun c o z => (upd_ne (ne_of_none z nf)).trans z
    fp := fun c hc => ⟨(upd_ne (Nat.ne_of_lt (M.lt c hc))).trans (M.fp c hc).1, (M.fp c hc).2⟩
    en := .inl ⟨rfl, o0, u4 _ _ hen⟩
    li := M.li.at fun o z => u4 _ o z
    lst := upd_same
    lt := fun c hc => Nat.lt_trans (M.lt c hc) szz
    few := Nat.zero_le _
    prs := fun j t x h => by simp at h }
def leRest (x y : V) (H2 : Hp) (Q : VK) : Prop := ∃ (l : Addr) (xs : List V) (k : Int), x = .ref l ∧ y = .int k ∧ H2 l = some (.lst xs) ∧ -(2 ^ 63) ≤ k ∧ k < 2 ^ 63 ∧ ∀ (D : Addr) (ts : List Addr) (H' : Hp), Same H2 H' → H2 D = none → H' D = some (.lst (ts.map V.ref)) → ts.length = xs.length →
  (∀ (j : Nat) (t : Addr) (x : V), ts[j]? = some t → xs[j]? = some x → H' t = some (.tup [.int (k + (j : Nat)), x])) → Q (.ref D) H'
theorem pe_listEnum {X : Cx} {e ke : Expr} {te tk : TE} {p pos p2 pos2 kp : Pos} (hc : X.calm = true) (hg : Gl X "list") (hm : X.mg "list" = none) (hg2 : Gl X "enumerate") (hm2 : X.mg "enumerate" = none) (ha : PA X [e] (tCons te tNil)) (hk : PK X [⟨some "start", ke, kp⟩] (tCons tk tNil))
    (na : starEach [Expr.Call (.Name "enumerate" p2) [e] [⟨some "start", ke, kp⟩] pos2] X.env = (false, eval (.Call (.Name "enumerate" p2) [e] [⟨some "start", ke, kp⟩] pos2) X.env) :: starEach [] X.env := by rfl)
    (hs : starEach [e] X.env = (false, eval e X.env) :: starEach [] X.env := by rfl) :
    PE X (.Call (.Name "list" p) [.Call (.Name "enumerate" p2) [e] [⟨some "start", ke, kp⟩] pos2] [] pos) (tListEnum te tk) := by
  refine ⟨fun pins s σ H Q I h => ?_⟩
  have h' : te σ H fun x H1 => tk σ H1 fun y H2 => leRest x y H2 Q := h
  refine Call_ (ld_blt I hg hm boot_list (PyProof.Rows.callWith_type1 (args_cons (thn (Q := fun v s1 => ∃ l e it k H1 xs, v = .ref e ∧ LeMade X pins σ l e it k H1 s1 ∧ H1 l = some (.lst xs) ∧ ∀ (D : Addr) (ts : List Addr) (H' : Hp), Same H1 H' → H1 D = none → H' D = some (.lst (ts.map V.ref)) → ts.length = xs.length →
    (∀ (j : Nat) (t : Addr) (x : V), ts[j]? = some t → xs[j]? = some x → H' t = some (.tup [.int (k + (j : Nat)), x])) → Q (.ref D) H') ?_ fun v s1 ⟨l, e0, it, k, H1, xs, ev, M, h1, q⟩ => args_nil ?_) na) na))
  · refine wpAny_Call_Name_kw (ld_blt I hg2 hm2 boot_enumerate ?_)
    refine ckt (by rw [hs]; rfl) rfl ?_
    have run1 := ha.run pos2 pins s σ H (fun vs H1 => match vs with | [x] => tk σ H1 fun y H2 => leRest x y H2 Q | _ => False) I h'
    rw [hs] at run1 ⊢
    refine evalArgs_kwB rfl (thn run1 fun us s1 ⟨vs, H1, I1, r1, q1⟩ => ?_)
    match vs, r1, q1 with
    | [x], r1, q1 =>
      refine thn (hk.run pos2 pins s1 σ H1 (fun ws H2 => match ws with | [y] => leRest x y H2 Q | _ => False) I1 q1) fun ws s2 ⟨zs, H2, I2, r2, q2⟩ => ?_
      match zs, r2, q2 with
      | [y], r2, q2 =>
        obtain ⟨l, xs, k, rfl, rfl, hl, k0, k1, q3⟩ := q2
        cases r1 with
        | cons ra rb =>
          cases rb
          cases ra
          cases r2 with
          | cons rc rd =>
            cases rd
            obtain ⟨tt, rfl⟩ := rc
            obtain ⟨z, its, n0, r0, len0, e0⟩ := I2.lstM hl
            show wpAny _ _ (call (.type "enumerate") [.ref l] [(Str.ofString "start", .int k tt)]) _ _ _
            refine enum_begins_start (begins_list l its.toArray) ⟨_, e0, rfl, n0, rfl⟩ k0 k1 fun h' he hi hsz hk' => ?_
            have ge : ∀ c ∈ [s2.heap.objs.size + 1, s2.heap.objs.size], s2.heap.objs.size ≤ c ∧ c < s2.heap.objs.size + 2 := fun c hc => by
              simp only [List.mem_cons, List.not_mem_nil, or_false] at hc
              rcases hc with q | q <;> rw [q] <;> exact ⟨by simp, by simp⟩
            refine ⟨l, _, s2.heap.objs.size, k, H2, xs, rfl, ⟨I2.kept (t' := s2.toks) hk', Nat.succ_ne_self _, fun c hc => I2.fpOk (ge c hc).1 (I2.hok.fresh (ge c hc).1), fun c hc => ?_, ⟨_, he⟩, ⟨_, hi, rfl, rfl⟩⟩, hl, q3⟩
            show c < h'.objs.size
            rw [hsz]
            exact (ge c hc).2
  · subst ev
    exact le_list (I.ok.hd hc) M h1 fun D ts s' H' I' sm nD hl hn hp => ⟨.ref D, H', I', rfl, q D ts H' sm nD hl hn hp⟩
end
end L2

/-! MR10 -/
/-! t[::-1] of a tuple: a new tuple. -/
namespace HT
open PySem PySem.Spec PyProof.Rows L2
section
variable {prog : Program} {w : World} {A : Around} {E : Value → Shared → Prop} {s : Shared}
theorem adjust_rev (n : Nat) : Builtin.Slice.sliceAdjust none none (-1) (n : Int) = ((n : Int) - 1, -1) := rfl
theorem places_rev (n : Nat) : Builtin.Slice.slicePlaces ((n : Int) - 1) (-1) (-1) = n := by
  unfold Builtin.Slice.slicePlaces
  have h1 : ¬ ((-1 : Int) > 0) := by decide
  rw [if_neg h1]
  split
  · rw [show (-(-1) : Int) = 1 by decide, Int.ediv_one]
    omega
  · omega
theorem sliceApplied_rev {sl : Addr} {vs : Value} {n : Nat} {Q : Int × Int × Nat → Shared → Prop} (hs : s.heap.IsSliceOf sl .none .none vs) (ps : IsPart vs (some (-1)))
    (h : Q ((n : Int) - 1, -1, n) s) : wpAny (model prog w) A (Builtin.Slice.sliceApplied (.ref sl) (pure (n : Int))) Q E s := by
  obtain ⟨os, hos, hcs, hds⟩ := id hs
  unfold Builtin.Slice.sliceApplied Builtin.Slice.sliceFields
  refine wpAny_bind (wpAny_bind (wpAny_field hos hds (x := .none) rfl (wpAny_bind (wpAny_field hos hds (x := .none) rfl (wpAny_bind (wpAny_field hos hds (x := vs) rfl (wpAny_pure ?_)))))))
  refine wpAny_bind (slicePart_ ps ?_)
  show wpAny _ _ (if ((-1 : Int) == 0) = true then _ else _) _ _ s
  rw [if_neg (by decide)]
  refine wpAny_bind (slicePart_ .none (wpAny_bind (slicePart_ .none (wpAny_bind (wpAny_pure ?_)))))
  show wpAny _ _ (match Builtin.Slice.sliceAdjust none none (-1) (n : Int) with | (lo, hi) => pure (lo, (-1 : Int), Builtin.Slice.slicePlaces lo hi (-1))) _ _ s
  rw [adjust_rev n]
  show wpAny _ _ (pure ((n : Int) - 1, (-1 : Int), Builtin.Slice.slicePlaces ((n : Int) - 1) (-1) (-1))) _ _ s
  rw [places_rev]
  exact wpAny_pure h
theorem fm_congr {α β : Type} {f g : α → Option β} : ∀ {l : List α}, (∀ x ∈ l, f x = g x) → l.filterMap f = l.filterMap g
  | [], _ => rfl
  | x :: l, h => by
    rw [List.filterMap_cons, List.filterMap_cons, h x (by simp), fm_congr fun y hy => h y (List.mem_cons_of_mem _ hy)]
theorem pick_rev (xs : Array Value) : ((List.range xs.size).filterMap fun (m : Nat) => xs[((xs.size : Int) - 1 + (m : Int) * -1).toNat]?).toArray = xs.toList.reverse.toArray := by
  have e : (List.range xs.size).filterMap (fun (m : Nat) => xs[((xs.size : Int) - 1 + (m : Int) * -1).toNat]?) = ((List.range xs.size).map (fun k => xs.size - 1 - k)).filterMap (xs[·]?) := by
    rw [List.filterMap_map]
    refine fm_congr fun k hk => ?_
    have := List.mem_range.mp hk
    have e2 : ((xs.size : Int) - 1 + (k : Int) * -1).toNat = xs.size - 1 - k := by omega
    show xs[((xs.size : Int) - 1 + (k : Int) * -1).toNat]? = xs[xs.size - 1 - k]?
    rw [e2]
  rw [e, PySem.W.krv_range, List.filterMap_reverse, PySem.W.krv_all]
theorem getItem_tuple_rev {t sl : Addr} {items : Array Value} {vs : Value} {Q : Value → Shared → Prop} (ht : IsTup s.heap t items) (hs : s.heap.IsSliceOf sl .none .none vs) (ps : IsPart vs (some (-1)))
    (h : Q (.ref s.heap.objs.size) { s with heap := s.heap.push { cls := .type "tuple", data := .seq items.toList.reverse.toArray } })
    (hsz : items.size ≤ sizeLine) : wpAny (model prog w) A (getItem (.ref t) (.ref sl)) Q E s := by
  have htake : sizeOk (.seq items.toList.reverse.toArray) := by
    show items.toList.reverse.toArray.size ≤ sizeLine
    rw [List.size_toArray, List.length_reverse, Array.length_toList]
    exact hsz
  obtain ⟨os, hos, hcs, hds⟩ := id hs
  have hTs : s.TypeIs (.ref sl) "slice" := ⟨os, hos, hcs⟩
  unfold getItem
  try with_reducible refine wpAny_holding ?_
  first | refine wpAny_bind (wpAny_pure ?_) | skip
  refine wpAny_bind (wpAny_sequenceKey ht.typeIs (by decide) ?_)
  refine wpAny_bind (wpAny_callSpecial?_slot (name := Str.ofString "__getitem__") ht.typeIs PyProof.Rows.slot_tuple_getitem
    (wpAny_call_entry PyProof.Rows.slot_tuple_getitem ht.typeIs entry_tuple_getitem ?_ (args_tuple_getitem _ _)))
  show wpAny _ _ (Builtin.Tuple.tupleItemsOf (.ref t) >>= _) _ _ s
  refine wpAny_bind (tupleItemsOf_ ht ?_)
  refine wpAny_bind (wpAny_typeOf hTs ?_)
  rw [if_pos (by decide)]
  refine wpAny_bind (sliceApplied_rev hs ps ?_)
  have hno : ¬ (((items.size : Int) - 1 == 0 && (-1 : Int) == 1 && items.size == items.size) = true) := by
    intro q
    rw [Bool.and_eq_true, Bool.and_eq_true] at q
    exact absurd q.1.2 (by decide)
  show wpAny _ _ (if ((items.size : Int) - 1 == 0 && (-1 : Int) == 1 && items.size == items.size) = true then _ else _) _ _ s
  rw [if_neg hno, pick_rev]
  first
    | exact wpAny_bind (m := Builtin.Tuple.tupleExact _) (wpAny_newObj_type (wpAny_pure ⟨_, rfl, wpAny_pure h⟩) htake)
    | exact wpAny_bind (m := Builtin.Tuple.tupleExact _) (wpAny_newObj_type (wpAny_bind (wpAny_pure (wpAny_pure ⟨_, rfl, wpAny_pure h⟩))) htake)
    | exact wpAny_bind (wpAny_bind (m := Builtin.Tuple.tupleExact _) (wpAny_newObj_type (wpAny_pure (wpAny_pure ⟨_, rfl, wpAny_pure h⟩)) htake))
    | exact wpAny_bind (wpAny_bind (m := Builtin.Tuple.tupleExact _) (wpAny_newObj_type (wpAny_pure ⟨_, rfl, wpAny_pure h⟩) htake))
end
end HT
namespace Mw
open PySem PySem.Spec PyProof.Rows L2
def tRevT (K : PySem.W.Frag) (te : TE) : TE := fun σ H Q => te σ H fun x H1 => ∃ a xs, x = .ref a ∧ SqT K H1 a xs ∧ ∀ p, H1 p = none → Q (.ref p) (upd H1 p (.tup xs.reverse))
theorem pe_revT {X : Cx} {e : Expr} {te : TE} {k : Nat} {p1 p2 p3 pos : Pos} (he : PE X e te) : PE X (.Subscript e (.Slice none none (some (.UnaryOp .USub (.Constant (.int 1) k p1) p2)) p3) pos) (tRevT X.K te) := by
  refine ⟨fun pins s σ H Q I h => ?_⟩
  refine Subscript_ (thn (he.run pins s σ H _ I h) fun v s1 ⟨x, H1, I1, r1, q1⟩ => ?_)
  obtain ⟨a, xs, ex, hx, q⟩ := q1
  subst ex
  cases r1
  have hst : PO X (some (.UnaryOp .USub (.Constant (.int 1) k p1) p2)) (tPart (tUn (rU fun i => .int (-i)) (tC (.int 1)))) := po_some (pe_un un_neg pe_int)
  refine wpAny_Slice (thn (po_none.run pins s1 σ H1 (fun o H2 => o = none ∧ H2 = H1) I1 ⟨rfl, rfl⟩) fun vl s2 ⟨l, H2, I2, pl, el, e2⟩ => ?_)
  subst el e2
  refine thn (po_none.run pins s2 σ H2 (fun o H3 => o = none ∧ H3 = H2) I2 ⟨rfl, rfl⟩) fun vu s3 ⟨u, H3, I3, pu, eu, e3⟩ => ?_
  subst eu e3
  refine thn (hst.run pins s3 σ H3 (fun o H4 => o = some (-1) ∧ H4 = H3) I3 ⟨1, rfl, -1, rfl, rfl, rfl⟩) fun vs s4 ⟨o, H4, I4, ps, eo, e4⟩ => ?_
  subst eo e4
  cases pl
  cases pu
  have I5 : Inv X pins σ H4 { s4 with heap := s4.heap.push { cls := .type "slice", data := .fields #[.none, .none, vs] } } := I4.kept (t' := s4.toks) fun b ob q => Heap.get?_push_of_some _ q
  obtain ⟨its, r, ht, hz⟩ := I5.tuple hx
  have hlen := r.length
  show wpAny (model X.prog X.w) X.A (subscriptTail e (.Slice none none (some (.UnaryOp .USub (.Constant (.int 1) k p1) p2)) p3) (.ref a) (.ref s4.heap.objs.size)) (EP X pins σ Q) X.xe { s4 with heap := s4.heap.push { cls := .type "slice", data := .fields #[.none, .none, vs] } }
  refine tail_any (ops := [.ref a, .ref s4.heap.objs.size]) ht.typeIs PyProof.Rows.slot_tuple_getitem.lookup ?_ (by with_unfolding_all rfl)
  refine HT.getItem_tuple_rev ht (Heap.IsSliceOf.new _ .none .none vs) ps ?_ (by rw [List.size_toArray]; omega)
  refine ⟨.ref _, _, I5.laid (t' := s4.toks) (o := .tup xs.reverse) (fun b ob q => Heap.get?_push_of_some _ q) (Nat.le_refl _) ?_, rfl, q _ (I5.hok.fresh (Nat.le_refl _))⟩
  exact ⟨by rw [List.length_reverse]; exact hz, _, r.reverse, IsTup.new _ _⟩
theorem rd_revT {K : PySem.W.Frag} {te : TE} {σ : L2.St} {H : Hp} {Q : VK} (h : te σ H fun x H1 => ∃ a xs, x = .ref a ∧ SqT K H1 a xs ∧ ∀ p, H1 p = none → Q (.ref p) (upd H1 p (.tup xs.reverse))) : tRevT K te σ H Q := h
end Mw

/-! R1 -/
/-! Readings, frames, data that may hold lists and dicts apart from some objects that change. -/
namespace Mw
open PySem L2
theorem rd_ite {b : Bool} {A B : Prop} (h1 : b = true → A) (h0 : b = false → B) : if b = true then A else B := by
  cases b
  · rw [if_neg Bool.false_ne_true]
    exact h0 rfl
  · rw [if_pos rfl]
    exact h1 rfl
section
variable {K : PySem.W.Frag}
theorem rd_ixT {H : Hp} {Q : VK} {a : Addr} {xs : List V} {i : Int} {v : V} (h : H a = some (.tup xs)) (e : atI xs i = some v) (q : Q v H) : rIxT K (.ref a) (.int i) H Q := ⟨a, xs, i, v, rfl, rfl, SqT.of h, e, q⟩
theorem rd_ixL {H : Hp} {Q : VK} {a : Addr} {xs : List V} {i : Int} {v : V} (h : H a = some (.lst xs)) (e : atI xs i = some v) (q : Q v H) : rIxL K (.ref a) (.int i) H Q := ⟨a, xs, i, v, rfl, rfl, SqL.of h, e, q⟩
end
theorem take_snoc {α : Type} {L : List α} {i : Nat} {q : α} (h : L[i]? = some q) : L.take (i + 1) = L.take i ++ [q] := by
  rw [List.take_add_one, h]
  rfl
theorem rd_gset {Q : L2.St → Hp → Prop} {σ σ' : L2.St} {i : Nat} {v : V} {H : Hp} (h : List.set σ i (some v) = σ') (q : Q σ' H) : L2.gName i v σ H Q := by
  subst h
  exact q
theorem rd_dput {td ty tv : TE} {D : Ends} {σ : L2.St} {H : Hp} (h : tv σ H fun v H1 => td σ H1 fun x H2 => ty σ H2 fun y H3 => ∃ a H4, x = V.ref a ∧ DPut H3 a y v H4 ∧ D.nx σ H4) : sDPut td ty tv D σ H := h
theorem rd_dget {td ty : TE} {σ : L2.St} {H : Hp} {Q : VK} (h : td σ H fun x H1 => ty σ H1 fun y H2 => ∃ a v, x = V.ref a ∧ DGet H2 a y (some v) ∧ Q v H2) : tDGet td ty σ H Q := h
theorem rd_chain {r r' : R2} {ta tb tc : TE} {σ : L2.St} {H : Hp} {Q : VK} (h : ta σ H fun x H1 => tb σ H1 fun y H2 => r x y H2 fun z H3 => ∃ k, z = V.bl k ∧ if k = true then tc σ H3 fun w' H4 => r' y w' H4 Q else Q (V.bl false) H3) : tChain r r' ta tb tc σ H Q := h
theorem rd_gsub {to ti : TE} {t : TSet} {v : V} {σ : L2.St} {H : Hp} {Q : L2.St → Hp → Prop} (h : to σ H fun o H1 => ti σ H1 fun i H2 => t o i v H2 fun H3 => Q σ H3) : gSub to ti t v σ H Q := h
theorem rd_setL {a : Addr} {xs : List V} {i : Int} {j : Nat} {v : V} {H : Hp} {Q : Hp → Prop} (h : H a = some (.lst xs)) (e : ixN xs.length i = some j) (q : Q (upd H a (.lst (xs.set j v)))) : rSetL (.ref a) (.int i) v H Q := ⟨a, xs, i, j, rfl, rfl, h, e, q⟩
section
variable {σ : L2.St} {H : Hp} {Q : VK} {K : PySem.W.Frag}
theorem rd_bm {n : String} {r : V → List V → Hp → VK → Prop} {to : TE} {t : TA} (h : to σ H fun x H1 => tyV K n x H1 ∧ t σ H1 fun xs H2 => r x xs H2 Q) : tBM K n r to t σ H Q := h
theorem rd_bm0 {n : String} {r : V → List V → Hp → VK → Prop} {to : TE} (h : to σ H fun x H1 => tyV K n x H1 ∧ r x [] H1 Q) : tBM0 K n r to σ H Q := h
theorem rd_append {l : Addr} {xs : List V} {y : V} (h : H l = some (.lst xs)) (hl : xs.length < sizeLine) (q : Q .non (upd H l (.lst (xs ++ [y])))) : rAppend (.ref l) [y] H Q := ⟨l, xs, y, rfl, rfl, h, hl, q⟩
end
theorem rd_rng1 {ta : TA} {σ : L2.St} {H : Hp} {R : It → Hp → Prop} (h : ta σ H fun vs H1 => ∃ j : Int, vs = [.int j] ∧ -(2 ^ 62) ≤ j ∧ j < 2 ^ 62 ∧ R (Itr 0 j.toNat) H1) : iRng1 ta σ H R := h
theorem rd_rng2 {ta : TA} {σ : L2.St} {H : Hp} {R : It → Hp → Prop} (h : iRng2 ta σ H R) : iRng2 ta σ H R := h
theorem rd_ilist {K : PySem.W.Frag} {te : TE} {σ : L2.St} {H : Hp} {R : It → Hp → Prop} (h : te σ H fun x H1 => ∃ a, x = .ref a ∧ (∃ xs, SqL K H1 a xs) ∧ R (Itl K a) H1) : iList K te σ H R := h
theorem rd_itup {K : PySem.W.Frag} {te : TE} {σ : L2.St} {H : Hp} {R : It → Hp → Prop} (h : te σ H fun x H1 => ∃ a, x = .ref a ∧ (∃ xs, SqT K H1 a xs) ∧ R (Itt K a) H1) : iTup K te σ H R := h
theorem rd_istr {te : TE} {σ : L2.St} {H : Hp} {R : It → Hp → Prop} (h : te σ H fun v H1 => ∃ x, v = .str x ∧ R (Its x) H1) : iStr te σ H R := h
theorem rd_make {C : Addr} {sp : Sp} {dvs : List V} {E : XK} {t : TA} {σ : L2.St} {H : Hp} {Q : VK} (h : t σ H fun vs H1 => ∀ x dx, H1 x = none → H1 dx = none → dx ≠ x → sp (.ref x :: (vs ++ dvs)) (upd (upd H1 dx (.own x)) x (.ins C dx [])) (fun v H2 => v = .non ∧ Q (.ref x) H2) E) : tMake C sp dvs E t σ H Q := h
theorem rd_no {b : Bool} {A B : Prop} (e : b = false) (h : B) : if b = true then A else B := by
  rw [e]
  exact iteF h
theorem rd_yes {b : Bool} {A B : Prop} (e : b = true) (h : A) : if b = true then A else B := by
  rw [e]
  exact iteT h
theorem mapint_get {U : List Int} {i : Nat} {y : V} (h : (U.map V.int)[i]? = some y) : ∃ u, U[i]? = some u ∧ y = V.int u := by
  rw [List.getElem?_map] at h
  cases e : U[i]? with
  | none =>
    rw [e] at h
    cases h
  | some u =>
    rw [e] at h
    exact ⟨u, rfl, (Option.some.inj h).symm⟩
theorem rd_break {D : Ends} {σ : L2.St} {H : Hp} (h : D.bk σ H) : tBreak D σ H := h
theorem rd_tyes {σ : L2.St} {H : Hp} {Q : Bool → Hp → Prop} (q : Q true H) : tYes σ H Q := q
theorem rd_aug {i : Nat} {te : TE} {ti : TIp} {D : Ends} {σ : L2.St} {H : Hp} {x : V} (h : σ[i]? = some (some x)) (q : te σ H fun y H1 => ti x y H1 fun z H2 => D.nx (σ.set i (some z)) H2) : tAug i te ti D σ H := ⟨x, h, q⟩
theorem rd_callS {sp : Sp} {E : L2.St → XK} {t : TA} {σ : L2.St} {H : Hp} {Q : VK} (h : t σ H fun vs H1 => sp vs H1 Q (E σ)) : tCallS sp E t σ H Q := h
theorem rd_ifx {t : TT} {ta tb : TE} {σ : L2.St} {H : Hp} {Q : VK} (h : t σ H fun c H1 => if c = true then ta σ H1 Q else tb σ H1 Q) : tIf t ta tb σ H Q := h
section
variable {K : PySem.W.Frag}
theorem rd_izip {ta : TA} {σ : L2.St} {H : Hp} {R : It → Hp → Prop} (h : ta σ H fun vs H1 => ∃ a b xs ys, vs = [.ref a, .ref b] ∧ ((SqL K H1 a xs ∧ SqL K H1 b ys ∧ R (Itz K a b) H1) ∨ (SqT K H1 a xs ∧ SqT K H1 b ys ∧ R (RZ.ItzT K a b) H1))) : RZ.iZipA K ta σ H R := h
end
theorem small {n : Nat} (h : n ≤ 1000000) : n ≤ sizeLine := Nat.le_trans h (by decide)
theorem small' {n : Nat} (h : n ≤ 1000000) : n < sizeLine := Nat.lt_of_le_of_lt h (by decide)
/-- what comes next is due for all that S tells: it stands once -/
theorem rd_S {te : TE} {σ : L2.St} {H : Hp} {Q : VK} (S : V → Hp → Prop) (hS : ∀ x H', S x H' → Q x H') (h : ∀ Q' : VK, (∀ x H', S x H' → Q' x H') → te σ H Q') : te σ H Q := h Q hS
theorem fn_no {P : Program} {w : World} {K : PySem.W.Frag} {mg : Str → Option Value} {base : Heap} {CX : CXT} {k : Nat} {f : Addr} {fd : FuncData} {ps : List Str} {sp : Sp} (h : ∀ vs H Q E, ¬ sp vs H Q E) : FnOk P w K mg base CX k f fd ps sp :=
  ⟨fun vs H Q E z => (h _ _ _ _ z).elim, fun A outer s H args us vs Q E hr e0 hb r z => (h _ _ _ _ z).elim⟩
theorem at_of {α : Type} {xs : List α} {i : Int} {j : Nat} {v : α} (e : i = (j : Int)) (h : xs[j]? = some v) : atI xs i = some v := by
  subst e
  exact atI_nat h
theorem at0 {α : Type} {x : α} {xs : List α} : atI (x :: xs) 0 = some x := at_of (j := 0) rfl rfl
theorem at0m {x : Int} {xs : List Int} : atI ((x :: xs).map V.int) 0 = some (V.int x) := at_of (j := 0) rfl rfl
theorem ix_of {n j : Nat} {i : Int} (e : i = (j : Int)) (h : j < n) : ixN n i = some j := by
  subst e
  unfold ixN
  rw [if_pos (by omega), if_pos (by omega), Int.toNat_natCast]
theorem ix0m {x : Int} {xs : List Int} : ixN ((x :: xs).map V.int).length 0 = some 0 := ix_of rfl (by simp)
/-! ### frames -/
/-- all is as it was but what stands at some places -/
def Fr (M : List Addr) (H H' : Hp) : Prop := ∀ b o, b ∉ M → H b = some o → H' b = some o
theorem Fr.refl {M : List Addr} {H : Hp} : Fr M H H := fun _ _ _ e => e
theorem Fr.same {M : List Addr} {H H' : Hp} (s : Same H H') : Fr M H H' := fun b o _ e => s b o e
theorem Fr.trans {M : List Addr} {H H1 H2 : Hp} (x : Fr M H H1) (y : Fr M H1 H2) : Fr M H H2 := fun b o n e => y b o n (x b o n e)
theorem Fr.more {M N : List Addr} {H H' : Hp} (x : Fr M H H') (h : ∀ b ∈ M, b ∈ N) : Fr N H H' := fun b o n e => x b o (fun z => n (h b z)) e
theorem Fr.mut {a : Addr} {H : Hp} {o : HO} : Fr [a] H (upd H a o) := fun b u n e => (upd_ne (by simpa using n)).trans e
theorem Fr.mem {a : Addr} {M : List Addr} {H : Hp} {o : HO} (h : a ∈ M) : Fr M H (upd H a o) := fun b u n e => (upd_ne (fun z => n (by rw [z]; exact h))).trans e
theorem Fr.free {M : List Addr} {H H' : Hp} {q : Addr} (x : Fr M H H') (n : H' q = none) (hq : q ∉ M) : H q = none := by
  cases e : H q with
  | none => rfl
  | some o => rw [x q o hq e] at n; cases n
/-- tuples stay -/
def KT (H H' : Hp) : Prop := ∀ a xs, H a = some (.tup xs) → H' a = some (.tup xs)
theorem KT.refl {H : Hp} : KT H H := fun _ _ e => e
theorem KT.trans {H H1 H2 : Hp} (x : KT H H1) (y : KT H1 H2) : KT H H2 := fun a xs e => y a xs (x a xs e)
theorem KT.same {H H' : Hp} (s : Same H H') : KT H H' := fun a xs e => s _ _ e
theorem KT.fr {M : List Addr} {H H' : Hp} (x : Fr M H H') (h : ∀ b ∈ M, ∀ xs, H b ≠ some (.tup xs)) : KT H H' := fun a xs e => x a _ (fun z => h a z xs e) e
theorem KT.mut {a : Addr} {H : Hp} {o u : HO} (h : H a = some u) (hu : ∀ xs, u ≠ .tup xs) : KT H (upd H a o) := fun b xs e => (upd_ne (ne_of e h (fun z => hu xs z.symm))).trans e
/-- both -/
structure FK (M : List Addr) (H H' : Hp) : Prop where
  fr : Fr M H H'
  kt : KT H H'
theorem FK.refl {M : List Addr} {H : Hp} : FK M H H := ⟨Fr.refl, KT.refl⟩
theorem FK.trans {M : List Addr} {H H1 H2 : Hp} (x : FK M H H1) (y : FK M H1 H2) : FK M H H2 := ⟨x.1.trans y.1, x.2.trans y.2⟩
theorem FK.same {M : List Addr} {H H' : Hp} (s : Same H H') : FK M H H' := ⟨Fr.same s, KT.same s⟩
theorem FK.new {M : List Addr} {H : Hp} {q : Addr} {o : HO} (h : H q = none) : FK M H (upd H q o) := FK.same (same_new h)
theorem FK.put {M : List Addr} {H H' : Hp} {q : Addr} {o : HO} (x : FK M H H') (h : H' q = none) : FK M H (upd H' q o) := x.trans (FK.new h)
theorem FK.mut {M : List Addr} {a : Addr} {H : Hp} {o u : HO} (m : a ∈ M) (h : H a = some u) (hu : ∀ xs, u ≠ .tup xs) : FK M H (upd H a o) := ⟨Fr.mem m, KT.mut h hu⟩
theorem FK.mutL {M : List Addr} {a : Addr} {H : Hp} {o : HO} {us : List V} (m : a ∈ M) (h : H a = some (.lst us)) : FK M H (upd H a o) := FK.mut m h fun _ z => by cases z
theorem FK.more {M N : List Addr} {H H' : Hp} (x : FK M H H') (h : ∀ b ∈ M, b ∈ N) : FK N H H' := ⟨x.1.more h, x.2⟩
theorem FK.at {M : List Addr} {H H' : Hp} {a : Addr} {o : HO} (x : FK M H H') (n : a ∉ M) (h : H a = some o) : H' a = some o := x.1 a o n h
theorem FK.free {M : List Addr} {H H' : Hp} {q : Addr} (x : FK M H H') (n : H' q = none) (hq : q ∉ M) : H q = none := x.1.free n hq
/-- an object that was not there changes as it likes -/
theorem FK.own {M : List Addr} {H0 H : Hp} {D : Addr} {us : List V} {o : HO} (x : FK M H0 H) (n : H0 D = none) (h : H D = some (.lst us)) : FK M H0 (upd H D o) :=
  ⟨fun b u nb e => (upd_ne (ne_of_none e n)).trans (x.1 b u nb e), fun b xs e => (upd_ne (ne_of_none e n)).trans (x.2 b xs e)⟩
/-! ### data -/
mutual
def Dt (CP : Addr → Prop) (M : List Addr) (H : Hp) : PyData → V → Prop
  | .none, v => v = .non
  | .bool b, v => v = .bl b
  | .int i, v => v = .int i
  | .str s, v => v = .str s
  | .list ds, v => ∃ a xs, v = .ref a ∧ a ∉ M ∧ H a = some (.lst xs) ∧ DtAll CP M H ds xs
  | .tuple ds, v => ∃ a xs, v = .ref a ∧ H a = some (.tup xs) ∧ DtAll CP M H ds xs
  | .dict _, v => ∃ a, v = .ref a ∧ a ∉ M ∧ (H a = some (.dK []) ∨ ∃ C dx fs, CP C ∧ H a = some (.ins C dx fs))
def DtAll (CP : Addr → Prop) (M : List Addr) (H : Hp) : List PyData → List V → Prop
  | [], xs => xs = []
  | d :: ds, xs => ∃ x r, xs = x :: r ∧ Dt CP M H d x ∧ DtAll CP M H ds r
end
section
variable {CP : Addr → Prop} {M : List Addr} {H H' : Hp} {K : PySem.W.Frag}
mutual
theorem Dt.keep (k : FK M H H') : ∀ (d : PyData) (v : V), Dt CP M H d v → Dt CP M H' d v
  | .none, v, h => by simpa only [Dt] using h
  | .bool b, v, h => by simpa only [Dt] using h
  | .int i, v, h => by simpa only [Dt] using h
  | .str s, v, h => by simpa only [Dt] using h
  | .list ds, v, h => by
    simp only [Dt] at h ⊢
    obtain ⟨a, xs, e, n, ha, r⟩ := h
    exact ⟨a, xs, e, n, k.1 a _ n ha, DtAll.keep k ds xs r⟩
  | .tuple ds, v, h => by
    simp only [Dt] at h ⊢
    obtain ⟨a, xs, e, ha, r⟩ := h
    exact ⟨a, xs, e, k.2 a _ ha, DtAll.keep k ds xs r⟩
  | .dict _, v, h => by
    simp only [Dt] at h ⊢
    obtain ⟨a, e, n, ha | ⟨C, dx, fs, c, ha⟩⟩ := h
    · exact ⟨a, e, n, .inl (k.1 a _ n ha)⟩
    · exact ⟨a, e, n, .inr ⟨C, dx, fs, c, k.1 a _ n ha⟩⟩
theorem DtAll.keep (k : FK M H H') : ∀ (ds : List PyData) (xs : List V), DtAll CP M H ds xs → DtAll CP M H' ds xs
  | [], xs, h => by simpa only [DtAll] using h
  | d :: ds, xs, h => by
    simp only [DtAll] at h ⊢
    obtain ⟨x, r, e, h1, h2⟩ := h
    exact ⟨x, r, e, Dt.keep k d x h1, DtAll.keep k ds r h2⟩
end
theorem Dt.k {d : PyData} {v : V} (h : Dt CP M H d v) (k : FK M H H') : Dt CP M H' d v := Dt.keep k d v h
theorem DtAll.k {d : List PyData} {v : List V} (h : DtAll CP M H d v) (k : FK M H H') : DtAll CP M H' d v := DtAll.keep k d v h
theorem Dt.s {d : PyData} {v : V} (h : Dt CP M H d v) (k : Same H H') : Dt CP M H' d v := Dt.keep (FK.same k) d v h
theorem DtAll.s {d : List PyData} {v : List V} (h : DtAll CP M H d v) (k : Same H H') : DtAll CP M H' d v := DtAll.keep (FK.same k) d v h
theorem dtAll_iff : ∀ (ds : List PyData) (xs : List V), DtAll CP M H ds xs ↔ ds.length = xs.length ∧ ∀ (i : Nat) d x, ds[i]? = some d → xs[i]? = some x → Dt CP M H d x
  | [], xs => by
    simp only [DtAll]
    constructor
    · rintro rfl
      exact ⟨rfl, fun i d x h _ => by simp at h⟩
    · rintro ⟨h, _⟩
      exact List.length_eq_zero_iff.mp h.symm
  | d :: ds, xs => by
    simp only [DtAll]
    constructor
    · rintro ⟨x, r, rfl, h1, h2⟩
      obtain ⟨hl, hi⟩ := (dtAll_iff ds r).mp h2
      refine ⟨by simp [hl], fun i d' x' e1 e2 => ?_⟩
      cases i with
      | zero =>
        simp only [List.getElem?_cons_zero, Option.some.injEq] at e1 e2
        subst e1 e2
        exact h1
      | succ i =>
        simp only [List.getElem?_cons_succ] at e1 e2
        exact hi i d' x' e1 e2
    · rintro ⟨hl, hi⟩
      cases xs with
      | nil => simp at hl
      | cons x r => exact ⟨x, r, rfl, hi 0 d x rfl rfl, (dtAll_iff ds r).mpr ⟨by simpa using hl, fun i d' x' e1 e2 => hi (i + 1) d' x' (by simpa using e1) (by simpa using e2)⟩⟩
theorem DtAll.len {ds : List PyData} {xs : List V} (h : DtAll CP M H ds xs) : ds.length = xs.length := ((dtAll_iff ds xs).mp h).1
theorem DtAll.get {ds : List PyData} {xs : List V} (h : DtAll CP M H ds xs) {i : Nat} {d : PyData} (e : ds[i]? = some d) : ∃ x, xs[i]? = some x ∧ Dt CP M H d x := by
  obtain ⟨hl, hi⟩ := (dtAll_iff ds xs).mp h
  have hlt := (List.getElem?_eq_some_iff.mp e).1
  have hx : xs[i]? = some (xs[i]'(by omega)) := by simp [show i < xs.length by omega]
  exact ⟨_, hx, hi i d _ e hx⟩
theorem DtAll.get' {ds : List PyData} {xs : List V} (h : DtAll CP M H ds xs) {i : Nat} {x : V} (e : xs[i]? = some x) : ∃ d, ds[i]? = some d ∧ Dt CP M H d x := by
  obtain ⟨hl, hi⟩ := (dtAll_iff ds xs).mp h
  have hlt := (List.getElem?_eq_some_iff.mp e).1
  have hx : ds[i]? = some (ds[i]'(by omega)) := by simp [show i < ds.length by omega]
  exact ⟨_, hx, hi i _ x hx e⟩
theorem DtAll.append {ds es : List PyData} {xs ys : List V} (h1 : DtAll CP M H ds xs) (h2 : DtAll CP M H es ys) : DtAll CP M H (ds ++ es) (xs ++ ys) := by
  induction ds generalizing xs with
  | nil =>
    simp only [DtAll] at h1
    subst h1
    exact h2
  | cons d ds ih =>
    simp only [DtAll] at h1
    obtain ⟨x, r, rfl, a, b⟩ := h1
    show DtAll CP M H (d :: (ds ++ es)) _
    simp only [DtAll]
    exact ⟨x, r ++ ys, rfl, a, ih b⟩
theorem DtAll.take {ds : List PyData} {xs : List V} (h : DtAll CP M H ds xs) (n : Nat) : DtAll CP M H (ds.take n) (xs.take n) := by
  obtain ⟨hl, hi⟩ := (dtAll_iff ds xs).mp h
  refine (dtAll_iff _ _).mpr ⟨by simp [hl], fun i d x e1 e2 => ?_⟩
  rw [List.getElem?_take] at e1 e2
  by_cases q : i < n
  · rw [if_pos q] at e1 e2
    exact hi i d x e1 e2
  · rw [if_neg q] at e1
    cases e1
theorem DtAll.drop {ds : List PyData} {xs : List V} (h : DtAll CP M H ds xs) (n : Nat) : DtAll CP M H (ds.drop n) (xs.drop n) := by
  obtain ⟨hl, hi⟩ := (dtAll_iff ds xs).mp h
  refine (dtAll_iff _ _).mpr ⟨by simp [hl], fun i d x e1 e2 => ?_⟩
  rw [List.getElem?_drop] at e1 e2
  exact hi _ d x e1 e2
theorem dtAll_nil : DtAll CP M H [] [] := by simp only [DtAll]
theorem dtAll_cons {d : PyData} {ds : List PyData} {x : V} {xs : List V} (h1 : Dt CP M H d x) (h2 : DtAll CP M H ds xs) : DtAll CP M H (d :: ds) (x :: xs) := by
  simp only [DtAll]
  exact ⟨x, xs, rfl, h1, h2⟩
theorem DtAll.snoc {d : PyData} {ds : List PyData} {x : V} {xs : List V} (h1 : DtAll CP M H ds xs) (h2 : Dt CP M H d x) : DtAll CP M H (ds ++ [d]) (xs ++ [x]) := h1.append (dtAll_cons h2 dtAll_nil)
theorem dt_int {i : Int} : Dt CP M H (.int i) (.int i) := by simp only [Dt]
theorem dt_str {s : Str} : Dt CP M H (.str s) (.str s) := by simp only [Dt]
theorem dt_bl {b : Bool} : Dt CP M H (.bool b) (.bl b) := by simp only [Dt]
theorem dt_non : Dt CP M H .none .non := by simp only [Dt]
theorem dt_tup {a : Addr} {ds : List PyData} {xs : List V} (h : H a = some (.tup xs)) (r : DtAll CP M H ds xs) : Dt CP M H (.tuple ds) (.ref a) := by
  simp only [Dt]
  exact ⟨a, xs, rfl, h, r⟩
theorem dt_lst {a : Addr} {ds : List PyData} {xs : List V} (n : a ∉ M) (h : H a = some (.lst xs)) (r : DtAll CP M H ds xs) : Dt CP M H (.list ds) (.ref a) := by
  simp only [Dt]
  exact ⟨a, xs, rfl, n, h, r⟩
theorem dt_dic {a : Addr} {kv : List (PyData × PyData)} (n : a ∉ M) (h : H a = some (.dK [])) : Dt CP M H (.dict kv) (.ref a) := by
  simp only [Dt]
  exact ⟨a, rfl, n, .inl h⟩
theorem dt_tup' {v : V} {ds : List PyData} (h : Dt CP M H (.tuple ds) v) : ∃ a xs, v = .ref a ∧ H a = some (.tup xs) ∧ DtAll CP M H ds xs := by
  simpa only [Dt] using h
theorem dt_lst' {v : V} {ds : List PyData} (h : Dt CP M H (.list ds) v) : ∃ a xs, v = .ref a ∧ a ∉ M ∧ H a = some (.lst xs) ∧ DtAll CP M H ds xs := by
  simpa only [Dt] using h
theorem dt_int' {v : V} {i : Int} (h : Dt CP M H (.int i) v) : v = .int i := by simpa only [Dt] using h
theorem dt_str' {v : V} {i : Str} (h : Dt CP M H (.str i) v) : v = .str i := by simpa only [Dt] using h
theorem dt_bl' {v : V} {b : Bool} (h : Dt CP M H (.bool b) v) : v = .bl b := by simpa only [Dt] using h
theorem dt_non' {v : V} (h : Dt CP M H .none v) : v = .non := by simpa only [Dt] using h
theorem dt_dic' {v : V} {kv : List (PyData × PyData)} (h : Dt CP M H (.dict kv) v) : ∃ a, v = .ref a ∧ a ∉ M := by
  simp only [Dt] at h
  obtain ⟨a, e, n, _⟩ := h
  exact ⟨a, e, n⟩
theorem dt_ints : ∀ U : List Int, DtAll CP M H (U.map PyData.int) (U.map V.int)
  | [] => dtAll_nil
  | u :: U => dtAll_cons dt_int (dt_ints U)
theorem dt_ints' : ∀ {U : List Int} {xs : List V}, DtAll CP M H (U.map PyData.int) xs → xs = U.map V.int
  | [], xs, h => by simpa only [List.map_nil, DtAll] using h
  | u :: U, xs, h => by
    rw [List.map_cons] at h
    simp only [DtAll] at h
    obtain ⟨x, r, rfl, h1, h2⟩ := h
    rw [dt_int' h1, dt_ints' h2, List.map_cons]
/-! ### kinds -/
theorem Dt.ty (W : ∀ C, CP C → WebTy K C) (d : PyData) (v : V) (h : Dt CP M H d v) : ∃ t, TyX K H v t ∧ PySem.W.kitOne K t (.type "int") = some (isI d) ∧ PySem.W.kitOne K t (.type "bool") = some (isB d) ∧ PySem.W.kitOne K t (.type "tuple") = some (isT d) ∧
    PySem.W.kitOne K t (.type "list") = some (isL d) ∧ PySem.W.kitOne K t (.type "str") = some (isS d) := by
  have g : ∀ {C p : Addr} {d : PyData} {v : V}, WebTy K C → Tp C p H d v → ∃ t, TyX K H v t ∧ PySem.W.kitOne K t (.type "int") = some (isI d) ∧ PySem.W.kitOne K t (.type "bool") = some (isB d) ∧ PySem.W.kitOne K t (.type "tuple") = some (isT d) ∧
    PySem.W.kitOne K t (.type "list") = some (isL d) ∧ PySem.W.kitOne K t (.type "str") = some (isS d) := fun W h => h.ty W
  cases d with
  | none =>
    rw [dt_non' h]
    exact ⟨_, .base .non, kit_ty (show kitB "NoneType" "int" = some false from by decide +kernel), kit_ty (show kitB "NoneType" "bool" = some false from by decide +kernel), kit_ty (show kitB "NoneType" "tuple" = some false from by decide +kernel), kit_ty (show kitB "NoneType" "list" = some false from by decide +kernel), kit_ty (show kitB "NoneType" "str" = some false from by decide +kernel)⟩
  | bool b =>
    rw [dt_bl' h]
    exact ⟨_, .base (.bl b), kit_ty (show kitB "bool" "int" = some true from by decide +kernel), kit_ty (show kitB "bool" "bool" = some true from by decide +kernel), kit_ty (show kitB "bool" "tuple" = some false from by decide +kernel), kit_ty (show kitB "bool" "list" = some false from by decide +kernel), kit_ty (show kitB "bool" "str" = some false from by decide +kernel)⟩
  | int i =>
    rw [dt_int' h]
    exact ⟨_, .base (.int i), kit_ty (show kitB "int" "int" = some true from by decide +kernel), kit_ty (show kitB "int" "bool" = some false from by decide +kernel), kit_ty (show kitB "int" "tuple" = some false from by decide +kernel), kit_ty (show kitB "int" "list" = some false from by decide +kernel), kit_ty (show kitB "int" "str" = some false from by decide +kernel)⟩
  | str s =>
    rw [dt_str' h]
    exact ⟨_, .base (.str s), kit_ty (show kitB "str" "int" = some false from by decide +kernel), kit_ty (show kitB "str" "bool" = some false from by decide +kernel), kit_ty (show kitB "str" "tuple" = some false from by decide +kernel), kit_ty (show kitB "str" "list" = some false from by decide +kernel), kit_ty (show kitB "str" "str" = some true from by decide +kernel)⟩
  | list ds =>
    obtain ⟨a, xs, rfl, n, ha, r⟩ := dt_lst' h
    exact ⟨_, .base (.lst ha), kit_ty (show kitB "list" "int" = some false from by decide +kernel), kit_ty (show kitB "list" "bool" = some false from by decide +kernel), kit_ty (show kitB "list" "tuple" = some false from by decide +kernel), kit_ty (show kitB "list" "list" = some true from by decide +kernel), kit_ty (show kitB "list" "str" = some false from by decide +kernel)⟩
  | tuple ds =>
    obtain ⟨a, xs, rfl, ha, r⟩ := dt_tup' h
    exact ⟨_, .base (.tup ha), kit_ty (show kitB "tuple" "int" = some false from by decide +kernel), kit_ty (show kitB "tuple" "bool" = some false from by decide +kernel), kit_ty (show kitB "tuple" "tuple" = some true from by decide +kernel), kit_ty (show kitB "tuple" "list" = some false from by decide +kernel), kit_ty (show kitB "tuple" "str" = some false from by decide +kernel)⟩
  | dict kvs =>
    simp only [Dt] at h
    obtain ⟨a, rfl, n, ha | ⟨C, dx, fs, c, ha⟩⟩ := h
    · exact ⟨_, .base (.dK ha), kit_ty (show kitB "dict" "int" = some false from by decide +kernel), kit_ty (show kitB "dict" "bool" = some false from by decide +kernel), kit_ty (show kitB "dict" "tuple" = some false from by decide +kernel), kit_ty (show kitB "dict" "list" = some false from by decide +kernel), kit_ty (show kitB "dict" "str" = some false from by decide +kernel)⟩
    · exact ⟨_, .base (.ins ha (W C c).cl (W C c).ca (W C c).cg (W C c).ct (W C c).co), (W C c).ki, (W C c).kb, (W C c).kt, (W C c).kl, (W C c).ks⟩
theorem dt_isI (W : ∀ C, CP C → WebTy K C) {d : PyData} {v : V} {Q : VK} (h : Dt CP M H d v) (q : Q (.bl (isI d)) H) : rIsi K [v, .ty "int"] H Q := by
  obtain ⟨t, ty, k, _⟩ := h.ty W
  exact ⟨v, _, t, _, _, rfl, .ty _, ty, k, q⟩
theorem dt_isB (W : ∀ C, CP C → WebTy K C) {d : PyData} {v : V} {Q : VK} (h : Dt CP M H d v) (q : Q (.bl (isB d)) H) : rIsi K [v, .ty "bool"] H Q := by
  obtain ⟨t, ty, _, k, _⟩ := h.ty W
  exact ⟨v, _, t, _, _, rfl, .ty _, ty, k, q⟩
theorem dt_isT (W : ∀ C, CP C → WebTy K C) {d : PyData} {v : V} {Q : VK} (h : Dt CP M H d v) (q : Q (.bl (isT d)) H) : rIsi K [v, .ty "tuple"] H Q := by
  obtain ⟨t, ty, _, _, k, _⟩ := h.ty W
  exact ⟨v, _, t, _, _, rfl, .ty _, ty, k, q⟩
theorem dt_isL (W : ∀ C, CP C → WebTy K C) {d : PyData} {v : V} {Q : VK} (h : Dt CP M H d v) (q : Q (.bl (isL d)) H) : rIsi K [v, .ty "list"] H Q := by
  obtain ⟨t, ty, _, _, _, k, _⟩ := h.ty W
  exact ⟨v, _, t, _, _, rfl, .ty _, ty, k, q⟩
theorem dt_isS (W : ∀ C, CP C → WebTy K C) {d : PyData} {v : V} {Q : VK} (h : Dt CP M H d v) (q : Q (.bl (isS d)) H) : rIsi K [v, .ty "str"] H Q := by
  obtain ⟨t, ty, _, _, _, _, k⟩ := h.ty W
  exact ⟨v, _, t, _, _, rfl, .ty _, ty, k, q⟩
/-! ### plain data -/
mutual
def plainD : PyData → Bool
  | .none | .bool _ | .int _ | .str _ => true
  | .tuple ds => plainAll ds
  | .list _ | .dict _ => false
def plainAll : List PyData → Bool
  | [] => true
  | d :: ds => plainD d && plainAll ds
end
theorem plainAll_get : ∀ {ds : List PyData} {i : Nat} {d : PyData}, plainAll ds = true → ds[i]? = some d → plainD d = true
  | [], i, d, _, e => by simp at e
  | c :: ds, 0, d, h, e => by
    simp only [plainAll, Bool.and_eq_true] at h
    cases e
    exact h.1
  | c :: ds, i + 1, d, h, e => by
    simp only [plainAll, Bool.and_eq_true] at h
    exact plainAll_get h.2 (by simpa using e)
theorem plain_app : ∀ a b : List PyData, plainAll (a ++ b) = (plainAll a && plainAll b)
  | [], b => rfl
  | d :: a, b => by
    show (plainD d && plainAll (a ++ b)) = ((plainD d && plainAll a) && plainAll b)
    rw [plain_app a b, Bool.and_assoc]
theorem plainAll_of : ∀ {ds : List PyData}, (∀ d ∈ ds, plainD d = true) → plainAll ds = true
  | [], _ => rfl
  | d :: ds, h => by
    show (plainD d && plainAll ds) = true
    rw [h d (by simp), plainAll_of fun e he => h e (List.mem_cons_of_mem _ he)]
    rfl
mutual
theorem Dt.plain {CP' : Addr → Prop} {M' : List Addr} (k : KT H H') : ∀ (d : PyData) (v : V), plainD d = true → Dt CP M H d v → Dt CP' M' H' d v
  | .none, v, _, h => by simpa only [Dt] using h
  | .bool b, v, _, h => by simpa only [Dt] using h
  | .int i, v, _, h => by simpa only [Dt] using h
  | .str s, v, _, h => by simpa only [Dt] using h
  | .list ds, v, c, _ => by simp only [plainD] at c; cases c
  | .dict _, v, c, _ => by simp only [plainD] at c; cases c
  | .tuple ds, v, c, h => by
    simp only [Dt] at h ⊢
    obtain ⟨a, xs, e, ha, r⟩ := h
    exact ⟨a, xs, e, k a _ ha, DtAll.plain k ds xs (by simpa only [plainD] using c) r⟩
theorem DtAll.plain {CP' : Addr → Prop} {M' : List Addr} (k : KT H H') : ∀ (ds : List PyData) (xs : List V), plainAll ds = true → DtAll CP M H ds xs → DtAll CP' M' H' ds xs
  | [], xs, _, h => by simpa only [DtAll] using h
  | d :: ds, xs, c, h => by
    simp only [DtAll] at h ⊢
    simp only [plainAll, Bool.and_eq_true] at c
    obtain ⟨x, r, e, h1, h2⟩ := h
    exact ⟨x, r, e, Dt.plain k d x c.1 h1, DtAll.plain k ds r c.2 h2⟩
end
theorem depthAll_get : ∀ {ds : List PyData} {i : Nat} {d : PyData}, ds[i]? = some d → d.depth ≤ PyData.depthAll ds
  | [], i, d, e => by simp at e
  | c :: ds, 0, d, e => by
    cases e
    exact Nat.le_max_left _ _
  | c :: ds, i + 1, d, e => Nat.le_trans (depthAll_get (by simpa using e)) (Nat.le_max_right _ _)
theorem depthAll_le {n : Nat} : ∀ {ds : List PyData}, (∀ d ∈ ds, d.depth ≤ n) → PyData.depthAll ds ≤ n
  | [], _ => Nat.zero_le _
  | d :: ds, h => Nat.max_le.mpr ⟨h d (by simp), depthAll_le fun e he => h e (by simp [he])⟩
theorem lay_all : ∀ {ds : List PyData}, (∀ d ∈ ds, d.canLay0 = true) → PyData.canLayAll0 ds = true
  | [], _ => rfl
  | d :: ds, h => by
    show (d.canLay0 && PyData.canLayAll0 ds) = true
    rw [h d (by simp), lay_all fun e he => h e (List.mem_cons_of_mem _ he)]
    rfl
mutual
theorem dt_dp : ∀ (d : PyData) (v : V), d.canLay0 = true → Dt CP M H d v → Dp K H v d
  | .none, v, _, h => by
    rw [dt_non' h]
    exact .non
  | .bool b, v, _, h => by
    rw [dt_bl' h]
    exact .bl b
  | .int i, v, _, h => by
    rw [dt_int' h]
    exact .int i
  | .str s, v, _, h => by
    rw [dt_str' h]
    exact .str s
  | .list ds, v, c, h => by
    obtain ⟨a, xs, rfl, _, ha, r⟩ := dt_lst' h
    exact .lst (SqL.of ha) (dt_dpAll ds xs (by simpa only [PyData.canLay0] using c) r)
  | .tuple ds, v, c, h => by
    obtain ⟨a, xs, rfl, ha, r⟩ := dt_tup' h
    exact .tup (SqT.of ha) (dt_dpAll ds xs (by simpa only [PyData.canLay0] using c) r)
  | .dict _, v, c, _ => by simp only [PyData.canLay0] at c; cases c
theorem dt_dpAll : ∀ (ds : List PyData) (xs : List V), PyData.canLayAll0 ds = true → DtAll CP M H ds xs → DpAll K H xs ds
  | [], xs, _, h => by
    simp only [DtAll] at h
    subst h
    exact .nil
  | d :: ds, xs, c, h => by
    simp only [DtAll] at h
    obtain ⟨x, r, rfl, h1, h2⟩ := h
    simp only [PyData.canLayAll0, Bool.and_eq_true] at c
    exact .cons (dt_dp d x c.1 h1) (dt_dpAll ds r c.2 h2)
end
end
end Mw

/-! MR11 -/
/-! A text so many times; isinstance of a caught error, with or without fields. -/
namespace Mw
open PySem PySem.Spec PyProof.Rows L2
def repS (z : Str) (n : Nat) : Str := ⟨(List.replicate n z.cps).foldl (· ++ ·) #[]⟩
theorem rep_size (z : Str) : ∀ (n : Nat) (acc : Array Nat), ((List.replicate n z.cps).foldl (· ++ ·) acc).size = acc.size + n * z.length
  | 0, acc => by simp
  | n + 1, acc => by
    rw [List.replicate_succ, List.foldl_cons, rep_size z n, Array.size_append, Nat.succ_mul]
    show acc.size + z.length + n * z.length = _
    omega
theorem rep_toList (z : Str) : ∀ (n : Nat) (acc : Array Nat), ((List.replicate n z.cps).foldl (· ++ ·) acc).toList = acc.toList ++ (List.replicate n z.cps.toList).flatten
  | 0, acc => by simp
  | n + 1, acc => by
    rw [List.replicate_succ, List.foldl_cons, rep_toList z n, Array.toList_append, List.replicate_succ, List.flatten_cons, List.append_assoc]
theorem op_mul_str {X : Cx} : OpR X (binaryOp .Mult) (fun x y H Q => ∃ (z : Str) (n : Nat), x = .str z ∧ y = .int (n : Int) ∧ 2 ≤ n ∧ n ≤ 1000 ∧ 1 ≤ z.length ∧ z.length ≤ 1000 ∧ Q (.str (repS z n)) H) := by
  intro pins s σ H x y v u Q I rx ry h
  obtain ⟨z, n, rfl, rfl, n2, n3, z1, z2, q⟩ := h
  obtain ⟨t, rfl⟩ := rx
  obtain ⟨t', rfl⟩ := ry
  have e1 : ¬ ((n : Int) < 1) := by omega
  have e2 : ((n : Int) == 1 || z.length == 0) = false := by
    rw [Bool.or_eq_false_iff]
    exact ⟨beq_eq_false_iff_ne.mpr (by omega), beq_eq_false_iff_ne.mpr (by omega)⟩
  have hmul : z.length * n ≤ 1000000 := Nat.mul_le_mul z2 n3
  have e3 : Builtin.Str.tooLong (z.length * (n : Int).toNat) = false := by
    rw [Int.toNat_natCast]
    unfold Builtin.Str.tooLong
    have : (1000000 : Nat) ≤ sizeLine := by decide
    exact decide_eq_false (by omega)
  refine P.mul_str (by
    rw [Bool.or_eq_false_iff]
    exact ⟨decide_eq_false (by omega), decide_eq_false (by omega)⟩) (fun _ _ => ?_) (fun _ _ => e3) ?_
  · have : (1000 : Int) ≤ (2 ^ 63 - 1) / (n : Int) := by
      rw [Int.le_ediv_iff_mul_le (by omega)]
      omega
    omega
  · rw [if_neg e1, e2, if_neg Bool.false_ne_true, Int.toNat_natCast]
    refine ⟨?_, ?_⟩
    · show ((List.replicate n z.cps).foldl (· ++ ·) #[]).size ≤ sizeLine
      rw [rep_size]
      have h1 : (1000000 : Nat) ≤ sizeLine := by decide
      have h2 : n * z.length ≤ 1000000 := by
        rw [Nat.mul_comm]
        exact hmul
      show 0 + n * z.length ≤ sizeLine
      omega
    · exact ⟨.str (repS z n), H, I.tok _, ⟨_, rfl⟩, q⟩
end Mw
namespace PySem.W
open PySem PySem.Spec PySem.Calls PyProof.Rows
section
variable {prog : Program} {w : World} {A : Around} {E : Value → Shared → Prop} {s : Shared} {K : Frag} {x D : Addr} {ox : Obj} {od : Option Obj}
theorem mw_find_class (C : L2.ExcC K D) : findObj K D od "__class__" = some (.bind (.builtin "getset_descriptor.__get__") (.builtin "object.__class__")) := by
  obtain ⟨cd, hc, _⟩ := any_some C.hd
  unfold findObj
  rw [hc, Option.bind_some, C.ha, Option.bind_some]
  simp [C.hn, C.ht]
theorem mw_class {Q : Option Value → Shared → Prop} (C : L2.ExcC K D) (X : K.In s.heap) (I : InstAt s.heap x ox D od) (h : Q (some (.ref D)) { s with toks := s.toks + 1 }) :
    wpAny (model prog w) A (getAttr? (.ref x) "__class__") Q E s := by
  obtain ⟨hp, g, d, t, os⟩ := s
  have T0 := I.type (M := model prog w)
  have T1 := looks_findIn (M := model prog w) X C.hg
  have T2 := looks_findIn (M := model prog w) X C.hk
  have T3 := looks_find (M := model prog w) X I (mw_find_class C)
  have isB : Looks (model prog w) hp (isInstance (.ref x) (.type "BaseException")) true := T0.andThen (looks_subIn X C.hs)
  have n2 : (Value.builtin "BaseException.__getattribute__" == Value.builtin "object.__getattribute__") = false := by decide +kernel
  have n1 : (onTheHeap (Value.ref D) && Value.builtin "BaseException.__getattribute__" == Value.builtin "object.__getattribute__") = false := by
    rw [n2]
    rfl
  have n0 : (false && onTheHeap (Value.builtin "BaseException.__getattribute__")) = false := rfl
  unfold getAttr? getAttrBy? getAttrBy
  refine wpAny_bind (wpAny_mkText (wpAny_bind (wpAny_attempt (wpAny_holding (wpAny_bind (T0.at (wpAny_bind (T1.at ?_))))))))
  show wpAny _ _ (ite ((onTheHeap (Value.ref D) && Value.builtin "BaseException.__getattribute__" == Value.builtin "object.__getattribute__") = true) _ _) _ _ _
  rw [n1, if_neg Bool.false_ne_true]
  unfold getAttrByItsOwn hookBefore
  refine wpAny_bind ?_
  rw [if_pos (show onTheHeap (Value.ref D) = true from rfl)]
  refine T2.at (wpAny_bind (wpAny_attempt (wpAny_holding ?_)))
  unfold callGetattribute
  rw [n0, if_neg Bool.false_ne_true]
  unfold boundAndCalled
  rw [PySem.F.excAttr_ValueError.ga.bind (.ref x)]
  refine wpAny_bind (wpAny_pure ?_)
  show wpAny _ _ (call (.builtin "BaseException.__getattribute__") [.ref x, .str "__class__" t]) _ _ _
  refine wpAny_call (codeAny_call_builtin PySem.F.excAttr_ValueError.ga.plain PySem.F.entry_bexc_ga ?_)
  refine @check_slot (model prog w) _ _ ⟨hp, g, d, t + 1, os⟩ "BaseException.__getattribute__" "BaseException" "__getattribute__" (.ref x) [.str "__class__" t] [] _ (by decide +kernel) (by decide +kernel) isB (PySem.F.args_bexc_ga (.ref x) (.str "__class__" t)) ?_
  unfold Builtin.«object.__getattribute__»
  refine wpAny_bind (wpAny_of_eq (a := ((Value.ref x : Value), [Value.str "__class__" t])) (by first | rfl | (simp only [slotArgs]; rfl)) ?_)
  refine wpAny_bind (wpAny_pure (wpAny_bind (T0.at (wpAny_bind (T3.at ?_)))))
  show wpAny _ _ (holding [Value.builtin "object.__class__"] (call (.builtin "getset_descriptor.__get__") [.builtin "object.__class__", .ref x, .ref D]) >>= ret) _ _ _
  refine wpAny_bind (wpAny_holding (wpAny_call (class_get (s := ⟨hp, g, d, t + 1, os⟩) (ox := ox) (od := od) X I C.hm ?_)))
  refine wpAny_pure ?_
  show wpAny _ _ (handedOut (.ref D)) _ _ _
  rw [handedOut_of (v := .ref D) rfl]
  first
    | exact wpAny_pure (wpAny_pure h)
    | exact wpAny_pure h
    | exact wpAny_pure (wpAny_bind (wpAny_pure (wpAny_pure h)))
theorem mw_kitx (C : L2.ExcC K D) : KitX K (.ref x) (.ref D) (fun h => InstAt h x ox D od) where
  ty := fun _ _ _ I => I.type
  it := fun _ _ X _ => by
    obtain ⟨cdD, hcD, _⟩ := any_some C.hd
    unfold clsIn at hcD
    split at hcD
    · rename_i c' d' cd' sl' ho
      intro A' Q' E' s' k q
      unfold isType loadHead
      exact wpAny_bind (wpAny_loadPart (k _ _ (X _ _ ho)) (wpAny_pure q))
    · cases hcD
  ne := fun h tp dd its n sl X htp => by
    obtain ⟨cdD, hcD, _⟩ := any_some C.hd
    refine Bool.eq_false_iff.mpr fun q => ?_
    have e : D = tp := Value.ref.inj (beq_iff_eq.mp q)
    subst e
    unfold clsIn at hcD
    split at hcD
    · rename_i c' d' cd' sl' ho
      cases (X _ _ ho).symm.trans htp
    · cases hcD
  ca := fun X I k => mw_class C X I k
end
end PySem.W
namespace Mw
open PySem PySem.Spec PyProof.Rows L2
/-- isinstance(e, c), e the exception that the suite holds, with fields or without -/
def rIsEx (K : PySem.W.Frag) (a : Addr) (cls : Value) (d : Option Addr) : List V → Hp → VK → Prop := fun xs H Q => ∃ (D : Addr) (c : V) (cv : Value) (b : Bool), xs = [.ref a, c] ∧ cls = .ref D ∧ ExcC K D ∧ (d = none ∨ ∃ dd fs, d = some dd ∧ H dd = some (.xd fs)) ∧ ClsV c cv ∧ PySem.W.kitOne K (.ref D) cv = some b ∧ Q (.bl b) H
theorem call_isEx {X : Cx} {a : Addr} {cls : Value} {d : Option Addr} {oe : Obj} {pn : List (Addr × Obj)} (hz : Zc cls d oe) (hf : ∃ vs, oe.data = .fields vs) : CallR (X.suite a ((a, oe) :: pn)) (.builtin "isinstance") (rIsEx X.K a cls d) := by
  intro pins s σ H xs us Q I r h
  obtain ⟨D, c, cv, b, rfl, ec, C, hd, hcv, e, q⟩ := h
  cases r with
  | cons rx rr =>
    cases rr with
    | cons rt rr =>
      cases rr
      cases rx
      have ecv := hcv.eq rt
      subst ecv
      subst ec
      obtain ⟨hget, _⟩ := I.pin (a, oe) (List.mem_append.mpr (.inl List.mem_cons_self))
      obtain ⟨vs, hv⟩ := hf
      have hno : PySem.W.notCls oe = true := by
        unfold PySem.W.notCls
        rw [hv] <;> rfl
      rcases hd with hd | ⟨dd, fs, hd, hx⟩
      · subst hd
        have J : PySem.W.InstAt s.heap a oe D none := ⟨hget, hz.1, hno, by rw [hz.2]; trivial⟩
        exact PySem.W.kia_one (PySem.W.mw_kitx C) I.kIn J e (fun z => nomatch z) fun tk => ⟨.bl b, H, I.kept (t' := tk) fun _ _ z => z, rfl, q⟩
      · subst hd
        have hob : ObjOk X.prog X.w H s.heap dd (.xd fs) := I.hok dd _ hx
        obtain ⟨mA, hns, hr⟩ := hob
        obtain ⟨od, ho, hl⟩ := lookIn_ns hns
        have J : PySem.W.InstAt s.heap a oe D (some od) := ⟨hget, hz.1, hno, by rw [hz.2]; exact ho⟩
        exact PySem.W.kia_one (PySem.W.mw_kitx C) I.kIn J e (fun z => nomatch z) fun tk => ⟨.bl b, H, I.kept (t' := tk) fun _ _ z => z, rfl, q⟩
end Mw

/-! MS -/
/-! The text by places, what the top leaves. -/
namespace Mw
open PySem L2
abbrev SC_SIGNS : Str := " !\"#$ &'()*+,-./0123456789:;<=>?@ABCDEFGHIJKLMNOPQRSTUVWXYZ[\\]^_`abcdefghijklmnopqrstuvwxyz{|}~"
def top (i : Nat) : Stmt := PySem.Challenge.pw_moststream_k28_whole_rows_there_and_back.main.body.getD i (.Pass ⟨0, 0, 0, 0⟩)
/-- what the top has left: the names of the built-in things are free, the classes stand -/
structure Tx (K : PySem.W.Frag) (mg : Str → Option Value) where
  c_NoParcel : Addr
  c_NoRow : Addr
  c_BadRow : Addr
  c_StreamError : Addr
  b_isinstance : mg "isinstance" = none
  b_int : mg "int" = none
  b_bool : mg "bool" = none
  b_tuple : mg "tuple" = none
  b_list : mg "list" = none
  b_str : mg "str" = none
  b_len : mg "len" = none
  b_range : mg "range" = none
  b_zip : mg "zip" = none
  b_min : mg "min" = none
  b_all : mg "all" = none
  b_sum : mg "sum" = none
  b_abs : mg "abs" = none
  b_ord : mg "ord" = none
  b_repr : mg "repr" = none
  b_ValueError : mg "ValueError" = none
  g_NoParcel : mg "NoParcel" = some (.ref c_NoParcel)
  g_NoRow : mg "NoRow" = some (.ref c_NoRow)
  g_BadRow : mg "BadRow" = some (.ref c_BadRow)
  g_StreamError : mg "StreamError" = some (.ref c_StreamError)
  k1 : Tok
  k2 : Tok
  k3 : Tok
  k4 : Tok
  k5 : Tok
  k6 : Tok
  k7 : Tok
  k8 : Tok
  k9 : Tok
  k10 : Tok
  k11 : Tok
  k12 : Tok
  k13 : Tok
  k14 : Tok
  k15 : Tok
  k16 : Tok
  k17 : Tok
  g_NONE : mg "NONE" = some (.int 0 k1)
  g_NO : mg "NO" = some (.int 1 k2)
  g_YES : mg "YES" = some (.int 2 k3)
  g_FROM_ZERO : mg "FROM_ZERO" = some (.int 3 k4)
  g_BELOW_ZERO : mg "BELOW_ZERO" = some (.int 4 k5)
  g_STRING : mg "STRING" = some (.int 5 k6)
  g_TUPLE : mg "TUPLE" = some (.int 6 k7)
  g_MOST_SIGNS : mg "MOST_SIGNS" = some (.int 20 k8)
  g_MOST_DEEP : mg "MOST_DEEP" = some (.int 20 k9)
  g_BYTE_LIMIT : mg "BYTE_LIMIT" = some (.int 256 k10)
  g_FIGURE_LIMIT : mg "FIGURE_LIMIT" = some (.int 128 k11)
  g_MARK_LIMIT : mg "MARK_LIMIT" = some (.int 2305843009213693951 k12)
  g_SEAL_LENGTH : mg "SEAL_LENGTH" = some (.int 4 k13)
  g_LEAST_SIGN : mg "LEAST_SIGN" = some (.int 32 k14)
  g_GREATEST_SIGN : mg "GREATEST_SIGN" = some (.int 126 k15)
  g_NO_SIGN : mg "NO_SIGN" = some (.int 37 k16)
  g_SIGNS : mg "SIGNS" = some (.str SC_SIGNS k17)
  x_NoParcel : OexC K c_NoParcel
  x_NoRow : OexC K c_NoRow
  x_BadRow : OexC K c_BadRow
  na_place : PySem.W.findIn K (.ref c_BadRow) "place" = some none
  e_BadRowBadRow : PySem.W.exmOne K (.ref c_BadRow) (.ref c_BadRow) = some true
  r_NoParcelStream : PySem.W.exmOne K (.ref c_NoParcel) (.ref c_StreamError) = some true
  xn_BadRow : PySem.W.findIn K (.ref c_BadRow) "place" = some none
  xf_BadRow : XfC K c_BadRow
  xc_NoParcel : ExcC K c_NoParcel
  xc_BadRow : ExcC K c_BadRow
  q_NpNp : PySem.W.kitOne K (.ref c_NoParcel) (.ref c_NoParcel) = some true
  q_NpVe : PySem.W.kitOne K (.ref c_NoParcel) (.type "ValueError") = some true
  q_BrSe : PySem.W.kitOne K (.ref c_BadRow) (.ref c_StreamError) = some true
  q_BrVe : PySem.W.kitOne K (.ref c_BadRow) (.type "ValueError") = some true
/-- a def of the top by its name -/
structure Df (K : PySem.W.Frag) (mg : Str → Option Value) (x : Str) (st : Stmt) (ps : List Str) where
  f : Addr
  fd : FuncData
  F : Fun K x x st f fd
  m : mg x = some (.ref f)
  b : Binds K fd ps []
/-- a method of a class -/
structure Dm (K : PySem.W.Frag) (C : Addr) (x q : Str) (st : Stmt) (ps : List Str) where
  f : Addr
  fd : FuncData
  F : Fun K x q st f fd
  a : PySem.W.findIn K (.ref C) x = some (some (.ref f))
  i : PySem.W.isFn K (.ref f) = true
  t : PySem.W.typeIn K (.ref f) = some (.type "function")
  b : Binds K fd ps []
/-- the classes whose objects are met (none) -/
def Tx.CP {K : PySem.W.Frag} {mg : Str → Option Value} (_ : Tx K mg) : Addr → Prop := fun _ => False
theorem Tx.W {K : PySem.W.Frag} {mg : Str → Option Value} (T : Tx K mg) : ∀ C, T.CP C → WebTy K C := fun _ h => h.elim
abbrev s_NoParcel_init : Stmt := inClass (top 2) 0
theorem sc_NoParcel_init : FnScope ["self"] ["self"] (defScope s_NoParcel_init) := ⟨rfl, rfl, rfl, by decide +kernel, rfl, by decide +kernel, by decide +kernel⟩
abbrev s_NoRow_init : Stmt := inClass (top 3) 0
theorem sc_NoRow_init : FnScope ["self"] ["self"] (defScope s_NoRow_init) := ⟨rfl, rfl, rfl, by decide +kernel, rfl, by decide +kernel, by decide +kernel⟩
abbrev s_BadRow_init : Stmt := inClass (top 4) 0
theorem sc_BadRow_init : FnScope ["self", "place"] ["self", "place"] (defScope s_BadRow_init) := ⟨rfl, rfl, rfl, by decide +kernel, rfl, by decide +kernel, by decide +kernel⟩
abbrev s_is_int : Stmt := top 6
theorem sc_is_int : FnScope ["thing"] ["thing"] (defScope s_is_int) := ⟨rfl, rfl, rfl, by decide +kernel, rfl, by decide +kernel, by decide +kernel⟩
abbrev s_is_number : Stmt := top 7
theorem sc_is_number : FnScope ["thing"] ["thing"] (defScope s_is_number) := ⟨rfl, rfl, rfl, by decide +kernel, rfl, by decide +kernel, by decide +kernel⟩
abbrev s_is_number_below : Stmt := top 8
theorem sc_is_number_below : FnScope ["limit", "thing"] ["limit", "thing"] (defScope s_is_number_below) := ⟨rfl, rfl, rfl, by decide +kernel, rfl, by decide +kernel, by decide +kernel⟩
abbrev s_is_byte : Stmt := top 27
theorem sc_is_byte : FnScope ["thing"] ["thing"] (defScope s_is_byte) := ⟨rfl, rfl, rfl, by decide +kernel, rfl, by decide +kernel, by decide +kernel⟩
abbrev s_is_row : Stmt := top 28
theorem sc_is_row : FnScope ["thing", "item"] ["thing"] (defScope s_is_row) := ⟨rfl, rfl, rfl, by decide +kernel, rfl, by decide +kernel, by decide +kernel⟩
abbrev s_check_row : Stmt := top 29
theorem sc_check_row : FnScope ["row"] ["row"] (defScope s_check_row) := ⟨rfl, rfl, rfl, by decide +kernel, rfl, by decide +kernel, by decide +kernel⟩
abbrev s_is_sign : Stmt := top 30
theorem sc_is_sign : FnScope ["number"] ["number"] (defScope s_is_sign) := ⟨rfl, rfl, rfl, by decide +kernel, rfl, by decide +kernel, by decide +kernel⟩
abbrev s_is_parcel : Stmt := top 31
theorem sc_is_parcel : FnScope ["thing"] ["thing"] (defScope s_is_parcel) := ⟨rfl, rfl, rfl, by decide +kernel, rfl, by decide +kernel, by decide +kernel⟩
abbrev s_is_parcel_within : Stmt := top 32
theorem sc_is_parcel_within : FnScope ["deep", "thing", "item", "sign"] ["deep", "thing"] (defScope s_is_parcel_within) := ⟨rfl, rfl, rfl, by decide +kernel, rfl, by decide +kernel, by decide +kernel⟩
abbrev s_row_of : Stmt := top 33
theorem sc_row_of : FnScope ["parcel"] ["parcel"] (defScope s_row_of) := ⟨rfl, rfl, rfl, by decide +kernel, rfl, by decide +kernel, by decide +kernel⟩
abbrev s_told : Stmt := top 34
theorem sc_told : FnScope ["parcel", "told", "item", "sign"] ["parcel"] (defScope s_told) := ⟨rfl, rfl, rfl, by decide +kernel, rfl, by decide +kernel, by decide +kernel⟩
abbrev s_whole : Stmt := top 35
theorem sc_whole : FnScope ["number", "left", "told"] ["number"] (defScope s_whole) := ⟨rfl, rfl, rfl, by decide +kernel, rfl, by decide +kernel, by decide +kernel⟩
abbrev s_parcel_of : Stmt := top 36
theorem sc_parcel_of : FnScope ["row", "parcel", "behind"] ["row"] (defScope s_parcel_of) := ⟨rfl, rfl, rfl, by decide +kernel, rfl, by decide +kernel, by decide +kernel⟩
abbrev s_check_there : Stmt := top 37
theorem sc_check_there : FnScope ["row", "place"] ["row", "place"] (defScope s_check_there) := ⟨rfl, rfl, rfl, by decide +kernel, rfl, by decide +kernel, by decide +kernel⟩
abbrev s_parcel_at : Stmt := top 38
theorem sc_parcel_at : FnScope ["row", "place", "deep", "sort", "number", "behind"] ["row", "place", "deep"] (defScope s_parcel_at) := ⟨rfl, rfl, rfl, by decide +kernel, rfl, by decide +kernel, by decide +kernel⟩
abbrev s_whole_at : Stmt := top 39
theorem sc_whole_at : FnScope ["row", "place", "last", "number", "byte"] ["row", "place"] (defScope s_whole_at) := ⟨rfl, rfl, rfl, by decide +kernel, rfl, by decide +kernel, by decide +kernel⟩
abbrev s_string_at : Stmt := top 40
theorem sc_string_at : FnScope ["row", "place", "many", "signs", "at"] ["row", "place", "many"] (defScope s_string_at) := ⟨rfl, rfl, rfl, by decide +kernel, rfl, by decide +kernel, by decide +kernel⟩
abbrev s_tuple_at : Stmt := top 41
theorem sc_tuple_at : FnScope ["row", "place", "many", "deep", "items", "behind", "item"] ["row", "place", "many", "deep"] (defScope s_tuple_at) := ⟨rfl, rfl, rfl, by decide +kernel, rfl, by decide +kernel, by decide +kernel⟩
abbrev s_mark_of : Stmt := top 42
theorem sc_mark_of : FnScope ["row", "found", "byte"] ["row"] (defScope s_mark_of) := ⟨rfl, rfl, rfl, by decide +kernel, rfl, by decide +kernel, by decide +kernel⟩
abbrev s_seal_ : Stmt := top 43
theorem sc_seal_ : FnScope ["row", "left", "seal", "_"] ["row"] (defScope s_seal_) := ⟨rfl, rfl, rfl, by decide +kernel, rfl, by decide +kernel, by decide +kernel⟩
abbrev s_sealed : Stmt := top 44
theorem sc_sealed : FnScope ["parcel", "row"] ["parcel"] (defScope s_sealed) := ⟨rfl, rfl, rfl, by decide +kernel, rfl, by decide +kernel, by decide +kernel⟩
abbrev s_law_pool : Stmt := top 46
theorem sc_law_pool : FnScope ["_law_script", "_law_seed", "_law_cell"] ["_law_script"] (defScope s_law_pool) := ⟨rfl, rfl, rfl, by decide +kernel, rfl, by decide +kernel, by decide +kernel⟩
abbrev s_law_draw : Stmt := top 47
theorem sc_law_draw : FnScope ["_law_pool_here", "_law_many", "_law_cells", "_law_digit", "_law_mixed"] ["_law_pool_here", "_law_many"] (defScope s_law_draw) := ⟨rfl, rfl, rfl, by decide +kernel, rfl, by decide +kernel, by decide +kernel⟩
abbrev s_law_deep : Stmt := top 48
theorem sc_law_deep : FnScope ["_law_thing", "_law_turn"] [] (defScope s_law_deep) := ⟨rfl, rfl, rfl, by decide +kernel, rfl, by decide +kernel, by decide +kernel⟩
abbrev s_law_flag : Stmt := top 49
theorem sc_law_flag : FnScope ["_law_thing", "_law_due"] ["_law_thing", "_law_due"] (defScope s_law_flag) := ⟨rfl, rfl, rfl, by decide +kernel, rfl, by decide +kernel, by decide +kernel⟩
abbrev s_law_whole : Stmt := top 50
theorem sc_law_whole : FnScope ["_law_number_here", "_law_found"] ["_law_number_here"] (defScope s_law_whole) := ⟨rfl, rfl, rfl, by decide +kernel, rfl, by decide +kernel, by decide +kernel⟩
abbrev s_law_bytes : Stmt := top 51
theorem sc_law_bytes : FnScope ["_law_parcel_here", "_law_found", "_law_part", "_law_sign_here"] ["_law_parcel_here"] (defScope s_law_bytes) := ⟨rfl, rfl, rfl, by decide +kernel, rfl, by decide +kernel, by decide +kernel⟩
abbrev s_law_number : Stmt := top 52
theorem sc_law_number : FnScope ["_law_pool_here", "_law_kind", "_law_great", "_law_found", "_law_turn"] ["_law_pool_here"] (defScope s_law_number) := ⟨rfl, rfl, rfl, by decide +kernel, rfl, by decide +kernel, by decide +kernel⟩
abbrev s_law_parcel : Stmt := top 53
theorem sc_law_parcel : FnScope ["_law_pool_here", "_law_deep_here", "_law_kind", "_law_many", "_law_turn", "_law_at"] ["_law_pool_here", "_law_deep_here"] (defScope s_law_parcel) := ⟨rfl, rfl, rfl, by decide +kernel, rfl, by decide +kernel, by decide +kernel⟩
abbrev s_law_nested : Stmt := top 54
theorem sc_law_nested : FnScope ["_law_many", "_law_inner", "_law_found", "_law_turn"] ["_law_many", "_law_inner"] (defScope s_law_nested) := ⟨rfl, rfl, rfl, by decide +kernel, rfl, by decide +kernel, by decide +kernel⟩
abbrev s_law_same : Stmt := top 55
theorem sc_law_same : FnScope ["_law_one", "_law_other", "_law_first_here", "_law_later"] ["_law_one", "_law_other"] (defScope s_law_same) := ⟨rfl, rfl, rfl, by decide +kernel, rfl, by decide +kernel, by decide +kernel⟩
abbrev s_law_is_parcel : Stmt := top 56
theorem sc_law_is_parcel : FnScope ["_law_thing", "_law_left", "_law_part", "_law_sign_here"] ["_law_thing", "_law_left"] (defScope s_law_is_parcel) := ⟨rfl, rfl, rfl, by decide +kernel, rfl, by decide +kernel, by decide +kernel⟩
abbrev s_law_word : Stmt := top 57
theorem sc_law_word : FnScope ["_law_which", "_law_thing", "_law_word_here", "e"] ["_law_which", "_law_thing"] (defScope s_law_word) := ⟨rfl, rfl, rfl, by decide +kernel, rfl, by decide +kernel, by decide +kernel⟩
abbrev s_law_first : Stmt := top 58
theorem sc_law_first : FnScope ["_law_script", "_law_pool_here", "_law_turn", "_law_parcel_here", "_law_row", "_law_odd", "_law_thing", "_law_one", "_law_due", "_law_words", "_law_which"] ["_law_script"] (defScope s_law_first) := ⟨rfl, rfl, rfl, by decide +kernel, rfl, by decide +kernel, by decide +kernel⟩
abbrev s_law_is : Stmt := top 59
theorem sc_law_is : FnScope ["_law_told_here", "_law_due"] ["_law_told_here", "_law_due"] (defScope s_law_is) := ⟨rfl, rfl, rfl, by decide +kernel, rfl, by decide +kernel, by decide +kernel⟩
abbrev s_law_sign : Stmt := top 60
theorem sc_law_sign : FnScope ["_law_byte", "_law_signs"] ["_law_byte"] (defScope s_law_sign) := ⟨rfl, rfl, rfl, by decide +kernel, rfl, by decide +kernel, by decide +kernel⟩
abbrev s_law_read_whole : Stmt := top 61
theorem sc_law_read_whole : FnScope ["_law_row", "_law_at", "_law_behind", "_law_found", "_law_byte"] ["_law_row", "_law_at"] (defScope s_law_read_whole) := ⟨rfl, rfl, rfl, by decide +kernel, rfl, by decide +kernel, by decide +kernel⟩
abbrev s_law_read : Stmt := top 62
theorem sc_law_read : FnScope ["_law_row", "_law_at", "_law_left", "_law_sort", "_law_number_here", "_law_here", "_law_found", "_law_part"] ["_law_row", "_law_at", "_law_left"] (defScope s_law_read) := ⟨rfl, rfl, rfl, by decide +kernel, rfl, by decide +kernel, by decide +kernel⟩
abbrev s_law_read_string : Stmt := top 63
theorem sc_law_read_string : FnScope ["_law_row", "_law_begin", "_law_many", "_law_here", "_law_at", "_law_byte"] ["_law_row", "_law_begin", "_law_many", "_law_here"] (defScope s_law_read_string) := ⟨rfl, rfl, rfl, by decide +kernel, rfl, by decide +kernel, by decide +kernel⟩
abbrev s_law_told : Stmt := top 64
theorem sc_law_told : FnScope ["_law_row", "_law_found", "_law_here"] ["_law_row"] (defScope s_law_told) := ⟨rfl, rfl, rfl, by decide +kernel, rfl, by decide +kernel, by decide +kernel⟩
abbrev s_law_read_by : Stmt := top 65
theorem sc_law_read_by : FnScope ["_law_row", "_law_found", "e"] ["_law_row"] (defScope s_law_read_by) := ⟨rfl, rfl, rfl, by decide +kernel, rfl, by decide +kernel, by decide +kernel⟩
abbrev s_law_spoilt : Stmt := top 66
theorem sc_law_spoilt : FnScope ["_law_pool_here", "_law_row", "_law_at", "_law_byte", "_law_some"] ["_law_pool_here", "_law_row"] (defScope s_law_spoilt) := ⟨rfl, rfl, rfl, by decide +kernel, rfl, by decide +kernel, by decide +kernel⟩
abbrev s_law_right : Stmt := top 67
theorem sc_law_right : FnScope ["_law_row", "_law_due", "_law_told_here"] ["_law_row"] (defScope s_law_right) := ⟨rfl, rfl, rfl, by decide +kernel, rfl, by decide +kernel, by decide +kernel⟩
abbrev s_law_second : Stmt := top 68
theorem sc_law_second : FnScope ["_law_script", "_law_pool_here", "_law_turn", "_law_row", "_law_again", "_law_few", "_law_drawn", "_law_deep_here", "_law_at"] ["_law_script"] (defScope s_law_second) := ⟨rfl, rfl, rfl, by decide +kernel, rfl, by decide +kernel, by decide +kernel⟩
abbrev s_law : Stmt := top 69
theorem sc_law : FnScope ["_law_script"] ["_law_script"] (defScope s_law) := ⟨rfl, rfl, rfl, by decide +kernel, rfl, by decide +kernel, by decide +kernel⟩
structure Bk (K : PySem.W.Frag) (mg : Str → Option Value) (T : Tx K mg) where
  NoParcel_init : Dm K T.c_NoParcel "__init__" "NoParcel.__init__" s_NoParcel_init ["self"]
  NoRow_init : Dm K T.c_NoRow "__init__" "NoRow.__init__" s_NoRow_init ["self"]
  BadRow_init : Dm K T.c_BadRow "__init__" "BadRow.__init__" s_BadRow_init ["self", "place"]
  is_int : Df K mg "is_int" s_is_int ["thing"]
  is_number : Df K mg "is_number" s_is_number ["thing"]
  is_number_below : Df K mg "is_number_below" s_is_number_below ["limit", "thing"]
  is_byte : Df K mg "is_byte" s_is_byte ["thing"]
  is_row : Df K mg "is_row" s_is_row ["thing"]
  check_row : Df K mg "check_row" s_check_row ["row"]
  is_sign : Df K mg "_is_sign" s_is_sign ["number"]
  is_parcel : Df K mg "is_parcel" s_is_parcel ["thing"]
  is_parcel_within : Df K mg "_is_parcel_within" s_is_parcel_within ["deep", "thing"]
  row_of : Df K mg "row_of" s_row_of ["parcel"]
  told : Df K mg "_told" s_told ["parcel"]
  whole : Df K mg "_whole" s_whole ["number"]
  parcel_of : Df K mg "parcel_of" s_parcel_of ["row"]
  check_there : Df K mg "_check_there" s_check_there ["row", "place"]
  parcel_at : Df K mg "_parcel_at" s_parcel_at ["row", "place", "deep"]
  whole_at : Df K mg "_whole_at" s_whole_at ["row", "place"]
  string_at : Df K mg "_string_at" s_string_at ["row", "place", "many"]
  tuple_at : Df K mg "_tuple_at" s_tuple_at ["row", "place", "many", "deep"]
  mark_of : Df K mg "_mark_of" s_mark_of ["row"]
  seal_ : Df K mg "_seal" s_seal_ ["row"]
  sealed : Df K mg "sealed" s_sealed ["parcel"]
  law_pool : Df K mg "_law_pool" s_law_pool ["_law_script"]
  law_draw : Df K mg "_law_draw" s_law_draw ["_law_pool_here", "_law_many"]
  law_deep : Df K mg "_law_deep" s_law_deep []
  law_flag : Df K mg "_law_flag" s_law_flag ["_law_thing", "_law_due"]
  law_whole : Df K mg "_law_whole" s_law_whole ["_law_number_here"]
  law_bytes : Df K mg "_law_bytes" s_law_bytes ["_law_parcel_here"]
  law_number : Df K mg "_law_number" s_law_number ["_law_pool_here"]
  law_parcel : Df K mg "_law_parcel" s_law_parcel ["_law_pool_here", "_law_deep_here"]
  law_nested : Df K mg "_law_nested" s_law_nested ["_law_many", "_law_inner"]
  law_same : Df K mg "_law_same" s_law_same ["_law_one", "_law_other"]
  law_is_parcel : Df K mg "_law_is_parcel" s_law_is_parcel ["_law_thing", "_law_left"]
  law_word : Df K mg "_law_word" s_law_word ["_law_which", "_law_thing"]
  law_first : Df K mg "_law_first" s_law_first ["_law_script"]
  law_is : Df K mg "_law_is" s_law_is ["_law_told_here", "_law_due"]
  law_sign : Df K mg "_law_sign" s_law_sign ["_law_byte"]
  law_read_whole : Df K mg "_law_read_whole" s_law_read_whole ["_law_row", "_law_at"]
  law_read : Df K mg "_law_read" s_law_read ["_law_row", "_law_at", "_law_left"]
  law_read_string : Df K mg "_law_read_string" s_law_read_string ["_law_row", "_law_begin", "_law_many", "_law_here"]
  law_told : Df K mg "_law_told" s_law_told ["_law_row"]
  law_read_by : Df K mg "_law_read_by" s_law_read_by ["_law_row"]
  law_spoilt : Df K mg "_law_spoilt" s_law_spoilt ["_law_pool_here", "_law_row"]
  law_right : Df K mg "_law_right" s_law_right ["_law_row"]
  law_second : Df K mg "_law_second" s_law_second ["_law_script"]
  law : Df K mg "law" s_law ["_law_script"]
end Mw

/-! R2m -/
/-! Rows: the mathematics. -/
namespace Mw
open PySem L2
def wh (n : Nat) : List Int := if n < 128 then [(n : Int)] else ((n % 128 + 128 : Nat) : Int) :: wh (n / 128)
termination_by n
decreasing_by omega
theorem wh_lt {n : Nat} (h : n < 128) : wh n = [(n : Int)] := by
  rw [wh, if_pos h]
theorem wh_ge {n : Nat} (h : ¬ n < 128) : wh n = ((n % 128 + 128 : Nat) : Int) :: wh (n / 128) := by
  rw [wh, if_neg h]
theorem wh_pos (n : Nat) : 1 ≤ (wh n).length := by
  by_cases h : n < 128
  · rw [wh_lt h]
    exact Nat.le_refl _
  · rw [wh_ge h, List.length_cons]
    omega
def sgn (s : Str) : List Int := s.cps.toList.map fun c : Nat => (c : Int)
mutual
def byD : PyData → List Int
  | .none => [0]
  | .bool b => [if b then 2 else 1]
  | .int i => if 0 ≤ i then 3 :: wh i.toNat else 4 :: wh (-1 - i).toNat
  | .str s => 5 :: (wh s.length ++ sgn s)
  | .tuple ds => 6 :: (wh ds.length ++ byAll ds)
  | _ => []
def byAll : List PyData → List Int
  | [] => []
  | d :: ds => byD d ++ byAll ds
end
theorem byAll_app : ∀ a b : List PyData, byAll (a ++ b) = byAll a ++ byAll b
  | [], b => rfl
  | d :: a, b => by
    show byD d ++ byAll (a ++ b) = (byD d ++ byAll a) ++ byAll b
    rw [byAll_app a b, List.append_assoc]
theorem byAll_one (d : PyData) : byAll [d] = byD d := by
  show byD d ++ [] = byD d
  rw [List.append_nil]
theorem byAll_get : ∀ {ds : List PyData} {i : Nat} {d : PyData}, ds[i]? = some d → (byD d).length ≤ (byAll ds).length
  | [], i, d, e => by simp at e
  | c :: ds, 0, d, e => by
    cases e
    show _ ≤ (byD c ++ byAll ds).length
    rw [List.length_append]
    omega
  | c :: ds, i + 1, d, e => by
    have := byAll_get (ds := ds) (i := i) (d := d) (by simpa using e)
    show _ ≤ (byD c ++ byAll ds).length
    rw [List.length_append]
    omega
theorem byAll_take : ∀ (ds : List PyData) (i : Nat), (byAll (ds.take i)).length ≤ (byAll ds).length
  | [], i => by simp
  | c :: ds, 0 => by simp [byAll]
  | c :: ds, i + 1 => by
    have := byAll_take ds i
    show (byD c ++ byAll (ds.take i)).length ≤ (byD c ++ byAll ds).length
    rw [List.length_append, List.length_append]
    omega
end Mw

/-! R2 -/
namespace Mw
open PySem L2
/-- a judge of one thing that changes nothing -/
def spJ (CP : Addr → Prop) (g : PyData → Bool) : Sp := fun vs H Q _ => ∃ M d x, vs = [x] ∧ Dt CP M H d x ∧ Q (.bl (g d)) H
/-- a judge of an integer and a thing -/
def spJ2 (CP : Addr → Prop) (g : Int → PyData → Bool) : Sp := fun vs H Q _ => ∃ M i d x, vs = [.int i, x] ∧ Dt CP M H d x ∧ Q (.bl (g i d)) H
/-- an own error with a place is raised: it stands at a new place, all else as it was -/
def Raised (C : Addr) (part : V) (H : Hp) (E : XK) : Prop := ∀ e H', H e = none → Same H H' → H' e = some (.xd [(("place" : Str), part)]) → E (.ref C) (some e) H'
theorem Raised.of {C : Addr} {part : V} {H H1 : Hp} {E : XK} (h : Raised C part H E) (s : Same H H1) : Raised C part H1 E := fun e H' n s' r => h e H' (s.free n) (s.trans s') r
def spBadInit (C : Addr) : Sp := fun vs H Q _ => ∃ a v, vs = [.ref a, v] ∧ H a = some (exo a C none) ∧ ∀ dx, H dx = none → dx ≠ a → Q .non (upd (upd H dx (exd dx [(("place" : Str), v)])) a (exo a C (some dx)))
def spPass : Sp := fun vs H Q _ => ∃ a, vs = [.ref a] ∧ Q .non H
theorem bad_made {C : Addr} {H : Hp} {part : V} {Q : XK} (h : Raised C part H Q) : [part].length ≤ 1000 ∧ ∀ a, H a = none → spBadInit C (.ref a :: ([part] ++ [])) (upd H a (exo a C none))
    (fun v H2 => v = .non ∧ ∃ (d : Addr) (fs : List (Str × V)), H2 a = some (exo a C (some d)) ∧ H2 d = some (exd d fs) ∧ H d = none ∧ Q (.ref C) (some d) (upd (del H2 a) d (.xd fs))) (fun _ _ _ => False) := by
  refine ⟨Nat.le_of_ble_eq_true rfl, fun a ha => ⟨a, part, rfl, upd_same, fun dx hdx ne => ⟨rfl, dx, [(("place" : Str), part)], upd_same, ?_, ?_, ?_⟩⟩⟩
  · rw [upd_ne ne, upd_same]
  · rw [upd_ne ne] at hdx
    exact hdx
  · have hd0 : H dx = none := by
      rw [upd_ne ne] at hdx
      exact hdx
    refine h dx _ hd0 (fun b o hb => ?_) upd_same
    have n1 : b ≠ dx := ne_of_none hb hd0
    have n2 : b ≠ a := ne_of_none hb ha
    rw [upd_ne n1, del_ne n2, upd_ne n2, upd_ne n1, upd_ne n2]
    exact hb
def isNum : PyData → Bool | .int i => decide (0 ≤ i) | _ => false
def isNb (l : Int) : PyData → Bool | .int i => decide (0 ≤ i) && decide (i < l) | _ => false
def isByte : PyData → Bool := isNb 256
/-- the bytes of a number, in a new list -/
def spWhole : Sp := fun vs H Q _ => ∃ n : Nat, vs = [.int (n : Int)] ∧ (wh n).length ≤ 900000 ∧ ∀ p H', Same H H' → H p = none → H' p = some (.lst ((wh n).map V.int)) → Q (.ref p) H'
section
variable {P : Program} {w : World} {K : PySem.W.Frag} {mg : Str → Option Value} {base : Heap}
local macro_rules | `(tactic| walk_at "rd") => `(tactic| (repeat (first
  | ((with_reducible refine' rd_var ?h0 ?_); (case h0 => rfl))
  | with_reducible refine rd_c ?_
  | with_reducible refine rd_op ?_
  | with_reducible refine rd_nil ?_
  | with_reducible refine rd_cons ?_
  | with_reducible refine rd_tup ?_
  | with_reducible refine rd_lst ?_
  | with_reducible refine rd_ifs ?_
  | with_reducible refine rd_seq ?_
  | with_reducible refine rd_next ?_
  | with_reducible refine rd_ret ?_
  | with_reducible refine rd_asg ?_
  | ((with_reducible refine' rd_gset ?hs ?_); (case hs => ((simp only [L2.start, List.map_cons, List.map_nil, List.length_cons, List.length_nil, List.cons_append, List.nil_append, List.set_cons_zero, List.set_cons_succ, Nat.reduceAdd, Nat.reduceSub, Nat.zero_add, List.reduceReplicate]); rfl)))
  | with_reducible refine rd_drop ?_
  | with_reducible refine rd_test ?_
  | with_reducible refine rd_B ?_
  | with_reducible refine rd_bl ?_
  | with_reducible refine rd_blP ?_
  | with_reducible refine rd_andV ?_
  | with_reducible refine rd_orV ?_
  | with_reducible refine rd_notV ?_
  | with_reducible refine rd_and ?_
  | with_reducible refine rd_or ?_
  | with_reducible refine rd_not ?_
  | with_reducible refine rd_chain ?_
  | with_reducible refine rd_dput ?_
  | with_reducible refine rd_dget ?_
  | with_reducible refine rd_cb ?_
  | with_reducible refine rd_call ?_
  | with_reducible refine rd_un ?_
  | with_reducible refine rd_sl ?_
  | with_reducible refine rd_nopart ?_
  | with_reducible refine rd_part ?_
  | with_reducible refine rd_intP ?_
  | with_reducible refine rd_rU ?_
  | with_reducible refine rd_fld ?_
  | with_reducible refine rd_eqI ?_
  | with_reducible refine rd_neI ?_
  | with_reducible refine rd_mko ?_
  | with_reducible refine rd_bm ?_
  | with_reducible refine rd_gsub ?_
  | with_reducible refine rd_i0 ?_)))
theorem ok_is_int (T : Tx K mg) (B : Bk K mg T) : FnOk P w K mg base CX0 1 B.is_int.f B.is_int.fd ["thing"] (spJ T.CP isInt) := by
  refine B.is_int.F.ok sc_is_int (fun vs H Q E h => ?_) (fun cdv A outer s H vs Q E hr h => ?_)
  · obtain ⟨p, d, x, rfl, _⟩ := h
    rfl
  · obtain ⟨p, d, x, rfl, hd, q⟩ := h
    refine ⟨_, (pss_one (ps_ret (pe_and (pe_callB call_isi (by rfl) T.b_isinstance (by decide +kernel) (pa_cons (pv 0) (pa_cons (pe_bltn (v := .ty "int") (by rfl) T.b_int (by decide +kernel) rfl) pa_nil))) (pe_one (pe_not (pe_callB call_isi (by rfl) T.b_isinstance (by decide +kernel) (pa_cons (pv 0) (pa_cons (pe_bltn (v := .ty "bool") (by rfl) T.b_bool (by decide +kernel) rfl) pa_nil)))))))), ?_⟩
    walk_at "rd"
    refine dt_isI T.W hd ?_
    walk_at "rd"
    refine rd_ite (fun h1 => ?_) (fun h0 => ?_)
    · walk_at "rd"
      refine dt_isB T.W hd ?_
      walk_at "rd"
      have e : isInt d = !isB d := by cases d <;> simp_all [isI, isB, isInt]
      rw [e] at q
      exact q
    · have e : isInt d = false := by cases d <;> simp_all [isI, isB, isInt]
      rw [e] at q
      exact q
theorem ok_is_number (T : Tx K mg) (B : Bk K mg T) : FnOk P w K mg base CX0 2 B.is_number.f B.is_number.fd ["thing"] (spJ T.CP isNum) := by
  have G_is_int := ok_is_int (P := P) (w := w) (base := base) T B
  refine B.is_number.F.ok sc_is_number (fun vs H Q E h => ?_) (fun cdv A outer s H vs Q E hr h => ?_)
  · obtain ⟨p, d, x, rfl, _⟩ := h
    rfl
  · obtain ⟨p, d, x, rfl, hd, q⟩ := h
    refine ⟨_, (pss_one (ps_ret (pe_and (pe_call G_is_int (hr.mono (by decide)) rfl B.is_int.m B.is_int.F.kp B.is_int.b .nil pass0 (pa_cons (pv 0) pa_nil)) (pe_one (pe_cmpR op_ge (pv 0) pe_int (nomark _)))))), ?_⟩
    walk_at "rd"
    refine ⟨p, d, x, rfl, hd, ?_⟩
    walk_at "rd"
    refine rd_ite (fun h1 => ?_) (fun h0 => ?_)
    · cases d with
      | int i =>
        cases dt_int' hd
        walk_at "rd"
        exact q
      | _ => cases h1
    · have e : isNum d = false := by cases d <;> simp_all [isNum, isInt]
      rw [e] at q
      exact q
theorem ok_is_number_below (T : Tx K mg) (B : Bk K mg T) : FnOk P w K mg base CX0 3 B.is_number_below.f B.is_number_below.fd ["limit", "thing"] (spJ2 T.CP isNb) := by
  have G_is_number := ok_is_number (P := P) (w := w) (base := base) T B
  refine B.is_number_below.F.ok sc_is_number_below (fun vs H Q E h => ?_) (fun cdv A outer s H vs Q E hr h => ?_)
  · obtain ⟨p, i, d, x, rfl, _⟩ := h
    rfl
  · obtain ⟨p, i, d, x, rfl, hd, q⟩ := h
    refine ⟨_, (pss_one (ps_ret (pe_and (pe_call G_is_number (hr.mono (by decide)) rfl B.is_number.m B.is_number.F.kp B.is_number.b .nil pass0 (pa_cons (pv 1) pa_nil)) (pe_one (pe_cmpR op_lt (pv 1) (pv 0) (nomark _)))))), ?_⟩
    walk_at "rd"
    refine ⟨p, d, x, rfl, hd, ?_⟩
    walk_at "rd"
    refine rd_ite (fun h1 => ?_) (fun h0 => ?_)
    · cases d with
      | int j =>
        cases dt_int' hd
        walk_at "rd"
        have e : isNb i (.int j) = decide (j < i) := by simp_all [isNb, isNum]
        rw [e] at q
        exact q
      | _ => cases h1
    · have e : isNb i d = false := by
        cases d <;> simp_all [isNum, isNb]
        omega
      rw [e] at q
      exact q
theorem ok_is_byte (T : Tx K mg) (B : Bk K mg T) : FnOk P w K mg base CX0 4 B.is_byte.f B.is_byte.fd ["thing"] (spJ T.CP isByte) := by
  have G_is_number_below := ok_is_number_below (P := P) (w := w) (base := base) T B
  refine B.is_byte.F.ok sc_is_byte (fun vs H Q E h => ?_) (fun cdv A outer s H vs Q E hr h => ?_)
  · obtain ⟨p, d, x, rfl, _⟩ := h
    rfl
  · obtain ⟨p, d, x, rfl, hd, q⟩ := h
    refine ⟨_, (pss_one (ps_ret (pe_call G_is_number_below (hr.mono (by decide)) rfl B.is_number_below.m B.is_number_below.F.kp B.is_number_below.b .nil pass0 (pa_cons (pe_glob (v := .int 256) (by rfl) T.g_BYTE_LIMIT ⟨_, rfl⟩) (pa_cons (pv 0) pa_nil))))), ?_⟩
    walk_at "rd"
    exact ⟨p, _, d, x, rfl, hd, q⟩
theorem ok_bad_init (T : Tx K mg) (B : Bk K mg T) : FnOk P w K mg base CX0 1 B.BadRow_init.f B.BadRow_init.fd ["self", "place"] (spBadInit T.c_BadRow) := by
  refine B.BadRow_init.F.ok sc_BadRow_init (fun vs H Q E h => ?_) (fun cdv A outer s H vs Q E hr h => ?_)
  · obtain ⟨a, v, rfl, _⟩ := h
    rfl
  · obtain ⟨a, v, rfl, ha, q⟩ := h
    refine ⟨_, (pss_one (ps_ost (pv 0) (pv 1))), ?_⟩
    exact ⟨v, rfl, .ref a, rfl, a, T.c_BadRow, rfl, T.x_BadRow, T.na_place, .inl ⟨ha, q⟩⟩
theorem ok_row_init (T : Tx K mg) (B : Bk K mg T) : FnOk P w K mg base CX0 1 B.NoRow_init.f B.NoRow_init.fd ["self"] spPass := by
  refine B.NoRow_init.F.ok sc_NoRow_init (fun vs H Q E h => ?_) (fun cdv A outer s H vs Q E hr h => ?_)
  · obtain ⟨a, rfl, _⟩ := h
    rfl
  · obtain ⟨a, rfl, q⟩ := h
    exact ⟨_, (pss_one ps_pass), q⟩
theorem ok_parcel_init (T : Tx K mg) (B : Bk K mg T) : FnOk P w K mg base CX0 1 B.NoParcel_init.f B.NoParcel_init.fd ["self"] spPass := by
  refine B.NoParcel_init.F.ok sc_NoParcel_init (fun vs H Q E h => ?_) (fun cdv A outer s H vs Q E hr h => ?_)
  · obtain ⟨a, rfl, _⟩ := h
    rfl
  · obtain ⟨a, rfl, q⟩ := h
    exact ⟨_, (pss_one ps_pass), q⟩
theorem ok_whole (T : Tx K mg) (B : Bk K mg T) : FnOk P w K mg base CX0 1 B.whole.f B.whole.fd ["number"] spWhole := by
  refine B.whole.F.ok sc_whole (fun vs H Q E h => ?_) (fun cdv A outer s H vs Q E hr h => ?_)
  · obtain ⟨n, rfl, _⟩ := h
    rfl
  · obtain ⟨n, rfl, hn, q⟩ := h
    refine ⟨_, (pss_cons (ps_set (i := 1) sc_whole.nd rfl (Or.inl rfl) (pv 0))
      (pss_cons (ps_set (i := 2) sc_whole.nd rfl (Or.inl rfl) (pe_lst pa_nil))
      (pss_cons (ps_while PassesOwn.never (pt_cmpR op_ge (pv 1) (pe_glob (v := .int 128) (by rfl) T.g_FIGURE_LIMIT ⟨_, rfl⟩) (nomark _)) (pss_cons (ps_expr (pe_bm PySem.F.plainAttrs_list PySem.F.slot_list_append PySem.F.type_list_append mt_append (pv 2) (pa_cons (pe_op op_add (pe_op op_mod (pv 1) (pe_glob (v := .int 128) (by rfl) T.g_FIGURE_LIMIT ⟨_, rfl⟩)) (pe_glob (v := .int 128) (by rfl) T.g_FIGURE_LIMIT ⟨_, rfl⟩)) pa_nil)))
      (pss_one (ps_set (i := 1) sc_whole.nd rfl (Or.inl rfl) (pe_op op_fdiv (pv 1) (pe_glob (v := .int 128) (by rfl) T.g_FIGURE_LIMIT ⟨_, rfl⟩))))))
      (pss_cons (ps_expr (pe_bm PySem.F.plainAttrs_list PySem.F.slot_list_append PySem.F.type_list_append mt_append (pv 2) (pa_cons (pv 1) pa_nil)))
      (pss_one (ps_ret (pv 2))))))), ?_⟩
    walk_at "rd"
    refine rd_disp rfl fun l nl => ?_
    walk_at "rd"
    refine ⟨fun μ σ H1 => ∃ (m : Nat) (pre : List Int), σ = [some (.int (n : Int)), some (.int (m : Int)), some (.ref l)] ∧ Same H H1 ∧ H1 l = some (.lst (pre.map V.int)) ∧ pre ++ wh m = wh n ∧ μ = m,
      ⟨n, n, [], rfl, same_new nl, upd_same, rfl, rfl⟩, ?_⟩
    rintro μ σ H1 ⟨m, pre, rfl, hs, hl, hw, hμ⟩
    have hlen : pre.length + (wh m).length ≤ 900000 := by
      rw [← hw, List.length_append] at hn
      exact hn
    have hp := wh_pos m
    have s2 : ∀ o, Same H (upd H1 l o) := fun o b u e => (upd_ne (ne_of_none e nl)).trans (hs b u e)
    walk_at "rd"
    refine rd_ite (fun h1 => ?_) (fun h1 => ?_)
    · have hm : ¬ m < 128 := by
        have := of_decide_eq_true h1
        omega
      refine ⟨fun σ' H' => ∃ m', m' < μ ∧ ∃ (m : Nat) (pre : List Int), σ' = [some (.int (n : Int)), some (.int (m : Int)), some (.ref l)] ∧ Same H H' ∧ H' l = some (.lst (pre.map V.int)) ∧ pre ++ wh m = wh n ∧ m' = m, fun _ _ h => h, ?_⟩
      walk_at "rd"
      refine ⟨.inl ⟨rfl, _, SqL.of hl⟩, ?_⟩
      walk_at "rd"
      refine rd_iC (show (0 : Int) < 128 by decide) ?_
      walk_at "rd"
      refine rd_append hl (small' (by rw [List.length_map]; omega)) ?_
      walk_at "rd"
      refine rd_iC (show (0 : Int) < 128 ∧ (128 : Int) < 1073741824 by decide) ?_
      walk_at "rd"
      refine ⟨m / 128, by omega, m / 128, pre ++ [((m % 128 + 128 : Nat) : Int)], by simp, s2 _, ?_, ?_, rfl⟩
      · rw [upd_same, List.map_append]
        simp
      · rw [List.append_assoc, ← hw, wh_ge hm]
        rfl
    · have hm : m < 128 := by
        have := of_decide_eq_false h1
        omega
      walk_at "rd"
      refine ⟨.inl ⟨rfl, _, SqL.of hl⟩, ?_⟩
      walk_at "rd"
      refine rd_append hl (small' (by rw [List.length_map]; omega)) ?_
      walk_at "rd"
      refine q l _ (s2 _) nl ?_
      rw [upd_same, ← hw, wh_lt hm, List.map_append]
      rfl
theorem ok_law_whole (T : Tx K mg) (B : Bk K mg T) : FnOk P w K mg base CX0 1 B.law_whole.f B.law_whole.fd ["_law_number_here"] spWhole := by
  refine B.law_whole.F.ok sc_law_whole (fun vs H Q E h => ?_) (fun cdv A outer s H vs Q E hr h => ?_)
  · obtain ⟨n, rfl, _⟩ := h
    rfl
  · obtain ⟨n, rfl, hn, q⟩ := h
    refine ⟨_, (pss_cons (ps_set (i := 1) sc_law_whole.nd rfl (Or.inl rfl) (pe_lst pa_nil))
      (pss_cons (ps_while PassesOwn.never (pt_cmpR op_gt (pv 0) pe_int (nomark _)) (pss_cons (ps_expr (pe_bm PySem.F.plainAttrs_list PySem.F.slot_list_append PySem.F.type_list_append mt_append (pv 1) (pa_cons (pe_op op_add (pe_op op_mod (pv 0) pe_int) pe_int) pa_nil)))
      (pss_one (ps_set (i := 0) sc_law_whole.nd rfl (Or.inl rfl) (pe_op op_fdiv (pv 0) pe_int)))))
      (pss_one (ps_ret (pe_op op_cat (pv 1) (pe_lst (pa_cons (pv 0) pa_nil))))))), ?_⟩
    walk_at "rd"
    refine rd_disp rfl fun l nl => ?_
    walk_at "rd"
    refine ⟨fun μ σ H1 => ∃ (m : Nat) (pre : List Int), σ = [some (.int (m : Int)), some (.ref l)] ∧ Same H H1 ∧ H1 l = some (.lst (pre.map V.int)) ∧ pre ++ wh m = wh n ∧ μ = m,
      ⟨n, n, [], rfl, same_new nl, upd_same, rfl, rfl⟩, ?_⟩
    rintro μ σ H1 ⟨m, pre, rfl, hs, hl, hw, hμ⟩
    have hlen : pre.length + (wh m).length ≤ 900000 := by
      rw [← hw, List.length_append] at hn
      exact hn
    have hp := wh_pos m
    have s2 : ∀ o, Same H (upd H1 l o) := fun o b u e => (upd_ne (ne_of_none e nl)).trans (hs b u e)
    walk_at "rd"
    refine rd_ite (fun h1 => ?_) (fun h1 => ?_)
    · have hm : ¬ m < 128 := by
        have := of_decide_eq_true h1
        omega
      refine ⟨fun σ' H' => ∃ m', m' < μ ∧ ∃ (m : Nat) (pre : List Int), σ' = [some (.int (m : Int)), some (.ref l)] ∧ Same H H' ∧ H' l = some (.lst (pre.map V.int)) ∧ pre ++ wh m = wh n ∧ m' = m, fun _ _ h => h, ?_⟩
      walk_at "rd"
      refine ⟨.inl ⟨rfl, _, SqL.of hl⟩, ?_⟩
      walk_at "rd"
      refine rd_iC (show (0 : Int) < 128 by decide) ?_
      walk_at "rd"
      refine rd_append hl (small' (by rw [List.length_map]; omega)) ?_
      walk_at "rd"
      refine rd_iC (show (0 : Int) < 128 ∧ (128 : Int) < 1073741824 by decide) ?_
      walk_at "rd"
      refine ⟨m / 128, by omega, m / 128, pre ++ [((m % 128 + 128 : Nat) : Int)], by simp, s2 _, ?_, ?_, rfl⟩
      · rw [upd_same, List.map_append]
        simp
      · rw [List.append_assoc, ← hw, wh_ge hm]
        rfl
    · have hm : m < 128 := by
        have := of_decide_eq_false h1
        omega
      walk_at "rd"
      refine rd_disp rfl fun l2 nl2 => ?_
      have n12 : l ≠ l2 := ne_of_none hl nl2
      walk_at "rd"
      refine ⟨l, l2, _, _, rfl, rfl, (upd_ne n12).trans hl, upd_same, small (by rw [List.length_map]; simp; omega), fun l3 nl3 => ?_⟩
      walk_at "rd"
      have s3 := hs.trans (same_new (o := .lst [V.int (m : Int)]) nl2)
      refine q l3 _ (s3.trans (same_new nl3)) (s3.free nl3) ?_
      rw [upd_same, ← hw, wh_lt hm, List.map_append]
      rfl
end
end Mw

/-! R3 -/
namespace Mw
open PySem L2
/-- the bytes of a thing that is plain, not deeper than told -/
def spTold (CP : Addr → Prop) (n : Nat) : Sp := fun vs H Q _ => ∃ M d x, vs = [x] ∧ Dt CP M H d x ∧ plainD d = true ∧ d.depth < n ∧ (byD d).length ≤ 900000 ∧ ∀ p H', Same H H' → H p = none → H' p = some (.lst ((byD d).map V.int)) → Q (.ref p) H'
theorem ord_one (c : Nat) : (((⟨#[c]⟩ : Str).cps.getD 0 0 : Nat) : Int) = (c : Int) := rfl
section
variable {P : Program} {w : World} {K : PySem.W.Frag} {mg : Str → Option Value} {base : Heap}
local macro_rules | `(tactic| walk_at "rd") => `(tactic| (repeat (first
  | ((with_reducible refine' rd_var ?h0 ?_); (case h0 => rfl))
  | with_reducible refine rd_c ?_
  | with_reducible refine rd_op ?_
  | with_reducible refine rd_nil ?_
  | with_reducible refine rd_cons ?_
  | with_reducible refine rd_tup ?_
  | with_reducible refine rd_lst ?_
  | with_reducible refine rd_ifs ?_
  | with_reducible refine rd_seq ?_
  | with_reducible refine rd_next ?_
  | with_reducible refine rd_ret ?_
  | with_reducible refine rd_asg ?_
  | ((with_reducible refine' rd_gset ?hs ?_); (case hs => ((simp only [L2.start, List.map_cons, List.map_nil, List.length_cons, List.length_nil, List.cons_append, List.nil_append, List.set_cons_zero, List.set_cons_succ, Nat.reduceAdd, Nat.reduceSub, Nat.zero_add, List.reduceReplicate]); rfl)))
  | with_reducible refine rd_drop ?_
  | with_reducible refine rd_test ?_
  | with_reducible refine rd_B ?_
  | with_reducible refine rd_bl ?_
  | with_reducible refine rd_blP ?_
  | with_reducible refine rd_andV ?_
  | with_reducible refine rd_orV ?_
  | with_reducible refine rd_notV ?_
  | with_reducible refine rd_and ?_
  | with_reducible refine rd_or ?_
  | with_reducible refine rd_not ?_
  | with_reducible refine rd_chain ?_
  | with_reducible refine rd_dput ?_
  | with_reducible refine rd_dget ?_
  | with_reducible refine rd_cb ?_
  | with_reducible refine rd_call ?_
  | with_reducible refine rd_un ?_
  | with_reducible refine rd_sl ?_
  | with_reducible refine rd_nopart ?_
  | with_reducible refine rd_part ?_
  | with_reducible refine rd_intP ?_
  | with_reducible refine rd_rU ?_
  | with_reducible refine rd_fld ?_
  | with_reducible refine rd_eqI ?_
  | with_reducible refine rd_neI ?_
  | with_reducible refine rd_mko ?_
  | with_reducible refine rd_bm ?_
  | with_reducible refine rd_gsub ?_
  | with_reducible refine rd_i0 ?_)))
theorem told_step (T : Tx K mg) (B : Bk K mg T) {n k : Nat} (hk : 1 ≤ k) (G_told : FnOk P w K mg base CX0 k B.told.f B.told.fd ["parcel"] (spTold T.CP n)) :
    FnOk P w K mg base CX0 (k + 1) B.told.f B.told.fd ["parcel"] (spTold T.CP (n + 1)) := by
  have G_whole := ok_whole (P := P) (w := w) (base := base) T B
  refine B.told.F.ok sc_told (fun vs H Q E h => ?_) (fun cdv A outer s H vs Q E hr h => ?_)
  · obtain ⟨M, d, x, rfl, _⟩ := h
    rfl
  · obtain ⟨M, d, x, rfl, hd, hp, hdep, hsz, q⟩ := h
    refine ⟨_, (pss_cons (ps_if (pt_cmpR op_isN (pv 0) pe_non (nomark _)) (pss_one (ps_ret (pe_lst (pa_cons (pe_glob (v := .int 0) (by rfl) T.g_NONE ⟨_, rfl⟩) pa_nil)))) pss_nil)
      (pss_cons (ps_if (pt_val (pe_callB call_isi (by rfl) T.b_isinstance (by decide +kernel) (pa_cons (pv 0) (pa_cons (pe_bltn (v := .ty "bool") (by rfl) T.b_bool (by decide +kernel) rfl) pa_nil)))) (pss_one (ps_ret (pe_lst (pa_cons (pe_ifExp (pt_val (pv 0)) (pe_glob (v := .int 2) (by rfl) T.g_YES ⟨_, rfl⟩) (pe_glob (v := .int 1) (by rfl) T.g_NO ⟨_, rfl⟩)) pa_nil)))) pss_nil)
      (pss_cons (ps_if (pt_val (pe_callB call_isi (by rfl) T.b_isinstance (by decide +kernel) (pa_cons (pv 0) (pa_cons (pe_bltn (v := .ty "int") (by rfl) T.b_int (by decide +kernel) rfl) pa_nil)))) (pss_one (ps_ret (pe_ifExp (pt_cmpR op_ge (pv 0) pe_int (nomark _)) (pe_op op_cat (pe_lst (pa_cons (pe_glob (v := .int 3) (by rfl) T.g_FROM_ZERO ⟨_, rfl⟩) pa_nil)) (pe_call G_whole (hr.mono (by omega)) rfl B.whole.m B.whole.F.kp B.whole.b .nil pass0 (pa_cons (pv 0) pa_nil))) (pe_op op_cat (pe_lst (pa_cons (pe_glob (v := .int 4) (by rfl) T.g_BELOW_ZERO ⟨_, rfl⟩) pa_nil)) (pe_call G_whole (hr.mono (by omega)) rfl B.whole.m B.whole.F.kp B.whole.b .nil pass0 (pa_cons (pe_op op_sub (pe_un un_neg pe_int) (pv 0)) pa_nil)))))) pss_nil)
      (pss_cons (ps_if (pt_val (pe_callB call_isi (by rfl) T.b_isinstance (by decide +kernel) (pa_cons (pv 0) (pa_cons (pe_bltn (v := .ty "str") (by rfl) T.b_str (by decide +kernel) rfl) pa_nil)))) (pss_one (ps_ret (pe_op op_cat (pe_op op_cat (pe_lst (pa_cons (pe_glob (v := .int 5) (by rfl) T.g_STRING ⟨_, rfl⟩) pa_nil)) (pe_call G_whole (hr.mono (by omega)) rfl B.whole.m B.whole.F.kp B.whole.b .nil pass0 (pa_cons (pe_callB call_len (by rfl) T.b_len (by decide +kernel) (pa_cons (pv 0) pa_nil)) pa_nil))) (pe_lc (own := [("sign", 3)]) (g := gName 3) rfl sc_told.nd (pi_str (pv 0)) (blkOk_by (own := [("sign", 3)]) (N := ["parcel", "told", "item", "sign"]) (sc := defScope s_told) (by decide +kernel)) (fun _ _ _ _ _ => pg_name (i := 3) sc_told.nd rfl (Or.inl rfl)) (fun _ _ _ _ _ => pts_nil) (fun _ _ _ _ _ => (pe_callB call_ord (by rfl) T.b_ord (by decide +kernel) (pa_cons (pv 3) pa_nil))))))) pss_nil)
      (pss_cons (ps_set (i := 1) sc_told.nd rfl (Or.inl rfl) (pe_op op_cat (pe_lst (pa_cons (pe_glob (v := .int 6) (by rfl) T.g_TUPLE ⟨_, rfl⟩) pa_nil)) (pe_call G_whole (hr.mono (by omega)) rfl B.whole.m B.whole.F.kp B.whole.b .nil pass0 (pa_cons (pe_callB call_len (by rfl) T.b_len (by decide +kernel) (pa_cons (pv 0) pa_nil)) pa_nil))))
      (pss_cons (ps_for PassesOwn.never rfl (pi_tup (pv 0)) (pg_name (i := 2) sc_told.nd rfl (Or.inl rfl)) (pss_one (ps_expr (pe_bm PySem.F.plainAttrs_list PySem.F.slot_list_extend PySem.F.type_list_extend mt_extend (pv 1) (pa_cons (pe_call G_told (hr.mono (by omega)) rfl B.told.m B.told.F.kp B.told.b .nil pass0 (pa_cons (pv 2) pa_nil)) pa_nil)))))
      (pss_one (ps_ret (pv 1))))))))), ?_⟩
    have hd' := hd
    cases d with
    | none =>
      cases dt_non' hd'
      walk_at "rd"
      refine ⟨rfl, ?_⟩
      walk_at "rd"
      refine rd_yes rfl ?_
      walk_at "rd"
      refine rd_disp rfl fun l nl => ?_
      exact q l _ (same_new nl) nl upd_same
    | bool b =>
      cases dt_bl' hd'
      walk_at "rd"
      refine ⟨rfl, ?_⟩
      walk_at "rd"
      refine rd_no rfl ?_
      walk_at "rd"
      refine dt_isB T.W hd ?_
      walk_at "rd"
      refine rd_yes rfl ?_
      walk_at "rd"
      cases b with
      | true =>
        refine rd_ifx ?_
        walk_at "rd"
        refine rd_yes rfl ?_
        walk_at "rd"
        refine rd_disp rfl fun l nl => ?_
        exact q l _ (same_new nl) nl upd_same
      | false =>
        refine rd_ifx ?_
        walk_at "rd"
        refine rd_no rfl ?_
        walk_at "rd"
        refine rd_disp rfl fun l nl => ?_
        exact q l _ (same_new nl) nl upd_same
    | int i =>
      cases dt_int' hd'
      walk_at "rd"
      refine ⟨rfl, ?_⟩
      walk_at "rd"
      refine rd_no rfl ?_
      walk_at "rd"
      refine dt_isB T.W hd ?_
      walk_at "rd"
      refine rd_no rfl ?_
      walk_at "rd"
      refine dt_isI T.W hd ?_
      walk_at "rd"
      refine rd_yes rfl ?_
      walk_at "rd"
      refine rd_ifx ?_
      walk_at "rd"
      refine rd_ite (fun h1 => ?_) (fun h1 => ?_)
      · have hi : 0 ≤ i := of_decide_eq_true h1
        have e : byD (.int i) = 3 :: wh i.toNat := if_pos hi
        rw [e] at q hsz
        rw [List.length_cons] at hsz
        walk_at "rd"
        refine rd_disp rfl fun l nl => ?_
        have s1 := same_new (o := .lst [.int 3]) nl
        walk_at "rd"
        refine ⟨i.toNat, by rw [Int.toNat_of_nonneg hi]; rfl, by omega, fun p H1 s2 np hp1 => ?_⟩
        refine ⟨l, p, _, _, rfl, rfl, s2 _ _ upd_same, hp1, small (by simp; omega), fun l2 n2 => ?_⟩
        have s3 := s1.trans s2
        exact q l2 _ (s3.trans (same_new n2)) (s3.free n2) upd_same
      · have hi : ¬ 0 ≤ i := of_decide_eq_false h1
        have e : byD (.int i) = 4 :: wh (-1 - i).toNat := if_neg hi
        rw [e] at q hsz
        rw [List.length_cons] at hsz
        walk_at "rd"
        refine rd_disp rfl fun l nl => ?_
        have s1 := same_new (o := .lst [.int 4]) nl
        walk_at "rd"
        refine ⟨(-1 - i).toNat, by rw [Int.toNat_of_nonneg (by omega)]; rfl, by omega, fun p H1 s2 np hp1 => ?_⟩
        refine ⟨l, p, _, _, rfl, rfl, s2 _ _ upd_same, hp1, small (by simp; omega), fun l2 n2 => ?_⟩
        have s3 := s1.trans s2
        exact q l2 _ (s3.trans (same_new n2)) (s3.free n2) upd_same
    | str z =>
      cases dt_str' hd'
      have e : byD (.str z) = 5 :: (wh z.length ++ sgn z) := rfl
      rw [e] at q hsz
      have esg : (sgn z).length = z.length := by
        unfold sgn
        rw [List.length_map, Array.length_toList]
        rfl
      rw [List.length_cons, List.length_append, esg] at hsz
      walk_at "rd"
      refine ⟨rfl, ?_⟩
      walk_at "rd"
      refine rd_no rfl ?_
      walk_at "rd"
      refine dt_isB T.W hd ?_
      walk_at "rd"
      refine rd_no rfl ?_
      walk_at "rd"
      refine dt_isI T.W hd ?_
      walk_at "rd"
      refine rd_no rfl ?_
      walk_at "rd"
      refine dt_isS T.W hd ?_
      walk_at "rd"
      refine rd_yes rfl ?_
      walk_at "rd"
      refine rd_disp rfl fun l nl => ?_
      have s1 := same_new (o := .lst [.int 5]) nl
      walk_at "rd"
      refine ⟨_, z.length, rfl, ⟨small (by omega), rfl⟩, ?_⟩
      walk_at "rd"
      refine ⟨z.length, rfl, by omega, fun p H1 s2 np hp1 => ?_⟩
      refine ⟨l, p, _, _, rfl, rfl, s2 _ _ upd_same, hp1, small (by simp; omega), fun l2 n2 => ?_⟩
      have s3 := (s1.trans s2).trans (same_new (o := .lst ([V.int 5] ++ (wh z.length).map V.int)) n2)
      walk_at "rd"
      show iStr _ _ _ _
      refine rd_istr ?_
      walk_at "rd"
      refine ⟨z, rfl, fun D hD => lc_it walk_str (fun i H2 => Same H H2 ∧ H2 l2 = some (.lst ([V.int 5] ++ (wh z.length).map V.int)) ∧ H2 D = some (.lst (((sgn z).take i).map V.int)))
        ⟨s3.trans (same_new hD), (upd_ne (ne_of_none upd_same hD)).trans upd_same, upd_same⟩ (fun _ _ _ _ => trivial) ?_ ?_⟩
      · rintro i y H2 H3 hi ⟨hs, hl2, hacc⟩ ⟨rfl, c, hc, rfl⟩
        refine ⟨rfl, ?_⟩
        refine rd_tyes ?_
        refine rd_yes rfl ?_
        walk_at "rd"
        refine ⟨_, rfl, rfl, ?_⟩
        have nD : H D = none := s3.free hD
        have hz : (sgn z)[i]? = some (c : Int) := by
          unfold sgn
          rw [List.getElem?_map, Array.getElem?_toList, hc]
          rfl
        refine ⟨_, hacc, small' (by rw [List.length_map, List.length_take]; omega), fun b o eb => (upd_ne (ne_of_none eb nD)).trans (hs b o eb), ?_, ?_⟩
        · rw [upd_ne (ne_of_none upd_same hD)]
          exact hl2
        · rw [upd_same, take_snoc hz, List.map_append]
          rfl
      · rintro H2 ⟨hs, hl2, hacc⟩
        rw [List.take_of_length_le (by rw [esg]; exact Nat.le_refl _)] at hacc
        walk_at "rd"
        refine ⟨l2, D, _, _, rfl, rfl, hl2, hacc, small (by simp; omega), fun l3 n3 => ?_⟩
        walk_at "rd"
        refine q l3 _ (hs.trans (same_new n3)) (hs.free n3) ?_
        rw [upd_same, List.map_cons, List.map_append]
        simp
    | tuple ds =>
      obtain ⟨a, xs, rfl, ha, hx⟩ := dt_tup' hd'
      have hlx := hx.len
      have e : byD (.tuple ds) = 6 :: (wh ds.length ++ byAll ds) := rfl
      rw [e] at q hsz
      rw [List.length_cons, List.length_append] at hsz
      have hdep2 : PyData.depthAll ds + 1 < n + 1 := hdep
      walk_at "rd"
      refine ⟨rfl, ?_⟩
      walk_at "rd"
      refine rd_no rfl ?_
      walk_at "rd"
      refine dt_isB T.W hd ?_
      walk_at "rd"
      refine rd_no rfl ?_
      walk_at "rd"
      refine dt_isI T.W hd ?_
      walk_at "rd"
      refine rd_no rfl ?_
      walk_at "rd"
      refine dt_isS T.W hd ?_
      walk_at "rd"
      refine rd_no rfl ?_
      walk_at "rd"
      refine rd_disp rfl fun l nl => ?_
      have s1 := same_new (o := .lst [.int 6]) nl
      walk_at "rd"
      refine ⟨_, xs.length, rfl, .inr ⟨xs, SqT.of (s1 _ _ ha), rfl⟩, ?_⟩
      walk_at "rd"
      refine ⟨xs.length, rfl, by rw [← hlx]; omega, fun p H1 s2 np hp1 => ?_⟩
      refine ⟨l, p, _, _, rfl, rfl, s2 _ _ upd_same, hp1, small (by rw [← hlx]; simp; omega), fun l2 n2 => ?_⟩
      have s12 := s1.trans s2
      have nl2 : H l2 = none := s12.free n2
      have s3 := s12.trans (same_new (o := .lst ([V.int 6] ++ (wh xs.length).map V.int)) n2)
      walk_at "rd"
      refine ⟨_, rfl, a, rfl, ⟨xs, SqT.of (s3 _ _ ha)⟩, for_tup (K := K) (a := a) (xs := xs) (fun i σ H2 => Same H H2 ∧ H2 l2 = some (.lst ((6 :: (wh ds.length ++ byAll (ds.take i))).map V.int)) ∧ ∃ u, σ = [some (.ref a), some (.ref l2), u, none])
        ⟨s3, by rw [upd_same, ← hlx]; simp [byAll], none, rfl⟩ (fun i σ H2 _ hh => SqT.of (hh.1 _ _ ha)) ?_ ?_⟩
      · rintro i y σ H2 hi ⟨hs, hl2, u, rfl⟩
        obtain ⟨d1, hd1, td1⟩ := hx.get' hi
        have dep := depthAll_get hd1
        have sz1 := byAll_get hd1
        have sz2 : (byAll (ds.take (i + 1))).length ≤ (byAll ds).length := byAll_take ds (i + 1)
        have ebt : byAll (ds.take (i + 1)) = byAll (ds.take i) ++ byD d1 := by
          rw [take_snoc hd1, byAll_app, byAll_one]
        rw [ebt, List.length_append] at sz2
        walk_at "rd"
        refine ⟨.inl ⟨rfl, _, SqL.of hl2⟩, ?_⟩
        walk_at "rd"
        refine ⟨M, d1, y, rfl, td1.s hs, plainAll_get hp hd1, by omega, by omega, fun p2 H3 s4 np2 hp2 => ?_⟩
        walk_at "rd"
        refine ⟨l2, p2, _, _, rfl, rfl, s4 _ _ hl2, hp2, small (by simp; omega), ?_⟩
        refine ⟨fun b o eb => (upd_ne (ne_of_none eb nl2)).trans (s4 _ _ (hs b o eb)), ?_, _, rfl⟩
        rw [upd_same, ebt]
        simp
      · rintro σ H2 ⟨hs, hl2, u, rfl⟩
        rw [← hlx, List.take_length] at hl2
        walk_at "rd"
        exact q l2 _ hs nl2 hl2
    | list es => simp only [plainD] at hp; cases hp
    | dict es => simp only [plainD] at hp; cases hp
theorem ok_told_n (T : Tx K mg) (B : Bk K mg T) : ∀ n, FnOk P w K mg base CX0 (n + 2) B.told.f B.told.fd ["parcel"] (spTold T.CP n)
  | 0 => fn_no fun vs H Q E h => by
    obtain ⟨M, d, x, _, _, _, hd, _⟩ := h
    omega
  | n + 1 => told_step T B (by omega) (ok_told_n T B n)
theorem law_bytes_step (T : Tx K mg) (B : Bk K mg T) {n k : Nat} (hk : 1 ≤ k) (G_law_bytes : FnOk P w K mg base CX0 k B.law_bytes.f B.law_bytes.fd ["_law_parcel_here"] (spTold T.CP n)) :
    FnOk P w K mg base CX0 (k + 1) B.law_bytes.f B.law_bytes.fd ["_law_parcel_here"] (spTold T.CP (n + 1)) := by
  have G_law_whole := ok_law_whole (P := P) (w := w) (base := base) T B
  refine B.law_bytes.F.ok sc_law_bytes (fun vs H Q E h => ?_) (fun cdv A outer s H vs Q E hr h => ?_)
  · obtain ⟨M, d, x, rfl, _⟩ := h
    rfl
  · obtain ⟨M, d, x, rfl, hd, hp, hdep, hsz, q⟩ := h
    refine ⟨_, (pss_cons (ps_if (pt_cmpR op_isN (pv 0) pe_non (nomark _)) (pss_one (ps_ret (pe_lst (pa_cons pe_int pa_nil)))) pss_nil)
      (pss_cons (ps_if (pt_val (pe_callB call_isi (by rfl) T.b_isinstance (by decide +kernel) (pa_cons (pv 0) (pa_cons (pe_bltn (v := .ty "bool") (by rfl) T.b_bool (by decide +kernel) rfl) pa_nil)))) (pss_one (ps_ret (pe_lst (pa_cons (pe_op op_add pe_int (pe_callTy call_int1 (by rfl) T.b_int (by decide +kernel) (pa_cons (pv 0) pa_nil))) pa_nil)))) pss_nil)
      (pss_cons (ps_if (pt_val (pe_callB call_isi (by rfl) T.b_isinstance (by decide +kernel) (pa_cons (pv 0) (pa_cons (pe_bltn (v := .ty "int") (by rfl) T.b_int (by decide +kernel) rfl) pa_nil)))) (pss_one (ps_ret (pe_ifExp (pt_cmpR op_ge (pv 0) pe_int (nomark _)) (pe_op op_cat (pe_lst (pa_cons pe_int pa_nil)) (pe_call G_law_whole (hr.mono (by omega)) rfl B.law_whole.m B.law_whole.F.kp B.law_whole.b .nil pass0 (pa_cons (pv 0) pa_nil))) (pe_op op_cat (pe_lst (pa_cons pe_int pa_nil)) (pe_call G_law_whole (hr.mono (by omega)) rfl B.law_whole.m B.law_whole.F.kp B.law_whole.b .nil pass0 (pa_cons (pe_op op_sub (pe_op op_sub pe_int pe_int) (pv 0)) pa_nil)))))) pss_nil)
      (pss_cons (ps_if (pt_val (pe_callB call_isi (by rfl) T.b_isinstance (by decide +kernel) (pa_cons (pv 0) (pa_cons (pe_bltn (v := .ty "str") (by rfl) T.b_str (by decide +kernel) rfl) pa_nil)))) (pss_one (ps_ret (pe_op op_cat (pe_op op_cat (pe_lst (pa_cons pe_int pa_nil)) (pe_call G_law_whole (hr.mono (by omega)) rfl B.law_whole.m B.law_whole.F.kp B.law_whole.b .nil pass0 (pa_cons (pe_callB call_len (by rfl) T.b_len (by decide +kernel) (pa_cons (pv 0) pa_nil)) pa_nil))) (pe_lc (own := [("_law_sign_here", 3)]) (g := gName 3) rfl sc_law_bytes.nd (pi_str (pv 0)) (blkOk_by (own := [("_law_sign_here", 3)]) (N := ["_law_parcel_here", "_law_found", "_law_part", "_law_sign_here"]) (sc := defScope s_law_bytes) (by decide +kernel)) (fun _ _ _ _ _ => pg_name (i := 3) sc_law_bytes.nd rfl (Or.inl rfl)) (fun _ _ _ _ _ => pts_nil) (fun _ _ _ _ _ => (pe_callB call_ord (by rfl) T.b_ord (by decide +kernel) (pa_cons (pv 3) pa_nil))))))) pss_nil)
      (pss_cons (ps_set (i := 1) sc_law_bytes.nd rfl (Or.inl rfl) (pe_op op_cat (pe_lst (pa_cons pe_int pa_nil)) (pe_call G_law_whole (hr.mono (by omega)) rfl B.law_whole.m B.law_whole.F.kp B.law_whole.b .nil pass0 (pa_cons (pe_callB call_len (by rfl) T.b_len (by decide +kernel) (pa_cons (pv 0) pa_nil)) pa_nil))))
      (pss_cons (ps_for PassesOwn.never rfl (pi_tup (pv 0)) (pg_name (i := 2) sc_law_bytes.nd rfl (Or.inl rfl)) (pss_one (ps_expr (pe_bm PySem.F.plainAttrs_list PySem.F.slot_list_extend PySem.F.type_list_extend mt_extend (pv 1) (pa_cons (pe_call G_law_bytes (hr.mono (by omega)) rfl B.law_bytes.m B.law_bytes.F.kp B.law_bytes.b .nil pass0 (pa_cons (pv 2) pa_nil)) pa_nil)))))
      (pss_one (ps_ret (pv 1))))))))), ?_⟩
    have hd' := hd
    cases d with
    | none =>
      cases dt_non' hd'
      walk_at "rd"
      refine ⟨rfl, ?_⟩
      walk_at "rd"
      refine rd_yes rfl ?_
      walk_at "rd"
      refine rd_disp rfl fun l nl => ?_
      exact q l _ (same_new nl) nl upd_same
    | bool b =>
      cases dt_bl' hd'
      walk_at "rd"
      refine ⟨rfl, ?_⟩
      walk_at "rd"
      refine rd_no rfl ?_
      walk_at "rd"
      refine dt_isB T.W hd ?_
      walk_at "rd"
      refine rd_yes rfl ?_
      walk_at "rd"
      refine .inr ⟨_, rfl, ?_⟩
      walk_at "rd"
      refine rd_disp rfl fun l nl => ?_
      cases b with
      | true => exact q l _ (same_new nl) nl upd_same
      | false => exact q l _ (same_new nl) nl upd_same
    | int i =>
      cases dt_int' hd'
      walk_at "rd"
      refine ⟨rfl, ?_⟩
      walk_at "rd"
      refine rd_no rfl ?_
      walk_at "rd"
      refine dt_isB T.W hd ?_
      walk_at "rd"
      refine rd_no rfl ?_
      walk_at "rd"
      refine dt_isI T.W hd ?_
      walk_at "rd"
      refine rd_yes rfl ?_
      walk_at "rd"
      refine rd_ifx ?_
      walk_at "rd"
      refine rd_ite (fun h1 => ?_) (fun h1 => ?_)
      · have hi : 0 ≤ i := of_decide_eq_true h1
        have e : byD (.int i) = 3 :: wh i.toNat := if_pos hi
        rw [e] at q hsz
        rw [List.length_cons] at hsz
        walk_at "rd"
        refine rd_disp rfl fun l nl => ?_
        have s1 := same_new (o := .lst [.int 3]) nl
        walk_at "rd"
        refine ⟨i.toNat, by rw [Int.toNat_of_nonneg hi]; rfl, by omega, fun p H1 s2 np hp1 => ?_⟩
        refine ⟨l, p, _, _, rfl, rfl, s2 _ _ upd_same, hp1, small (by simp; omega), fun l2 n2 => ?_⟩
        have s3 := s1.trans s2
        exact q l2 _ (s3.trans (same_new n2)) (s3.free n2) upd_same
      · have hi : ¬ 0 ≤ i := of_decide_eq_false h1
        have e : byD (.int i) = 4 :: wh (-1 - i).toNat := if_neg hi
        rw [e] at q hsz
        rw [List.length_cons] at hsz
        walk_at "rd"
        refine rd_disp rfl fun l nl => ?_
        have s1 := same_new (o := .lst [.int 4]) nl
        walk_at "rd"
        refine ⟨(-1 - i).toNat, by rw [Int.toNat_of_nonneg (by omega)]; rfl, by omega, fun p H1 s2 np hp1 => ?_⟩
        refine ⟨l, p, _, _, rfl, rfl, s2 _ _ upd_same, hp1, small (by simp; omega), fun l2 n2 => ?_⟩
        have s3 := s1.trans s2
        exact q l2 _ (s3.trans (same_new n2)) (s3.free n2) upd_same
    | str z =>
      cases dt_str' hd'
      have e : byD (.str z) = 5 :: (wh z.length ++ sgn z) := rfl
      rw [e] at q hsz
      have esg : (sgn z).length = z.length := by
        unfold sgn
        rw [List.length_map, Array.length_toList]
        rfl
      rw [List.length_cons, List.length_append, esg] at hsz
      walk_at "rd"
      refine ⟨rfl, ?_⟩
      walk_at "rd"
      refine rd_no rfl ?_
      walk_at "rd"
      refine dt_isB T.W hd ?_
      walk_at "rd"
      refine rd_no rfl ?_
      walk_at "rd"
      refine dt_isI T.W hd ?_
      walk_at "rd"
      refine rd_no rfl ?_
      walk_at "rd"
      refine dt_isS T.W hd ?_
      walk_at "rd"
      refine rd_yes rfl ?_
      walk_at "rd"
      refine rd_disp rfl fun l nl => ?_
      have s1 := same_new (o := .lst [.int 5]) nl
      walk_at "rd"
      refine ⟨_, z.length, rfl, ⟨small (by omega), rfl⟩, ?_⟩
      walk_at "rd"
      refine ⟨z.length, rfl, by omega, fun p H1 s2 np hp1 => ?_⟩
      refine ⟨l, p, _, _, rfl, rfl, s2 _ _ upd_same, hp1, small (by simp; omega), fun l2 n2 => ?_⟩
      have s3 := (s1.trans s2).trans (same_new (o := .lst ([V.int 5] ++ (wh z.length).map V.int)) n2)
      walk_at "rd"
      show iStr _ _ _ _
      refine rd_istr ?_
      walk_at "rd"
      refine ⟨z, rfl, fun D hD => lc_it walk_str (fun i H2 => Same H H2 ∧ H2 l2 = some (.lst ([V.int 5] ++ (wh z.length).map V.int)) ∧ H2 D = some (.lst (((sgn z).take i).map V.int)))
        ⟨s3.trans (same_new hD), (upd_ne (ne_of_none upd_same hD)).trans upd_same, upd_same⟩ (fun _ _ _ _ => trivial) ?_ ?_⟩
      · rintro i y H2 H3 hi ⟨hs, hl2, hacc⟩ ⟨rfl, c, hc, rfl⟩
        refine ⟨rfl, ?_⟩
        refine rd_tyes ?_
        refine rd_yes rfl ?_
        walk_at "rd"
        refine ⟨_, rfl, rfl, ?_⟩
        have nD : H D = none := s3.free hD
        have hz : (sgn z)[i]? = some (c : Int) := by
          unfold sgn
          rw [List.getElem?_map, Array.getElem?_toList, hc]
          rfl
        refine ⟨_, hacc, small' (by rw [List.length_map, List.length_take]; omega), fun b o eb => (upd_ne (ne_of_none eb nD)).trans (hs b o eb), ?_, ?_⟩
        · rw [upd_ne (ne_of_none upd_same hD)]
          exact hl2
        · rw [upd_same, take_snoc hz, List.map_append]
          rfl
      · rintro H2 ⟨hs, hl2, hacc⟩
        rw [List.take_of_length_le (by rw [esg]; exact Nat.le_refl _)] at hacc
        walk_at "rd"
        refine ⟨l2, D, _, _, rfl, rfl, hl2, hacc, small (by simp; omega), fun l3 n3 => ?_⟩
        walk_at "rd"
        refine q l3 _ (hs.trans (same_new n3)) (hs.free n3) ?_
        rw [upd_same, List.map_cons, List.map_append]
        simp
    | tuple ds =>
      obtain ⟨a, xs, rfl, ha, hx⟩ := dt_tup' hd'
      have hlx := hx.len
      have e : byD (.tuple ds) = 6 :: (wh ds.length ++ byAll ds) := rfl
      rw [e] at q hsz
      rw [List.length_cons, List.length_append] at hsz
      have hdep2 : PyData.depthAll ds + 1 < n + 1 := hdep
      walk_at "rd"
      refine ⟨rfl, ?_⟩
      walk_at "rd"
      refine rd_no rfl ?_
      walk_at "rd"
      refine dt_isB T.W hd ?_
      walk_at "rd"
      refine rd_no rfl ?_
      walk_at "rd"
      refine dt_isI T.W hd ?_
      walk_at "rd"
      refine rd_no rfl ?_
      walk_at "rd"
      refine dt_isS T.W hd ?_
      walk_at "rd"
      refine rd_no rfl ?_
      walk_at "rd"
      refine rd_disp rfl fun l nl => ?_
      have s1 := same_new (o := .lst [.int 6]) nl
      walk_at "rd"
      refine ⟨_, xs.length, rfl, .inr ⟨xs, SqT.of (s1 _ _ ha), rfl⟩, ?_⟩
      walk_at "rd"
      refine ⟨xs.length, rfl, by rw [← hlx]; omega, fun p H1 s2 np hp1 => ?_⟩
      refine ⟨l, p, _, _, rfl, rfl, s2 _ _ upd_same, hp1, small (by rw [← hlx]; simp; omega), fun l2 n2 => ?_⟩
      have s12 := s1.trans s2
      have nl2 : H l2 = none := s12.free n2
      have s3 := s12.trans (same_new (o := .lst ([V.int 6] ++ (wh xs.length).map V.int)) n2)
      walk_at "rd"
      refine ⟨_, rfl, a, rfl, ⟨xs, SqT.of (s3 _ _ ha)⟩, for_tup (K := K) (a := a) (xs := xs) (fun i σ H2 => Same H H2 ∧ H2 l2 = some (.lst ((6 :: (wh ds.length ++ byAll (ds.take i))).map V.int)) ∧ ∃ u, σ = [some (.ref a), some (.ref l2), u, none])
        ⟨s3, by rw [upd_same, ← hlx]; simp [byAll], none, rfl⟩ (fun i σ H2 _ hh => SqT.of (hh.1 _ _ ha)) ?_ ?_⟩
      · rintro i y σ H2 hi ⟨hs, hl2, u, rfl⟩
        obtain ⟨d1, hd1, td1⟩ := hx.get' hi
        have dep := depthAll_get hd1
        have sz1 := byAll_get hd1
        have sz2 : (byAll (ds.take (i + 1))).length ≤ (byAll ds).length := byAll_take ds (i + 1)
        have ebt : byAll (ds.take (i + 1)) = byAll (ds.take i) ++ byD d1 := by
          rw [take_snoc hd1, byAll_app, byAll_one]
        rw [ebt, List.length_append] at sz2
        walk_at "rd"
        refine ⟨.inl ⟨rfl, _, SqL.of hl2⟩, ?_⟩
        walk_at "rd"
        refine ⟨M, d1, y, rfl, td1.s hs, plainAll_get hp hd1, by omega, by omega, fun p2 H3 s4 np2 hp2 => ?_⟩
        walk_at "rd"
        refine ⟨l2, p2, _, _, rfl, rfl, s4 _ _ hl2, hp2, small (by simp; omega), ?_⟩
        refine ⟨fun b o eb => (upd_ne (ne_of_none eb nl2)).trans (s4 _ _ (hs b o eb)), ?_, _, rfl⟩
        rw [upd_same, ebt]
        simp
      · rintro σ H2 ⟨hs, hl2, u, rfl⟩
        rw [← hlx, List.take_length] at hl2
        walk_at "rd"
        exact q l2 _ hs nl2 hl2
    | list es => simp only [plainD] at hp; cases hp
    | dict es => simp only [plainD] at hp; cases hp
theorem ok_law_bytes_n (T : Tx K mg) (B : Bk K mg T) : ∀ n, FnOk P w K mg base CX0 (n + 2) B.law_bytes.f B.law_bytes.fd ["_law_parcel_here"] (spTold T.CP n)
  | 0 => fn_no fun vs H Q E h => by
    obtain ⟨M, d, x, _, _, _, hd, _⟩ := h
    omega
  | n + 1 => law_bytes_step T B (by omega) (ok_law_bytes_n T B n)
end
end Mw

/-! R4m -/
/-! What a parcel is; how long its bytes are. -/
namespace Mw
open PySem L2
def isSign (c : Int) : Bool := (decide (32 ≤ c) && decide (c ≤ 126)) && !decide (c = 37)
def okStr (s : Str) : Bool := (decide (0 < s.length) && decide (s.length ≤ 20)) && (sgn s).all isSign
mutual
def isPc : Nat → PyData → Bool
  | n, .tuple ds => decide (0 < n) && isPcAll (n - 1) ds
  | _, .str s => okStr s
  | _, .none | _, .bool _ | _, .int _ => true
  | _, .list _ | _, .dict _ => false
def isPcAll : Nat → List PyData → Bool
  | _, [] => true
  | n, d :: ds => isPc n d && isPcAll n ds
end
theorem isPcAll_iff {n : Nat} : ∀ {ds : List PyData}, isPcAll n ds = true ↔ ∀ d ∈ ds, isPc n d = true
  | [] => by simp [isPcAll]
  | d :: ds => by
    simp only [isPcAll, Bool.and_eq_true, List.mem_cons, forall_eq_or_imp, isPcAll_iff (ds := ds)]
mutual
theorem isPc_mono : ∀ {n m : Nat} (d : PyData), n ≤ m → isPc n d = true → isPc m d = true
  | n, m, .none, _, _ => rfl
  | n, m, .bool _, _, _ => rfl
  | n, m, .int _, _, _ => rfl
  | n, m, .str s, _, h => h
  | n, m, .list _, _, h => h
  | n, m, .dict _, _, h => h
  | n, m, .tuple ds, l, h => by
    simp only [isPc, Bool.and_eq_true, decide_eq_true_eq] at h ⊢
    exact ⟨by omega, isPcAll_mono ds (by omega) h.2⟩
theorem isPcAll_mono : ∀ {n m : Nat} (ds : List PyData), n ≤ m → isPcAll n ds = true → isPcAll m ds = true
  | n, m, [], _, _ => rfl
  | n, m, d :: ds, l, h => by
    simp only [isPcAll, Bool.and_eq_true] at h ⊢
    exact ⟨isPc_mono d l h.1, isPcAll_mono ds l h.2⟩
end
mutual
theorem isPc_plain : ∀ {n : Nat} (d : PyData), isPc n d = true → plainD d = true
  | n, .none, _ => rfl
  | n, .bool _, _ => rfl
  | n, .int _, _ => rfl
  | n, .str s, h => rfl
  | n, .list _, h => by simp [isPc] at h
  | n, .dict _, h => by simp [isPc] at h
  | n, .tuple ds, h => by
    simp only [isPc, Bool.and_eq_true, decide_eq_true_eq] at h
    simp only [plainD]
    exact isPcAll_plain ds h.2
theorem isPcAll_plain : ∀ {n : Nat} (ds : List PyData), isPcAll n ds = true → plainAll ds = true
  | n, [], _ => rfl
  | n, d :: ds, h => by
    simp only [isPcAll, plainAll, Bool.and_eq_true] at h ⊢
    exact ⟨isPc_plain d h.1, isPcAll_plain ds h.2⟩
end
mutual
theorem isPc_depth : ∀ {n : Nat} (d : PyData), isPc n d = true → d.depth ≤ n
  | n, .none, _ => Nat.zero_le _
  | n, .bool _, _ => Nat.zero_le _
  | n, .int _, _ => Nat.zero_le _
  | n, .str s, h => Nat.zero_le _
  | n, .list _, h => by simp [isPc] at h
  | n, .dict _, h => by simp [isPc] at h
  | n, .tuple ds, h => by
    simp only [isPc, Bool.and_eq_true, decide_eq_true_eq] at h
    show PyData.depthAll ds + 1 ≤ n
    have := isPcAll_depth ds h.2
    omega
theorem isPcAll_depth : ∀ {n : Nat} (ds : List PyData), isPcAll n ds = true → PyData.depthAll ds ≤ n
  | n, [], _ => Nat.zero_le _
  | n, d :: ds, h => by
    simp only [isPcAll, Bool.and_eq_true] at h
    exact Nat.max_le.mpr ⟨isPc_depth d h.1, isPcAll_depth ds h.2⟩
end
theorem okStr_lay {s : Str} (h : okStr s = true) : (PyData.str s).canLay0 = true := by
  unfold okStr at h
  simp only [Bool.and_eq_true, decide_eq_true_eq] at h
  have h2 : ∀ c ∈ s.cps.toList, isSign (c : Int) = true := fun c hc => List.all_eq_true.mp h.2 _ (List.mem_map.mpr ⟨c, hc, rfl⟩)
  show s.cps.all (· < 0x110000) = true
  rw [Array.all_eq_true']
  intro c hc
  have h3 := h2 c (by simpa using hc)
  unfold isSign at h3
  simp only [Bool.and_eq_true, decide_eq_true_eq] at h3
  exact decide_eq_true (by omega)
mutual
theorem isPc_lay : ∀ {n : Nat} (d : PyData), isPc n d = true → d.canLay0 = true
  | n, .none, _ => rfl
  | n, .bool _, _ => rfl
  | n, .int _, _ => rfl
  | n, .str s, h => okStr_lay h
  | n, .list _, h => by simp [isPc] at h
  | n, .dict _, h => by simp [isPc] at h
  | n, .tuple ds, h => by
    simp only [isPc, Bool.and_eq_true, decide_eq_true_eq] at h
    simp only [PyData.canLay0]
    exact isPcAll_lay ds h.2
theorem isPcAll_lay : ∀ {n : Nat} (ds : List PyData), isPcAll n ds = true → PyData.canLayAll0 ds = true
  | n, [], _ => rfl
  | n, d :: ds, h => by
    simp only [isPcAll, PyData.canLayAll0, Bool.and_eq_true] at h ⊢
    exact ⟨isPc_lay d h.1, isPcAll_lay ds h.2⟩
end
theorem wh_len : ∀ (k n : Nat), n < 128 ^ (k + 1) → (wh n).length ≤ k + 1
  | 0, n, h => by
    rw [wh_lt (by simpa using h)]
    exact Nat.le_refl _
  | k + 1, n, h => by
    by_cases c : n < 128
    · rw [wh_lt c]
      simp
    · rw [wh_ge c, List.length_cons]
      have : n / 128 < 128 ^ (k + 1) := by
        rw [Nat.div_lt_iff_lt_mul (by decide)]
        rw [Nat.pow_succ] at h
        exact h
      have := wh_len k (n / 128) this
      omega
theorem byAll_le {b : Nat} : ∀ {ds : List PyData}, (∀ d ∈ ds, (byD d).length ≤ b) → (byAll ds).length ≤ ds.length * b
  | [], _ => Nat.zero_le _
  | d :: ds, h => by
    have h1 := h d (by simp)
    have h2 := byAll_le fun e he => h e (List.mem_cons_of_mem _ he)
    show (byD d ++ byAll ds).length ≤ (ds.length + 1) * b
    rw [List.length_append, Nat.add_mul]
    omega
def bB : Nat → Nat
  | 0 => 22
  | n + 1 => 4 * bB n + 910
theorem bB_ge (n : Nat) : 22 ≤ bB n := by
  cases n with
  | zero => exact Nat.le_refl _
  | succ n =>
    show 22 ≤ 4 * bB n + 910
    omega
theorem by_int {i : Int} (h : i.natAbs < 10 ^ 20 + 1) : (byD (.int i)).length ≤ 11 := by
  have e : (128 : Nat) ^ 10 = 1180591620717411303424 := by decide
  show (if 0 ≤ i then (3 : Int) :: wh i.toNat else 4 :: wh (-1 - i).toNat).length ≤ 11
  by_cases c : 0 ≤ i
  · rw [if_pos c, List.length_cons]
    have := wh_len 9 i.toNat (by rw [e]; omega)
    omega
  · rw [if_neg c, List.length_cons]
    have := wh_len 9 (-1 - i).toNat (by rw [e]; omega)
    omega
theorem by_small {i : Int} (h0 : 0 ≤ i) (h : i < 300) : (byD (.int i)).length ≤ 3 := by
  have e : (128 : Nat) ^ 2 = 16384 := by decide
  show (if 0 ≤ i then (3 : Int) :: wh i.toNat else 4 :: wh (-1 - i).toNat).length ≤ 3
  rw [if_pos h0, List.length_cons]
  have := wh_len 1 i.toNat (by rw [e]; omega)
  omega
theorem sgn_len (s : Str) : (sgn s).length = s.length := by
  unfold sgn
  rw [List.length_map, Array.length_toList]
  rfl
theorem by_str {s : Str} (h : okStr s = true) : (byD (.str s)).length ≤ 22 := by
  unfold okStr at h
  simp only [Bool.and_eq_true, decide_eq_true_eq] at h
  show ((5 : Int) :: (wh s.length ++ sgn s)).length ≤ 22
  rw [List.length_cons, List.length_append, sgn_len, wh_lt (by omega)]
  simp
  omega
theorem by_tup {ds : List PyData} {b k : Nat} (h : ∀ d ∈ ds, (byD d).length ≤ b) (hl : ds.length ≤ k) (hk : k < 16384) : (byD (.tuple ds)).length ≤ k * b + 3 := by
  have e : (128 : Nat) ^ 2 = 16384 := by decide
  have h1 := byAll_le h
  have h2 := wh_len 1 ds.length (by rw [e]; omega)
  have h3 := Nat.mul_le_mul_right b hl
  show ((6 : Int) :: (wh ds.length ++ byAll ds)).length ≤ k * b + 3
  rw [List.length_cons, List.length_append]
  omega
end Mw

/-! R4 -/
namespace Mw
open PySem L2
/-- the pool: a list at p, its cells at l -/
def PoolAt (H : Hp) (p l : Addr) : Prop := ∃ (s c : Int) (cs : List Int), H p = some (.lst [.int s, .int c, .ref l]) ∧ H l = some (.lst (cs.map V.int)) ∧ l ≠ p
theorem PoolAt.same {H H' : Hp} {p l : Addr} (h : PoolAt H p l) (s : Same H H') : PoolAt H' p l := by
  obtain ⟨a, b, c, h1, h2, r⟩ := h
  exact ⟨a, b, c, s _ _ h1, s _ _ h2, r⟩
theorem PoolAt.new {H : Hp} {p l q : Addr} {o : HO} (h : PoolAt H p l) (n : H q = none) : PoolAt (upd H q o) p l := h.same (same_new n)
theorem PoolAt.p {H : Hp} {p l : Addr} (h : PoolAt H p l) : ∃ us, H p = some (.lst us) := by
  obtain ⟨a, b, c, h1, h2, r⟩ := h
  exact ⟨_, h1⟩
theorem PoolAt.l {H : Hp} {p l : Addr} (h : PoolAt H p l) : ∃ us, H l = some (.lst us) := by
  obtain ⟨a, b, c, h1, h2, r⟩ := h
  exact ⟨_, h2⟩
theorem PoolAt.out {H : Hp} {p l q : Addr} (h : PoolAt H p l) (n : H q = none) : q ∉ [p, l] := by
  obtain ⟨us, h1⟩ := h.p
  obtain ⟨ws, h2⟩ := h.l
  have n1 := ne_of_none h1 n
  have n2 := ne_of_none h2 n
  simp [n1.symm, n2.symm]
/-- an object of ours that is no part of the pool changes -/
theorem PoolAt.upd {H : Hp} {p l q : Addr} {o : HO} (h : PoolAt H p l) (n : q ∉ [p, l]) : PoolAt (upd H q o) p l := by
  obtain ⟨a, b, c, h1, h2, r⟩ := h
  simp at n
  exact ⟨a, b, c, (upd_ne (fun z => n.1 z.symm)).trans h1, (upd_ne (fun z => n.2 z.symm)).trans h2, r⟩
def spPool (K : PySem.W.Frag) : Sp := fun vs H Q _ => ∃ (a : Addr) (ns : List Int), vs = [.ref a] ∧ SqL K H a (ns.map V.int) ∧ ∀ p l H', H p = none → H l = none → PoolAt H' p l → Same H H' → Q (.ref p) H'
def spDraw : Sp := fun vs H Q _ => ∃ (p l : Addr) (m : Int), vs = [.ref p, .int m] ∧ 1 ≤ m ∧ m < 1073741824 ∧ PoolAt H p l ∧ ∀ r H', 0 ≤ r → r < m → PoolAt H' p l → FK [p, l] H H' → Q (.int r) H'
theorem cut_int (ns : List Int) (lo hi : Option Int) : ∃ ms : List Int, cutV (ns.map V.int) lo hi = ms.map V.int ∧ ms.length ≤ ns.length := by
  refine ⟨(ns.drop (HT.sIx ns.length 0 lo)).take (HT.sIx ns.length ns.length hi - HT.sIx ns.length 0 lo), ?_, ?_⟩
  · unfold cutV
    rw [List.length_map, List.map_take, List.map_drop]
  · rw [List.length_take, List.length_drop]
    omega
theorem cut_len63 (ns : List Int) : (cutV (ns.map V.int) none (some 63)).length ≤ 63 := by
  unfold cutV
  rw [List.length_take]
  have : HT.sIx (ns.map V.int).length (ns.map V.int).length (some 63) ≤ 63 := by
    show (if (63 : Int) < 0 then ((63 : Int) + ((ns.map V.int).length : Int)).toNat else min (63 : Int).toNat (ns.map V.int).length) ≤ 63
    rw [if_neg (by decide)]
    exact Nat.min_le_left _ _
  omega
section
variable {P : Program} {w : World} {K : PySem.W.Frag} {mg : Str → Option Value} {base : Heap}
local macro_rules | `(tactic| walk_at "rd") => `(tactic| (repeat (first
  | ((with_reducible refine' rd_var ?h0 ?_); (case h0 => rfl))
  | with_reducible refine rd_c ?_
  | with_reducible refine rd_op ?_
  | with_reducible refine rd_nil ?_
  | with_reducible refine rd_cons ?_
  | with_reducible refine rd_tup ?_
  | with_reducible refine rd_lst ?_
  | with_reducible refine rd_ifs ?_
  | with_reducible refine rd_seq ?_
  | with_reducible refine rd_next ?_
  | with_reducible refine rd_ret ?_
  | with_reducible refine rd_asg ?_
  | ((with_reducible refine' rd_gset ?hs ?_); (case hs => ((simp only [L2.start, List.map_cons, List.map_nil, List.length_cons, List.length_nil, List.cons_append, List.nil_append, List.set_cons_zero, List.set_cons_succ, Nat.reduceAdd, Nat.reduceSub, Nat.zero_add, List.reduceReplicate]); rfl)))
  | with_reducible refine rd_drop ?_
  | with_reducible refine rd_test ?_
  | with_reducible refine rd_B ?_
  | with_reducible refine rd_bl ?_
  | with_reducible refine rd_blP ?_
  | with_reducible refine rd_andV ?_
  | with_reducible refine rd_orV ?_
  | with_reducible refine rd_notV ?_
  | with_reducible refine rd_and ?_
  | with_reducible refine rd_or ?_
  | with_reducible refine rd_not ?_
  | with_reducible refine rd_chain ?_
  | with_reducible refine rd_dput ?_
  | with_reducible refine rd_dget ?_
  | with_reducible refine rd_cb ?_
  | with_reducible refine rd_call ?_
  | with_reducible refine rd_un ?_
  | with_reducible refine rd_sl ?_
  | with_reducible refine rd_nopart ?_
  | with_reducible refine rd_part ?_
  | with_reducible refine rd_intP ?_
  | with_reducible refine rd_rU ?_
  | with_reducible refine rd_fld ?_
  | with_reducible refine rd_eqI ?_
  | with_reducible refine rd_neI ?_
  | with_reducible refine rd_mko ?_
  | with_reducible refine rd_bm ?_
  | with_reducible refine rd_gsub ?_
  | with_reducible refine rd_i0 ?_)))
theorem ok_law_pool (T : Tx K mg) (B : Bk K mg T) : FnOk P w K mg base CX0 1 B.law_pool.f B.law_pool.fd ["_law_script"] (spPool K) := by
  refine B.law_pool.F.ok sc_law_pool (fun vs H Q E h => ?_) (fun cdv A outer s H vs Q E hr h => ?_)
  · obtain ⟨a, ns, rfl, _⟩ := h
    rfl
  · obtain ⟨a, ns, rfl, ha, q⟩ := h
    refine ⟨_, (pss_cons (ps_set (i := 1) sc_law_pool.nd rfl (Or.inl rfl) (pe_op op_add (pe_op op_add (pe_op op_mod (pe_callTy call_int1 (by rfl) T.b_int (by decide +kernel) (pa_cons (pe_callB (cr_sum rfl) (by rfl) T.b_sum (by decide +kernel) (pa_cons (pe_slice sl_list (pv 0) po_none (po_some pe_int)) pa_nil)) pa_nil)) pe_int) (pe_callB call_len_seq (by rfl) T.b_len (by decide +kernel) (pa_cons (pv 0) pa_nil))) pe_int))
      (pss_cons (ps_for PassesOwn.never rfl (pi_list (pe_slice sl_list (pv 0) po_none (po_some pe_int))) (pg_name (i := 2) sc_law_pool.nd rfl (Or.inl rfl)) (pss_one (ps_set (i := 1) sc_law_pool.nd rfl (Or.inl rfl) (pe_op op_mod (pe_callTy call_int1 (by rfl) T.b_int (by decide +kernel) (pa_cons (pe_op op_add (pe_op op_add (pe_op op_mul (pv 1) pe_int) (pe_op op_mod (pe_callTy call_int1 (by rfl) T.b_int (by decide +kernel) (pa_cons (pv 2) pa_nil)) pe_int)) pe_int) pa_nil)) pe_int))))
      (pss_one (ps_ret (pe_lst (pa_cons (pv 1) (pa_cons pe_int (pa_cons (pe_lc (own := [("_law_cell", 2)]) (g := gName 2) rfl sc_law_pool.nd (pi_list (pe_slice sl_list (pv 0) po_none (po_some pe_int))) (blkOk_by (own := [("_law_cell", 2)]) (N := ["_law_script", "_law_seed", "_law_cell"]) (sc := defScope s_law_pool) (by decide +kernel)) (fun _ _ _ _ _ => pg_name (i := 2) sc_law_pool.nd rfl (Or.inl rfl)) (fun _ _ _ _ _ => (pts_one (pt_cmpR op_ge (pe_callB call_abs (by rfl) T.b_abs (by decide +kernel) (pa_cons (pv 2) pa_nil)) (pe_op op_pow pe_int pe_int) (nomark _)))) (fun _ _ _ _ _ => (pe_callB call_abs (by rfl) T.b_abs (by decide +kernel) (pa_cons (pv 2) pa_nil)))) pa_nil)))))))), ?_⟩
    walk_at "rd"
    refine ⟨a, _, rfl, ha, fun b nb => ?_⟩
    obtain ⟨ms, em, hms⟩ := cut_int ns none (some 1)
    rw [em]
    have s1 := same_new (o := .lst (ms.map V.int)) nb
    refine ⟨b, ms, rfl, SqL.of upd_same, ?_⟩
    refine .inl ⟨_, rfl, ?_⟩
    walk_at "rd"
    refine rd_iC (show (0 : Int) < 1000003 by decide) ?_
    walk_at "rd"
    refine ⟨a, _, rfl, .inl (Same.seq s1 ha), ?_⟩
    walk_at "rd"
    show iList _ _ _ _ _
    refine rd_ilist ?_
    walk_at "rd"
    refine ⟨a, _, rfl, Same.seq s1 ha, fun c nc => ?_⟩
    obtain ⟨cs, ec, hcs⟩ := cut_int ns none (some 63)
    have l63 := cut_len63 ns
    rw [ec] at l63 ⊢
    rw [List.length_map] at l63
    have s2 := s1.trans (same_new (o := .lst (cs.map V.int)) nc)
    refine ⟨c, rfl, ⟨_, SqL.of upd_same⟩, for_list (K := K) (a := c) (xs := cs.map V.int) (fun i σ H1 => Same H H1 ∧ H1 c = some (.lst (cs.map V.int)) ∧ ∃ (z : Int) (u : Option V), σ = [some (.ref a), some (.int z), u])
      ⟨s2, upd_same, _, _, rfl⟩ (fun i σ H1 _ hh => SqL.of hh.2.1) ?_ ?_⟩
    · rintro i y σ H1 hi ⟨hs, hc, z, u, rfl⟩
      obtain ⟨m, _, rfl⟩ := mapint_get hi
      walk_at "rd"
      refine rd_iC (.inr ⟨by decide, by decide⟩) ?_
      walk_at "rd"
      refine .inl ⟨_, rfl, ?_⟩
      walk_at "rd"
      refine rd_iC (show (0 : Int) < 2147483629 by decide) ?_
      walk_at "rd"
      refine .inl ⟨_, rfl, ?_⟩
      walk_at "rd"
      refine rd_iC (show (0 : Int) < 2147483647 by decide) ?_
      exact ⟨hs, hc, _, _, rfl⟩
    · rintro σ H1 ⟨hs, hc, z, u, rfl⟩
      walk_at "rd"
      show iList _ _ _ _ _
      refine rd_ilist ?_
      walk_at "rd"
      refine ⟨a, _, rfl, Same.seq hs ha, fun d nd => ?_⟩
      rw [ec]
      have s3 := hs.trans (same_new (o := .lst (cs.map V.int)) nd)
      refine ⟨d, rfl, ⟨_, SqL.of upd_same⟩, fun D hD => lc_list (K := K) (a := d) (xs := cs.map V.int) (fun i H2 => Same H H2 ∧ H2 d = some (.lst (cs.map V.int)) ∧ ∃ fs : List Int, fs.length ≤ i ∧ H2 D = some (.lst (fs.map V.int)))
        ⟨s3.trans (same_new hD), (upd_ne (ne_of_none upd_same hD)).trans upd_same, [], Nat.le_refl _, upd_same⟩ (fun i H2 _ hh => SqL.of hh.2.1) ?_ ?_⟩
      · rintro i y H2 hi ⟨hs2, hd2, fs, hf, hacc⟩
        obtain ⟨m, hm, rfl⟩ := mapint_get hi
        have il := (List.getElem?_eq_some_iff.mp hm).1
        refine ⟨rfl, ?_⟩
        walk_at "rd"
        refine ⟨_, rfl, ?_⟩
        walk_at "rd"
        refine rd_iC ⟨by decide, by decide, by decide⟩ ?_
        walk_at "rd"
        refine rd_ite (fun h1 => ?_) (fun h1 => ?_)
        · walk_at "rd"
          refine ⟨_, rfl, ?_⟩
          have nD : H D = none := s3.free hD
          have el : (fs ++ [if m < 0 then -m else m]).length ≤ i + 1 := by
            rw [List.length_append, List.length_singleton]
            omega
          have hd3 : H2 D ≠ some (.lst (cs.map V.int)) ∨ d ≠ D := .inr (ne_of_none (upd_same (H := H1) (a := d) (o := .lst (cs.map V.int))) hD)
          refine ⟨_, hacc, small' (by rw [List.length_map]; omega), ?_, (upd_ne (ne_of_none (upd_same (H := H1) (a := d) (o := .lst (cs.map V.int))) hD)).trans hd2, _, el, ?_⟩
          · exact fun b o eb => (upd_ne (ne_of_none eb nD)).trans (hs2 b o eb)
          · rw [upd_same, List.map_append]
            rfl
        · exact ⟨hs2, hd2, fs, by omega, hacc⟩
      · rintro H2 ⟨hs2, hd2, fs, hf, hacc⟩
        walk_at "rd"
        refine rd_disp rfl fun p np => ?_
        refine q p D _ (hs2.free np) (s3.free hD) ⟨_, _, fs, upd_same, (upd_ne (ne_of_none hacc np)).trans hacc, ne_of_none hacc np⟩ (hs2.trans (same_new np))
theorem ok_law_draw (T : Tx K mg) (B : Bk K mg T) : FnOk P w K mg base CX0 1 B.law_draw.f B.law_draw.fd ["_law_pool_here", "_law_many"] spDraw := by
  refine B.law_draw.F.ok sc_law_draw (fun vs H Q E h => ?_) (fun cdv A outer s H vs Q E hr h => ?_)
  · obtain ⟨p, l, m, rfl, _⟩ := h
    rfl
  · obtain ⟨p, l, m, rfl, m1, m2, ⟨s, c, cs, hp, hl, hlp⟩, q⟩ := h
    refine ⟨_, (pss_cons (ps_asg (pe_op op_add (pe_ix ix_list (pv 0) pe_int (fun _ _ => rfl)) pe_int) (pg_sub (pv 0) pe_int set_list))
      (pss_cons (ps_set (i := 2) sc_law_draw.nd rfl (Or.inl rfl) (pe_ix ix_list (pv 0) pe_int (fun _ _ => rfl)))
      (C8.pss_cut (ps_if (pt_cmpR op_gt (pe_callB call_len_seq (by rfl) T.b_len (by decide +kernel) (pa_cons (pv 2) pa_nil)) pe_int (nomark _)) (pss_cons (ps_set (i := 3) sc_law_draw.nd rfl (Or.inl rfl) (pe_op op_modN (pe_callTy call_int1 (by rfl) T.b_int (by decide +kernel) (pa_cons (pe_ix ix_list (pv 2) pe_int (fun _ _ => rfl)) pa_nil)) (pv 1)))
      (pss_cons (ps_asg (pe_op op_fdivN (pe_callTy call_int1 (by rfl) T.b_int (by decide +kernel) (pa_cons (pe_ix ix_list (pv 2) pe_int (fun _ _ => rfl)) pa_nil)) (pv 1)) (pg_sub (pv 2) pe_int set_list))
      (pss_cons (ps_if (pt_cmpR op_eq (pe_ix ix_list (pv 2) pe_int (fun _ _ => rfl)) pe_int (nomark _)) (pss_one (ps_expr (pe_bm PySem.F.plainAttrs_list PySem.F.slot_list_pop PySem.F.type_list_pop mt_popAt (pv 2) (pa_cons pe_int pa_nil)))) pss_nil)
      (pss_one (ps_ret (pv 3)))))) pss_nil)
      (pss_cons (ps_set (i := 4) sc_law_draw.nd rfl (Or.inl rfl) (pe_op op_mod (pe_callTy call_int1 (by rfl) T.b_int (by decide +kernel) (pa_cons (pe_op op_mul (pe_op op_add (pe_ix ix_list (pv 0) pe_int (fun _ _ => rfl)) (pe_op op_mul pe_int (pe_ix ix_list (pv 0) pe_int (fun _ _ => rfl)))) pe_int) pa_nil)) pe_int))
      (pss_cons (ps_set (i := 4) sc_law_draw.nd rfl (Or.inl rfl) (pe_op op_mod (pe_callTy call_int1 (by rfl) T.b_int (by decide +kernel) (pa_cons (pe_op op_mul (pv 4) (pe_op op_add (pe_op op_fdiv (pv 4) pe_int) pe_int)) pa_nil)) pe_int))
      (pss_cons (ps_set (i := 4) sc_law_draw.nd rfl (Or.inl rfl) (pe_op op_mod (pe_callTy call_int1 (by rfl) T.b_int (by decide +kernel) (pa_cons (pe_op op_mul (pv 4) (pe_op op_add (pe_op op_fdiv (pv 4) pe_int) pe_int)) pa_nil)) pe_int))
      (pss_one (ps_ret (pe_op op_modN (pe_callTy call_int1 (by rfl) T.b_int (by decide +kernel) (pa_cons (pe_op op_fdiv (pv 4) pe_int) pa_nil)) (pv 1)))))))))), ?_⟩
    walk_at "rd"
    refine rd_ixL hp rfl ?_
    walk_at "rd"
    refine rd_setL hp rfl ?_
    have l1 : (upd H p (.lst [.int s, .int (c + 1), .ref l])) l = some (.lst (cs.map V.int)) := (upd_ne hlp).trans hl
    have k1 : FK [p, l] H (upd H p (.lst [.int s, .int (c + 1), .ref l])) := FK.mutL (by simp) hp
    walk_at "rd"
    refine rd_ixL upd_same rfl ?_
    walk_at "rd"
    refine ⟨fun σ2 H2 => σ2 = [some (.ref p), some (.int m), some (.ref l), none, none] ∧ H2 = upd H p (.lst [.int s, .int (c + 1), .ref l]), ?_, ?_⟩
    · walk_at "rd"
      refine ⟨l, _, rfl, .inl (SqL.of l1), ?_⟩
      walk_at "rd"
      refine rd_ite (fun h1 => ?_) (fun h1 => ?_)
      · obtain ⟨x, r, rfl⟩ : ∃ x r, cs = x :: r := by
          cases cs with
          | nil => cases h1
          | cons x r => exact ⟨x, r, rfl⟩
        walk_at "rd"
        refine rd_ixL l1 at0m ?_
        refine .inl ⟨_, rfl, ?_⟩
        walk_at "rd"
        refine rd_iC (show m ≠ 0 by omega) ?_
        walk_at "rd"
        refine rd_ixL l1 at0m ?_
        refine .inl ⟨_, rfl, ?_⟩
        walk_at "rd"
        refine rd_iC (show m ≠ 0 ∧ m.natAbs < 1073741824 by omega) ?_
        walk_at "rd"
        refine rd_setL l1 ix0m ?_
        have k2 : FK [p, l] H (upd (upd H p (.lst [.int s, .int (c + 1), .ref l])) l (.lst ((.int (x.fdiv m)) :: r.map V.int))) := k1.trans (FK.mutL (by simp) l1)
        have hp2 : (upd (upd H p (.lst [.int s, .int (c + 1), .ref l])) l (.lst ((.int (x.fdiv m)) :: r.map V.int))) p = some (.lst [.int s, .int (c + 1), .ref l]) := (upd_ne hlp.symm).trans upd_same
        have b0 : 0 ≤ x.fmod m := by
          rw [Int.fmod_eq_emod_of_nonneg _ (by omega)]
          exact Int.emod_nonneg _ (by omega)
        have b1 : x.fmod m < m := by
          rw [Int.fmod_eq_emod_of_nonneg _ (by omega)]
          exact Int.emod_lt_of_pos _ (by omega)
        walk_at "rd"
        refine rd_ixL upd_same at0 ?_
        walk_at "rd"
        refine rd_ite (fun h2 => ?_) (fun h2 => ?_)
        · walk_at "rd"
          refine ⟨.inl ⟨rfl, _, SqL.of upd_same⟩, ?_⟩
          walk_at "rd"
          refine ⟨l, _, 0, 0, _, rfl, rfl, upd_same, by decide, by decide, ?_, rfl, ?_⟩
          · unfold seqIndex?
            simp
          · walk_at "rd"
            exact q _ _ b0 b1 ⟨s, c + 1, r, (upd_ne hlp.symm).trans hp2, upd_same, hlp⟩ (k2.trans (FK.mutL (by simp) upd_same))
        · walk_at "rd"
          exact q _ _ b0 b1 ⟨s, c + 1, x.fdiv m :: r, hp2, upd_same, hlp⟩ k2
      · exact ⟨rfl, rfl⟩
    · rintro σ2 H2 ⟨rfl, rfl⟩
      walk_at "rd"
      refine rd_ixL upd_same rfl ?_
      walk_at "rd"
      refine rd_ixL upd_same rfl ?_
      walk_at "rd"
      refine rd_iC (.inl ⟨by decide, by decide⟩) ?_
      walk_at "rd"
      refine rd_iC (.inr ⟨by decide, by decide⟩) ?_
      refine .inl ⟨_, rfl, ?_⟩
      walk_at "rd"
      refine rd_iC (show (0 : Int) < 2147483647 by decide) ?_
      generalize hz : (s + 7919 * (c + 1)) * 48271 % 2147483647 = z2
      have b1 : 0 ≤ z2 := hz ▸ Int.emod_nonneg _ (by decide)
      have b2 : z2 < 2147483647 := hz ▸ Int.emod_lt_of_pos _ (by decide)
      walk_at "rd"
      refine rd_iC (show (0 : Int) < 1009 ∧ (1009 : Int) < 1073741824 by decide) ?_
      walk_at "rd"
      refine rd_iC (.inl ⟨by omega, by omega⟩) ?_
      refine .inl ⟨_, rfl, ?_⟩
      walk_at "rd"
      refine rd_iC (show (0 : Int) < 2147483647 by decide) ?_
      generalize hn : z2 * (z2 / 1009 + 69621) % 2147483647 = n1
      have b3 : 0 ≤ n1 := hn ▸ Int.emod_nonneg _ (by decide)
      have b4 : n1 < 2147483647 := hn ▸ Int.emod_lt_of_pos _ (by decide)
      walk_at "rd"
      refine rd_iC (show (0 : Int) < 2003 ∧ (2003 : Int) < 1073741824 by decide) ?_
      walk_at "rd"
      refine rd_iC (.inl ⟨by omega, by omega⟩) ?_
      refine .inl ⟨_, rfl, ?_⟩
      walk_at "rd"
      refine rd_iC (show (0 : Int) < 2147483399 by decide) ?_
      walk_at "rd"
      refine rd_iC (show (0 : Int) < 16 ∧ (16 : Int) < 1073741824 by decide) ?_
      refine .inl ⟨_, rfl, ?_⟩
      walk_at "rd"
      refine rd_iC (show m ≠ 0 by omega) ?_
      refine q _ _ ?_ ?_ ⟨s, c + 1, cs, upd_same, l1, hlp⟩ k1
      · rw [Int.fmod_eq_emod_of_nonneg _ (by omega)]
        exact Int.emod_nonneg _ (by omega)
      · rw [Int.fmod_eq_emod_of_nonneg _ (by omega)]
        exact Int.emod_lt_of_pos _ (by omega)
end
end Mw

/-! R5 -/
namespace Mw
open PySem L2
def spNumber : Sp := fun vs H Q _ => ∃ (p l : Addr), vs = [.ref p] ∧ PoolAt H p l ∧ ∀ (r : Int) H', r.natAbs < 10 ^ 20 + 1 → PoolAt H' p l → FK [p, l] H H' → Q (.int r) H'
/-- a drawn parcel, nested less deep than n -/
def spParcel (CP : Addr → Prop) (n : Nat) : Sp := fun vs H Q _ => ∃ (p l : Addr) (m : Nat), m < n ∧ vs = [.ref p, .int (m : Int)] ∧ PoolAt H p l ∧ ∀ d v H', isPc m d = true → (byD d).length ≤ bB m → Dt CP [p, l] H' d v → PoolAt H' p l → FK [p, l] H H' → Q v H'
section
variable {P : Program} {w : World} {K : PySem.W.Frag} {mg : Str → Option Value} {base : Heap}
local macro_rules | `(tactic| walk_at "rd") => `(tactic| (repeat (first
  | ((with_reducible refine' rd_var ?h0 ?_); (case h0 => rfl))
  | with_reducible refine rd_c ?_
  | with_reducible refine rd_op ?_
  | with_reducible refine rd_nil ?_
  | with_reducible refine rd_cons ?_
  | with_reducible refine rd_tup ?_
  | with_reducible refine rd_lst ?_
  | with_reducible refine rd_ifs ?_
  | with_reducible refine rd_seq ?_
  | with_reducible refine rd_next ?_
  | with_reducible refine rd_ret ?_
  | with_reducible refine rd_asg ?_
  | ((with_reducible refine' rd_gset ?hs ?_); (case hs => ((simp only [L2.start, List.map_cons, List.map_nil, List.length_cons, List.length_nil, List.cons_append, List.nil_append, List.set_cons_zero, List.set_cons_succ, Nat.reduceAdd, Nat.reduceSub, Nat.zero_add, List.reduceReplicate]); rfl)))
  | with_reducible refine rd_drop ?_
  | with_reducible refine rd_test ?_
  | with_reducible refine rd_B ?_
  | with_reducible refine rd_bl ?_
  | with_reducible refine rd_blP ?_
  | with_reducible refine rd_andV ?_
  | with_reducible refine rd_orV ?_
  | with_reducible refine rd_notV ?_
  | with_reducible refine rd_and ?_
  | with_reducible refine rd_or ?_
  | with_reducible refine rd_not ?_
  | with_reducible refine rd_chain ?_
  | with_reducible refine rd_dput ?_
  | with_reducible refine rd_dget ?_
  | with_reducible refine rd_cb ?_
  | with_reducible refine rd_call ?_
  | with_reducible refine rd_un ?_
  | with_reducible refine rd_sl ?_
  | with_reducible refine rd_nopart ?_
  | with_reducible refine rd_part ?_
  | with_reducible refine rd_intP ?_
  | with_reducible refine rd_rU ?_
  | with_reducible refine rd_fld ?_
  | with_reducible refine rd_eqI ?_
  | with_reducible refine rd_neI ?_
  | with_reducible refine rd_mko ?_
  | with_reducible refine rd_bm ?_
  | with_reducible refine rd_gsub ?_
  | with_reducible refine rd_i0 ?_)))
theorem ok_law_number (T : Tx K mg) (B : Bk K mg T) : FnOk P w K mg base CX0 2 B.law_number.f B.law_number.fd ["_law_pool_here"] spNumber := by
  have G_law_draw := ok_law_draw (P := P) (w := w) (base := base) T B
  refine B.law_number.F.ok sc_law_number (fun vs H Q E h => ?_) (fun cdv A outer s H vs Q E hr h => ?_)
  · obtain ⟨p, l, rfl, _⟩ := h
    rfl
  · obtain ⟨p, l, rfl, hh, q⟩ := h
    refine ⟨_, (pss_cons (ps_set (i := 1) sc_law_number.nd rfl (Or.inl rfl) (pe_call G_law_draw (hr.mono (by decide)) rfl B.law_draw.m B.law_draw.F.kp B.law_draw.b .nil pass0 (pa_cons (pv 0) (pa_cons pe_int pa_nil))))
      (pss_cons (ps_if (pt_cmpR op_lt (pv 1) pe_int (nomark _)) (pss_cons (ps_set (i := 2) sc_law_number.nd rfl (Or.inl rfl) (pe_op op_sub (pe_op op_pow pe_int pe_int) pe_int))
      (pss_one (ps_ret (pe_ix ix_list (pe_lst (pa_cons pe_int (pa_cons pe_int (pa_cons (pe_un un_neg pe_int) (pa_cons pe_int (pa_cons pe_int (pa_cons (pe_un un_neg pe_int) (pa_cons (pe_un un_neg pe_int) (pa_cons pe_int (pa_cons pe_int (pa_cons pe_int (pa_cons (pe_un un_neg pe_int) (pa_cons (pv 2) (pa_cons (pe_un un_neg (pv 2)) pa_nil)))))))))))))) (pe_call G_law_draw (hr.mono (by decide)) rfl B.law_draw.m B.law_draw.F.kp B.law_draw.b .nil pass0 (pa_cons (pv 0) (pa_cons pe_int pa_nil))) (fun _ _ => rfl))))) pss_nil)
      (pss_cons (ps_set (i := 3) sc_law_number.nd rfl (Or.inl rfl) (pe_call G_law_draw (hr.mono (by decide)) rfl B.law_draw.m B.law_draw.F.kp B.law_draw.b .nil pass0 (pa_cons (pv 0) (pa_cons pe_int pa_nil))))
      (pss_cons (ps_for PassesOwn.never rfl (pi_range1 (by rfl) T.b_range (pa_cons (pe_call G_law_draw (hr.mono (by decide)) rfl B.law_draw.m B.law_draw.F.kp B.law_draw.b .nil pass0 (pa_cons (pv 0) (pa_cons pe_int pa_nil))) pa_nil)) (pg_name (i := 4) sc_law_number.nd rfl (Or.inl rfl)) (pss_one (ps_set (i := 3) sc_law_number.nd rfl (Or.inl rfl) (pe_op op_add (pe_op op_mul (pv 3) pe_int) (pe_call G_law_draw (hr.mono (by decide)) rfl B.law_draw.m B.law_draw.F.kp B.law_draw.b .nil pass0 (pa_cons (pv 0) (pa_cons pe_int pa_nil)))))))
      (pss_one (ps_ret (pe_ifExp (pt_cmpR op_lt (pv 1) pe_int (nomark _)) (pv 3) (pe_op op_sub pe_int (pv 3))))))))), ?_⟩
    walk_at "rd"
    refine ⟨p, l, _, rfl, by decide, by decide, hh, fun r H1 r0 r1 hh1 k1 => ?_⟩
    walk_at "rd"
    refine rd_ite (fun h1 => ?_) (fun h1 => ?_)
    · walk_at "rd"
      refine rd_iC ⟨by decide, by decide, by decide⟩ ?_
      walk_at "rd"
      refine rd_disp rfl fun a na => ?_
      have hA := hh1.out na
      walk_at "rd"
      refine ⟨p, l, _, rfl, by decide, by decide, hh1.new na, fun j H2 j0 j1 hh2 k2 => ?_⟩
      have e20 : ((10 : Int) ^ (20 : Int).toNat) = 100000000000000000000 := by decide
      have key : ∃ y : Int, ([.int 0, .int 1, .int (-1), .int 127, .int 128, .int (-128), .int (-129), .int 300, .int 16383, .int 16384, .int (-16385), .int ((10 : Int) ^ (20 : Int).toNat - 1), .int (-((10 : Int) ^ (20 : Int).toNat - 1))] : List V)[j.toNat]? = some (.int y) ∧ y.natAbs < 10 ^ 20 + 1 := by
        rw [e20]
        have hj : j.toNat < 13 := by omega
        generalize j.toNat = n at hj
        match n, hj with
        | 0, _ => exact ⟨_, rfl, by decide⟩
        | 1, _ => exact ⟨_, rfl, by decide⟩
        | 2, _ => exact ⟨_, rfl, by decide⟩
        | 3, _ => exact ⟨_, rfl, by decide⟩
        | 4, _ => exact ⟨_, rfl, by decide⟩
        | 5, _ => exact ⟨_, rfl, by decide⟩
        | 6, _ => exact ⟨_, rfl, by decide⟩
        | 7, _ => exact ⟨_, rfl, by decide⟩
        | 8, _ => exact ⟨_, rfl, by decide⟩
        | 9, _ => exact ⟨_, rfl, by decide⟩
        | 10, _ => exact ⟨_, rfl, by decide⟩
        | 11, _ => exact ⟨_, rfl, by decide⟩
        | 12, _ => exact ⟨_, rfl, by decide⟩
      obtain ⟨y, hy, hb⟩ := key
      refine rd_ixL (k2.at hA upd_same) (at_of (j := j.toNat) (by omega) hy) ?_
      walk_at "rd"
      exact q _ _ hb hh2 ((k1.trans (FK.new na)).trans k2)
    · walk_at "rd"
      refine ⟨p, l, _, rfl, by decide, by decide, hh1, fun f0 H2 f00 f01 hh2 k2 => ?_⟩
      walk_at "rd"
      show iRng1 _ _ _ _
      refine rd_rng1 ?_
      walk_at "rd"
      refine ⟨p, l, _, rfl, by decide, by decide, hh2, fun c H3 c0 c1 hh3 k3 => ?_⟩
      walk_at "rd"
      have k13 := (k1.trans k2).trans k3
      refine ⟨c, rfl, by omega, by omega, for_range (lo := 0) (n := c.toNat) (fun i σ H4 => ∃ (f : Int) (u : Option V), σ = [some (.ref p), some (.int r), none, some (.int f), u] ∧ 0 ≤ f ∧ f < 1000 ^ (i + 1) ∧ PoolAt H4 p l ∧ FK [p, l] H H4)
        ⟨f0, none, rfl, f00, by omega, hh3, k13⟩ ?_ ?_⟩
      · rintro i σ H4 hi ⟨f, u, rfl, g0, g1, hh4, k4⟩
        walk_at "rd"
        refine rd_iC (.inr ⟨by decide, by decide⟩) ?_
        walk_at "rd"
        refine ⟨p, l, _, rfl, by decide, by decide, hh4, fun e H5 e0 e1 hh5 k5 => ?_⟩
        walk_at "rd"
        refine ⟨_, _, rfl, by omega, ?_, hh5, k4.trans k5⟩
        rw [Int.pow_succ]
        omega
      · rintro σ H4 ⟨f, u, rfl, g0, g1, hh4, k4⟩
        have g2 : f < 1000 ^ 6 := by
          have hc : c.toNat < 6 := by omega
          generalize c.toNat = n at hc g1
          match n, hc with
          | 0, _ => exact Int.lt_of_lt_of_le g1 (by decide)
          | 1, _ => exact Int.lt_of_lt_of_le g1 (by decide)
          | 2, _ => exact Int.lt_of_lt_of_le g1 (by decide)
          | 3, _ => exact Int.lt_of_lt_of_le g1 (by decide)
          | 4, _ => exact Int.lt_of_lt_of_le g1 (by decide)
          | 5, _ => exact g1
        have e6 : (1000 : Int) ^ 6 = 1000000000000000000 := by decide
        walk_at "rd"
        refine rd_ifx ?_
        walk_at "rd"
        refine rd_ite (fun h2 => ?_) (fun h2 => ?_)
        · walk_at "rd"
          exact q _ _ (by omega) hh4 k4
        · walk_at "rd"
          exact q _ _ (by omega) hh4 k4
end
end Mw

/-! R5m -/
/-! Texts of signs. -/
namespace Mw
open PySem L2 TL
def strOf (cs : List Nat) : Str := ⟨cs.toArray⟩
theorem sgn_of (cs : List Nat) : sgn (strOf cs) = cs.map fun c : Nat => (c : Int) := by
  unfold sgn strOf
  simp
theorem len_of (cs : List Nat) : (strOf cs).length = cs.length := by
  show cs.toArray.size = cs.length
  simp
theorem joinL_nil : ∀ ls : List (List Nat), joinL [] ls = ls.flatten
  | [] => rfl
  | [p] => by simp [joinL]
  | p :: q :: r => by
    show p ++ ([] ++ joinL [] (q :: r)) = _
    rw [joinL_nil (q :: r)]
    simp
theorem flat_one : ∀ cs : List Nat, (cs.map fun c => [c]).flatten = cs
  | [] => rfl
  | c :: cs => by
    rw [List.map_cons, List.flatten_cons, flat_one cs]
    rfl
theorem join_one (cs : List Nat) : Txt.join "" (cs.map fun c => (⟨#[c]⟩ : Str)) = strOf cs := by
  rw [join_eq]
  have h := tl_join "" (cs.map fun c => (⟨#[c]⟩ : Str))
  rw [show tl ("" : Str) = [] from rfl, joinL_nil, List.map_map] at h
  rw [show (tl ∘ fun c => (⟨#[c]⟩ : Str)) = fun c : Nat => [c] from rfl, flat_one] at h
  have e := mk_tl (Str.join "" (cs.map fun c => (⟨#[c]⟩ : Str)))
  rw [h] at e
  exact e.symm
theorem join_ok {cs : List Nat} (h : 2 * cs.length ≤ 1000000) : (((cs.map fun c => (⟨#[c]⟩ : Str)).map (·.length)).sum + (cs.map fun c => (⟨#[c]⟩ : Str)).length * ("" : Str).length ≤ 16777216) := by
  have e : (((cs.map fun c => (⟨#[c]⟩ : Str)).map (·.length)).sum = cs.length) := by
    clear h
    induction cs with
    | nil => rfl
    | cons c cs ih =>
      rw [List.map_cons, List.map_cons, List.sum_cons, ih, List.length_cons]
      show 1 + cs.length = cs.length + 1
      omega
  rw [e]
  show cs.length + _ * 0 ≤ _
  omega
end Mw

/-! R6 -/
namespace Mw
open PySem L2
/-- what the comprehensions of parcels gather -/
def RowI (CP : Addr → Prop) (p l : Addr) (m b : Nat) (H0 : Hp) (D : Addr) (i : Nat) (H1 : Hp) : Prop := ∃ ds vs, ds.length = i ∧ H1 D = some (.lst vs) ∧ DtAll CP [p, l] H1 ds vs ∧ (∀ d ∈ ds, isPc m d = true ∧ (byD d).length ≤ b) ∧ PoolAt H1 p l ∧ FK [p, l] H0 H1
theorem RowI.start {CP : Addr → Prop} {p l D : Addr} {m b : Nat} {H0 : Hp} (hh : PoolAt H0 p l) (hD : H0 D = none) : RowI CP p l m b H0 D 0 (upd H0 D (.lst [])) :=
  ⟨[], [], rfl, upd_same, dtAll_nil, fun d hd => absurd hd (by simp), hh.new hD, FK.new hD⟩
theorem RowI.more {CP : Addr → Prop} {p l D : Addr} {m b i : Nat} {H0 H1 H2 : Hp} (hD : H0 D = none) (hout : D ∉ [p, l]) {ds : List PyData} {vs : List V} {d : PyData} {v : V} (e : ds.length = i) (ha : H1 D = some (.lst vs)) (hds : DtAll CP [p, l] H1 ds vs) (hg : ∀ d ∈ ds, isPc m d = true ∧ (byD d).length ≤ b) (k1 : FK [p, l] H0 H1)
    (hd : Dt CP [p, l] H2 d v) (hp : isPc m d = true) (hb : (byD d).length ≤ b) (hh : PoolAt H2 p l) (k : FK [p, l] H1 H2) : RowI CP p l m b H0 D (i + 1) (upd H2 D (.lst (vs ++ [v]))) := by
  have ha2 := k.at hout ha
  have hpl : plainAll (ds ++ [d]) = true := plainAll_of fun c hc => by
    rcases List.mem_append.mp hc with h | h
    · exact isPc_plain c (hg c h).1
    · rw [show c = d by simpa using h]
      exact isPc_plain d hp
  refine ⟨ds ++ [d], vs ++ [v], by simp [e], upd_same, DtAll.plain (M := [p, l]) (KT.mut ha2 fun _ z => by cases z) _ _ hpl ((hds.k k).snoc hd), fun c hc => ?_, hh.upd hout, (k1.trans k).own hD ha2⟩
  rcases List.mem_append.mp hc with h | h
  · exact hg c h
  · rw [show c = d by simpa using h]
    exact ⟨hp, hb⟩
theorem isPc_tup {m : Nat} {ds : List PyData} (h : ∀ d ∈ ds, isPc m d = true) : isPc (m + 1) (.tuple ds) = true := by
  simp only [isPc, Bool.and_eq_true, decide_eq_true_eq]
  exact ⟨by omega, isPcAll_iff.mpr h⟩
theorem sign7 {j : Nat} (h : j < 7) : ∃ c : Nat, (" ~a0Zb'" : Str).cps.toList[j]? = some c ∧ isSign (c : Int) = true := by
  match j, h with
  | 0, _ => exact ⟨32, rfl, rfl⟩
  | 1, _ => exact ⟨126, rfl, rfl⟩
  | 2, _ => exact ⟨97, rfl, rfl⟩
  | 3, _ => exact ⟨48, rfl, rfl⟩
  | 4, _ => exact ⟨90, rfl, rfl⟩
  | 5, _ => exact ⟨98, rfl, rfl⟩
  | 6, _ => exact ⟨39, rfl, rfl⟩
theorem rd_join {r : V → List V → Hp → VK → Prop} {to te : TE} {σ : L2.St} {H : Hp} {Q : VK} (h : to σ H fun x H1 => (∃ a, x = .str a) ∧ te σ H1 fun y H2 => r x [y] H2 Q) : tM1 r to te σ H Q := h
section
variable {P : Program} {w : World} {K : PySem.W.Frag} {mg : Str → Option Value} {base : Heap}
local macro_rules | `(tactic| walk_at "rd") => `(tactic| (repeat (first
  | ((with_reducible refine' rd_var ?h0 ?_); (case h0 => rfl))
  | with_reducible refine rd_c ?_
  | with_reducible refine rd_op ?_
  | with_reducible refine rd_nil ?_
  | with_reducible refine rd_cons ?_
  | with_reducible refine rd_tup ?_
  | with_reducible refine rd_lst ?_
  | with_reducible refine rd_ifs ?_
  | with_reducible refine rd_seq ?_
  | with_reducible refine rd_next ?_
  | with_reducible refine rd_ret ?_
  | with_reducible refine rd_asg ?_
  | ((with_reducible refine' rd_gset ?hs ?_); (case hs => ((simp only [L2.start, List.map_cons, List.map_nil, List.length_cons, List.length_nil, List.cons_append, List.nil_append, List.set_cons_zero, List.set_cons_succ, Nat.reduceAdd, Nat.reduceSub, Nat.zero_add, List.reduceReplicate]); rfl)))
  | with_reducible refine rd_drop ?_
  | with_reducible refine rd_test ?_
  | with_reducible refine rd_B ?_
  | with_reducible refine rd_bl ?_
  | with_reducible refine rd_blP ?_
  | with_reducible refine rd_andV ?_
  | with_reducible refine rd_orV ?_
  | with_reducible refine rd_notV ?_
  | with_reducible refine rd_and ?_
  | with_reducible refine rd_or ?_
  | with_reducible refine rd_not ?_
  | with_reducible refine rd_chain ?_
  | with_reducible refine rd_dput ?_
  | with_reducible refine rd_dget ?_
  | with_reducible refine rd_cb ?_
  | with_reducible refine rd_call ?_
  | with_reducible refine rd_un ?_
  | with_reducible refine rd_sl ?_
  | with_reducible refine rd_nopart ?_
  | with_reducible refine rd_part ?_
  | with_reducible refine rd_intP ?_
  | with_reducible refine rd_rU ?_
  | with_reducible refine rd_fld ?_
  | with_reducible refine rd_eqI ?_
  | with_reducible refine rd_neI ?_
  | with_reducible refine rd_mko ?_
  | with_reducible refine rd_bm ?_
  | with_reducible refine rd_gsub ?_
  | with_reducible refine rd_i0 ?_)))
theorem parcel_step (T : Tx K mg) (B : Bk K mg T) {n k : Nat} (hk : 2 ≤ k) (G_law_parcel : FnOk P w K mg base CX0 k B.law_parcel.f B.law_parcel.fd ["_law_pool_here", "_law_deep_here"] (spParcel T.CP n)) :
    FnOk P w K mg base CX0 (k + 1) B.law_parcel.f B.law_parcel.fd ["_law_pool_here", "_law_deep_here"] (spParcel T.CP (n + 1)) := by
  have G_law_draw := ok_law_draw (P := P) (w := w) (base := base) T B
  have G_law_number := ok_law_number (P := P) (w := w) (base := base) T B
  refine B.law_parcel.F.ok sc_law_parcel (fun vs H Q E h => ?_) (fun cdv A outer s H vs Q E hr h => ?_)
  · obtain ⟨p, l, m, _, rfl, _⟩ := h
    rfl
  · obtain ⟨p, l, m, hm, rfl, hh, q⟩ := h
    have hb22 := bB_ge m
    refine ⟨_, (pss_cons (ps_set (i := 2) sc_law_parcel.nd rfl (Or.inl rfl) (pe_call G_law_draw (hr.mono (by omega)) rfl B.law_draw.m B.law_draw.F.kp B.law_draw.b .nil pass0 (pa_cons (pv 0) (pa_cons pe_int pa_nil))))
      (pss_cons (ps_if (pt_cmpR op_lt (pv 2) pe_int (nomark _)) (pss_one (ps_ret (pe_ix ix_list (pe_lst (pa_cons pe_non (pa_cons pe_bl (pa_cons pe_bl pa_nil)))) (pv 2) (fun _ _ => rfl)))) pss_nil)
      (pss_cons (ps_if (pt_cmpR op_lt (pv 2) pe_int (nomark _)) (pss_one (ps_ret (pe_call G_law_number (hr.mono (by omega)) rfl B.law_number.m B.law_number.F.kp B.law_number.b .nil pass0 (pa_cons (pv 0) pa_nil)))) pss_nil)
      (pss_cons (ps_if (pt_cmpR op_lt (pv 2) pe_int (nomark _)) (pss_cons (ps_set (i := 3) sc_law_parcel.nd rfl (Or.inl rfl) (pe_ifExp (pt_cmpR op_eq (pe_call G_law_draw (hr.mono (by omega)) rfl B.law_draw.m B.law_draw.F.kp B.law_draw.b .nil pass0 (pa_cons (pv 0) (pa_cons pe_int pa_nil))) pe_int (nomark _)) pe_int (pe_op op_add pe_int (pe_call G_law_draw (hr.mono (by omega)) rfl B.law_draw.m B.law_draw.F.kp B.law_draw.b .nil pass0 (pa_cons (pv 0) (pa_cons pe_int pa_nil))))))
      (pss_one (ps_ret (pe_join pe_str (pe_lc (own := [("_law_at", 5)]) (g := gName 5) rfl sc_law_parcel.nd (pi_range1 (by rfl) T.b_range (pa_cons (pv 3) pa_nil)) (blkOk_by (own := [("_law_at", 5)]) (N := ["_law_pool_here", "_law_deep_here", "_law_kind", "_law_many", "_law_turn", "_law_at"]) (sc := defScope s_law_parcel) (by decide +kernel)) (fun _ _ _ _ _ => pg_name (i := 5) sc_law_parcel.nd rfl (Or.inl rfl)) (fun _ _ _ _ _ => pts_nil) (fun _ _ _ _ _ => (pe_ix (r := rIxS) ix_str pe_str (pe_call G_law_draw (hr.mono (by omega)) rfl B.law_draw.m B.law_draw.F.kp B.law_draw.b .nil pass0 (pa_cons (pv 0) (pa_cons pe_int pa_nil))) (fun _ _ => rfl)))))))) pss_nil)
      (pss_cons (ps_if (pt_cmpR op_eq (pv 1) pe_int (nomark _)) (pss_one (ps_ret pe_int)) pss_nil)
      (pss_cons (ps_if (pt_cmpR op_eq (pe_call G_law_draw (hr.mono (by omega)) rfl B.law_draw.m B.law_draw.F.kp B.law_draw.b .nil pass0 (pa_cons (pv 0) (pa_cons pe_int pa_nil))) pe_int (nomark _)) (pss_one (ps_ret (pe_callTy call_tuple_of (by rfl) T.b_tuple (by decide +kernel) (pa_cons (pe_lc (own := [("_law_turn", 4)]) (g := gName 4) rfl sc_law_parcel.nd (pi_range1 (by rfl) T.b_range (pa_cons (pe_op op_add pe_int (pe_call G_law_draw (hr.mono (by omega)) rfl B.law_draw.m B.law_draw.F.kp B.law_draw.b .nil pass0 (pa_cons (pv 0) (pa_cons pe_int pa_nil)))) pa_nil)) (blkOk_by (own := [("_law_turn", 4)]) (N := ["_law_pool_here", "_law_deep_here", "_law_kind", "_law_many", "_law_turn", "_law_at"]) (sc := defScope s_law_parcel) (by decide +kernel)) (fun _ _ _ _ _ => pg_name (i := 4) sc_law_parcel.nd rfl (Or.inl rfl)) (fun _ _ _ _ _ => pts_nil) (fun _ _ _ _ _ => (pe_call G_law_draw (hr.mono (by omega)) rfl B.law_draw.m B.law_draw.F.kp B.law_draw.b .nil pass0 (pa_cons (pv 0) (pa_cons pe_int pa_nil))))) pa_nil)))) pss_nil)
      (pss_one (ps_ret (pe_callTy call_tuple_of (by rfl) T.b_tuple (by decide +kernel) (pa_cons (pe_lc (own := [("_law_turn", 4)]) (g := gName 4) rfl sc_law_parcel.nd (pi_range1 (by rfl) T.b_range (pa_cons (pe_call G_law_draw (hr.mono (by omega)) rfl B.law_draw.m B.law_draw.F.kp B.law_draw.b .nil pass0 (pa_cons (pv 0) (pa_cons pe_int pa_nil))) pa_nil)) (blkOk_by (own := [("_law_turn", 4)]) (N := ["_law_pool_here", "_law_deep_here", "_law_kind", "_law_many", "_law_turn", "_law_at"]) (sc := defScope s_law_parcel) (by decide +kernel)) (fun _ _ _ _ _ => pg_name (i := 4) sc_law_parcel.nd rfl (Or.inl rfl)) (fun _ _ _ _ _ => pts_nil) (fun _ _ _ _ _ => (pe_call G_law_parcel (hr.mono (by omega)) rfl B.law_parcel.m B.law_parcel.F.kp B.law_parcel.b .nil pass0 (pa_cons (pv 0) (pa_cons (pe_op op_sub (pv 1) pe_int) pa_nil))))) pa_nil)))))))))), ?_⟩
    walk_at "rd"
    refine ⟨p, l, _, rfl, by decide, by decide, hh, fun r H1 r0 r1 hh1 k1 => ?_⟩
    walk_at "rd"
    refine rd_ite (fun h1 => ?_) (fun h1 => ?_)
    · walk_at "rd"
      refine rd_disp rfl fun a na => ?_
      walk_at "rd"
      have h1' := of_decide_eq_true h1
      have k2 : FK [p, l] H (upd H1 a (.lst [.non, .bl true, .bl false])) := k1.put na
      have hj : r.toNat < 3 := by omega
      have er : r = (r.toNat : Int) := by omega
      generalize r.toNat = j at hj er
      match j, hj with
      | 0, _ => exact rd_ixL upd_same (at_of (j := 0) er rfl) (q .none _ _ rfl (by show 1 ≤ bB m; omega) dt_non (hh1.new na) k2)
      | 1, _ => exact rd_ixL upd_same (at_of (j := 1) er rfl) (q (.bool true) _ _ rfl (by show 1 ≤ bB m; omega) dt_bl (hh1.new na) k2)
      | 2, _ => exact rd_ixL upd_same (at_of (j := 2) er rfl) (q (.bool false) _ _ rfl (by show 1 ≤ bB m; omega) dt_bl (hh1.new na) k2)
    · walk_at "rd"
      refine rd_ite (fun h2 => ?_) (fun h2 => ?_)
      · walk_at "rd"
        refine ⟨p, l, rfl, hh1, fun i H2 hi hh2 k2 => ?_⟩
        exact q (.int i) _ _ rfl (by have := by_int hi; omega) dt_int hh2 (k1.trans k2)
      · walk_at "rd"
        refine rd_ite (fun h3 => ?_) (fun h3 => ?_)
        · walk_at "rd"
          refine rd_S (fun x H2 => ∃ c : Int, x = .int c ∧ 1 ≤ c ∧ c ≤ 20 ∧ PoolAt H2 p l ∧ FK [p, l] H H2) ?_ (fun Q' hQ => ?_)
          · rintro x H2 ⟨c, rfl, c1, c20, hh2, k2⟩
            walk_at "rd"
            refine rd_join ?_
            walk_at "rd"
            refine ⟨⟨_, rfl⟩, ?_⟩
            show iRng1 _ _ _ _
            refine rd_rng1 ?_
            walk_at "rd"
            refine ⟨c, rfl, by omega, by omega, fun D hD => lc_range (lo := 0) (n := c.toNat) (fun i H3 => ∃ cs : List Nat, cs.length = i ∧ H3 D = some (.lst (cs.map fun c => V.str ⟨#[c]⟩)) ∧ (∀ c ∈ cs, isSign (c : Int) = true) ∧ PoolAt H3 p l ∧ FK [p, l] H2 H3)
              ⟨[], rfl, upd_same, fun c hc => absurd hc (by simp), hh2.new hD, FK.new hD⟩ ?_ ?_⟩
            · rintro i H3 hi ⟨cs, hl, hacc, hs, hh3, k3⟩
              have hout := hh2.out hD
              refine ⟨rfl, ?_⟩
              refine rd_tyes ?_
              refine rd_yes rfl ?_
              walk_at "rd"
              refine ⟨p, l, _, rfl, by decide, by decide, hh3, fun j H4 j0 j1 hh4 k4 => ?_⟩
              obtain ⟨ch, e1, e2⟩ := sign7 (j := j.toNat) (by omega)
              refine ⟨_, j, ch, rfl, rfl, by decide, at_of (j := j.toNat) (by omega) e1, ?_⟩
              refine ⟨_, k4.at hout hacc, small' (by rw [List.length_map]; omega), cs ++ [ch], by simp [hl], ?_, fun c hc => ?_, hh4.upd hout, (k3.trans k4).own hD (k4.at hout hacc)⟩
              · rw [upd_same, List.map_append]
                rfl
              · rcases List.mem_append.mp hc with h | h
                · exact hs c h
                · rw [show c = ch by simpa using h]
                  exact e2
            · rintro H3 ⟨cs, hl, hacc, hs, hh3, k3⟩
              refine ⟨"", D, cs.map fun c => (⟨#[c]⟩ : Str), rfl, rfl, .inl (SqL.of (by rw [hacc, List.map_map]; rfl)), join_ok (by omega), ?_⟩
              have ok : okStr (strOf cs) = true := by
                unfold okStr
                rw [len_of, sgn_of, hl, decide_eq_true (show 0 < c.toNat by omega), decide_eq_true (show c.toNat ≤ 20 by omega)]
                simpa using hs
              rw [show (Str.ofString "") = ("" : Str) from rfl, join_one]
              exact q (.str (strOf cs)) _ _ ok (by have := by_str ok; omega) dt_str hh3 (k2.trans k3)
          · refine rd_ifx ?_
            walk_at "rd"
            refine ⟨p, l, _, rfl, by decide, by decide, hh1, fun j H2 j0 j1 hh2 k2 => ?_⟩
            walk_at "rd"
            refine rd_ite (fun h4 => ?_) (fun h4 => ?_)
            · walk_at "rd"
              exact hQ _ _ ⟨20, rfl, by decide, by decide, hh2, k1.trans k2⟩
            · walk_at "rd"
              refine ⟨p, l, _, rfl, by decide, by decide, hh2, fun j2 H3 j20 j21 hh3 k3 => ?_⟩
              walk_at "rd"
              exact hQ _ _ ⟨1 + j2, rfl, by omega, by omega, hh3, (k1.trans k2).trans k3⟩
        · walk_at "rd"
          refine rd_ite (fun h4 => ?_) (fun h4 => ?_)
          · walk_at "rd"
            exact q (.int 7) _ _ rfl (by have := by_int (i := 7) (by decide); omega) dt_int hh1 k1
          · obtain ⟨m', rfl⟩ : ∃ m', m = m' + 1 := ⟨m - 1, by
              have := of_decide_eq_false h4
              omega⟩
            have ebB : bB (m' + 1) = 4 * bB m' + 910 := rfl
            walk_at "rd"
            refine ⟨p, l, _, rfl, by decide, by decide, hh1, fun j H2 j0 j1 hh2 k2 => ?_⟩
            walk_at "rd"
            refine rd_ite (fun h5 => ?_) (fun h5 => ?_)
            · walk_at "rd"
              show iRng1 _ _ _ _
              refine rd_rng1 ?_
              walk_at "rd"
              refine ⟨p, l, _, rfl, by decide, by decide, hh2, fun c H3 c0 c1 hh3 k3 => ?_⟩
              walk_at "rd"
              have k13 := (k1.trans k2).trans k3
              refine ⟨_, rfl, by omega, by omega, fun D hD => lc_range (lo := 0) (n := (100 + c).toNat) (RowI T.CP p l m' 3 H3 D) (RowI.start hh3 hD) ?_ ?_⟩
              · rintro i H4 hi ⟨ds, vs, hl, hacc, hds, hg, hh4, k4⟩
                have := hds.len
                have hout := hh3.out hD
                refine ⟨rfl, ?_⟩
                refine rd_tyes ?_
                refine rd_yes rfl ?_
                walk_at "rd"
                refine ⟨p, l, _, rfl, by decide, by decide, hh4, fun e H5 e0 e1 hh5 k5 => ?_⟩
                exact ⟨vs, k5.at hout hacc, small' (by omega), RowI.more hD hout hl hacc hds hg k4 (dt_int (i := e)) rfl (by_small e0 e1) hh5 k5⟩
              · rintro H4 ⟨ds, vs, hl, hacc, hds, hg, hh4, k4⟩
                refine ⟨D, _, rfl, .inl ⟨SqL.of hacc, fun u nu => ?_⟩⟩
                refine q (.tuple ds) _ _ (isPc_tup fun d hd => (hg d hd).1) ?_ (dt_tup upd_same (hds.s (same_new nu))) (hh4.new nu) ((k13.trans k4).put nu)
                have := by_tup (k := 299) (fun d hd => (hg d hd).2) (by omega) (by decide)
                omega
            · walk_at "rd"
              show iRng1 _ _ _ _
              refine rd_rng1 ?_
              walk_at "rd"
              refine ⟨p, l, _, rfl, by decide, by decide, hh2, fun c H3 c0 c1 hh3 k3 => ?_⟩
              walk_at "rd"
              have k13 := (k1.trans k2).trans k3
              refine ⟨_, rfl, by omega, by omega, fun D hD => lc_range (lo := 0) (n := c.toNat) (RowI T.CP p l m' (bB m') H3 D) (RowI.start hh3 hD) ?_ ?_⟩
              · rintro i H4 hi ⟨ds, vs, hl, hacc, hds, hg, hh4, k4⟩
                have := hds.len
                have hout := hh3.out hD
                refine ⟨rfl, ?_⟩
                refine rd_tyes ?_
                refine rd_yes rfl ?_
                walk_at "rd"
                refine ⟨p, l, m', by omega, ?_, hh4, fun d v H5 hd hb td hh5 k5 => ?_⟩
                · rw [show ((m' + 1 : Nat) : Int) - 1 = (m' : Int) by omega]
                  rfl
                · exact ⟨vs, k5.at hout hacc, small' (by omega), RowI.more hD hout hl hacc hds hg k4 td hd hb hh5 k5⟩
              · rintro H4 ⟨ds, vs, hl, hacc, hds, hg, hh4, k4⟩
                refine ⟨D, _, rfl, .inl ⟨SqL.of hacc, fun u nu => ?_⟩⟩
                refine q (.tuple ds) _ _ (isPc_tup fun d hd => (hg d hd).1) ?_ (dt_tup upd_same (hds.s (same_new nu))) (hh4.new nu) ((k13.trans k4).put nu)
                have := by_tup (k := 4) (fun d hd => (hg d hd).2) (by omega) (by decide)
                omega
theorem ok_parcel_n (T : Tx K mg) (B : Bk K mg T) : ∀ n, FnOk P w K mg base CX0 (n + 3) B.law_parcel.f B.law_parcel.fd ["_law_pool_here", "_law_deep_here"] (spParcel T.CP n)
  | 0 => fn_no fun vs H Q E h => by
    obtain ⟨p, l, m, hm, _⟩ := h
    omega
  | n + 1 => parcel_step T B (by omega) (ok_parcel_n T B n)
end
end Mw

/-! R7m -/
/-! Rows: what is read. -/
namespace Mw
open PySem L2
/-- how many bytes stand at the front that are not the last of a whole -/
def lead : List Int → Nat
  | [] => 0
  | b :: r => if 128 ≤ b then lead r + 1 else 0
/-- what bytes tell as figures, the lowest first -/
def val : List Int → Int
  | [] => 0
  | b :: r => b % 128 + 128 * val r
def whR (row : List Int) (h : Nat) : Option (Int × Nat) :=
  match row[h + lead (row.drop h)]? with
  | none => none
  | some c => if c = 0 ∧ 0 < lead (row.drop h) then none else some (val ((row.drop h).take (lead (row.drop h) + 1)), h + lead (row.drop h) + 1)
theorem lead_ge {row : List Int} {h : Nat} {b : Int} (e : row[h]? = some b) (g : 128 ≤ b) : lead (row.drop h) = lead (row.drop (h + 1)) + 1 := by
  have hl := (List.getElem?_eq_some_iff.mp e).1
  rw [List.drop_eq_getElem_cons hl, show row[h] = b from (List.getElem?_eq_some_iff.mp e).2]
  show (if 128 ≤ b then _ else _) = _
  rw [if_pos g]
theorem lead_lt {row : List Int} {h : Nat} {b : Int} (e : row[h]? = some b) (g : ¬ 128 ≤ b) : lead (row.drop h) = 0 := by
  have hl := (List.getElem?_eq_some_iff.mp e).1
  rw [List.drop_eq_getElem_cons hl, show row[h] = b from (List.getElem?_eq_some_iff.mp e).2]
  show (if 128 ≤ b then _ else _) = _
  rw [if_neg g]
theorem lead_end {row : List Int} {h : Nat} (e : row.length ≤ h) : lead (row.drop h) = 0 := by
  rw [List.drop_of_length_le e]
  rfl
theorem lead_le : ∀ r : List Int, lead r ≤ r.length
  | [] => Nat.le_refl _
  | b :: r => by
    have := lead_le r
    show (if 128 ≤ b then lead r + 1 else 0) ≤ r.length + 1
    split <;> omega
theorem whR_le {row : List Int} {h e : Nat} {n : Int} (g : whR row h = some (n, e)) : h < e ∧ e ≤ row.length := by
  unfold whR at g
  split at g
  · cases g
  · rename_i c hc
    have := (List.getElem?_eq_some_iff.mp hc).1
    split at g
    · cases g
    · injection g with g
      injection g with g1 g2
      omega
theorem val_nn : ∀ r : List Int, 0 ≤ val r
  | [] => Int.le_refl _
  | b :: r => by
    have := val_nn r
    have := Int.emod_nonneg b (show (128 : Int) ≠ 0 by decide)
    show 0 ≤ b % 128 + 128 * val r
    omega
theorem whR_nn {row : List Int} {h e : Nat} {n : Int} (g : whR row h = some (n, e)) : 0 ≤ n := by
  unfold whR at g
  split at g
  · cases g
  · split at g
    · cases g
    · injection g with g
      injection g with g1 g2
      rw [← g1]
      exact val_nn _
/-- the last of them, one more at the front -/
theorem val_rev (xs : List Int) (i : Nat) (b : Int) (e : xs.reverse[i]? = some b) : val (xs.drop (xs.length - (i + 1))) = val (xs.drop (xs.length - i)) * 128 + b % 128 := by
  have hl : i < xs.length := by
    have := (List.getElem?_eq_some_iff.mp e).1
    simpa using this
  have e2 : xs[xs.length - (i + 1)]? = some b := by
    rw [List.getElem?_reverse hl] at e
    rw [show xs.length - (i + 1) = xs.length - 1 - i by omega]
    exact e
  rw [List.drop_eq_getElem_cons (by omega), show xs[xs.length - (i + 1)] = b from (List.getElem?_eq_some_iff.mp e2).2]
  show b % 128 + 128 * val (xs.drop (xs.length - (i + 1) + 1)) = _
  rw [show xs.length - (i + 1) + 1 = xs.length - i by omega]
  omega
inductive Rs (α : Type) where
  | bad (e : Nat)
  | ok (a : α) (e : Nat)
def consR {α : Type} (a : α) : Rs (List α) → Rs (List α)
  | .bad e => .bad e
  | .ok l e => .ok (a :: l) e
def strR (row : List Int) : Nat → Nat → Rs (List Nat)
  | 0, h => .ok [] h
  | m + 1, h => match row[h]? with
    | none => .bad row.length
    | some b => if isSign b = true then consR b.toNat (strR row m (h + 1)) else .bad h
inductive Its (R : Nat → Rs PyData → Prop) : Nat → Nat → Rs (List PyData) → Prop
  | nil (h : Nat) : Its R 0 h (.ok [] h)
  | bad {m h e : Nat} : R h (.bad e) → Its R (m + 1) h (.bad e)
  | one {m h h2 : Nat} {d : PyData} {r : Rs (List PyData)} : R h (.ok d h2) → Its R m h2 r → Its R (m + 1) h (consR d r)
def strD : Rs (List Nat) → Rs PyData
  | .bad e => .bad e
  | .ok cs e => .ok (.str (strOf cs)) e
def tupD : Rs (List PyData) → Rs PyData
  | .bad e => .bad e
  | .ok ds e => .ok (.tuple ds) e
/-- what is read at a place, R within the tuple (none: no tuple may stand there) -/
def RdB (row : List Int) (R : Option (Nat → Rs PyData → Prop)) (h : Nat) (res : Rs PyData) : Prop :=
  match row[h]? with
  | none => res = .bad row.length
  | some b => if 6 < b ∨ (b = 6 ∧ R.isNone = true) then res = .bad h
    else if b < 3 then res = .ok (if b = 0 then .none else .bool (decide (b = 2))) (h + 1)
    else match whR row (h + 1) with
    | none => res = .bad (h + 1)
    | some (n, e) => if b < 5 then res = .ok (.int (if b = 3 then n else -1 - n)) e
      else if b = 5 then (if n = 0 ∨ 20 < n then res = .bad (h + 1) else res = strD (strR row n.toNat e))
      else ∃ R' r, R = some R' ∧ Its R' n.toNat e r ∧ res = tupD r
def Rd (row : List Int) : Nat → Nat → Rs PyData → Prop
  | 0 => RdB row none
  | n + 1 => RdB row (some (Rd row n))
theorem its_det {R : Nat → Rs PyData → Prop} (hR : ∀ h r1 r2, R h r1 → R h r2 → r1 = r2) : ∀ {m h : Nat} {r1 r2 : Rs (List PyData)}, Its R m h r1 → Its R m h r2 → r1 = r2 := by
  intro m h r1 r2 a
  induction a generalizing r2 with
  | nil h =>
    intro b
    cases b
    rfl
  | bad x =>
    intro b
    cases b with
    | bad y => exact congrArg Rs.bad (Rs.bad.inj (hR _ _ _ x y))
    | one y _ =>
      have := hR _ _ _ x y
      cases this
  | one x _ ih =>
    intro b
    cases b with
    | bad y =>
      have := hR _ _ _ x y
      cases this
    | one y z =>
      have e := hR _ _ _ x y
      injection e with e1 e2
      subst e1 e2
      rw [ih z]
theorem rdB_det {row : List Int} {R : Option (Nat → Rs PyData → Prop)} (hR : ∀ R', R = some R' → ∀ h r1 r2, R' h r1 → R' h r2 → r1 = r2) {h : Nat} {r1 r2 : Rs PyData} (a : RdB row R h r1) (b : RdB row R h r2) : r1 = r2 := by
  unfold RdB at a b
  split at a
  · rename_i e
    simp only [e] at b
    rw [a, b]
  · rename_i c e
    simp only [e] at b
    by_cases c1 : 6 < c ∨ (c = 6 ∧ R.isNone = true)
    · rw [if_pos c1] at a b
      rw [a, b]
    · rw [if_neg c1] at a b
      by_cases c2 : c < 3
      · rw [if_pos c2] at a b
        rw [a, b]
      · rw [if_neg c2] at a b
        split at a
        · rename_i e2
          simp only [e2] at b
          rw [a, b]
        · rename_i n e' e2
          simp only [e2] at b
          by_cases c3 : c < 5
          · rw [if_pos c3] at a b
            rw [a, b]
          · rw [if_neg c3] at a b
            by_cases c4 : c = 5
            · rw [if_pos c4] at a b
              by_cases c5 : n = 0 ∨ 20 < n
              · rw [if_pos c5] at a b
                rw [a, b]
              · rw [if_neg c5] at a b
                rw [a, b]
            · rw [if_neg c4] at a b
              obtain ⟨R1, s1, x1, y1, z1⟩ := a
              obtain ⟨R2, s2, x2, y2, z2⟩ := b
              rw [x1] at x2
              cases x2
              rw [z1, z2, its_det (hR _ x1) y1 y2]
theorem rd_det {row : List Int} : ∀ {n h : Nat} {r1 r2 : Rs PyData}, Rd row n h r1 → Rd row n h r2 → r1 = r2
  | 0, h, r1, r2, a, b => rdB_det (R := none) (fun _ z => by cases z) a b
  | n + 1, h, r1, r2, a, b => rdB_det (R := some (Rd row n)) (fun R' z h r1 r2 x y => by
    cases z
    exact rd_det x y) a b
theorem strR_le {row : List Int} : ∀ {m h e : Nat} {cs : List Nat}, h ≤ row.length → strR row m h = .ok cs e → h ≤ e ∧ e ≤ row.length
  | 0, h, e, cs, l, g => by
    unfold strR at g
    injection g with g1 g2
    omega
  | m + 1, h, e, cs, l, g => by
    unfold strR at g
    split at g
    · cases g
    · rename_i b hb
      have := (List.getElem?_eq_some_iff.mp hb).1
      split at g
      · cases k : strR row m (h + 1) with
        | bad e2 =>
          rw [k] at g
          cases g
        | ok cs2 e2 =>
          rw [k] at g
          injection g with g1 g2
          subst g2
          have := strR_le (by omega) k
          omega
      · cases g
theorem its_le {row : List Int} {R : Nat → Rs PyData → Prop} (hR : ∀ h d e, R h (.ok d e) → h < e ∧ e ≤ row.length) {m h : Nat} {r : Rs (List PyData)} (a : Its R m h r) : ∀ ds e, r = .ok ds e → h ≤ row.length → h ≤ e ∧ e ≤ row.length := by
  induction a with
  | nil h =>
    intro ds e z l
    injection z with z1 z2
    omega
  | bad x =>
    intro ds e z
    cases z
  | @one m h h2 d r x y ih =>
    intro ds e z l
    have h1 := hR _ _ _ x
    cases r with
    | bad e2 => cases z
    | ok l2 e2 =>
      injection z with z1 z2
      subst z2
      have := ih _ _ rfl h1.2
      omega
theorem rdB_le {row : List Int} {R : Option (Nat → Rs PyData → Prop)} (hR : ∀ R', R = some R' → ∀ h d e, R' h (.ok d e) → h < e ∧ e ≤ row.length) {h e : Nat} {d : PyData} (a : RdB row R h (.ok d e)) : h < e ∧ e ≤ row.length := by
  unfold RdB at a
  split at a
  · cases a
  · rename_i c hc
    have hl := (List.getElem?_eq_some_iff.mp hc).1
    split at a
    · cases a
    · split at a
      · injection a with a1 a2
        omega
      · split at a
        · cases a
        · rename_i n e' hw
          have := whR_le hw
          split at a
          · injection a with a1 a2
            omega
          · split at a
            · split at a
              · cases a
              · cases k : strR row n.toNat e' with
                | bad e2 =>
                  rw [k] at a
                  cases a
                | ok cs e2 =>
                  rw [k] at a
                  injection a with a1 a2
                  subst a2
                  have := strR_le (by omega) k
                  omega
            · obtain ⟨R', r, x, y, z⟩ := a
              cases r with
              | bad e2 => cases z
              | ok ds e2 =>
                injection z with z1 z2
                subst z2
                have := its_le (hR _ x) y _ _ rfl (by omega)
                omega
theorem rd_le {row : List Int} : ∀ {n h e : Nat} {d : PyData}, Rd row n h (.ok d e) → h < e ∧ e ≤ row.length
  | 0, h, e, d, a => rdB_le (R := none) (fun _ z => by cases z) a
  | n + 1, h, e, d, a => rdB_le (R := some (Rd row n)) (fun R' z h d e x => by
    cases z
    exact rd_le x) a
/-- so many read one behind the other -/
inductive Run (R : Nat → Rs PyData → Prop) (h0 : Nat) : List PyData → Nat → Prop
  | nil : Run R h0 [] h0
  | snoc {ds : List PyData} {h h2 : Nat} {d : PyData} : Run R h0 ds h → R h (.ok d h2) → Run R h0 (ds ++ [d]) h2
def appR {α : Type} (l : List α) : Rs (List α) → Rs (List α)
  | .bad e => .bad e
  | .ok m e => .ok (l ++ m) e
theorem run_its {R : Nat → Rs PyData → Prop} {h0 : Nat} {ds : List PyData} {h : Nat} (a : Run R h0 ds h) : ∀ {k : Nat} {r : Rs (List PyData)}, Its R k h r → Its R (ds.length + k) h0 (appR ds r) := by
  induction a with
  | nil =>
    intro k r b
    rw [List.length_nil, Nat.zero_add]
    cases r <;> exact b
  | @snoc ds h h2 d x y ih =>
    intro k r b
    have := ih (Its.one y b)
    rw [List.length_append, List.length_singleton, show ds.length + 1 + k = ds.length + (k + 1) by omega]
    cases r with
    | bad e => exact this
    | ok l e =>
      show Its R _ h0 (.ok (ds ++ [d] ++ l) e)
      rw [List.append_assoc]
      exact this
theorem run_end {R : Nat → Rs PyData → Prop} {h0 : Nat} {ds : List PyData} {h : Nat} (a : Run R h0 ds h) : Its R ds.length h0 (.ok ds h) := by
  have := run_its a (Its.nil h)
  rw [Nat.add_zero] at this
  rw [show appR ds (.ok [] h) = .ok (ds ++ []) h from rfl, List.append_nil] at this
  exact this
theorem run_bad {R : Nat → Rs PyData → Prop} {h0 : Nat} {ds : List PyData} {h m e : Nat} (a : Run R h0 ds h) (l : ds.length < m) (b : R h (.bad e)) : Its R m h0 (.bad e) := by
  have := run_its a (Its.bad (m := m - ds.length - 1) b)
  rw [show ds.length + (m - ds.length - 1 + 1) = m by omega] at this
  exact this
end Mw

/-! R7 -/
namespace Mw
open PySem L2
theorem rd_rng2' {ta : TA} {σ : L2.St} {H : Hp} {R : It → Hp → Prop} (h : ta σ H fun vs H1 => ∃ i j : Int, vs = [.int i, .int j] ∧ (-(2 ^ 62) ≤ i ∧ i < 2 ^ 62 ∧ -(2 ^ 62) ≤ j ∧ j < 2 ^ 62) ∧ R (Itr i (j - i).toNat) H1) : iRng2 ta σ H R := h
/-- a row, at a -/
structure RowAt (H : Hp) (a : Addr) (row : List Int) : Prop where
  at_ : H a = some (.tup (row.map V.int))
  by_ : ∀ b ∈ row, 0 ≤ b ∧ b < 256
  le : row.length ≤ 900000
theorem RowAt.same {H H' : Hp} {a : Addr} {row : List Int} (h : RowAt H a row) (s : Same H H') : RowAt H' a row := ⟨s _ _ h.1, h.2, h.3⟩
theorem RowAt.kt {H H' : Hp} {a : Addr} {row : List Int} (h : RowAt H a row) (s : KT H H') : RowAt H' a row := ⟨s _ _ h.1, h.2, h.3⟩
theorem row_get {row : List Int} {h : Nat} (l : h < row.length) : ∃ b, row[h]? = some b ∧ (row.map V.int)[h]? = some (V.int b) := by
  have e : row[h]? = some row[h] := by simp [l]
  exact ⟨_, e, by rw [List.getElem?_map, e]; rfl⟩
theorem cut_all {xs : List V} {lo hi : Option Int} (h : HT.sIx xs.length 0 lo = 0 ∧ HT.sIx xs.length xs.length hi = xs.length) : cutV xs lo hi = xs := by
  unfold cutV
  rw [h.1, h.2, List.drop_zero, Nat.sub_zero, List.take_length]
theorem rd_cutA {K : PySem.W.Frag} {H : Hp} {Q : VK} {a : Addr} {xs : List V} {lo hi : Option Int} (h : H a = some (.tup xs)) (q : ∀ c H', Same H H' → H' c = some (.tup (cutV xs lo hi)) → Q (.ref c) H') : rSlA K (.ref a) lo hi H Q := by
  refine ⟨a, xs, rfl, SqT.of h, fun e => ?_, fun _ c nc => q c _ (same_new nc) upd_same⟩
  exact q a H (Same.refl H) (by rw [cut_all e]; exact h)
theorem cutN {α : Type} (xs : List α) (i j : Nat) (hi : i ≤ xs.length) (hj : j ≤ xs.length) (f : α → V) : cutV (xs.map f) (some (i : Int)) (some (j : Int)) = ((xs.drop i).take (j - i)).map f := by
  unfold cutV
  rw [HT.sIx_nat, HT.sIx_nat, List.length_map, Nat.min_eq_left hi, Nat.min_eq_left hj, ← List.map_drop, ← List.map_take]
theorem sign_at {c : Int} (h : isSign c = true) : SC_SIGNS.cps.toList[(c - 32).toNat]? = some c.toNat := by
  have key : ∀ n : Nat, n < 127 → isSign (n : Int) = true → SC_SIGNS.cps.toList[((n : Int) - 32).toNat]? = some n := by decide +kernel
  have hb : 0 ≤ c ∧ c < 127 := by
    unfold isSign at h
    simp only [Bool.and_eq_true, decide_eq_true_eq] at h
    omega
  have e : c = (c.toNat : Int) := by omega
  rw [e] at h
  have := key c.toNat (by omega) h
  rw [← e] at this
  exact this
mutual
theorem rdB_plain {row : List Int} {R : Option (Nat → Rs PyData → Prop)} (hR : ∀ R', R = some R' → ∀ h d e, R' h (.ok d e) → plainD d = true) {h e : Nat} {d : PyData} (a : RdB row R h (.ok d e)) : plainD d = true := by
  unfold RdB at a
  split at a
  · cases a
  · rename_i c hc
    split at a
    · cases a
    · split at a
      · injection a with a1 a2
        rw [a1]
        split <;> rfl
      · split at a
        · cases a
        · split at a
          · injection a with a1 a2
            rw [a1]
            rfl
          · split at a
            · split at a
              · cases a
              · rename_i n e' _ _ _ _
                cases k : strR row n.toNat e' with
                | bad e2 =>
                  rw [k] at a
                  cases a
                | ok cs e2 =>
                  rw [k] at a
                  injection a with a1 a2
                  rw [a1]
                  rfl
            · obtain ⟨R', r, x, y, z⟩ := a
              cases r with
              | bad e2 => cases z
              | ok ds e2 =>
                injection z with z1 z2
                rw [z1]
                exact plainAll_of fun d hd => its_plain (hR _ x) y ds e2 rfl d hd
theorem its_plain {R : Nat → Rs PyData → Prop} (hR : ∀ h d e, R h (.ok d e) → plainD d = true) {m h : Nat} {r : Rs (List PyData)} (a : Its R m h r) : ∀ ds e, r = .ok ds e → ∀ d ∈ ds, plainD d = true := by
  induction a with
  | nil h =>
    intro ds e z d hd
    injection z with z1 z2
    rw [← z1] at hd
    cases hd
  | bad x =>
    intro ds e z
    cases z
  | @one m h h2 d r x y ih =>
    intro ds e z d1 hd
    cases r with
    | bad e2 => cases z
    | ok l2 e2 =>
      injection z with z1 z2
      rw [← z1] at hd
      rcases List.mem_cons.mp hd with h | h
      · rw [h]
        exact hR _ _ _ x
      · exact ih _ _ rfl d1 h
end
theorem rd_plain {row : List Int} : ∀ {n h e : Nat} {d : PyData}, Rd row n h (.ok d e) → plainD d = true
  | 0, h, e, d, a => rdB_plain (R := none) (fun _ z => by cases z) a
  | n + 1, h, e, d, a => rdB_plain (R := some (Rd row n)) (fun R' z h d e x => by
    cases z
    exact rd_plain x) a
def isRowD : PyData → Bool
  | .tuple ds => (ds.map isByte).all id
  | _ => false
def lenD : PyData → Nat
  | .tuple ds => ds.length
  | _ => 0
def spIsRow (CP : Addr → Prop) : Sp := fun vs H Q _ => ∃ M d x, vs = [x] ∧ Dt CP M H d x ∧ lenD d ≤ 900000 ∧ ∀ H', Same H H' → Q (.bl (isRowD d)) H'
def spCkRow (CP : Addr → Prop) (C : Addr) : Sp := fun vs H Q E => ∃ M d x, vs = [x] ∧ Dt CP M H d x ∧ lenD d ≤ 900000 ∧ ∀ H', Same H H' → (isRowD d = true → Q .non H') ∧ (isRowD d = false → E (.ref C) none H')
def spThere (C : Addr) : Sp := fun vs H Q E => ∃ (a : Addr) (row : List Int) (h : Nat), vs = [.ref a, .int (h : Int)] ∧ RowAt H a row ∧ (h < row.length → Q .non H) ∧ (row.length ≤ h → Raised C (.int (row.length : Nat)) H E)
def spSign : Sp := fun vs H Q _ => ∃ c : Int, vs = [.int c] ∧ Q (.bl (isSign c)) H
def spWholeAt (C : Addr) : Sp := fun vs H Q E => ∃ (a : Addr) (row : List Int) (h : Nat), vs = [.ref a, .int (h : Int)] ∧ RowAt H a row ∧ h ≤ row.length ∧
  (∀ n e, whR row h = some (n, e) → ∀ t H', Same H H' → H' t = some (.tup [.int n, .int (e : Nat)]) → Q (.ref t) H') ∧ (whR row h = none → Raised C (.int (h : Int)) H E)
def spStringAt (C : Addr) : Sp := fun vs H Q E => ∃ (a : Addr) (row : List Int) (h m : Nat), vs = [.ref a, .int (h : Int), .int (m : Int)] ∧ RowAt H a row ∧ h ≤ row.length ∧ m ≤ 20 ∧
  (∀ cs e, strR row m h = .ok cs e → ∀ t H', Same H H' → H' t = some (.tup [.str (strOf cs), .int (e : Nat)]) → Q (.ref t) H') ∧ (∀ e, strR row m h = .bad e → ∀ H', Same H H' → Raised C (.int (e : Nat)) H' E)
section
variable {P : Program} {w : World} {K : PySem.W.Frag} {mg : Str → Option Value} {base : Heap}
local macro_rules | `(tactic| walk_at "rd") => `(tactic| (repeat (first
  | ((with_reducible refine' rd_var ?h0 ?_); (case h0 => rfl))
  | with_reducible refine rd_c ?_
  | with_reducible refine rd_op ?_
  | with_reducible refine rd_nil ?_
  | with_reducible refine rd_cons ?_
  | with_reducible refine rd_tup ?_
  | with_reducible refine rd_lst ?_
  | with_reducible refine rd_ifs ?_
  | with_reducible refine rd_seq ?_
  | with_reducible refine rd_next ?_
  | with_reducible refine rd_ret ?_
  | with_reducible refine rd_asg ?_
  | ((with_reducible refine' rd_gset ?hs ?_); (case hs => ((simp only [L2.start, List.map_cons, List.map_nil, List.length_cons, List.length_nil, List.cons_append, List.nil_append, List.set_cons_zero, List.set_cons_succ, Nat.reduceAdd, Nat.reduceSub, Nat.zero_add, List.reduceReplicate]); rfl)))
  | with_reducible refine rd_drop ?_
  | with_reducible refine rd_test ?_
  | with_reducible refine rd_B ?_
  | with_reducible refine rd_bl ?_
  | with_reducible refine rd_blP ?_
  | with_reducible refine rd_andV ?_
  | with_reducible refine rd_orV ?_
  | with_reducible refine rd_notV ?_
  | with_reducible refine rd_and ?_
  | with_reducible refine rd_or ?_
  | with_reducible refine rd_not ?_
  | with_reducible refine rd_chain ?_
  | with_reducible refine rd_dput ?_
  | with_reducible refine rd_dget ?_
  | with_reducible refine rd_cb ?_
  | with_reducible refine rd_call ?_
  | with_reducible refine rd_un ?_
  | with_reducible refine rd_sl ?_
  | with_reducible refine rd_nopart ?_
  | with_reducible refine rd_part ?_
  | with_reducible refine rd_intP ?_
  | with_reducible refine rd_rU ?_
  | with_reducible refine rd_fld ?_
  | with_reducible refine rd_eqI ?_
  | with_reducible refine rd_neI ?_
  | with_reducible refine rd_mko ?_
  | with_reducible refine rd_bm ?_
  | with_reducible refine rd_gsub ?_
  | with_reducible refine rd_i0 ?_)))
theorem ok_is_row (T : Tx K mg) (B : Bk K mg T) : FnOk P w K mg base CX0 5 B.is_row.f B.is_row.fd ["thing"] (spIsRow T.CP) := by
  have G_is_byte := ok_is_byte (P := P) (w := w) (base := base) T B
  refine B.is_row.F.ok sc_is_row (fun vs H Q E h => ?_) (fun cdv A outer s H vs Q E hr h => ?_)
  · obtain ⟨M, d, x, rfl, _⟩ := h
    rfl
  · obtain ⟨M, d, x, rfl, hd, hl, q⟩ := h
    refine ⟨_, (pss_one (ps_ret (pe_and (pe_callB call_isi (by rfl) T.b_isinstance (by decide +kernel) (pa_cons (pv 0) (pa_cons (pe_bltn (v := .ty "tuple") (by rfl) T.b_tuple (by decide +kernel) rfl) pa_nil))) (pe_one (pe_callB (cr_all rfl) (by rfl) T.b_all (by decide +kernel) (pa_cons (pe_lc (own := [("item", 1)]) (g := gName 1) rfl sc_is_row.nd (pi_tup (pv 0)) (blkOk_by (own := [("item", 1)]) (N := ["thing", "item"]) (sc := defScope s_is_row) (by decide +kernel)) (fun _ _ _ _ _ => pg_name (i := 1) sc_is_row.nd rfl (Or.inl rfl)) (fun _ _ _ _ _ => pts_nil) (fun _ _ _ _ _ => (pe_call G_is_byte (hr.mono (by decide)) rfl B.is_byte.m B.is_byte.F.kp B.is_byte.b .nil pass0 (pa_cons (pv 1) pa_nil)))) pa_nil)))))), ?_⟩
    walk_at "rd"
    refine dt_isT T.W hd ?_
    walk_at "rd"
    cases d with
    | tuple ds =>
      obtain ⟨a, xs, rfl, ha, hx⟩ := dt_tup' hd
      have hlx := hx.len
      have hl' : ds.length ≤ 900000 := hl
      refine rd_yes rfl ?_
      walk_at "rd"
      show iTup _ _ _ _ _
      refine rd_itup ?_
      walk_at "rd"
      refine ⟨a, rfl, ⟨xs, SqT.of ha⟩, fun D hD => lc_tup (K := K) (a := a) (xs := xs) (fun i H1 => Same H H1 ∧ H1 D = some (.lst (((ds.take i).map isByte).map V.bl))) ⟨same_new hD, upd_same⟩ (fun i H1 _ hh => SqT.of (hh.1 _ _ ha)) ?_ ?_⟩
      · rintro i y H1 hi ⟨hs, hacc⟩
        obtain ⟨d1, hd1, td1⟩ := hx.get' hi
        refine ⟨rfl, ?_⟩
        refine rd_tyes ?_
        refine rd_yes rfl ?_
        walk_at "rd"
        refine ⟨M, d1, y, rfl, td1.s hs, ?_⟩
        refine ⟨_, hacc, small' (by rw [List.length_map, List.length_map, List.length_take]; omega), fun b o e => (upd_ne (ne_of_none e hD)).trans (hs b o e), ?_⟩
        rw [upd_same, take_snoc hd1, List.map_append, List.map_append]
        rfl
      · rintro H1 ⟨hs, hacc⟩
        rw [← hlx, List.take_length] at hacc
        refine ⟨D, _, rfl, SqL.of hacc, ?_⟩
        exact q _ hs
    | _ =>
      refine rd_no rfl ?_
      exact q _ (Same.refl H)
theorem ok_check_row (T : Tx K mg) (B : Bk K mg T) : FnOk P w K mg base (L2.CX P w) 6 B.check_row.f B.check_row.fd ["row"] (spCkRow T.CP T.c_NoRow) := by
  have G_is_row := ok_is_row (P := P) (w := w) (base := base) T B
  have G_NoRow_init := ok_row_init (P := P) (w := w) (base := base) T B
  refine B.check_row.F.okX sc_check_row (fun vs H Q E h => ?_) (fun cdv A outer s H vs Q E hr h => ?_)
  · obtain ⟨M, d, x, rfl, _⟩ := h
    rfl
  · obtain ⟨M, d, x, rfl, hd, hl, q⟩ := h
    refine ⟨_, (pss_one (ps_if (pt_not (pt_val (pe_call G_is_row (hr.mono (by decide)) rfl B.is_row.m B.is_row.F.kp B.is_row.b .nil pass0 (pa_cons (pv 0) pa_nil)))) (pss_one (ps_raise rfl (takes_of rfl rfl rfl rfl) (pmk_pass T.x_NoRow B.NoRow_init.a B.NoRow_init.t G_NoRow_init (hr.mono (by decide)) B.NoRow_init.b pass0 rfl T.g_NoRow))) pss_nil)), ?_⟩
    walk_at "rd"
    refine ⟨M, d, x, rfl, hd, hl, fun H1 s1 => ?_⟩
    obtain ⟨q1, q0⟩ := q H1 s1
    walk_at "rd"
    refine rd_ite (fun h1 => ?_) (fun h1 => ?_)
    · intro e he
      exact ⟨⟨e, rfl, rfl, rfl⟩, q0 (by simpa using h1)⟩
    · exact q1 (by simpa using h1)
theorem ok_check_there (T : Tx K mg) (B : Bk K mg T) : FnOk P w K mg base (L2.CX P w) 3 B.check_there.f B.check_there.fd ["row", "place"] (spThere T.c_BadRow) := by
  have G_BadRow_init := ok_bad_init (P := P) (w := w) (base := base) T B
  refine B.check_there.F.okX sc_check_there (fun vs H Q E h => ?_) (fun cdv A outer s H vs Q E hr h => ?_)
  · obtain ⟨a, row, h, rfl, _⟩ := h
    rfl
  · obtain ⟨a, row, h, rfl, ha, q1, q0⟩ := h
    refine ⟨_, (pss_one (ps_if (pt_cmpR op_ge (pv 1) (pe_callB call_len_seq (by rfl) T.b_len (by decide +kernel) (pa_cons (pv 0) pa_nil)) (nomark _)) (pss_one (ps_raise rfl (takes_of rfl rfl rfl rfl) (pmk_oex T.x_BadRow B.BadRow_init.a B.BadRow_init.t G_BadRow_init (hr.mono (by decide)) B.BadRow_init.b .nil pass0 rfl T.g_BadRow (pa_cons (pe_callB call_len_seq (by rfl) T.b_len (by decide +kernel) (pa_cons (pv 0) pa_nil)) pa_nil)))) pss_nil)), ?_⟩
    walk_at "rd"
    refine ⟨a, _, rfl, .inr (SqT.of ha.1), ?_⟩
    walk_at "rd"
    refine rd_ite (fun h1 => ?_) (fun h1 => ?_)
    · have h2 : row.length ≤ h := by
        have := of_decide_eq_true h1
        rw [List.length_map] at this
        omega
      walk_at "rd"
      refine ⟨a, _, rfl, .inr (SqT.of ha.1), ?_⟩
      rw [List.length_map]
      exact bad_made (q0 h2)
    · refine q1 ?_
      have := of_decide_eq_false h1
      rw [List.length_map] at this
      omega
theorem ok_is_sign (T : Tx K mg) (B : Bk K mg T) : FnOk P w K mg base CX0 1 B.is_sign.f B.is_sign.fd ["number"] spSign := by
  refine B.is_sign.F.ok sc_is_sign (fun vs H Q E h => ?_) (fun cdv A outer s H vs Q E hr h => ?_)
  · obtain ⟨c, rfl, _⟩ := h
    rfl
  · obtain ⟨c, rfl, q⟩ := h
    refine ⟨_, (pss_one (ps_ret (pe_and (pe_chain op_le op_le (pe_glob (v := .int 32) (by rfl) T.g_LEAST_SIGN ⟨_, rfl⟩) (pv 0) (pe_glob (v := .int 126) (by rfl) T.g_GREATEST_SIGN ⟨_, rfl⟩)) (pe_one (pe_cmpR op_ne (pv 0) (pe_glob (v := .int 37) (by rfl) T.g_NO_SIGN ⟨_, rfl⟩) (nomark _)))))), ?_⟩
    unfold isSign at q
    walk_at "rd"
    refine rd_ite (fun h1 => ?_) (fun h1 => ?_)
    · rw [h1, Bool.true_and] at q
      walk_at "rd"
      refine rd_ite (fun h2 => ?_) (fun h2 => ?_)
      · rw [h2, Bool.true_and] at q
        walk_at "rd"
        exact q
      · rw [h2, Bool.false_and] at q
        exact q
    · rw [h1, Bool.false_and, Bool.false_and] at q
      walk_at "rd"
      exact q
end
end Mw

/-! R8 -/
namespace Mw
open PySem L2
section
variable {P : Program} {w : World} {K : PySem.W.Frag} {mg : Str → Option Value} {base : Heap}
local macro_rules | `(tactic| walk_at "rd") => `(tactic| (repeat (first
  | ((with_reducible refine' rd_var ?h0 ?_); (case h0 => rfl))
  | with_reducible refine rd_c ?_
  | with_reducible refine rd_op ?_
  | with_reducible refine rd_nil ?_
  | with_reducible refine rd_cons ?_
  | with_reducible refine rd_tup ?_
  | with_reducible refine rd_lst ?_
  | with_reducible refine rd_ifs ?_
  | with_reducible refine rd_seq ?_
  | with_reducible refine rd_next ?_
  | with_reducible refine rd_ret ?_
  | with_reducible refine rd_asg ?_
  | ((with_reducible refine' rd_gset ?hs ?_); (case hs => ((simp only [L2.start, List.map_cons, List.map_nil, List.length_cons, List.length_nil, List.cons_append, List.nil_append, List.set_cons_zero, List.set_cons_succ, Nat.reduceAdd, Nat.reduceSub, Nat.zero_add, List.reduceReplicate]); rfl)))
  | with_reducible refine rd_drop ?_
  | with_reducible refine rd_test ?_
  | with_reducible refine rd_B ?_
  | with_reducible refine rd_bl ?_
  | with_reducible refine rd_blP ?_
  | with_reducible refine rd_andV ?_
  | with_reducible refine rd_orV ?_
  | with_reducible refine rd_notV ?_
  | with_reducible refine rd_and ?_
  | with_reducible refine rd_or ?_
  | with_reducible refine rd_not ?_
  | with_reducible refine rd_chain ?_
  | with_reducible refine rd_dput ?_
  | with_reducible refine rd_dget ?_
  | with_reducible refine rd_cb ?_
  | with_reducible refine rd_call ?_
  | with_reducible refine rd_un ?_
  | with_reducible refine rd_sl ?_
  | with_reducible refine rd_nopart ?_
  | with_reducible refine rd_part ?_
  | with_reducible refine rd_intP ?_
  | with_reducible refine rd_rU ?_
  | with_reducible refine rd_fld ?_
  | with_reducible refine rd_eqI ?_
  | with_reducible refine rd_neI ?_
  | with_reducible refine rd_mko ?_
  | with_reducible refine rd_bm ?_
  | with_reducible refine rd_gsub ?_
  | with_reducible refine rd_i0 ?_)))
theorem ok_whole_at (T : Tx K mg) (B : Bk K mg T) : FnOk P w K mg base (L2.CX P w) 3 B.whole_at.f B.whole_at.fd ["row", "place"] (spWholeAt T.c_BadRow) := by
  have G_BadRow_init := ok_bad_init (P := P) (w := w) (base := base) T B
  refine B.whole_at.F.okX sc_whole_at (fun vs H Q E h => ?_) (fun cdv A outer s H vs Q E hr h => ?_)
  · obtain ⟨a, row, h, rfl, _⟩ := h
    rfl
  · obtain ⟨a, row, h, rfl, ha, hl, q1, q0⟩ := h
    refine ⟨_, (pss_cons (ps_set (i := 2) sc_whole_at.nd rfl (Or.inl rfl) (pv 1))
      (C8.pss_cut (ps_while (passes_of rfl) (PW.pt (pw_and (pt_cmpR op_lt (pv 2) (pe_callB call_len_seq (by rfl) T.b_len (by decide +kernel) (pa_cons (pv 0) pa_nil)) (nomark _)) (pw_and1 (pt_cmpR op_ge (pe_ix ix_tup (pv 0) (pv 2) (fun _ _ => rfl)) (pe_glob (v := .int 128) (by rfl) T.g_FIGURE_LIMIT ⟨_, rfl⟩) (nomark _))))) (pss_one (ps_aug (i := 2) sc_whole_at.nd rfl (Or.inl rfl) pe_int ip_add)))
      (C8.pss_cut (ps_if (PW.pt (pw_or (pt_cmpR op_eq (pv 2) (pe_callB call_len_seq (by rfl) T.b_len (by decide +kernel) (pa_cons (pv 0) pa_nil)) (nomark _)) (pw_or1 (PW.pt (pw_and (pt_cmpR op_eq (pe_ix ix_tup (pv 0) (pv 2) (fun _ _ => rfl)) pe_int (nomark _)) (pw_and1 (pt_cmpR op_gt (pv 2) (pv 1) (nomark _)))))))) (pss_one (ps_raise rfl (takes_of rfl rfl rfl rfl) (pmk_oex T.x_BadRow B.BadRow_init.a B.BadRow_init.t G_BadRow_init (hr.mono (by decide)) B.BadRow_init.b .nil pass0 rfl T.g_BadRow (pa_cons (pv 1) pa_nil)))) pss_nil)
      (pss_cons (ps_set (i := 3) sc_whole_at.nd rfl (Or.inl rfl) pe_int)
      (pss_cons (ps_for (passes_of rfl) rfl (pi_tup (pe_revT (pe_slice sl_tupA (pv 0) (po_some (pv 1)) (po_some (pe_op op_add (pv 2) pe_int))))) (pg_name (i := 4) sc_whole_at.nd rfl (Or.inl rfl)) (pss_one (ps_set (i := 3) sc_whole_at.nd rfl (Or.inl rfl) (pe_op op_add (pe_op op_mul (pv 3) (pe_glob (v := .int 128) (by rfl) T.g_FIGURE_LIMIT ⟨_, rfl⟩)) (pe_op op_mod (pv 4) (pe_glob (v := .int 128) (by rfl) T.g_FIGURE_LIMIT ⟨_, rfl⟩))))))
      (pss_one (ps_ret (pe_tup (pa_cons (pv 3) (pa_cons (pe_op op_add (pv 2) pe_int) pa_nil)))))))))), ?_⟩
    walk_at "rd"
    generalize hL : lead (row.drop h) = L
    refine ⟨fun σ1 H1 => σ1 = [some (.ref a), some (.int (h : Int)), some (.int ((h + L : Nat) : Int)), none, none] ∧ H1 = H, ?_, ?_⟩
    · refine ⟨fun μ σ H1 => ∃ i : Nat, σ = [some (.ref a), some (.int (h : Int)), some (.int ((h + i : Nat) : Int)), none, none] ∧ H1 = H ∧ h + i ≤ row.length ∧ L = i + lead (row.drop (h + i)) ∧ μ = row.length - (h + i),
        ⟨_, 0, rfl, rfl, hl, by simp [hL], rfl⟩, ?_⟩
      rintro μ σ H1 ⟨i, rfl, rfl, hi, hlead, hμ⟩
      walk_at "rd"
      refine ⟨a, _, rfl, .inr (SqT.of ha.1), ?_⟩
      walk_at "rd"
      rw [List.length_map]
      refine rd_ite (fun h1 => ?_) (fun h1 => ?_)
      · have hlt : h + i < row.length := by
          have := of_decide_eq_true h1
          omega
        obtain ⟨b, eb, ebv⟩ := row_get hlt
        walk_at "rd"
        refine rd_ixT ha.1 (atI_nat ebv) ?_
        walk_at "rd"
        refine rd_ite (fun h2 => ?_) (fun h2 => ?_)
        · refine ⟨fun σ' H' => ∃ m', m' < μ ∧ ∃ i : Nat, σ' = [some (.ref a), some (.int (h : Int)), some (.int ((h + i : Nat) : Int)), none, none] ∧ H' = H1 ∧ h + i ≤ row.length ∧ L = i + lead (row.drop (h + i)) ∧ m' = row.length - (h + i), fun _ _ h => h, ?_⟩
          refine rd_aug rfl ?_
          walk_at "rd"
          refine ⟨_, _, rfl, rfl, ?_⟩
          refine ⟨_, by omega, i + 1, ?_, rfl, hlt, ?_, rfl⟩
          · rw [show ((h + (i + 1) : Nat) : Int) = ((h + i : Nat) : Int) + 1 by omega]
            rfl
          · rw [hlead, lead_ge eb (of_decide_eq_true h2)]
            rw [show h + (i + 1) = h + i + 1 by omega]
            omega
        · have e0 := lead_lt eb (of_decide_eq_false h2)
          have : L = i := by omega
          subst this
          exact ⟨rfl, rfl⟩
      · have e0 : lead (row.drop (h + i)) = 0 := lead_end (by
          have := of_decide_eq_false h1
          omega)
        have : L = i := by omega
        subst this
        refine rd_no rfl ?_
        exact ⟨rfl, rfl⟩
    · rintro σ1 H1 ⟨rfl, rfl⟩
      have lle : h + L ≤ row.length := by
        have := lead_le (row.drop h)
        rw [List.length_drop] at this
        omega
      walk_at "rd"
      refine ⟨fun σ2 H2 => σ2 = [some (.ref a), some (.int (h : Int)), some (.int ((h + L : Nat) : Int)), none, none] ∧ H2 = H1 ∧ whR row h = some (val ((row.drop h).take (L + 1)), h + L + 1) ∧ h + L < row.length, ?_, ?_⟩
      · walk_at "rd"
        refine ⟨a, _, rfl, .inr (SqT.of ha.1), ?_⟩
        walk_at "rd"
        rw [List.length_map]
        refine rd_ite (fun h1 => ?_) (fun h1 => ?_)
        · refine rd_yes rfl ?_
          walk_at "rd"
          refine bad_made (q0 ?_)
          unfold whR
          rw [hL, List.getElem?_eq_none (by have := of_decide_eq_true h1; omega)]
        · have hlt : h + L < row.length := by
            have := of_decide_eq_false h1
            omega
          obtain ⟨b, eb, ebv⟩ := row_get hlt
          have eW : whR row h = if b = 0 ∧ 0 < L then none else some (val ((row.drop h).take (L + 1)), h + L + 1) := by
            unfold whR
            rw [hL, eb]
          walk_at "rd"
          refine rd_ixT ha.1 (atI_nat ebv) ?_
          walk_at "rd"
          refine rd_ite (fun h2 => ?_) (fun h2 => ?_)
          · walk_at "rd"
            refine rd_ite (fun h3 => ?_) (fun h3 => ?_)
            · walk_at "rd"
              refine bad_made (q0 ?_)
              rw [eW, if_pos ⟨of_decide_eq_true h2, by have := of_decide_eq_true h3; omega⟩]
            · refine ⟨rfl, rfl, ?_, hlt⟩
              rw [eW, if_neg (fun z => by have := of_decide_eq_false h3; omega)]
          · refine rd_no rfl ?_
            refine ⟨rfl, rfl, ?_, hlt⟩
            rw [eW, if_neg (fun z => of_decide_eq_false h2 z.1)]
      · rintro σ2 H2 ⟨rfl, rfl, hw, hlt⟩
        walk_at "rd"
        show iTup _ _ _ _ _
        refine rd_itup ?_
        refine rd_revT ?_
        walk_at "rd"
        refine rd_cutA ha.1 fun c H3 s3 hc => ?_
        rw [show ((h + L : Nat) : Int) + 1 = ((h + L + 1 : Nat) : Int) by omega, cutN row h (h + L + 1) hl hlt V.int, show h + L + 1 - h = L + 1 by omega] at hc
        generalize hxs : (row.drop h).take (L + 1) = xs at hc hw
        refine ⟨c, _, rfl, SqT.of hc, fun d nd => ?_⟩
        have s4 := s3.trans (same_new (o := .tup (xs.map V.int).reverse) nd)
        refine ⟨d, rfl, ⟨_, SqT.of upd_same⟩, for_tup (K := K) (a := d) (xs := (xs.map V.int).reverse) (fun i σ H4 => H4 = upd H3 d (.tup (xs.map V.int).reverse) ∧ ∃ u : Option V, σ = [some (.ref a), some (.int (h : Int)), some (.int ((h + L : Nat) : Int)), some (.int (val (xs.drop (xs.length - i)))), u])
          ⟨rfl, none, by rw [Nat.sub_zero, List.drop_length]; rfl⟩ (fun i σ H4 _ hh => by rw [hh.1]; exact SqT.of upd_same) ?_ ?_⟩
        · rintro i y σ H4 hi ⟨rfl, u, rfl⟩
          rw [← List.map_reverse] at hi
          obtain ⟨b, hb, rfl⟩ := mapint_get hi
          walk_at "rd"
          refine rd_iC (.inr ⟨by decide, by decide⟩) ?_
          walk_at "rd"
          refine rd_iC (show (0 : Int) < 128 by decide) ?_
          walk_at "rd"
          refine ⟨rfl, some (.int b), ?_⟩
          rw [val_rev xs i b hb]
        · rintro σ H4 ⟨rfl, u, rfl⟩
          rw [List.length_reverse, List.length_map, Nat.sub_self, List.drop_zero]
          walk_at "rd"
          refine rd_disp rfl fun t nt => ?_
          have := q1 _ _ hw t _ (s4.trans (same_new nt)) (by rw [upd_same])
          exact this
end
end Mw

/-! R9m -/
/-! What is read, by cases. -/
namespace Mw
open PySem L2
theorem appR_cons {α : Type} (l : List α) (a : α) (r : Rs (List α)) : appR l (consR a r) = appR (l ++ [a]) r := by
  cases r with
  | bad e => rfl
  | ok m e =>
    show Rs.ok (l ++ (a :: m)) e = Rs.ok (l ++ [a] ++ m) e
    rw [List.append_assoc]
    rfl
def inn (row : List Int) : Nat → Option (Nat → Rs PyData → Prop)
  | 0 => none
  | n + 1 => some (Rd row n)
theorem rdd {row : List Int} {n h : Nat} {r : Rs PyData} : Rd row n h r ↔ RdB row (inn row n) h r := by
  cases n <;> exact Iff.rfl
theorem rdB_none {row : List Int} {R : Option (Nat → Rs PyData → Prop)} {h : Nat} (l : row.length ≤ h) : RdB row R h (.bad row.length) := by
  unfold RdB
  rw [List.getElem?_eq_none l]
theorem rdB_top {row : List Int} {R : Option (Nat → Rs PyData → Prop)} {h : Nat} {b : Int} (e : row[h]? = some b) (c : 6 < b ∨ (b = 6 ∧ R.isNone = true)) : RdB row R h (.bad h) := by
  unfold RdB
  simp only [e, if_pos c]
theorem rdB_low {row : List Int} {R : Option (Nat → Rs PyData → Prop)} {h : Nat} {b : Int} (e : row[h]? = some b) (c : b < 3) : RdB row R h (.ok (if b = 0 then .none else .bool (decide (b = 2))) (h + 1)) := by
  unfold RdB
  simp only [e, if_neg (show ¬ (6 < b ∨ (b = 6 ∧ R.isNone = true)) by omega), if_pos c]
theorem rdB_wh {row : List Int} {R : Option (Nat → Rs PyData → Prop)} {h : Nat} {b : Int} (e : row[h]? = some b) (c : ¬ (6 < b ∨ (b = 6 ∧ R.isNone = true))) (d : ¬ b < 3) (w : whR row (h + 1) = none) : RdB row R h (.bad (h + 1)) := by
  unfold RdB
  simp only [e, if_neg c, if_neg d, w]
theorem rdB_int {row : List Int} {R : Option (Nat → Rs PyData → Prop)} {h f : Nat} {b n : Int} (e : row[h]? = some b) (d : ¬ b < 3) (c : b < 5) (w : whR row (h + 1) = some (n, f)) : RdB row R h (.ok (.int (if b = 3 then n else -1 - n)) f) := by
  unfold RdB
  simp only [e, if_neg (show ¬ (6 < b ∨ (b = 6 ∧ R.isNone = true)) by omega), if_neg d, w, if_pos c]
theorem rdB_s0 {row : List Int} {R : Option (Nat → Rs PyData → Prop)} {h f : Nat} {b n : Int} (e : row[h]? = some b) (c : b = 5) (w : whR row (h + 1) = some (n, f)) (k : n = 0 ∨ 20 < n) : RdB row R h (.bad (h + 1)) := by
  subst c
  unfold RdB
  simp only [e, w, if_pos k]
  simp
theorem rdB_s1 {row : List Int} {R : Option (Nat → Rs PyData → Prop)} {h f : Nat} {b n : Int} (e : row[h]? = some b) (c : b = 5) (w : whR row (h + 1) = some (n, f)) (k : ¬ (n = 0 ∨ 20 < n)) : RdB row R h (strD (strR row n.toNat f)) := by
  subst c
  unfold RdB
  simp only [e, w, if_neg k]
  simp
theorem rdB_tup {row : List Int} {R : Nat → Rs PyData → Prop} {h f : Nat} {b n : Int} {r : Rs (List PyData)} (e : row[h]? = some b) (c : b = 6) (w : whR row (h + 1) = some (n, f)) (k : Its R n.toNat f r) : RdB row (some R) h (tupD r) := by
  subst c
  unfold RdB
  simp only [e, w]
  simp
  exact ⟨r, k, rfl⟩
end Mw

/-! R9 -/
namespace Mw
open PySem L2
def spPA (CP : Addr → Prop) (C : Addr) (n : Nat) : Sp := fun vs H Q E => ∃ (a : Addr) (row : List Int) (h : Nat), vs = [.ref a, .int (h : Int), .int (n : Int)] ∧ RowAt H a row ∧
  (∀ d e, Rd row n h (.ok d e) → ∀ t v H', Same H H' → H' t = some (.tup [v, .int (e : Nat)]) → Dt CP [] H' d v → Q (.ref t) H') ∧ (∀ e, Rd row n h (.bad e) → ∀ H', Same H H' → Raised C (.int (e : Nat)) H' E)
def spTA (CP : Addr → Prop) (C : Addr) (n : Nat) : Sp := fun vs H Q E => ∃ (a : Addr) (row : List Int) (h m n' : Nat), n = n' + 1 ∧ vs = [.ref a, .int (h : Int), .int (m : Int), .int (n : Int)] ∧ RowAt H a row ∧ h ≤ row.length ∧
  (∀ ds e, Its (Rd row n') m h (.ok ds e) → ∀ t v H', Same H H' → H' t = some (.tup [v, .int (e : Nat)]) → Dt CP [] H' (.tuple ds) v → Q (.ref t) H') ∧ (∀ e, Its (Rd row n') m h (.bad e) → ∀ H', Same H H' → Raised C (.int (e : Nat)) H' E)
section
variable {P : Program} {w : World} {K : PySem.W.Frag} {mg : Str → Option Value} {base : Heap}
local macro_rules | `(tactic| walk_at "rd") => `(tactic| (repeat (first
  | ((with_reducible refine' rd_var ?h0 ?_); (case h0 => rfl))
  | with_reducible refine rd_c ?_
  | with_reducible refine rd_op ?_
  | with_reducible refine rd_nil ?_
  | with_reducible refine rd_cons ?_
  | with_reducible refine rd_tup ?_
  | with_reducible refine rd_lst ?_
  | with_reducible refine rd_ifs ?_
  | with_reducible refine rd_seq ?_
  | with_reducible refine rd_next ?_
  | with_reducible refine rd_ret ?_
  | with_reducible refine rd_asg ?_
  | ((with_reducible refine' rd_gset ?hs ?_); (case hs => ((simp only [L2.start, List.map_cons, List.map_nil, List.length_cons, List.length_nil, List.cons_append, List.nil_append, List.set_cons_zero, List.set_cons_succ, Nat.reduceAdd, Nat.reduceSub, Nat.zero_add, List.reduceReplicate]); rfl)))
  | with_reducible refine rd_drop ?_
  | with_reducible refine rd_test ?_
  | with_reducible refine rd_B ?_
  | with_reducible refine rd_bl ?_
  | with_reducible refine rd_blP ?_
  | with_reducible refine rd_andV ?_
  | with_reducible refine rd_orV ?_
  | with_reducible refine rd_notV ?_
  | with_reducible refine rd_and ?_
  | with_reducible refine rd_or ?_
  | with_reducible refine rd_not ?_
  | with_reducible refine rd_chain ?_
  | with_reducible refine rd_dput ?_
  | with_reducible refine rd_dget ?_
  | with_reducible refine rd_cb ?_
  | with_reducible refine rd_call ?_
  | with_reducible refine rd_un ?_
  | with_reducible refine rd_sl ?_
  | with_reducible refine rd_nopart ?_
  | with_reducible refine rd_part ?_
  | with_reducible refine rd_intP ?_
  | with_reducible refine rd_rU ?_
  | with_reducible refine rd_fld ?_
  | with_reducible refine rd_eqI ?_
  | with_reducible refine rd_neI ?_
  | with_reducible refine rd_mko ?_
  | with_reducible refine rd_bm ?_
  | with_reducible refine rd_gsub ?_
  | with_reducible refine rd_i0 ?_)))
theorem ok_string_at (T : Tx K mg) (B : Bk K mg T) : FnOk P w K mg base (L2.CX P w) 4 B.string_at.f B.string_at.fd ["row", "place", "many"] (spStringAt T.c_BadRow) := by
  have G_check_there := ok_check_there (P := P) (w := w) (base := base) T B
  have G_is_sign := ok_is_sign (P := P) (w := w) (base := base) T B
  have G_BadRow_init := ok_bad_init (P := P) (w := w) (base := base) T B
  refine B.string_at.F.okX sc_string_at (fun vs H Q E h => ?_) (fun cdv A outer s H vs Q E hr h => ?_)
  · obtain ⟨a, row, h, m, rfl, _⟩ := h
    rfl
  · obtain ⟨a, row, h, m, rfl, ha, hl, hm, q1, q0⟩ := h
    have hle := ha.le
    refine ⟨_, (pss_cons (ps_set (i := 3) sc_string_at.nd rfl (Or.inl rfl) (pe_lst pa_nil))
      (pss_cons (ps_for (passes_of rfl) rfl (pi_range2 (by rfl) T.b_range (pa_cons (pv 1) (pa_cons (pe_op op_add (pv 1) (pv 2)) pa_nil))) (pg_name (i := 4) sc_string_at.nd rfl (Or.inl rfl)) (pss_cons (ps_expr (pe_call G_check_there (hr.mono (by decide)) rfl B.check_there.m B.check_there.F.kp B.check_there.b .nil (passes_call (takes_of rfl rfl rfl rfl) (fun _ _ _ _ h => h)) (pa_cons (pv 0) (pa_cons (pv 4) pa_nil))))
      (pss_cons (ps_if (pt_not (pt_val (pe_call G_is_sign (hr.mono (by decide)) rfl B.is_sign.m B.is_sign.F.kp B.is_sign.b .nil pass0 (pa_cons (pe_ix ix_tup (pv 0) (pv 4) (fun _ _ => rfl)) pa_nil)))) (pss_one (ps_raise rfl (takes_of rfl rfl rfl rfl) (pmk_oex T.x_BadRow B.BadRow_init.a B.BadRow_init.t G_BadRow_init (hr.mono (by decide)) B.BadRow_init.b .nil pass0 rfl T.g_BadRow (pa_cons (pv 4) pa_nil)))) pss_nil)
      (pss_one (ps_expr (pe_bm PySem.F.plainAttrs_list PySem.F.slot_list_append PySem.F.type_list_append mt_append (pv 3) (pa_cons (pe_ix ix_str (pe_glob (v := .str SC_SIGNS) (by rfl) T.g_SIGNS ⟨_, rfl⟩) (pe_op op_sub (pe_ix ix_tup (pv 0) (pv 4) (fun _ _ => rfl)) (pe_glob (v := .int 32) (by rfl) T.g_LEAST_SIGN ⟨_, rfl⟩)) (fun _ _ => rfl)) pa_nil)))))))
      (pss_one (ps_ret (pe_tup (pa_cons (pe_join pe_str (pv 3)) (pa_cons (pe_op op_add (pv 1) (pv 2)) pa_nil))))))), ?_⟩
    walk_at "rd"
    refine rd_disp rfl fun l nl => ?_
    have s1 := same_new (o := .lst []) nl
    walk_at "rd"
    show iRng2 _ _ _ _
    refine rd_rng2' ?_
    walk_at "rd"
    refine ⟨h, (h : Int) + m, rfl, ⟨by omega, by omega, by omega, by omega⟩, ?_⟩
    rw [show ((h : Int) + m - h).toNat = m by omega]
    refine for_range (lo := (h : Int)) (n := m) (fun i σ H1 => ∃ (cs : List Nat) (u : Option V), σ = [some (.ref a), some (.int (h : Int)), some (.int (m : Int)), some (.ref l), u] ∧ cs.length = i ∧ Same H H1 ∧ H1 l = some (.lst (cs.map fun c => V.str ⟨#[c]⟩)) ∧ strR row m h = appR cs (strR row (m - i) (h + i)))
      ⟨[], none, rfl, rfl, s1, upd_same, by
        rw [Nat.sub_zero, Nat.add_zero]
        cases strR row m h <;> rfl⟩ ?_ ?_
    · rintro i σ H1 hi ⟨cs, u, rfl, hlc, hs, hacc, hst⟩
      obtain ⟨k, hk⟩ : ∃ k, m - i = k + 1 := ⟨m - i - 1, by omega⟩
      rw [hk] at hst
      have eH : ((h : Int) + (i : Nat)) = ((h + i : Nat) : Int) := by omega
      walk_at "rd"
      rw [eH]
      refine ⟨a, row, h + i, rfl, ha.same hs, fun hlt => ?_, fun hge => ?_⟩
      · obtain ⟨b, eb, ebv⟩ := row_get hlt
        have e2 : strR row (k + 1) (h + i) = if isSign b = true then consR b.toNat (strR row k (h + i + 1)) else .bad (h + i) := by
          show (match row[h + i]? with | none => _ | some b => _) = _
          rw [eb]
        rw [e2] at hst
        walk_at "rd"
        refine rd_ixT (hs _ _ ha.1) (atI_nat ebv) ?_
        walk_at "rd"
        refine ⟨b, rfl, ?_⟩
        walk_at "rd"
        refine rd_ite (fun h1 => ?_) (fun h1 => ?_)
        · walk_at "rd"
          refine bad_made (q0 _ ?_ _ hs)
          rw [hst, if_neg (by simpa using h1)]
          rfl
        · have h1' : isSign b = true := by simpa using h1
          walk_at "rd"
          refine ⟨.inl ⟨rfl, _, SqL.of hacc⟩, ?_⟩
          walk_at "rd"
          refine rd_ixT (hs _ _ ha.1) (atI_nat ebv) ?_
          walk_at "rd"
          have b32 : 32 ≤ b := by
            have := h1'
            unfold isSign at this
            simp only [Bool.and_eq_true, decide_eq_true_eq] at this
            omega
          refine ⟨_, b - 32, b.toNat, rfl, rfl, by decide, at_of (j := (b - 32).toNat) (by omega) (sign_at h1'), ?_⟩
          walk_at "rd"
          refine rd_append hacc (small' (by rw [List.length_map]; omega)) ?_
          refine ⟨cs ++ [b.toNat], _, rfl, by simp [hlc], fun x o ex => (upd_ne (ne_of_none ex nl)).trans (hs x o ex), ?_, ?_⟩
          · rw [upd_same, List.map_append]
            rfl
          · rw [hst, if_pos h1', appR_cons, show m - (i + 1) = k by omega, show h + (i + 1) = h + i + 1 by omega]
      · refine Raised.of (q0 _ ?_ _ (Same.refl H)) hs
        rw [hst]
        show appR cs (match row[h + i]? with | none => _ | some b => _) = _
        rw [List.getElem?_eq_none hge]
        rfl
    · rintro σ H1 ⟨cs, u, rfl, hlc, hs, hacc, hst⟩
      walk_at "rd"
      refine rd_join ?_
      walk_at "rd"
      refine ⟨⟨_, rfl⟩, ?_⟩
      walk_at "rd"
      refine ⟨"", l, cs.map fun c => (⟨#[c]⟩ : Str), rfl, rfl, .inl (SqL.of (by rw [hacc, List.map_map]; rfl)), join_ok (by omega), ?_⟩
      rw [show (Str.ofString "") = ("" : Str) from rfl, join_one]
      walk_at "rd"
      refine rd_disp rfl fun t nt => ?_
      refine q1 cs (h + m) ?_ t _ (hs.trans (same_new nt)) ?_
      · rw [hst, Nat.sub_self]
        show appR cs (.ok [] (h + m)) = _
        show Rs.ok (cs ++ []) (h + m) = _
        rw [List.append_nil]
      · rw [upd_same]
        rfl
theorem ta_of (T : Tx K mg) (B : Bk K mg T) {n k : Nat} (hk : 6 ≤ k) (G_parcel_at : FnOk P w K mg base (L2.CX P w) k B.parcel_at.f B.parcel_at.fd ["row", "place", "deep"] (spPA T.CP T.c_BadRow n)) :
    FnOk P w K mg base (L2.CX P w) (k + 1) B.tuple_at.f B.tuple_at.fd ["row", "place", "many", "deep"] (spTA T.CP T.c_BadRow (n + 1)) := by
  refine B.tuple_at.F.okX sc_tuple_at (fun vs H Q E h => ?_) (fun cdv A outer s H vs Q E hr h => ?_)
  · obtain ⟨a, row, h, m, n', _, rfl, _⟩ := h
    rfl
  · obtain ⟨a, row, h, m, n', hn, rfl, ha, hl, q1, q0⟩ := h
    have : n = n' := by omega
    subst this
    have hle := ha.le
    refine ⟨_, (pss_cons (ps_set (i := 4) sc_tuple_at.nd rfl (Or.inl rfl) (pe_lst pa_nil))
      (pss_cons (ps_set (i := 5) sc_tuple_at.nd rfl (Or.inl rfl) (pv 1))
      (pss_cons (ps_while (passes_of rfl) (pt_cmpR op_lt (pe_callB call_len_seq (by rfl) T.b_len (by decide +kernel) (pa_cons (pv 4) pa_nil)) (pv 2) (nomark _)) (pss_cons (ps_asg (pe_call G_parcel_at (hr.mono (by omega)) rfl B.parcel_at.m B.parcel_at.F.kp B.parcel_at.b .nil (passes_call (takes_of rfl rfl rfl rfl) (fun _ _ _ _ h => h)) (pa_cons (pv 0) (pa_cons (pv 5) (pa_cons (pe_op op_sub (pv 3) pe_int) pa_nil)))) (pg_tup (by rfl) (pgs_cons (pg_name (i := 6) sc_tuple_at.nd rfl (Or.inl rfl)) (pgs_cons (pg_name (i := 5) sc_tuple_at.nd rfl (Or.inl rfl)) pgs_nil))))
      (pss_one (ps_expr (pe_bm PySem.F.plainAttrs_list PySem.F.slot_list_append PySem.F.type_list_append mt_append (pv 4) (pa_cons (pv 6) pa_nil))))))
      (pss_one (ps_ret (pe_tup (pa_cons (pe_callTy call_tuple_of (by rfl) T.b_tuple (by decide +kernel) (pa_cons (pv 4) pa_nil)) (pa_cons (pv 5) pa_nil)))))))), ?_⟩
    walk_at "rd"
    refine rd_disp rfl fun l nl => ?_
    have s1 := same_new (o := .lst []) nl
    walk_at "rd"
    refine ⟨fun μ σ H1 => ∃ (ds : List PyData) (vs : List V) (h2 : Nat) (u : Option V), σ = [some (.ref a), some (.int (h : Int)), some (.int (m : Int)), some (.int ((n + 1 : Nat) : Int)), some (.ref l), some (.int (h2 : Int)), u] ∧ Same H H1 ∧ H1 l = some (.lst vs) ∧ DtAll T.CP [] H1 ds vs ∧ plainAll ds = true ∧ Run (Rd row n) h ds h2 ∧ h2 ≤ row.length ∧ ds.length + h ≤ h2 ∧ ds.length ≤ m ∧ μ = row.length - h2,
      ⟨_, [], [], h, none, rfl, s1, upd_same, dtAll_nil, rfl, Run.nil, hl, by simp, Nat.zero_le _, rfl⟩, ?_⟩
    rintro μ σ H1 ⟨ds, vs, h2, u, rfl, hs, hacc, hds, hpl, hrun, hh2, hlen, hdm, hμ⟩
    have hlv := hds.len
    walk_at "rd"
    refine ⟨l, vs, rfl, .inl (SqL.of hacc), ?_⟩
    walk_at "rd"
    rw [← hlv]
    refine rd_ite (fun h1 => ?_) (fun h1 => ?_)
    · have hlt : ds.length < m := by
        have := of_decide_eq_true h1
        omega
      refine ⟨fun σ' H' => ∃ m', m' < μ ∧ ∃ (ds : List PyData) (vs : List V) (h2 : Nat) (u : Option V), σ' = [some (.ref a), some (.int (h : Int)), some (.int (m : Int)), some (.int ((n + 1 : Nat) : Int)), some (.ref l), some (.int (h2 : Int)), u] ∧ Same H H' ∧ H' l = some (.lst vs) ∧ DtAll T.CP [] H' ds vs ∧ plainAll ds = true ∧ Run (Rd row n) h ds h2 ∧ h2 ≤ row.length ∧ ds.length + h ≤ h2 ∧ ds.length ≤ m ∧ m' = row.length - h2, fun _ _ h => h, ?_⟩
      walk_at "rd"
      refine ⟨a, row, h2, ?_, ha.same hs, fun d e hR t v H2 s2 ht hd => ?_, fun e hR H2 s2 => ?_⟩
      · rw [show ((n + 1 : Nat) : Int) - 1 = (n : Int) by omega]
        rfl
      · have hlee := rd_le hR
        have hs2 := hs.trans s2
        have nl2 := s2 _ _ hacc
        walk_at "rd"
        refine ⟨t, _, rfl, SqT.of ht, rfl, _, _, rfl, _, _, rfl, rfl, ?_⟩
        walk_at "rd"
        refine ⟨.inl ⟨rfl, _, SqL.of nl2⟩, ?_⟩
        walk_at "rd"
        refine rd_append nl2 (small' (by omega)) ?_
        have hp2 : plainAll (ds ++ [d]) = true := by
          rw [plain_app, hpl]
          show (true && (plainD d && true)) = true
          rw [rd_plain hR]
          rfl
        refine ⟨_, by omega, ds ++ [d], vs ++ [v], e, _, rfl, fun x o ex => (upd_ne (ne_of_none ex nl)).trans (hs2 x o ex), upd_same, DtAll.plain (M := []) (KT.mut nl2 fun _ z => by cases z) _ _ hp2 ((hds.s s2).snoc hd), hp2, hrun.snoc hR, hlee.2, by simp; omega, by simp; omega, rfl⟩
      · exact q0 e (run_bad hrun hlt hR) H2 (hs.trans s2)
    · have hend : ds.length = m := by
        have := of_decide_eq_false h1
        omega
      walk_at "rd"
      refine ⟨l, vs, rfl, .inl ⟨SqL.of hacc, fun u nu => ?_⟩⟩
      have s2 := hs.trans (same_new (o := .tup vs) nu)
      walk_at "rd"
      refine rd_disp rfl fun t nt => ?_
      have s3 := same_new (o := .tup [.ref u, .int (h2 : Int)]) nt
      have hI := run_end hrun
      rw [hend] at hI
      refine q1 ds h2 hI t (.ref u) _ (s2.trans s3) upd_same (dt_tup (s3 _ _ upd_same) ((hds.s (same_new nu)).s s3))
end
end Mw

/-! R10m -/
/-! Sizes, marks, seals. -/
namespace Mw
open PySem L2
mutual
def szd : PyData → Nat
  | .str s => s.length + 1
  | .tuple ds => szdAll ds + 1
  | .none | .bool _ | .int _ | .list _ | .dict _ => 1
def szdAll : List PyData → Nat
  | [] => 0
  | d :: ds => szd d + szdAll ds
end
theorem szd_pos (d : PyData) : 1 ≤ szd d := by
  cases d <;> simp [szd]
theorem szdAll_len : ∀ ds : List PyData, ds.length ≤ szdAll ds
  | [] => Nat.zero_le _
  | d :: ds => by
    have := szd_pos d
    have := szdAll_len ds
    show ds.length + 1 ≤ szd d + szdAll ds
    omega
theorem szdAll_get : ∀ {ds : List PyData} {i : Nat} {d : PyData}, ds[i]? = some d → szd d ≤ szdAll ds
  | [], i, d, e => by simp at e
  | c :: ds, 0, d, e => by
    cases e
    show szd c ≤ szd c + szdAll ds
    omega
  | c :: ds, i + 1, d, e => by
    have := szdAll_get (ds := ds) (i := i) (d := d) (by simpa using e)
    show szd d ≤ szd c + szdAll ds
    omega
mutual
theorem szd_by : ∀ {n : Nat} (d : PyData), isPc n d = true → szd d ≤ (byD d).length
  | n, .none, _ => Nat.le_refl _
  | n, .bool _, _ => Nat.le_refl _
  | n, .int i, _ => by
    show 1 ≤ (if 0 ≤ i then (3 : Int) :: wh i.toNat else 4 :: wh (-1 - i).toNat).length
    split <;> simp
  | n, .str s, h => by
    show s.length + 1 ≤ ((5 : Int) :: (wh s.length ++ sgn s)).length
    rw [List.length_cons, List.length_append, sgn_len]
    omega
  | n, .list _, h => by simp [isPc] at h
  | n, .dict _, h => by simp [isPc] at h
  | n, .tuple ds, h => by
    simp only [isPc, Bool.and_eq_true, decide_eq_true_eq] at h
    have := szdAll_by ds h.2
    show szdAll ds + 1 ≤ ((6 : Int) :: (wh ds.length ++ byAll ds)).length
    rw [List.length_cons, List.length_append]
    omega
theorem szdAll_by : ∀ {n : Nat} (ds : List PyData), isPcAll n ds = true → szdAll ds ≤ (byAll ds).length
  | n, [], _ => Nat.le_refl _
  | n, d :: ds, h => by
    simp only [isPcAll, Bool.and_eq_true] at h
    have := szd_by d h.1
    have := szdAll_by ds h.2
    show szd d + szdAll ds ≤ (byD d ++ byAll ds).length
    rw [List.length_append]
    omega
end
def inB (b : Int) : Prop := 0 ≤ b ∧ b < 256
theorem wh_by : ∀ (k n : Nat), n ≤ k → ∀ b ∈ wh n, inB b
  | 0, n, h, b, hb => by
    rw [wh_lt (by omega)] at hb
    have : b = (n : Int) := by simpa using hb
    unfold inB
    omega
  | k + 1, n, h, b, hb => by
    by_cases c : n < 128
    · rw [wh_lt c] at hb
      have : b = (n : Int) := by simpa using hb
      unfold inB
      omega
    · rw [wh_ge c] at hb
      rcases List.mem_cons.mp hb with e | e
      · unfold inB
        omega
      · exact wh_by k (n / 128) (by omega) b e
mutual
theorem byD_by : ∀ {n : Nat} (d : PyData), isPc n d = true → ∀ b ∈ byD d, inB b
  | n, .none, _, b, hb => by
    have : b = 0 := by simpa [byD] using hb
    unfold inB
    omega
  | n, .bool c, _, b, hb => by
    have : b = (if c then 2 else 1) := by simpa [byD] using hb
    unfold inB
    split at this <;> omega
  | n, .int i, _, b, hb => by
    have hb' : b ∈ (if 0 ≤ i then (3 : Int) :: wh i.toNat else 4 :: wh (-1 - i).toNat) := hb
    split at hb'
    · rcases List.mem_cons.mp hb' with e | e
      · unfold inB
        omega
      · exact wh_by _ _ (Nat.le_refl _) b e
    · rcases List.mem_cons.mp hb' with e | e
      · unfold inB
        omega
      · exact wh_by _ _ (Nat.le_refl _) b e
  | n, .str s, h, b, hb => by
    have hb' : b ∈ (5 : Int) :: (wh s.length ++ sgn s) := hb
    rcases List.mem_cons.mp hb' with e | e
    · unfold inB
      omega
    · rcases List.mem_append.mp e with e | e
      · exact wh_by _ _ (Nat.le_refl _) b e
      · have h' : okStr s = true := h
        unfold okStr at h'
        simp only [Bool.and_eq_true, decide_eq_true_eq] at h'
        have := List.all_eq_true.mp h'.2 b e
        unfold isSign at this
        simp only [Bool.and_eq_true, decide_eq_true_eq] at this
        unfold inB
        omega
  | n, .list _, h, b, hb => by simp [isPc] at h
  | n, .dict _, h, b, hb => by simp [isPc] at h
  | n, .tuple ds, h, b, hb => by
    simp only [isPc, Bool.and_eq_true, decide_eq_true_eq] at h
    have hb' : b ∈ (6 : Int) :: (wh ds.length ++ byAll ds) := hb
    rcases List.mem_cons.mp hb' with e | e
    · unfold inB
      omega
    · rcases List.mem_append.mp e with e | e
      · exact wh_by _ _ (Nat.le_refl _) b e
      · exact byAll_by ds h.2 b e
theorem byAll_by : ∀ {n : Nat} (ds : List PyData), isPcAll n ds = true → ∀ b ∈ byAll ds, inB b
  | n, [], _, b, hb => by cases hb
  | n, d :: ds, h, b, hb => by
    simp only [isPcAll, Bool.and_eq_true] at h
    have hb' : b ∈ byD d ++ byAll ds := hb
    rcases List.mem_append.mp hb' with e | e
    · exact byD_by d h.1 b e
    · exact byAll_by ds h.2 b e
end
def mkF (f b : Int) : Int := (f * 1000003 + b + 1) % 2305843009213693951
def markL (row : List Int) : Int := row.foldl mkF 1
theorem markL_snoc (r : List Int) (b : Int) : markL (r ++ [b]) = mkF (markL r) b := by
  unfold markL
  rw [List.foldl_append]
  rfl
theorem mkF_b (f b : Int) : 0 ≤ mkF f b ∧ mkF f b < 2305843009213693951 := ⟨Int.emod_nonneg _ (by decide), Int.emod_lt_of_pos _ (by decide)⟩
theorem fold_b : ∀ (row : List Int) (f : Int), 0 ≤ f ∧ f < 2305843009213693951 → 0 ≤ row.foldl mkF f ∧ row.foldl mkF f < 2305843009213693951
  | [], f, h => h
  | b :: row, f, h => fold_b row (mkF f b) (mkF_b f b)
theorem markL_b (row : List Int) : 0 ≤ markL row ∧ markL row < 2305843009213693951 := fold_b row 1 (by decide)
def sk : Nat → Int → List Int
  | 0, _ => []
  | k + 1, m => m % 256 :: sk k (m / 256)
def sealL (row : List Int) : List Int := sk 4 (markL row)
theorem sk_by : ∀ (k : Nat) (m : Int), ∀ b ∈ sk k m, inB b
  | 0, m, b, hb => by cases hb
  | k + 1, m, b, hb => by
    rcases List.mem_cons.mp (show b ∈ m % 256 :: sk k (m / 256) from hb) with e | e
    · unfold inB
      omega
    · exact sk_by k _ b e
theorem sk_len : ∀ (k : Nat) (m : Int), (sk k m).length = k
  | 0, m => rfl
  | k + 1, m => by
    show (sk k (m / 256)).length + 1 = k + 1
    rw [sk_len k]
theorem sealL_len (row : List Int) : (sealL row).length = 4 := sk_len 4 _
def body (row : List Int) : List Int := row.take (row.length - 4)
def tail4 (row : List Int) : List Int := row.drop (row.length - 4)
theorem body_tail (row : List Int) : body row ++ tail4 row = row := List.take_append_drop _ _
def SealOk (row : List Int) : Prop := sealL (body row) = tail4 row
theorem seal_iff (row : List Int) : SealOk row ↔ body row ++ sealL (body row) = row := by
  unfold SealOk
  constructor
  · intro h
    rw [h, body_tail]
  · intro h
    have := body_tail row
    exact List.append_cancel_left (h.trans this.symm)
theorem seal_len {row : List Int} (h : SealOk row) : 4 ≤ row.length := by
  have e := (seal_iff row).mp h
  rw [← e, List.length_append, sealL_len]
  omega
theorem seal_of (row : List Int) : SealOk (row ++ sealL row) ∧ body (row ++ sealL row) = row := by
  have e : body (row ++ sealL row) = row := by
    unfold body
    rw [List.length_append, sealL_len, Nat.add_sub_cancel, List.take_left]
  refine ⟨?_, e⟩
  rw [seal_iff, e]
theorem eqv_ints : ∀ xs ys : List Int, PyData.eqvAll (xs.map PyData.int) (ys.map PyData.int) = decide (xs = ys)
  | [], [] => rfl
  | [], y :: ys => rfl
  | x :: xs, [] => rfl
  | x :: xs, y :: ys => by
    show ((x == y) && PyData.eqvAll (xs.map PyData.int) (ys.map PyData.int)) = _
    rw [eqv_ints xs ys]
    by_cases h : x = y
    · subst h
      simp
    · simp [h]
theorem ints_lay : ∀ xs : List Int, PyData.canLayAll0 (xs.map PyData.int) = true
  | [] => rfl
  | x :: xs => by
    show (true && PyData.canLayAll0 (xs.map PyData.int)) = true
    rw [ints_lay xs]
    rfl
theorem ints_depth : ∀ xs : List Int, PyData.depthAll (xs.map PyData.int) = 0
  | [] => rfl
  | x :: xs => by
    show max 0 (PyData.depthAll (xs.map PyData.int)) = 0
    rw [ints_depth xs]
    rfl
theorem ints_shaped (xs : List Int) : SeqAt.shaped (.tuple (xs.map PyData.int)) = true := by
  unfold SeqAt.shaped
  show (PyData.canLayAll0 (xs.map PyData.int) && decide (PyData.depthAll (xs.map PyData.int) + 1 ≤ 64)) = true
  rw [ints_lay, ints_depth]
  rfl
/-- what a row is sealed of -/
def OpD (row : List Int) (D : PyData) : Prop :=
  (SealOk row ∧ ∃ d, Rd (body row) 20 0 (.ok d (body row).length) ∧ D = .tuple [d]) ∨
  ((¬ SealOk row ∨ (∃ e, Rd (body row) 20 0 (.bad e)) ∨ ∃ d e, Rd (body row) 20 0 (.ok d e) ∧ e ≠ (body row).length) ∧ D = .tuple [])
theorem opD_det {row : List Int} {D1 D2 : PyData} (a : OpD row D1) (b : OpD row D2) : D1 = D2 := by
  rcases a with ⟨a1, d1, r1, e1⟩ | ⟨a1, e1⟩
  · rcases b with ⟨b1, d2, r2, e2⟩ | ⟨b1, e2⟩
    · have := rd_det r1 r2
      injection this with z1 z2
      rw [e1, e2, z1]
    · rcases b1 with b1 | ⟨e, b1⟩ | ⟨d, e, b1, ne⟩
      · exact absurd a1 b1
      · have := rd_det r1 b1
        cases this
      · have := rd_det r1 b1
        injection this with z1 z2
        exact absurd z2.symm ne
  · rcases b with ⟨b1, d2, r2, e2⟩ | ⟨b1, e2⟩
    · rcases a1 with a1 | ⟨e, a1⟩ | ⟨d, e, a1, ne⟩
      · exact absurd b1 a1
      · have := rd_det r2 a1
        cases this
      · have := rd_det r2 a1
        injection this with z1 z2
        exact absurd z2.symm ne
    · rw [e1, e2]
end Mw

/-! R10 -/
namespace Mw
open PySem L2
/-- what a row tells as a whole -/
def spParcelOf (CP : Addr → Prop) (C CR : Addr) : Sp := fun vs H Q E => ∃ (a : Addr) (row : List Int), vs = [.ref a] ∧ RowAt H a row ∧
  (∀ d, Rd row 20 0 (.ok d row.length) → ∀ v H', Same H H' → Dt CP [] H' d v → Q v H') ∧
  (∀ d e, Rd row 20 0 (.ok d e) → e ≠ row.length → ∀ H', Same H H' → Raised C (.int (e : Nat)) H' E) ∧
  (∀ e, Rd row 20 0 (.bad e) → ∀ H', Same H H' → Raised C (.int (e : Nat)) H' E)
def spIpw (CP : Addr → Prop) (n : Nat) : Sp := fun vs H Q _ => ∃ (M : List Addr) (d : PyData) (x : V) (deep : Nat), vs = [.int (deep : Int), x] ∧ Dt CP M H d x ∧ deep < n ∧ szd d ≤ 900000 ∧ ∀ H', Same H H' → Q (.bl (isPc deep d)) H'
def spIsParcel (CP : Addr → Prop) : Sp := fun vs H Q _ => ∃ M d x, vs = [x] ∧ Dt CP M H d x ∧ szd d ≤ 900000 ∧ ∀ H', Same H H' → Q (.bl (isPc 20 d)) H'
def spRowOf (CP : Addr → Prop) (C : Addr) : Sp := fun vs H Q E => ∃ M d x, vs = [x] ∧ Dt CP M H d x ∧ szd d ≤ 900000 ∧ (isPc 20 d = true → (byD d).length ≤ 900000) ∧
  (isPc 20 d = true → ∀ t H', Same H H' → H' t = some (.tup ((byD d).map V.int)) → Q (.ref t) H') ∧ (isPc 20 d = false → ∀ H', Same H H' → E (.ref C) none H')
theorem row_dt {CP : Addr → Prop} {M : List Addr} {H : Hp} {a : Addr} {row : List Int} (h : H a = some (.tup (row.map V.int))) : Dt CP M H (.tuple (row.map PyData.int)) (.ref a) := dt_tup h (dt_ints row)
theorem row_isD {row : List Int} (h : ∀ b ∈ row, 0 ≤ b ∧ b < 256) : isRowD (.tuple (row.map PyData.int)) = true := by
  show ((row.map PyData.int).map isByte).all id = true
  rw [List.all_eq_true]
  intro x hx
  rw [List.map_map] at hx
  obtain ⟨b, hb, rfl⟩ := List.mem_map.mp hx
  have := h b hb
  show (decide (0 ≤ b) && decide (b < 256)) = true
  rw [decide_eq_true this.1, decide_eq_true this.2]
  rfl
section
variable {P : Program} {w : World} {K : PySem.W.Frag} {mg : Str → Option Value} {base : Heap}
local macro_rules | `(tactic| walk_at "rd") => `(tactic| (repeat (first
  | ((with_reducible refine' rd_var ?h0 ?_); (case h0 => rfl))
  | with_reducible refine rd_c ?_
  | with_reducible refine rd_op ?_
  | with_reducible refine rd_nil ?_
  | with_reducible refine rd_cons ?_
  | with_reducible refine rd_tup ?_
  | with_reducible refine rd_lst ?_
  | with_reducible refine rd_ifs ?_
  | with_reducible refine rd_seq ?_
  | with_reducible refine rd_next ?_
  | with_reducible refine rd_ret ?_
  | with_reducible refine rd_asg ?_
  | ((with_reducible refine' rd_gset ?hs ?_); (case hs => ((simp only [L2.start, List.map_cons, List.map_nil, List.length_cons, List.length_nil, List.cons_append, List.nil_append, List.set_cons_zero, List.set_cons_succ, Nat.reduceAdd, Nat.reduceSub, Nat.zero_add, List.reduceReplicate]); rfl)))
  | with_reducible refine rd_drop ?_
  | with_reducible refine rd_test ?_
  | with_reducible refine rd_B ?_
  | with_reducible refine rd_bl ?_
  | with_reducible refine rd_blP ?_
  | with_reducible refine rd_andV ?_
  | with_reducible refine rd_orV ?_
  | with_reducible refine rd_notV ?_
  | with_reducible refine rd_and ?_
  | with_reducible refine rd_or ?_
  | with_reducible refine rd_not ?_
  | with_reducible refine rd_chain ?_
  | with_reducible refine rd_dput ?_
  | with_reducible refine rd_dget ?_
  | with_reducible refine rd_cb ?_
  | with_reducible refine rd_call ?_
  | with_reducible refine rd_un ?_
  | with_reducible refine rd_sl ?_
  | with_reducible refine rd_nopart ?_
  | with_reducible refine rd_part ?_
  | with_reducible refine rd_intP ?_
  | with_reducible refine rd_rU ?_
  | with_reducible refine rd_fld ?_
  | with_reducible refine rd_eqI ?_
  | with_reducible refine rd_neI ?_
  | with_reducible refine rd_mko ?_
  | with_reducible refine rd_bm ?_
  | with_reducible refine rd_gsub ?_
  | with_reducible refine rd_i0 ?_)))
theorem pa_of (T : Tx K mg) (B : Bk K mg T) {n k : Nat} (hk : 5 ≤ k) (G_tuple_at : FnOk P w K mg base (L2.CX P w) k B.tuple_at.f B.tuple_at.fd ["row", "place", "many", "deep"] (spTA T.CP T.c_BadRow n)) :
    FnOk P w K mg base (L2.CX P w) (k + 1) B.parcel_at.f B.parcel_at.fd ["row", "place", "deep"] (spPA T.CP T.c_BadRow n) := by
  have G_check_there := ok_check_there (P := P) (w := w) (base := base) T B
  have G_whole_at := ok_whole_at (P := P) (w := w) (base := base) T B
  have G_string_at := ok_string_at (P := P) (w := w) (base := base) T B
  have G_BadRow_init := ok_bad_init (P := P) (w := w) (base := base) T B
  refine B.parcel_at.F.okX sc_parcel_at (fun vs H Q E h => ?_) (fun cdv A outer s H vs Q E hr h => ?_)
  · obtain ⟨a, row, h, rfl, _⟩ := h
    rfl
  · obtain ⟨a, row, h, rfl, ha, q1, q0⟩ := h
    refine ⟨_, (pss_cons (ps_expr (pe_call G_check_there (hr.mono (by omega)) rfl B.check_there.m B.check_there.F.kp B.check_there.b .nil (passes_call (takes_of rfl rfl rfl rfl) (fun _ _ _ _ h => h)) (pa_cons (pv 0) (pa_cons (pv 1) pa_nil))))
      (pss_cons (ps_set (i := 3) sc_parcel_at.nd rfl (Or.inl rfl) (pe_ix ix_tup (pv 0) (pv 1) (fun _ _ => rfl)))
      (C8.pss_cut (ps_if (PW.pt (pw_or (pt_cmpR op_gt (pv 3) (pe_glob (v := .int 6) (by rfl) T.g_TUPLE ⟨_, rfl⟩) (nomark _)) (pw_or1 (PW.pt (pw_and (pt_cmpR op_eq (pv 3) (pe_glob (v := .int 6) (by rfl) T.g_TUPLE ⟨_, rfl⟩) (nomark _)) (pw_and1 (pt_cmpR op_eq (pv 2) pe_int (nomark _)))))))) (pss_one (ps_raise rfl (takes_of rfl rfl rfl rfl) (pmk_oex T.x_BadRow B.BadRow_init.a B.BadRow_init.t G_BadRow_init (hr.mono (by omega)) B.BadRow_init.b .nil pass0 rfl T.g_BadRow (pa_cons (pv 1) pa_nil)))) pss_nil)
      (pss_cons (ps_if (pt_cmpR op_eq (pv 3) (pe_glob (v := .int 0) (by rfl) T.g_NONE ⟨_, rfl⟩) (nomark _)) (pss_one (ps_ret (pe_tup (pa_cons pe_non (pa_cons (pe_op op_add (pv 1) pe_int) pa_nil))))) pss_nil)
      (pss_cons (ps_if (pt_cmpR op_in_seq (pv 3) (pe_tup (pa_cons (pe_glob (v := .int 1) (by rfl) T.g_NO ⟨_, rfl⟩) (pa_cons (pe_glob (v := .int 2) (by rfl) T.g_YES ⟨_, rfl⟩) pa_nil))) rfl) (pss_one (ps_ret (pe_tup (pa_cons (pe_cmpR op_eq (pv 3) (pe_glob (v := .int 2) (by rfl) T.g_YES ⟨_, rfl⟩) (nomark _)) (pa_cons (pe_op op_add (pv 1) pe_int) pa_nil))))) pss_nil)
      (pss_cons (ps_asg (pe_call G_whole_at (hr.mono (by omega)) rfl B.whole_at.m B.whole_at.F.kp B.whole_at.b .nil (passes_call (takes_of rfl rfl rfl rfl) (fun _ _ _ _ h => h)) (pa_cons (pv 0) (pa_cons (pe_op op_add (pv 1) pe_int) pa_nil))) (pg_tup (by rfl) (pgs_cons (pg_name (i := 4) sc_parcel_at.nd rfl (Or.inl rfl)) (pgs_cons (pg_name (i := 5) sc_parcel_at.nd rfl (Or.inl rfl)) pgs_nil))))
      (pss_cons (ps_if (pt_cmpR op_eq (pv 3) (pe_glob (v := .int 5) (by rfl) T.g_STRING ⟨_, rfl⟩) (nomark _)) (C8.pss_cut (ps_if (PW.pt (pw_or (pt_cmpR op_eq (pv 4) pe_int (nomark _)) (pw_or1 (pt_cmpR op_gt (pv 4) (pe_glob (v := .int 20) (by rfl) T.g_MOST_SIGNS ⟨_, rfl⟩) (nomark _))))) (pss_one (ps_raise rfl (takes_of rfl rfl rfl rfl) (pmk_oex T.x_BadRow B.BadRow_init.a B.BadRow_init.t G_BadRow_init (hr.mono (by omega)) B.BadRow_init.b .nil pass0 rfl T.g_BadRow (pa_cons (pe_op op_add (pv 1) pe_int) pa_nil)))) pss_nil)
      (pss_one (ps_ret (pe_call G_string_at (hr.mono (by omega)) rfl B.string_at.m B.string_at.F.kp B.string_at.b .nil (passes_call (takes_of rfl rfl rfl rfl) (fun _ _ _ _ h => h)) (pa_cons (pv 0) (pa_cons (pv 5) (pa_cons (pv 4) pa_nil))))))) pss_nil)
      (pss_cons (ps_if (pt_cmpR op_eq (pv 3) (pe_glob (v := .int 6) (by rfl) T.g_TUPLE ⟨_, rfl⟩) (nomark _)) (pss_one (ps_ret (pe_call G_tuple_at (hr.mono (by omega)) rfl B.tuple_at.m B.tuple_at.F.kp B.tuple_at.b .nil (passes_call (takes_of rfl rfl rfl rfl) (fun _ _ _ _ h => h)) (pa_cons (pv 0) (pa_cons (pv 5) (pa_cons (pv 4) (pa_cons (pv 2) pa_nil))))))) pss_nil)
      (pss_one (ps_ret (pe_tup (pa_cons (pe_ifExp (pt_cmpR op_eq (pv 3) (pe_glob (v := .int 3) (by rfl) T.g_FROM_ZERO ⟨_, rfl⟩) (nomark _)) (pv 4) (pe_op op_sub (pe_un un_neg pe_int) (pv 4))) (pa_cons (pv 5) pa_nil))))))))))))), ?_⟩
    walk_at "rd"
    refine ⟨a, row, h, rfl, ha, fun hlt => ?_, fun hge => q0 _ (rdd.mpr (rdB_none hge)) _ (Same.refl H)⟩
    obtain ⟨b, eb, ebv⟩ := row_get hlt
    have b0 := (ha.2 b (List.mem_of_getElem? eb)).1
    walk_at "rd"
    refine rd_ixT ha.1 (atI_nat ebv) ?_
    walk_at "rd"
    have hin : (inn row n).isNone = true ↔ n = 0 := by
      cases n with
      | zero => exact ⟨fun _ => rfl, fun _ => rfl⟩
      | succ n => exact ⟨fun z => (by cases z), fun z => (by cases z)⟩
    refine ⟨fun σ1 H1 => σ1 = [some (.ref a), some (.int (h : Int)), some (.int (n : Int)), some (.int b), none, none] ∧ H1 = H ∧ ¬ (6 < b ∨ (b = 6 ∧ (inn row n).isNone = true)), ?_, ?_⟩
    · have bad : (6 < b ∨ (b = 6 ∧ n = 0)) → Raised T.c_BadRow (.int (h : Int)) H E := fun z => q0 h (rdd.mpr (rdB_top eb (by rw [hin]; exact z))) _ (Same.refl H)
      walk_at "rd"
      refine rd_ite (fun h1 => ?_) (fun h1 => ?_)
      · refine rd_yes rfl ?_
        walk_at "rd"
        exact bad_made (bad (.inl (of_decide_eq_true h1)))
      · have h1' := of_decide_eq_false h1
        walk_at "rd"
        refine rd_ite (fun h2 => ?_) (fun h2 => ?_)
        · walk_at "rd"
          refine rd_ite (fun h3 => ?_) (fun h3 => ?_)
          · walk_at "rd"
            exact bad_made (bad (.inr ⟨of_decide_eq_true h2, by have := of_decide_eq_true h3; omega⟩))
          · refine ⟨rfl, rfl, fun z => ?_⟩
            have := of_decide_eq_false h3
            rw [hin] at z
            omega
        · refine rd_no rfl ?_
          refine ⟨rfl, rfl, fun z => ?_⟩
          have := of_decide_eq_false h2
          rw [hin] at z
          omega
    · rintro σ1 H1 ⟨rfl, rfl, hnb⟩
      walk_at "rd"
      refine rd_ite (fun h1 => ?_) (fun h1 => ?_)
      · have e0 : b = 0 := of_decide_eq_true h1
        walk_at "rd"
        refine rd_disp rfl fun t nt => ?_
        refine q1 .none (h + 1) (rdd.mpr ?_) t .non _ (same_new nt) upd_same dt_non
        have := rdB_low (R := inn row n) eb (by omega)
        rw [if_pos e0] at this
        exact this
      · have e0 : b ≠ 0 := of_decide_eq_false h1
        walk_at "rd"
        refine rd_disp rfl fun t nt => ?_
        have s1 := same_new (o := .tup [.int 1, .int 2]) nt
        refine ⟨t, _, rfl, .inr (SqT.of upd_same), rfl, rfl, ?_⟩
        have ein : (if false = true then !inV (V.int b) [.int 1, .int 2] else inV (V.int b) [.int 1, .int 2]) = (decide (b = 1) || decide (b = 2)) := by
          show ((1 == b) || ((2 == b) || false)) = _
          rw [Bool.or_false]
          have g : ∀ x : Int, (x == b) = decide (b = x) := fun x => by
            by_cases c : b = x
            · subst c
              simp
            · rw [decide_eq_false c]
              simpa using fun z => c z.symm
          rw [g, g]
        rw [ein]
        walk_at "rd"
        refine rd_ite (fun h2 => ?_) (fun h2 => ?_)
        · have e12 : b = 1 ∨ b = 2 := by simpa using h2
          walk_at "rd"
          refine rd_disp rfl fun t2 nt2 => ?_
          refine q1 (.bool (decide (b = 2))) (h + 1) (rdd.mpr ?_) t2 (.bl (decide (b = 2))) _ (s1.trans (same_new nt2)) upd_same dt_bl
          have := rdB_low (R := inn row n) eb (by omega)
          rw [if_neg e0] at this
          exact this
        · have e12 : ¬ (b = 1 ∨ b = 2) := by simpa using h2
          have b3 : ¬ b < 3 := by omega
          have ha1 := ha.same s1
          walk_at "rd"
          refine ⟨a, row, h + 1, rfl, ha1, hlt, fun m e hw t2 H2 s2 ht2 => ?_, fun hw => ?_⟩
          · have hm0 := whR_nn hw
            have hle := whR_le hw
            have s12 := s1.trans s2
            refine ⟨t2, _, rfl, SqT.of ht2, rfl, _, _, rfl, _, _, rfl, rfl, ?_⟩
            walk_at "rd"
            refine rd_ite (fun h3 => ?_) (fun h3 => ?_)
            · have e5 : b = 5 := of_decide_eq_true h3
              walk_at "rd"
              refine ⟨fun σ3 H3 => σ3 = [some (.ref a), some (.int (h : Int)), some (.int (n : Int)), some (.int b), some (.int m), some (.int (e : Nat))] ∧ H3 = H2 ∧ ¬ (m = 0 ∨ 20 < m), ?_, ?_⟩
              · have bad : (m = 0 ∨ 20 < m) → Raised T.c_BadRow (.int ((h : Int) + 1)) H2 E := fun z => by
                  have := q0 (h + 1) (rdd.mpr (rdB_s0 eb e5 hw z)) _ s12
                  rw [show ((h + 1 : Nat) : Int) = (h : Int) + 1 by omega] at this
                  exact this
                walk_at "rd"
                refine rd_ite (fun h4 => ?_) (fun h4 => ?_)
                · refine rd_yes rfl ?_
                  walk_at "rd"
                  exact bad_made (bad (.inl (of_decide_eq_true h4)))
                · walk_at "rd"
                  refine rd_ite (fun h5 => ?_) (fun h5 => ?_)
                  · walk_at "rd"
                    exact bad_made (bad (.inr (of_decide_eq_true h5)))
                  · refine ⟨rfl, rfl, fun z => ?_⟩
                    have := of_decide_eq_false h4
                    have := of_decide_eq_false h5
                    omega
              · rintro σ3 H3 ⟨rfl, rfl, hm⟩
                have hS := rdB_s1 (R := inn row n) eb e5 hw hm
                obtain ⟨m', rfl⟩ : ∃ m' : Nat, m = (m' : Int) := ⟨m.toNat, by omega⟩
                rw [Int.toNat_natCast] at hS
                walk_at "rd"
                refine ⟨a, row, e, m', rfl, ha.same s12, hle.2, by omega, fun cs e3 hst t3 H4 s4 ht3 => ?_, fun e3 hst H4 s4 => ?_⟩
                · rw [hst] at hS
                  exact q1 _ _ (rdd.mpr hS) t3 _ _ (s12.trans s4) ht3 dt_str
                · rw [hst] at hS
                  exact q0 _ (rdd.mpr hS) _ (s12.trans s4)
            · have e5 : b ≠ 5 := of_decide_eq_false h3
              walk_at "rd"
              refine rd_ite (fun h4 => ?_) (fun h4 => ?_)
              · have e6 : b = 6 := of_decide_eq_true h4
                obtain ⟨n', rfl⟩ : ∃ n', n = n' + 1 := ⟨n - 1, by
                  have : ¬ n = 0 := fun z => hnb (.inr ⟨e6, hin.mpr z⟩)
                  omega⟩
                obtain ⟨m', rfl⟩ : ∃ m' : Nat, m = (m' : Int) := ⟨m.toNat, by omega⟩
                walk_at "rd"
                refine ⟨a, row, e, m', n', rfl, rfl, ha.same s12, hle.2, fun ds e3 hI t3 v H4 s4 ht3 hv => ?_, fun e3 hI H4 s4 => ?_⟩
                · exact q1 (.tuple ds) _ (rdd.mpr (rdB_tup (r := .ok ds e3) eb e6 hw hI)) t3 _ _ (s12.trans s4) ht3 hv
                · exact q0 _ (rdd.mpr (rdB_tup (r := .bad e3) eb e6 hw hI)) _ (s12.trans s4)
              · have e6 : b ≠ 6 := of_decide_eq_false h4
                have hI := rdB_int (R := inn row n) eb b3 (by omega) hw
                walk_at "rd"
                refine rd_ifx ?_
                walk_at "rd"
                refine rd_ite (fun h5 => ?_) (fun h5 => ?_)
                · rw [if_pos (of_decide_eq_true h5)] at hI
                  walk_at "rd"
                  refine rd_disp rfl fun t3 nt3 => ?_
                  exact q1 (.int m) e (rdd.mpr hI) t3 (.int m) _ (s12.trans (same_new nt3)) upd_same dt_int
                · rw [if_neg (of_decide_eq_false h5)] at hI
                  walk_at "rd"
                  refine rd_disp rfl fun t3 nt3 => ?_
                  exact q1 (.int (-1 - m)) e (rdd.mpr hI) t3 (.int (-1 - m)) _ (s12.trans (same_new nt3)) upd_same dt_int
          · have := q0 (h + 1) (rdd.mpr (rdB_wh eb hnb b3 hw)) _ s1
            exact this
theorem ok_pa_n (T : Tx K mg) (B : Bk K mg T) : ∀ n, FnOk P w K mg base (L2.CX P w) (2 * n + 6) B.parcel_at.f B.parcel_at.fd ["row", "place", "deep"] (spPA T.CP T.c_BadRow n)
  | 0 => pa_of T B (k := 5) (by omega) (fn_no fun vs H Q E h => by
    obtain ⟨a, row, h, m, n', hn, _⟩ := h
    omega)
  | n + 1 => pa_of T B (k := 2 * n + 7) (by omega) (ta_of T B (by omega) (ok_pa_n T B n))
end
end Mw

/-! R11 -/
namespace Mw
open PySem L2
def spMarkOf : Sp := fun vs H Q _ => ∃ (a : Addr) (row : List Int), vs = [.ref a] ∧ H a = some (.tup (row.map V.int)) ∧ Q (.int (markL row)) H
def spSeal : Sp := fun vs H Q _ => ∃ (a : Addr) (row : List Int), vs = [.ref a] ∧ H a = some (.tup (row.map V.int)) ∧ ∀ t H', Same H H' → H' t = some (.tup ((sealL row).map V.int)) → Q (.ref t) H'
def spMark (CP : Addr → Prop) : Sp := fun vs H Q _ => ∃ (a : Addr) (row : List Int), vs = [.ref a] ∧ RowAt H a row ∧ ∀ H', Same H H' → Q (.int (markL row)) H'
def spSealed (CP : Addr → Prop) (C : Addr) : Sp := fun vs H Q E => ∃ M d x, vs = [x] ∧ Dt CP M H d x ∧ szd d ≤ 900000 ∧ (isPc 20 d = true → (byD d).length ≤ 800000) ∧
  (isPc 20 d = true → ∀ t H', Same H H' → H' t = some (.tup ((byD d ++ sealL (byD d)).map V.int)) → Q (.ref t) H') ∧ (isPc 20 d = false → ∀ H', Same H H' → E (.ref C) none H')
section
variable {P : Program} {w : World} {K : PySem.W.Frag} {mg : Str → Option Value} {base : Heap}
local macro_rules | `(tactic| walk_at "rd") => `(tactic| (repeat (first
  | ((with_reducible refine' rd_var ?h0 ?_); (case h0 => rfl))
  | with_reducible refine rd_c ?_
  | with_reducible refine rd_op ?_
  | with_reducible refine rd_nil ?_
  | with_reducible refine rd_cons ?_
  | with_reducible refine rd_tup ?_
  | with_reducible refine rd_lst ?_
  | with_reducible refine rd_ifs ?_
  | with_reducible refine rd_seq ?_
  | with_reducible refine rd_next ?_
  | with_reducible refine rd_ret ?_
  | with_reducible refine rd_asg ?_
  | ((with_reducible refine' rd_gset ?hs ?_); (case hs => ((simp only [L2.start, List.map_cons, List.map_nil, List.length_cons, List.length_nil, List.cons_append, List.nil_append, List.set_cons_zero, List.set_cons_succ, Nat.reduceAdd, Nat.reduceSub, Nat.zero_add, List.reduceReplicate]); rfl)))
  | with_reducible refine rd_drop ?_
  | with_reducible refine rd_test ?_
  | with_reducible refine rd_B ?_
  | with_reducible refine rd_bl ?_
  | with_reducible refine rd_blP ?_
  | with_reducible refine rd_andV ?_
  | with_reducible refine rd_orV ?_
  | with_reducible refine rd_notV ?_
  | with_reducible refine rd_and ?_
  | with_reducible refine rd_or ?_
  | with_reducible refine rd_not ?_
  | with_reducible refine rd_chain ?_
  | with_reducible refine rd_dput ?_
  | with_reducible refine rd_dget ?_
  | with_reducible refine rd_cb ?_
  | with_reducible refine rd_call ?_
  | with_reducible refine rd_un ?_
  | with_reducible refine rd_sl ?_
  | with_reducible refine rd_nopart ?_
  | with_reducible refine rd_part ?_
  | with_reducible refine rd_intP ?_
  | with_reducible refine rd_rU ?_
  | with_reducible refine rd_fld ?_
  | with_reducible refine rd_eqI ?_
  | with_reducible refine rd_neI ?_
  | with_reducible refine rd_mko ?_
  | with_reducible refine rd_bm ?_
  | with_reducible refine rd_gsub ?_
  | with_reducible refine rd_i0 ?_)))
theorem ok_parcel_of (T : Tx K mg) (B : Bk K mg T) : FnOk P w K mg base (L2.CX P w) 47 B.parcel_of.f B.parcel_of.fd ["row"] (spParcelOf T.CP T.c_BadRow T.c_NoRow) := by
  have G_check_row := ok_check_row (P := P) (w := w) (base := base) T B
  have G_parcel_at := ok_pa_n (P := P) (w := w) (base := base) T B 20
  have G_BadRow_init := ok_bad_init (P := P) (w := w) (base := base) T B
  refine B.parcel_of.F.okX sc_parcel_of (fun vs H Q E h => ?_) (fun cdv A outer s H vs Q E hr h => ?_)
  · obtain ⟨a, row, rfl, _⟩ := h
    rfl
  · obtain ⟨a, row, rfl, ha, q1, q2, q3⟩ := h
    refine ⟨_, (pss_cons (ps_expr (pe_call G_check_row (hr.mono (by omega)) rfl B.check_row.m B.check_row.F.kp B.check_row.b .nil (passes_call (takes_of rfl rfl rfl rfl) (fun _ _ _ _ h => h)) (pa_cons (pv 0) pa_nil)))
      (pss_cons (ps_asg (pe_call G_parcel_at (hr.mono (by omega)) rfl B.parcel_at.m B.parcel_at.F.kp B.parcel_at.b .nil (passes_call (takes_of rfl rfl rfl rfl) (fun _ _ _ _ h => h)) (pa_cons (pv 0) (pa_cons pe_int (pa_cons (pe_glob (v := .int 20) (by rfl) T.g_MOST_DEEP ⟨_, rfl⟩) pa_nil)))) (pg_tup (by rfl) (pgs_cons (pg_name (i := 1) sc_parcel_of.nd rfl (Or.inl rfl)) (pgs_cons (pg_name (i := 2) sc_parcel_of.nd rfl (Or.inl rfl)) pgs_nil))))
      (pss_cons (ps_if (pt_cmpR op_lt (pv 2) (pe_callB call_len_seq (by rfl) T.b_len (by decide +kernel) (pa_cons (pv 0) pa_nil)) (nomark _)) (pss_one (ps_raise rfl (takes_of rfl rfl rfl rfl) (pmk_oex T.x_BadRow B.BadRow_init.a B.BadRow_init.t G_BadRow_init (hr.mono (by omega)) B.BadRow_init.b .nil pass0 rfl T.g_BadRow (pa_cons (pv 2) pa_nil)))) pss_nil)
      (pss_one (ps_ret (pv 1)))))), ?_⟩
    walk_at "rd"
    refine ⟨[], _, .ref a, rfl, row_dt ha.1, by show (row.map PyData.int).length ≤ 900000; rw [List.length_map]; exact ha.3, fun H1 s1 => ⟨fun _ => ?_, fun z => ?_⟩⟩
    · walk_at "rd"
      refine ⟨a, row, 0, rfl, ha.same s1, fun d e hR t v H2 s2 ht hv => ?_, fun e hR H2 s2 => ?_⟩
      · have hle := rd_le hR
        have s12 := s1.trans s2
        refine ⟨t, _, rfl, SqT.of ht, rfl, _, _, rfl, _, _, rfl, rfl, ?_⟩
        walk_at "rd"
        refine ⟨a, _, rfl, .inr (SqT.of (s12 _ _ ha.1)), ?_⟩
        walk_at "rd"
        rw [List.length_map]
        refine rd_ite (fun h1 => ?_) (fun h1 => ?_)
        · walk_at "rd"
          exact bad_made (q2 d e hR (by have := of_decide_eq_true h1; omega) _ s12)
        · have e2 : e = row.length := by
            have := of_decide_eq_false h1
            omega
          subst e2
          walk_at "rd"
          exact q1 d hR v _ s12 hv
      · exact q3 e hR _ (s1.trans s2)
    · rw [row_isD ha.2] at z
      cases z
theorem ipw_step (T : Tx K mg) (B : Bk K mg T) {n k : Nat} (hk : 2 ≤ k) (G_is_parcel_within : FnOk P w K mg base CX0 k B.is_parcel_within.f B.is_parcel_within.fd ["deep", "thing"] (spIpw T.CP n)) :
    FnOk P w K mg base CX0 (k + 1) B.is_parcel_within.f B.is_parcel_within.fd ["deep", "thing"] (spIpw T.CP (n + 1)) := by
  have G_is_sign := ok_is_sign (P := P) (w := w) (base := base) T B
  refine B.is_parcel_within.F.ok sc_is_parcel_within (fun vs H Q E h => ?_) (fun cdv A outer s H vs Q E hr h => ?_)
  · obtain ⟨M, d, x, deep, rfl, _⟩ := h
    rfl
  · obtain ⟨M, d, x, deep, rfl, hd, hn, hz, q⟩ := h
    refine ⟨_, (pss_cons (ps_if (pt_val (pe_callB call_isi (by rfl) T.b_isinstance (by decide +kernel) (pa_cons (pv 1) (pa_cons (pe_bltn (v := .ty "tuple") (by rfl) T.b_tuple (by decide +kernel) rfl) pa_nil)))) (pss_one (ps_ret (pe_and (pe_cmpR op_gt (pv 0) pe_int (nomark _)) (pe_one (pe_callB (cr_all rfl) (by rfl) T.b_all (by decide +kernel) (pa_cons (pe_lc (own := [("item", 2)]) (g := gName 2) rfl sc_is_parcel_within.nd (pi_tup (pv 1)) (blkOk_by (own := [("item", 2)]) (N := ["deep", "thing", "item", "sign"]) (sc := defScope s_is_parcel_within) (by decide +kernel)) (fun _ _ _ _ _ => pg_name (i := 2) sc_is_parcel_within.nd rfl (Or.inl rfl)) (fun _ _ _ _ _ => pts_nil) (fun _ _ _ _ _ => (pe_call G_is_parcel_within (hr.mono (by omega)) rfl B.is_parcel_within.m B.is_parcel_within.F.kp B.is_parcel_within.b .nil pass0 (pa_cons (pe_op op_sub (pv 0) pe_int) (pa_cons (pv 2) pa_nil))))) pa_nil)))))) pss_nil)
      (pss_cons (ps_if (pt_val (pe_callB call_isi (by rfl) T.b_isinstance (by decide +kernel) (pa_cons (pv 1) (pa_cons (pe_bltn (v := .ty "str") (by rfl) T.b_str (by decide +kernel) rfl) pa_nil)))) (pss_one (ps_ret (pe_and (pe_chain op_lt op_le pe_int (pe_callB call_len_str (by rfl) T.b_len (by decide +kernel) (pa_cons (pv 1) pa_nil)) (pe_glob (v := .int 20) (by rfl) T.g_MOST_SIGNS ⟨_, rfl⟩)) (pe_one (pe_callB (cr_all rfl) (by rfl) T.b_all (by decide +kernel) (pa_cons (pe_lc (own := [("sign", 3)]) (g := gName 3) rfl sc_is_parcel_within.nd (pi_str (pv 1)) (blkOk_by (own := [("sign", 3)]) (N := ["deep", "thing", "item", "sign"]) (sc := defScope s_is_parcel_within) (by decide +kernel)) (fun _ _ _ _ _ => pg_name (i := 3) sc_is_parcel_within.nd rfl (Or.inl rfl)) (fun _ _ _ _ _ => pts_nil) (fun _ _ _ _ _ => (pe_call G_is_sign (hr.mono (by omega)) rfl B.is_sign.m B.is_sign.F.kp B.is_sign.b .nil pass0 (pa_cons (pe_callB call_ord (by rfl) T.b_ord (by decide +kernel) (pa_cons (pv 3) pa_nil)) pa_nil)))) pa_nil)))))) pss_nil)
      (pss_one (ps_ret (pe_or (pe_cmpR op_isN (pv 1) pe_non (nomark _)) (pe_one (pe_callB call_isi (by rfl) T.b_isinstance (by decide +kernel) (pa_cons (pv 1) (pa_cons (pe_bltn (v := .ty "int") (by rfl) T.b_int (by decide +kernel) rfl) pa_nil))))))))), ?_⟩
    walk_at "rd"
    have q0 := q H (Same.refl H)
    refine dt_isT T.W hd ?_
    walk_at "rd"
    have hd' := hd
    cases d with
    | tuple ds =>
      obtain ⟨a, xs, rfl, ha, hx⟩ := dt_tup' hd'
      have hlx := hx.len
      have hz' : szdAll ds + 1 ≤ 900000 := hz
      have hlen := szdAll_len ds
      refine rd_yes rfl ?_
      walk_at "rd"
      have e : isPc deep (.tuple ds) = (decide (0 < deep) && isPcAll (deep - 1) ds) := rfl
      rw [e] at q0
      refine rd_ite (fun h1 => ?_) (fun h1 => ?_)
      · have hdp : 0 < deep := by
          have := of_decide_eq_true h1
          omega
        walk_at "rd"
        show iTup _ _ _ _ _
        refine rd_itup ?_
        walk_at "rd"
        refine ⟨a, rfl, ⟨xs, SqT.of ha⟩, fun D hD => lc_tup (K := K) (a := a) (xs := xs) (fun i H1 => Same H H1 ∧ H1 D = some (.lst (((ds.take i).map (isPc (deep - 1))).map V.bl))) ⟨same_new hD, upd_same⟩ (fun i H1 _ hh => SqT.of (hh.1 _ _ ha)) ?_ ?_⟩
        · rintro i y H1 hi ⟨hs, hacc⟩
          obtain ⟨d1, hd1, td1⟩ := hx.get' hi
          have := szdAll_get hd1
          refine ⟨rfl, ?_⟩
          refine rd_tyes ?_
          refine rd_yes rfl ?_
          walk_at "rd"
          refine ⟨M, d1, y, deep - 1, ?_, td1.s hs, by omega, by omega, fun H2 s2 => ?_⟩
          · rw [show ((deep : Int) - 1) = ((deep - 1 : Nat) : Int) by omega]
            rfl
          · refine ⟨_, s2 _ _ hacc, small' (by rw [List.length_map, List.length_map, List.length_take]; omega), fun b o e => (upd_ne (ne_of_none e hD)).trans (s2 b o (hs b o e)), ?_⟩
            rw [upd_same, take_snoc hd1, List.map_append, List.map_append]
            rfl
        · rintro H1 ⟨hs, hacc⟩
          rw [← hlx, List.take_length] at hacc
          refine ⟨D, _, rfl, SqL.of hacc, ?_⟩
          have z := q H1 hs
          rw [e, decide_eq_true hdp, Bool.true_and] at z
          have e2 : isPcAll (deep - 1) ds = (ds.map (isPc (deep - 1))).all id := by
            clear z hacc q q0 e hd hd' hx hlx hz hz' hlen
            induction ds with
            | nil => rfl
            | cons d ds ih =>
              show (isPc (deep - 1) d && isPcAll (deep - 1) ds) = _
              rw [ih]
              rfl
          rw [e2] at z
          exact z
      · have hdp : ¬ 0 < deep := by
          have := of_decide_eq_false h1
          omega
        rw [decide_eq_false hdp, Bool.false_and] at q0
        exact q0
    | str z =>
      cases dt_str' hd'
      have hz' : z.length + 1 ≤ 900000 := hz
      refine rd_no rfl ?_
      walk_at "rd"
      refine dt_isS T.W hd ?_
      walk_at "rd"
      refine rd_yes rfl ?_
      walk_at "rd"
      have e : isPc deep (.str z) = ((decide (0 < z.length) && decide (z.length ≤ 20)) && (sgn z).all isSign) := rfl
      rw [e] at q0
      refine ⟨z, rfl, small (by omega), ?_⟩
      walk_at "rd"
      refine rd_ite (fun h1 => ?_) (fun h1 => ?_)
      · have h1' : 0 < z.length := by
          have := of_decide_eq_true h1
          omega
        walk_at "rd"
        refine rd_ite (fun h2 => ?_) (fun h2 => ?_)
        · have h2' : z.length ≤ 20 := by
            have := of_decide_eq_true h2
            omega
          walk_at "rd"
          show iStr _ _ _ _
          refine rd_istr ?_
          walk_at "rd"
          refine ⟨z, rfl, fun D hD => lc_it walk_str (fun i H2 => Same H H2 ∧ H2 D = some (.lst ((((sgn z).take i).map isSign).map V.bl)))
            ⟨same_new hD, upd_same⟩ (fun _ _ _ _ => trivial) ?_ ?_⟩
          · rintro i y H2 H3 hi ⟨hs, hacc⟩ ⟨rfl, c, hc, rfl⟩
            refine ⟨rfl, ?_⟩
            refine rd_tyes ?_
            refine rd_yes rfl ?_
            walk_at "rd"
            refine ⟨_, rfl, rfl, ?_⟩
            walk_at "rd"
            refine ⟨(c : Int), rfl, ?_⟩
            have hsg : (sgn z)[i]? = some (c : Int) := by
              unfold sgn
              rw [List.getElem?_map, Array.getElem?_toList, hc]
              rfl
            refine ⟨_, hacc, small' (by rw [List.length_map, List.length_map, List.length_take, sgn_len]; omega), fun b o eb => (upd_ne (ne_of_none eb hD)).trans (hs b o eb), ?_⟩
            rw [upd_same, take_snoc hsg, List.map_append, List.map_append]
            rfl
          · rintro H2 ⟨hs, hacc⟩
            rw [List.take_of_length_le (by rw [sgn_len]; exact Nat.le_refl _)] at hacc
            refine ⟨D, _, rfl, SqL.of hacc, ?_⟩
            have zz := q H2 hs
            rw [e, decide_eq_true h1', decide_eq_true h2', Bool.true_and, Bool.true_and] at zz
            have e2 : ((sgn z).map isSign).all id = (sgn z).all isSign := by
              rw [List.all_map]
              rfl
            rw [← e2] at zz
            exact zz
        · have h2' : ¬ z.length ≤ 20 := by
            have := of_decide_eq_false h2
            omega
          rw [decide_eq_false h2', Bool.and_false, Bool.false_and] at q0
          exact q0
      · have h1' : ¬ 0 < z.length := by
          have := of_decide_eq_false h1
          omega
        rw [decide_eq_false h1', Bool.false_and, Bool.false_and] at q0
        walk_at "rd"
        exact q0
    | none =>
      cases dt_non' hd'
      refine rd_no rfl ?_
      walk_at "rd"
      refine dt_isS T.W hd ?_
      walk_at "rd"
      refine rd_no rfl ?_
      walk_at "rd"
      refine ⟨rfl, ?_⟩
      walk_at "rd"
      refine rd_yes rfl ?_
      exact q0
    | bool b =>
      cases dt_bl' hd'
      refine rd_no rfl ?_
      walk_at "rd"
      refine dt_isS T.W hd ?_
      walk_at "rd"
      refine rd_no rfl ?_
      walk_at "rd"
      refine ⟨rfl, ?_⟩
      walk_at "rd"
      refine rd_no rfl ?_
      walk_at "rd"
      refine dt_isI T.W hd ?_
      exact q0
    | int b =>
      cases dt_int' hd'
      refine rd_no rfl ?_
      walk_at "rd"
      refine dt_isS T.W hd ?_
      walk_at "rd"
      refine rd_no rfl ?_
      walk_at "rd"
      refine ⟨rfl, ?_⟩
      walk_at "rd"
      refine rd_no rfl ?_
      walk_at "rd"
      refine dt_isI T.W hd ?_
      exact q0
    | list es =>
      obtain ⟨a, xs, rfl, _⟩ := dt_lst' hd'
      refine rd_no rfl ?_
      walk_at "rd"
      refine dt_isS T.W hd ?_
      walk_at "rd"
      refine rd_no rfl ?_
      walk_at "rd"
      refine ⟨rfl, ?_⟩
      walk_at "rd"
      refine rd_no rfl ?_
      walk_at "rd"
      refine dt_isI T.W hd ?_
      exact q0
    | dict es =>
      obtain ⟨a, rfl, _⟩ := dt_dic' hd'
      refine rd_no rfl ?_
      walk_at "rd"
      refine dt_isS T.W hd ?_
      walk_at "rd"
      refine rd_no rfl ?_
      walk_at "rd"
      refine ⟨rfl, ?_⟩
      walk_at "rd"
      refine rd_no rfl ?_
      walk_at "rd"
      refine dt_isI T.W hd ?_
      exact q0
theorem ok_ipw_n (T : Tx K mg) (B : Bk K mg T) : ∀ n, FnOk P w K mg base CX0 (n + 2) B.is_parcel_within.f B.is_parcel_within.fd ["deep", "thing"] (spIpw T.CP n)
  | 0 => fn_no fun vs H Q E h => by
    obtain ⟨M, d, x, deep, _, _, hn, _⟩ := h
    omega
  | n + 1 => ipw_step T B (by omega) (ok_ipw_n T B n)
theorem ok_is_parcel (T : Tx K mg) (B : Bk K mg T) : FnOk P w K mg base CX0 24 B.is_parcel.f B.is_parcel.fd ["thing"] (spIsParcel T.CP) := by
  have G_is_parcel_within := ok_ipw_n (P := P) (w := w) (base := base) T B 21
  refine B.is_parcel.F.ok sc_is_parcel (fun vs H Q E h => ?_) (fun cdv A outer s H vs Q E hr h => ?_)
  · obtain ⟨M, d, x, rfl, _⟩ := h
    rfl
  · obtain ⟨M, d, x, rfl, hd, hz, q⟩ := h
    refine ⟨_, (pss_one (ps_ret (pe_call G_is_parcel_within (hr.mono (by omega)) rfl B.is_parcel_within.m B.is_parcel_within.F.kp B.is_parcel_within.b .nil pass0 (pa_cons (pe_glob (v := .int 20) (by rfl) T.g_MOST_DEEP ⟨_, rfl⟩) (pa_cons (pv 0) pa_nil))))), ?_⟩
    walk_at "rd"
    exact ⟨M, d, x, 20, rfl, hd, by omega, hz, q⟩
theorem ok_row_of (T : Tx K mg) (B : Bk K mg T) : FnOk P w K mg base (L2.CX P w) 25 B.row_of.f B.row_of.fd ["parcel"] (spRowOf T.CP T.c_NoParcel) := by
  have G_is_parcel := ok_is_parcel (P := P) (w := w) (base := base) T B
  have G_told := ok_told_n (P := P) (w := w) (base := base) T B 21
  have G_NoParcel_init := ok_parcel_init (P := P) (w := w) (base := base) T B
  refine B.row_of.F.okX sc_row_of (fun vs H Q E h => ?_) (fun cdv A outer s H vs Q E hr h => ?_)
  · obtain ⟨M, d, x, rfl, _⟩ := h
    rfl
  · obtain ⟨M, d, x, rfl, hd, hz, hb, q1, q0⟩ := h
    refine ⟨_, (pss_cons (ps_if (pt_not (pt_val (pe_call G_is_parcel (hr.mono (by omega)) rfl B.is_parcel.m B.is_parcel.F.kp B.is_parcel.b .nil pass0 (pa_cons (pv 0) pa_nil)))) (pss_one (ps_raise rfl (takes_of rfl rfl rfl rfl) (pmk_pass T.x_NoParcel B.NoParcel_init.a B.NoParcel_init.t G_NoParcel_init (hr.mono (by omega)) B.NoParcel_init.b pass0 rfl T.g_NoParcel))) pss_nil)
      (pss_one (ps_ret (pe_callTy call_tuple_of (by rfl) T.b_tuple (by decide +kernel) (pa_cons (pe_call G_told (hr.mono (by omega)) rfl B.told.m B.told.F.kp B.told.b .nil pass0 (pa_cons (pv 0) pa_nil)) pa_nil))))), ?_⟩
    walk_at "rd"
    refine ⟨M, d, x, rfl, hd, hz, fun H1 s1 => ?_⟩
    walk_at "rd"
    refine rd_ite (fun h1 => ?_) (fun h1 => ?_)
    · intro e he
      exact ⟨⟨e, rfl, rfl, rfl⟩, q0 (by simpa using h1) _ s1⟩
    · have hp : isPc 20 d = true := by simpa using h1
      walk_at "rd"
      refine ⟨M, d, x, rfl, hd.s s1, isPc_plain d hp, by have := isPc_depth d hp; omega, hb hp, fun p H2 s2 np hp2 => ?_⟩
      walk_at "rd"
      refine ⟨p, _, rfl, .inl ⟨SqL.of hp2, fun u nu => ?_⟩⟩
      exact q1 hp u _ ((s1.trans s2).trans (same_new nu)) upd_same
theorem ok_mark_of (T : Tx K mg) (B : Bk K mg T) : FnOk P w K mg base CX0 1 B.mark_of.f B.mark_of.fd ["row"] spMarkOf := by
  refine B.mark_of.F.ok sc_mark_of (fun vs H Q E h => ?_) (fun cdv A outer s H vs Q E hr h => ?_)
  · obtain ⟨a, row, rfl, _⟩ := h
    rfl
  · obtain ⟨a, row, rfl, ha, q⟩ := h
    refine ⟨_, (pss_cons (ps_set (i := 1) sc_mark_of.nd rfl (Or.inl rfl) pe_int)
      (pss_cons (ps_for PassesOwn.never rfl (pi_tup (pv 0)) (pg_name (i := 2) sc_mark_of.nd rfl (Or.inl rfl)) (pss_one (ps_set (i := 1) sc_mark_of.nd rfl (Or.inl rfl) (pe_op op_mod (pe_op op_add (pe_op op_add (pe_op op_mul (pv 1) pe_int) (pv 2)) pe_int) (pe_glob (v := .int 2305843009213693951) (by rfl) T.g_MARK_LIMIT ⟨_, rfl⟩)))))
      (pss_one (ps_ret (pv 1))))), ?_⟩
    walk_at "rd"
    refine ⟨_, rfl, a, rfl, ⟨_, SqT.of ha⟩, for_tup (K := K) (a := a) (xs := row.map V.int) (fun i σ H1 => H1 = H ∧ ∃ u : Option V, σ = [some (.ref a), some (.int (markL (row.take i))), u])
      ⟨rfl, none, rfl⟩ (fun i σ H1 _ hh => by rw [hh.1]; exact SqT.of ha) ?_ ?_⟩
    · rintro i y σ H1 hi ⟨rfl, u, rfl⟩
      obtain ⟨b, hb, rfl⟩ := mapint_get hi
      walk_at "rd"
      refine rd_iC (.inr ⟨by decide, by decide⟩) ?_
      walk_at "rd"
      refine rd_iC (show (0 : Int) < 2305843009213693951 by decide) ?_
      walk_at "rd"
      refine ⟨rfl, some (.int b), ?_⟩
      rw [take_snoc hb, markL_snoc]
      rfl
    · rintro σ H1 ⟨rfl, u, rfl⟩
      rw [List.length_map, List.take_length]
      walk_at "rd"
      exact q
theorem ok_seal (T : Tx K mg) (B : Bk K mg T) : FnOk P w K mg base CX0 2 B.seal_.f B.seal_.fd ["row"] spSeal := by
  have G_mark_of := ok_mark_of (P := P) (w := w) (base := base) T B
  refine B.seal_.F.ok sc_seal_ (fun vs H Q E h => ?_) (fun cdv A outer s H vs Q E hr h => ?_)
  · obtain ⟨a, row, rfl, _⟩ := h
    rfl
  · obtain ⟨a, row, rfl, ha, q⟩ := h
    refine ⟨_, (pss_cons (ps_set (i := 1) sc_seal_.nd rfl (Or.inl rfl) (pe_call G_mark_of (hr.mono (by decide)) rfl B.mark_of.m B.mark_of.F.kp B.mark_of.b .nil pass0 (pa_cons (pv 0) pa_nil)))
      (pss_cons (ps_set (i := 2) sc_seal_.nd rfl (Or.inl rfl) (pe_lst pa_nil))
      (pss_cons (ps_for PassesOwn.never rfl (pi_range1 (by rfl) T.b_range (pa_cons (pe_glob (v := .int 4) (by rfl) T.g_SEAL_LENGTH ⟨_, rfl⟩) pa_nil)) (pg_name (i := 3) sc_seal_.nd rfl (Or.inl rfl)) (pss_cons (ps_expr (pe_bm PySem.F.plainAttrs_list PySem.F.slot_list_append PySem.F.type_list_append mt_append (pv 2) (pa_cons (pe_op op_mod (pv 1) (pe_glob (v := .int 256) (by rfl) T.g_BYTE_LIMIT ⟨_, rfl⟩)) pa_nil)))
      (pss_one (ps_set (i := 1) sc_seal_.nd rfl (Or.inl rfl) (pe_op op_fdiv (pv 1) (pe_glob (v := .int 256) (by rfl) T.g_BYTE_LIMIT ⟨_, rfl⟩))))))
      (pss_one (ps_ret (pe_callTy call_tuple_of (by rfl) T.b_tuple (by decide +kernel) (pa_cons (pv 2) pa_nil))))))), ?_⟩
    walk_at "rd"
    refine ⟨a, row, rfl, ha, ?_⟩
    walk_at "rd"
    refine rd_disp rfl fun l nl => ?_
    walk_at "rd"
    refine ⟨4, rfl, by decide, by decide, for_range (lo := 0) (n := 4) (fun i σ H1 => ∃ (m : Int) (acc : List Int) (u : Option V), σ = [some (.ref a), some (.int m), some (.ref l), u] ∧ Same H H1 ∧ H1 l = some (.lst (acc.map V.int)) ∧ acc.length = i ∧ acc ++ sk (4 - i) m = sealL row)
      ⟨markL row, [], none, rfl, same_new nl, upd_same, rfl, rfl⟩ ?_ ?_⟩
    · rintro i σ H1 hi ⟨m, acc, u, rfl, hs, hacc, hl, he⟩
      obtain ⟨k, hk⟩ : ∃ k, 4 - i = k + 1 := ⟨4 - i - 1, by omega⟩
      rw [hk] at he
      walk_at "rd"
      refine ⟨.inl ⟨rfl, _, SqL.of hacc⟩, ?_⟩
      walk_at "rd"
      refine rd_iC (show (0 : Int) < 256 by decide) ?_
      walk_at "rd"
      refine rd_append hacc (small' (by rw [List.length_map]; omega)) ?_
      walk_at "rd"
      refine rd_iC (show (0 : Int) < 256 ∧ (256 : Int) < 1073741824 by decide) ?_
      walk_at "rd"
      refine ⟨m / 256, acc ++ [m % 256], _, rfl, fun b o e => (upd_ne (ne_of_none e nl)).trans (hs b o e), ?_, by simp [hl], ?_⟩
      · rw [upd_same, List.map_append]
        rfl
      · rw [← he, show 4 - (i + 1) = k by omega, List.append_assoc]
        rfl
    · rintro σ H1 ⟨m, acc, u, rfl, hs, hacc, hl, he⟩
      rw [show 4 - 4 = 0 from rfl, show sk 0 m = [] from rfl, List.append_nil] at he
      walk_at "rd"
      refine ⟨l, _, rfl, .inl ⟨SqL.of hacc, fun t nt => ?_⟩⟩
      exact q t _ (hs.trans (same_new nt)) (by rw [upd_same, he])
theorem ok_sealed (T : Tx K mg) (B : Bk K mg T) : FnOk P w K mg base (L2.CX P w) 26 B.sealed.f B.sealed.fd ["parcel"] (spSealed T.CP T.c_NoParcel) := by
  have G_row_of := ok_row_of (P := P) (w := w) (base := base) T B
  have G_seal_ := ok_seal (P := P) (w := w) (base := base) T B
  refine B.sealed.F.okX sc_sealed (fun vs H Q E h => ?_) (fun cdv A outer s H vs Q E hr h => ?_)
  · obtain ⟨M, d, x, rfl, _⟩ := h
    rfl
  · obtain ⟨M, d, x, rfl, hd, hz, hb, q1, q0⟩ := h
    refine ⟨_, (pss_cons (ps_set (i := 1) sc_sealed.nd rfl (Or.inl rfl) (pe_call G_row_of (hr.mono (by decide)) rfl B.row_of.m B.row_of.F.kp B.row_of.b .nil (passes_call (takes_of rfl rfl rfl rfl) (fun _ _ _ _ h => h)) (pa_cons (pv 0) pa_nil)))
      (pss_one (ps_ret (pe_op op_catA (pv 1) (pe_call G_seal_ (hr.mono (by decide)) rfl B.seal_.m B.seal_.F.kp B.seal_.b .nil pass0 (pa_cons (pv 1) pa_nil)))))), ?_⟩
    walk_at "rd"
    refine ⟨M, d, x, rfl, hd, hz, fun hp => by have := hb hp; omega, fun hp t H1 s1 ht => ?_, q0⟩
    have hb' := hb hp
    have ne : 1 ≤ (byD d).length := Nat.le_trans (szd_pos d) (szd_by d hp)
    walk_at "rd"
    refine ⟨t, _, rfl, ht, fun t2 H2 s2 ht2 => ?_⟩
    have hsl := sealL_len (byD d)
    refine ⟨t, t2, _, _, rfl, rfl, SqT.of (s2 _ _ ht), SqT.of ht2, small (by rw [List.length_map, List.length_map]; omega), fun z => ?_, fun _ z => ?_, fun _ _ c nc => ?_⟩
    · rw [List.map_eq_nil_iff] at z
      rw [z] at ne
      simp at ne
    · rw [List.map_eq_nil_iff] at z
      rw [z] at hsl
      simp at hsl
    · walk_at "rd"
      exact q1 hp c _ ((s1.trans s2).trans (same_new nc)) (by rw [upd_same, List.map_append])
end
end Mw

/-! R12 -/
namespace Mw
open PySem L2
theorem isRow_form {d : PyData} (h : isRowD d = true) : ∃ row : List Int, d = .tuple (row.map PyData.int) ∧ ∀ b ∈ row, 0 ≤ b ∧ b < 256 := by
  cases d with
  | tuple ds =>
    have h' : (ds.map isByte).all id = true := h
    rw [List.all_map] at h'
    have h2 : ∀ x ∈ ds, isByte x = true := fun x hx => List.all_eq_true.mp h' x hx
    clear h h'
    induction ds with
    | nil => exact ⟨[], rfl, fun b hb => by cases hb⟩
    | cons x ds ih =>
      obtain ⟨row, e, hb⟩ := ih fun y hy => h2 y (List.mem_cons_of_mem _ hy)
      have hx := h2 x (by simp)
      cases x with
      | int i =>
        have hx' : (decide (0 ≤ i) && decide (i < 256)) = true := hx
        simp only [Bool.and_eq_true, decide_eq_true_eq] at hx'
        injection e with e
        refine ⟨i :: row, by rw [List.map_cons, e], fun b hb' => ?_⟩
        rcases List.mem_cons.mp hb' with z | z
        · rw [z]
          exact hx'
        · exact hb b z
      | _ => cases hx
  | _ => cases h
theorem cut_body (row : List Int) : cutV (row.map V.int) none (some (-4)) = (body row).map V.int := by
  unfold cutV body
  have e : HT.sIx (row.map V.int).length (row.map V.int).length (some (-4)) = row.length - 4 := by
    show (if (-4 : Int) < 0 then ((-4 : Int) + ((row.map V.int).length : Int)).toNat else min (-4 : Int).toNat (row.map V.int).length) = row.length - 4
    rw [if_pos (by decide), List.length_map]
    omega
  rw [e]
  show ((row.map V.int).drop 0).take (row.length - 4 - 0) = _
  rw [List.drop_zero, Nat.sub_zero, List.map_take]
theorem cut_tail (row : List Int) : cutV (row.map V.int) (some (-4)) none = (tail4 row).map V.int := by
  unfold cutV tail4
  have e : HT.sIx (row.map V.int).length 0 (some (-4)) = row.length - 4 := by
    show (if (-4 : Int) < 0 then ((-4 : Int) + ((row.map V.int).length : Int)).toNat else min (-4 : Int).toNat (row.map V.int).length) = row.length - 4
    rw [if_pos (by decide), List.length_map]
    omega
  rw [e]
  show ((row.map V.int).drop (row.length - 4)).take ((row.map V.int).length - (row.length - 4)) = _
  rw [List.take_of_length_le (by rw [List.length_drop]; exact Nat.le_refl _), List.map_drop]
theorem body_by {row : List Int} (h : ∀ b ∈ row, 0 ≤ b ∧ b < 256) : ∀ b ∈ body row, 0 ≤ b ∧ b < 256 := fun b hb => h b (List.mem_of_mem_take hb)
theorem body_len (row : List Int) : (body row).length ≤ row.length := by
  unfold body
  rw [List.length_take]
  omega
def spUnsealed (CP : Addr → Prop) : Sp := fun vs H Q _ => ∃ M d x, vs = [x] ∧ Dt CP M H d x ∧ lenD d ≤ 900000 ∧
  (isRowD d = false → ∀ t H', Same H H' → H' t = some (.tup []) → Q (.ref t) H') ∧
  (∀ row : List Int, d = .tuple (row.map PyData.int) → (∀ b ∈ row, 0 ≤ b ∧ b < 256) → ∀ D v H', OpD row D → Same H H' → Dt CP [] H' D v → Q v H')
section
variable {P : Program} {w : World} {K : PySem.W.Frag} {mg : Str → Option Value} {base : Heap}
local macro_rules | `(tactic| walk_at "rd") => `(tactic| (repeat (first
  | ((with_reducible refine' rd_var ?h0 ?_); (case h0 => rfl))
  | with_reducible refine rd_c ?_
  | with_reducible refine rd_op ?_
  | with_reducible refine rd_nil ?_
  | with_reducible refine rd_cons ?_
  | with_reducible refine rd_tup ?_
  | with_reducible refine rd_lst ?_
  | with_reducible refine rd_ifs ?_
  | with_reducible refine rd_seq ?_
  | with_reducible refine rd_next ?_
  | with_reducible refine rd_ret ?_
  | with_reducible refine rd_asg ?_
  | ((with_reducible refine' rd_gset ?hs ?_); (case hs => ((simp only [L2.start, List.map_cons, List.map_nil, List.length_cons, List.length_nil, List.cons_append, List.nil_append, List.set_cons_zero, List.set_cons_succ, Nat.reduceAdd, Nat.reduceSub, Nat.zero_add, List.reduceReplicate]); rfl)))
  | with_reducible refine rd_drop ?_
  | with_reducible refine rd_test ?_
  | with_reducible refine rd_B ?_
  | with_reducible refine rd_bl ?_
  | with_reducible refine rd_blP ?_
  | with_reducible refine rd_andV ?_
  | with_reducible refine rd_orV ?_
  | with_reducible refine rd_notV ?_
  | with_reducible refine rd_and ?_
  | with_reducible refine rd_or ?_
  | with_reducible refine rd_not ?_
  | with_reducible refine rd_chain ?_
  | with_reducible refine rd_dput ?_
  | with_reducible refine rd_dget ?_
  | with_reducible refine rd_cb ?_
  | with_reducible refine rd_call ?_
  | with_reducible refine rd_un ?_
  | with_reducible refine rd_sl ?_
  | with_reducible refine rd_nopart ?_
  | with_reducible refine rd_part ?_
  | with_reducible refine rd_intP ?_
  | with_reducible refine rd_rU ?_
  | with_reducible refine rd_fld ?_
  | with_reducible refine rd_eqI ?_
  | with_reducible refine rd_neI ?_
  | with_reducible refine rd_mko ?_
  | with_reducible refine rd_bm ?_
  | with_reducible refine rd_gsub ?_
  | with_reducible refine rd_i0 ?_)))
end
end Mw

/-! R13 -/
namespace Mw
open PySem L2
theorem lc_zipT {K : PySem.W.Frag} {a b : Addr} {xs ys : List V} {g : TG} {tt : TT} {te : TE} {vs : List Nat} {σ : L2.St} {H1 : Hp} {D : Addr} {Qd : Hp → Prop} (hl : xs.length = ys.length) (Pv : Nat → Hp → Prop) (h0 : Pv 0 (upd H1 D (.lst [])))
    (hq : ∀ i H, Pv i H → SqT K H a xs ∧ SqT K H b ys)
    (hs : ∀ (i : Nat) (x y : V) (t : Addr) (H : Hp), xs[i]? = some x → ys[i]? = some y → Pv i H → H t = none → g (.ref t) (wipe σ vs) (upd H t (.tup [x, y])) fun σ2 H2 => wipe σ2 vs = wipe σ vs ∧
      tt σ2 H2 fun b H3 => if b = true then te σ2 H3 fun y H4 => ∃ acc, H4 D = some (.lst acc) ∧ acc.length < sizeLine ∧ Pv (i + 1) (upd H4 D (.lst (acc ++ [y]))) else Pv (i + 1) H3)
    (hd : ∀ H, Pv xs.length H → Qd H) :
    ∃ W : Nat → Nat → Hp → Prop, (∃ m, W 0 m (upd H1 D (.lst []))) ∧ ∀ i m H, W i m H → (RZ.ItzT K a b).stop i H ∧ Qd H ∨ (RZ.ItzT K a b).go i H ∧ ∃ Nx : Hp → Prop, (∀ H', Nx H' → ∃ m', m' < m ∧ W (i + 1) m' H') ∧
      ∀ x H', (RZ.ItzT K a b).yld i H x H' → g x (wipe σ vs) H' fun σ2 H2 => wipe σ2 vs = wipe σ vs ∧ tt σ2 H2 fun b H3 => if b = true then te σ2 H3 fun y H4 => ∃ acc, H4 D = some (.lst acc) ∧ acc.length < sizeLine ∧ Nx (upd H4 D (.lst (acc ++ [y]))) else Nx H3 := by
  refine ⟨fun i m H => m = xs.length - i ∧ i ≤ xs.length ∧ Pv i H, ⟨_, rfl, Nat.zero_le _, h0⟩, ?_⟩
  rintro i m H ⟨rfl, hi, hP⟩
  obtain ⟨q1, q2⟩ := hq i H hP
  by_cases e : i = xs.length
  · exact .inl ⟨⟨xs, ys, q1, q2, .inl (Nat.le_of_eq e.symm)⟩, hd H (e ▸ hP)⟩
  · have hlt : i < xs.length := by omega
    have hx : xs[i]? = some xs[i] := by simp [hlt]
    have hy : ys[i]? = some (ys[i]'(hl ▸ hlt)) := by simp
    refine .inr ⟨⟨xs, ys, _, _, q1, q2, hx, hy⟩, Pv (i + 1), fun H' h => ⟨xs.length - (i + 1), by omega, rfl, by omega, h⟩, ?_⟩
    rintro v H' ⟨t, x, y, rfl, ht, rfl, ex, ey⟩
    exact hs i x y t H (ex xs q1) (ey ys q2) hP ht
def spIs : Sp := fun vs H Q _ => ∃ i : Int, vs = [.int i, .int i] ∧ 0 ≤ i ∧ i < 2305843009213693951 ∧ Q (.bl true) H
/-- two that tell the same plain thing -/
def spSame (CP : Addr → Prop) (n : Nat) : Sp := fun vs H Q _ => ∃ M1 M2 d v1 v2, vs = [v1, v2] ∧ plainD d = true ∧ d.depth < n ∧ szd d ≤ 900000 ∧ Dt CP M1 H d v1 ∧ Dt CP M2 H d v2 ∧ ∀ H', Same H H' → Q (.bl true) H'
def spLSign : Sp := fun vs H Q _ => ∃ b : Int, vs = [.int b] ∧ isSign b = true ∧ Q (.str ⟨#[b.toNat]⟩) H
theorem lsign_at {c : Int} (h : isSign c = true) : atI ((" !\"#$&'()*+,-./0123456789:;<=>?@ABCDEFGHIJKLMNOPQRSTUVWXYZ[\\]^_" : Str) ++ ("`abcdefghijklmnopqrstuvwxyz{|}~" : Str)).cps.toList (c - 32 - (if decide (37 < c) then 1 else 0)) = some c.toNat := by
  have key : ∀ n : Nat, n < 127 → isSign (n : Int) = true → ((" !\"#$&'()*+,-./0123456789:;<=>?@ABCDEFGHIJKLMNOPQRSTUVWXYZ[\\]^_" : Str) ++ ("`abcdefghijklmnopqrstuvwxyz{|}~" : Str)).cps.toList[((n : Int) - 32 - (if decide (37 < (n : Int)) then 1 else 0)).toNat]? = some n := by decide +kernel
  have hb : 0 ≤ c ∧ c < 127 ∧ 32 ≤ c := by
    unfold isSign at h
    simp only [Bool.and_eq_true, decide_eq_true_eq] at h
    omega
  have e : c = (c.toNat : Int) := by omega
  rw [e] at h
  have := key c.toNat (by omega) h
  rw [← e] at this
  refine at_of (j := (c - 32 - (if decide (37 < c) then 1 else 0)).toNat) ?_ this
  by_cases z : 37 < c
  · rw [decide_eq_true z, if_pos rfl]
    omega
  · rw [decide_eq_false z, if_neg (by decide)]
    omega
def spLWhole : Sp := fun vs H Q _ => ∃ (a : Addr) (row : List Int) (h : Nat), vs = [.ref a, .int (h : Int)] ∧ RowAt H a row ∧ h ≤ row.length ∧
  (∀ n e, whR row h = some (n, e) → ∀ t H', Same H H' → H' t = some (.tup [.int n, .int (e : Nat)]) → Q (.ref t) H') ∧ (whR row h = none → ∀ t H', Same H H' → H' t = some (.tup [.non, .int (h : Int)]) → Q (.ref t) H')
def spLMark : Sp := spMarkOf
section
variable {P : Program} {w : World} {K : PySem.W.Frag} {mg : Str → Option Value} {base : Heap}
local macro_rules | `(tactic| walk_at "rd") => `(tactic| (repeat (first
  | ((with_reducible refine' rd_var ?h0 ?_); (case h0 => rfl))
  | with_reducible refine rd_c ?_
  | with_reducible refine rd_op ?_
  | with_reducible refine rd_nil ?_
  | with_reducible refine rd_cons ?_
  | with_reducible refine rd_tup ?_
  | with_reducible refine rd_lst ?_
  | with_reducible refine rd_ifs ?_
  | with_reducible refine rd_seq ?_
  | with_reducible refine rd_next ?_
  | with_reducible refine rd_ret ?_
  | with_reducible refine rd_asg ?_
  | ((with_reducible refine' rd_gset ?hs ?_); (case hs => ((simp only [L2.start, List.map_cons, List.map_nil, List.length_cons, List.length_nil, List.cons_append, List.nil_append, List.set_cons_zero, List.set_cons_succ, Nat.reduceAdd, Nat.reduceSub, Nat.zero_add, List.reduceReplicate]); rfl)))
  | with_reducible refine rd_drop ?_
  | with_reducible refine rd_test ?_
  | with_reducible refine rd_B ?_
  | with_reducible refine rd_bl ?_
  | with_reducible refine rd_blP ?_
  | with_reducible refine rd_andV ?_
  | with_reducible refine rd_orV ?_
  | with_reducible refine rd_notV ?_
  | with_reducible refine rd_and ?_
  | with_reducible refine rd_or ?_
  | with_reducible refine rd_not ?_
  | with_reducible refine rd_chain ?_
  | with_reducible refine rd_dput ?_
  | with_reducible refine rd_dget ?_
  | with_reducible refine rd_cb ?_
  | with_reducible refine rd_call ?_
  | with_reducible refine rd_un ?_
  | with_reducible refine rd_sl ?_
  | with_reducible refine rd_nopart ?_
  | with_reducible refine rd_part ?_
  | with_reducible refine rd_intP ?_
  | with_reducible refine rd_rU ?_
  | with_reducible refine rd_fld ?_
  | with_reducible refine rd_eqI ?_
  | with_reducible refine rd_neI ?_
  | with_reducible refine rd_mko ?_
  | with_reducible refine rd_bm ?_
  | with_reducible refine rd_gsub ?_
  | with_reducible refine rd_i0 ?_)))
theorem ok_law_is (T : Tx K mg) (B : Bk K mg T) : FnOk P w K mg base CX0 1 B.law_is.f B.law_is.fd ["_law_told_here", "_law_due"] spIs := by
  refine B.law_is.F.ok sc_law_is (fun vs H Q E h => ?_) (fun cdv A outer s H vs Q E hr h => ?_)
  · obtain ⟨i, rfl, _⟩ := h
    rfl
  · obtain ⟨i, rfl, i0, i1, q⟩ := h
    have hlog : i.natAbs.log2 < 1920 := by
      have h1 : i.natAbs < 2 ^ 1920 := Nat.lt_of_lt_of_le (show i.natAbs < 2 ^ 61 by
        have : (2 : Nat) ^ 61 = 2305843009213693952 := by decide
        omega) (Nat.pow_le_pow_right (by decide) (by decide))
      by_cases z : i.natAbs = 0
      · rw [z]
        decide
      · exact (Nat.log2_lt z).mpr h1
    refine ⟨_, (pss_one (ps_ret (pe_cmpR op_eq (pe_callB SkE.call_repr_int (by rfl) T.b_repr (by decide +kernel) (pa_cons (pv 0) pa_nil)) (pe_callB SkE.call_repr_int (by rfl) T.b_repr (by decide +kernel) (pa_cons (pv 1) pa_nil)) (nomark _)))), ?_⟩
    walk_at "rd"
    refine ⟨i, rfl, hlog, ?_⟩
    walk_at "rd"
    refine ⟨i, rfl, hlog, ?_⟩
    refine rd_eq rfl ?_
    rw [decide_eq_true rfl]
    exact q
theorem same_step (T : Tx K mg) (B : Bk K mg T) {n k : Nat} (hk : 1 ≤ k) (G_law_same : FnOk P w K mg base CX0 k B.law_same.f B.law_same.fd ["_law_one", "_law_other"] (spSame T.CP n)) :
    FnOk P w K mg base CX0 (k + 1) B.law_same.f B.law_same.fd ["_law_one", "_law_other"] (spSame T.CP (n + 1)) := by
  refine B.law_same.F.ok sc_law_same (fun vs H Q E h => ?_) (fun cdv A outer s H vs Q E hr h => ?_)
  · obtain ⟨M1, M2, d, v1, v2, rfl, _⟩ := h
    rfl
  · obtain ⟨M1, M2, d, v1, v2, rfl, hp, hdep, hz, t1, t2, q⟩ := h
    refine ⟨_, (pss_cons (ps_if (PW.pt (pw_or (pt_val (pe_callB call_isi (by rfl) T.b_isinstance (by decide +kernel) (pa_cons (pv 0) (pa_cons (pe_bltn (v := .ty "tuple") (by rfl) T.b_tuple (by decide +kernel) rfl) pa_nil)))) (pw_or1 (pt_val (pe_callB call_isi (by rfl) T.b_isinstance (by decide +kernel) (pa_cons (pv 1) (pa_cons (pe_bltn (v := .ty "tuple") (by rfl) T.b_tuple (by decide +kernel) rfl) pa_nil))))))) (pss_cons (ps_if (PW.pt (pw_or (pt_not (pt_val (pe_callB call_isi (by rfl) T.b_isinstance (by decide +kernel) (pa_cons (pv 0) (pa_cons (pe_bltn (v := .ty "tuple") (by rfl) T.b_tuple (by decide +kernel) rfl) pa_nil))))) (pw_or (pt_not (pt_val (pe_callB call_isi (by rfl) T.b_isinstance (by decide +kernel) (pa_cons (pv 1) (pa_cons (pe_bltn (v := .ty "tuple") (by rfl) T.b_tuple (by decide +kernel) rfl) pa_nil))))) (pw_or1 (pt_cmpR op_ne (pe_callB call_len_seq (by rfl) T.b_len (by decide +kernel) (pa_cons (pv 0) pa_nil)) (pe_callB call_len_seq (by rfl) T.b_len (by decide +kernel) (pa_cons (pv 1) pa_nil)) (nomark _)))))) (pss_one (ps_ret pe_bl)) pss_nil)
      (pss_one (ps_ret (pe_callB (cr_all rfl) (by rfl) T.b_all (by decide +kernel) (pa_cons (pe_lc (own := [("_law_first_here", 2), ("_law_later", 3)]) (g := (gTup K 2 (gCons (gName 2) (gCons (gName 3) gNil)))) rfl sc_law_same.nd (RZ.pi_zipA (by rfl) T.b_zip (pa_cons (pv 0) (pa_cons (pv 1) pa_nil))) (blkOk_by (own := [("_law_first_here", 2), ("_law_later", 3)]) (N := ["_law_one", "_law_other", "_law_first_here", "_law_later"]) (sc := defScope s_law_same) (by decide +kernel)) (fun _ _ _ _ _ => (pg_tup (by rfl) (pgs_cons (pg_name (i := 2) sc_law_same.nd rfl (Or.inl rfl)) (pgs_cons (pg_name (i := 3) sc_law_same.nd rfl (Or.inl rfl)) pgs_nil)))) (fun _ _ _ _ _ => pts_nil) (fun _ _ _ _ _ => (pe_call G_law_same (hr.mono (by omega)) rfl B.law_same.m B.law_same.F.kp B.law_same.b .nil pass0 (pa_cons (pv 2) (pa_cons (pv 3) pa_nil))))) pa_nil))))) pss_nil)
      (pss_cons (ps_if (PW.pt (pw_or (pt_cmpR op_ne (pe_callB call_isi (by rfl) T.b_isinstance (by decide +kernel) (pa_cons (pv 0) (pa_cons (pe_bltn (v := .ty "bool") (by rfl) T.b_bool (by decide +kernel) rfl) pa_nil))) (pe_callB call_isi (by rfl) T.b_isinstance (by decide +kernel) (pa_cons (pv 1) (pa_cons (pe_bltn (v := .ty "bool") (by rfl) T.b_bool (by decide +kernel) rfl) pa_nil))) (nomark _)) (pw_or1 (pt_cmpR op_ne (pe_callB call_isi (by rfl) T.b_isinstance (by decide +kernel) (pa_cons (pv 0) (pa_cons (pe_bltn (v := .ty "str") (by rfl) T.b_str (by decide +kernel) rfl) pa_nil))) (pe_callB call_isi (by rfl) T.b_isinstance (by decide +kernel) (pa_cons (pv 1) (pa_cons (pe_bltn (v := .ty "str") (by rfl) T.b_str (by decide +kernel) rfl) pa_nil))) (nomark _))))) (pss_one (ps_ret pe_bl)) pss_nil)
      (pss_one (ps_ret (pe_cmpR op_eq (pv 0) (pv 1) (nomark _)))))), ?_⟩
    have q0 := q H (Same.refl H)
    cases d with
    | none =>
      have t1' := t1
      have t2' := t2
      cases dt_non' t1'
      cases dt_non' t2'
      walk_at "rd"
      refine dt_isT T.W t1 ?_
      walk_at "rd"
      refine rd_no rfl ?_
      walk_at "rd"
      refine dt_isT T.W t2 ?_
      walk_at "rd"
      refine rd_no rfl ?_
      walk_at "rd"
      refine dt_isB T.W t1 ?_
      walk_at "rd"
      refine dt_isB T.W t2 ?_
      refine rd_ne rfl ?_
      walk_at "rd"
      refine rd_no rfl ?_
      walk_at "rd"
      refine dt_isS T.W t1 ?_
      walk_at "rd"
      refine dt_isS T.W t2 ?_
      refine rd_ne rfl ?_
      walk_at "rd"
      refine rd_no rfl ?_
      walk_at "rd"
      refine rd_eq rfl ?_
      rw [decide_eq_true rfl]
      exact q0
    | bool b =>
      have t1' := t1
      have t2' := t2
      cases dt_bl' t1'
      cases dt_bl' t2'
      walk_at "rd"
      refine dt_isT T.W t1 ?_
      walk_at "rd"
      refine rd_no rfl ?_
      walk_at "rd"
      refine dt_isT T.W t2 ?_
      walk_at "rd"
      refine rd_no rfl ?_
      walk_at "rd"
      refine dt_isB T.W t1 ?_
      walk_at "rd"
      refine dt_isB T.W t2 ?_
      refine rd_ne rfl ?_
      walk_at "rd"
      refine rd_no rfl ?_
      walk_at "rd"
      refine dt_isS T.W t1 ?_
      walk_at "rd"
      refine dt_isS T.W t2 ?_
      refine rd_ne rfl ?_
      walk_at "rd"
      refine rd_no rfl ?_
      walk_at "rd"
      refine rd_eq rfl ?_
      rw [decide_eq_true rfl]
      exact q0
    | int b =>
      have t1' := t1
      have t2' := t2
      cases dt_int' t1'
      cases dt_int' t2'
      walk_at "rd"
      refine dt_isT T.W t1 ?_
      walk_at "rd"
      refine rd_no rfl ?_
      walk_at "rd"
      refine dt_isT T.W t2 ?_
      walk_at "rd"
      refine rd_no rfl ?_
      walk_at "rd"
      refine dt_isB T.W t1 ?_
      walk_at "rd"
      refine dt_isB T.W t2 ?_
      refine rd_ne rfl ?_
      walk_at "rd"
      refine rd_no rfl ?_
      walk_at "rd"
      refine dt_isS T.W t1 ?_
      walk_at "rd"
      refine dt_isS T.W t2 ?_
      refine rd_ne rfl ?_
      walk_at "rd"
      refine rd_no rfl ?_
      walk_at "rd"
      rw [decide_eq_true rfl]
      exact q0
    | str b =>
      have t1' := t1
      have t2' := t2
      cases dt_str' t1'
      cases dt_str' t2'
      walk_at "rd"
      refine dt_isT T.W t1 ?_
      walk_at "rd"
      refine rd_no rfl ?_
      walk_at "rd"
      refine dt_isT T.W t2 ?_
      walk_at "rd"
      refine rd_no rfl ?_
      walk_at "rd"
      refine dt_isB T.W t1 ?_
      walk_at "rd"
      refine dt_isB T.W t2 ?_
      refine rd_ne rfl ?_
      walk_at "rd"
      refine rd_no rfl ?_
      walk_at "rd"
      refine dt_isS T.W t1 ?_
      walk_at "rd"
      refine dt_isS T.W t2 ?_
      refine rd_ne rfl ?_
      walk_at "rd"
      refine rd_no rfl ?_
      walk_at "rd"
      refine rd_eq rfl ?_
      rw [decide_eq_true rfl]
      exact q0
    | tuple ds =>
      obtain ⟨a1, xs1, rfl, ha1, hx1⟩ := dt_tup' (id t1)
      obtain ⟨a2, xs2, rfl, ha2, hx2⟩ := dt_tup' (id t2)
      have hl1 := hx1.len
      have hl2 := hx2.len
      have hz' : szdAll ds + 1 ≤ 900000 := hz
      have hlen := szdAll_len ds
      have hdep2 : PyData.depthAll ds + 1 < n + 1 := hdep
      walk_at "rd"
      refine dt_isT T.W t1 ?_
      walk_at "rd"
      refine rd_yes rfl ?_
      refine rd_yes rfl ?_
      walk_at "rd"
      refine dt_isT T.W t1 ?_
      walk_at "rd"
      refine rd_no rfl ?_
      walk_at "rd"
      refine dt_isT T.W t2 ?_
      walk_at "rd"
      refine rd_no rfl ?_
      walk_at "rd"
      refine ⟨a1, xs1, rfl, .inr (SqT.of ha1), ?_⟩
      walk_at "rd"
      refine ⟨a2, xs2, rfl, .inr (SqT.of ha2), ?_⟩
      walk_at "rd"
      refine rd_no (by rw [← hl1, ← hl2]; simp) ?_
      walk_at "rd"
      show RZ.iZipA _ _ _ _ _
      refine rd_izip ?_
      walk_at "rd"
      refine ⟨a1, a2, xs1, xs2, rfl, .inr ⟨SqT.of ha1, SqT.of ha2, fun D hD => lc_zipT (K := K) (by omega) (fun i H1 => Same H H1 ∧ H1 D = some (.lst (((ds.take i).map fun _ => true).map V.bl))) ⟨same_new hD, upd_same⟩
        (fun i H1 hh => ⟨SqT.of (hh.1 _ _ ha1), SqT.of (hh.1 _ _ ha2)⟩) ?_ ?_⟩⟩
      · rintro i x y U H1 hx hy ⟨hs, hacc⟩ hU
        obtain ⟨d1, e1, f1⟩ := hx1.get' hx
        obtain ⟨d2, e2, f2⟩ := hx2.get' hy
        rw [e1] at e2
        cases e2
        have su := same_new (o := .tup [x, y]) hU
        have s1 := hs.trans su
        refine ⟨U, _, rfl, SqT.of upd_same, rfl, _, _, rfl, _, _, rfl, rfl, ?_⟩
        refine ⟨rfl, ?_⟩
        refine rd_tyes ?_
        refine rd_yes rfl ?_
        walk_at "rd"
        have hdd := depthAll_get e1
        have hzz := szdAll_get e1
        refine ⟨M1, M2, d1, x, y, rfl, plainAll_get hp e1, by omega, by omega, f1.s s1, f2.s s1, fun H2 s2 => ?_⟩
        refine ⟨_, s2 _ _ (su _ _ hacc), small' (by rw [List.length_map, List.length_map, List.length_take]; omega), fun b o e => (upd_ne (ne_of_none e hD)).trans (s2 b o (s1 b o e)), ?_⟩
        rw [upd_same, take_snoc e1, List.map_append, List.map_append]
        rfl
      · rintro H1 ⟨hs, hacc⟩
        refine ⟨D, _, rfl, SqL.of hacc, ?_⟩
        have e : (((ds.take xs1.length).map fun _ => true).all id) = true := by
          rw [List.all_map]
          simp
        rw [e]
        exact q _ hs
    | list es => simp only [plainD] at hp; cases hp
    | dict es => simp only [plainD] at hp; cases hp
theorem ok_same_n (T : Tx K mg) (B : Bk K mg T) : ∀ n, FnOk P w K mg base CX0 (n + 1) B.law_same.f B.law_same.fd ["_law_one", "_law_other"] (spSame T.CP n)
  | 0 => fn_no fun vs H Q E h => by
    obtain ⟨M1, M2, d, v1, v2, _, _, hn, _⟩ := h
    omega
  | n + 1 => same_step T B (by omega) (ok_same_n T B n)
theorem ok_law_sign (T : Tx K mg) (B : Bk K mg T) : FnOk P w K mg base CX0 1 B.law_sign.f B.law_sign.fd ["_law_byte"] spLSign := by
  refine B.law_sign.F.ok sc_law_sign (fun vs H Q E h => ?_) (fun cdv A outer s H vs Q E hr h => ?_)
  · obtain ⟨b, rfl, _⟩ := h
    rfl
  · obtain ⟨b, rfl, hb, q⟩ := h
    refine ⟨_, (pss_cons (ps_set (i := 1) sc_law_sign.nd rfl (Or.inl rfl) pe_str)
      (pss_cons (ps_set (i := 1) sc_law_sign.nd rfl (Or.inl rfl) (pe_op op_add_str (pv 1) pe_str))
      (pss_one (ps_ret (pe_ix ix_str (pv 1) (pe_op op_sub (pe_op op_sub (pv 0) pe_int) (pe_callTy call_int1 (by rfl) T.b_int (by decide +kernel) (pa_cons (pe_cmpR op_gt (pv 0) pe_int (nomark _)) pa_nil))) (fun _ _ => rfl)))))), ?_⟩
    walk_at "rd"
    refine ⟨_, _, rfl, rfl, by decide, ?_⟩
    walk_at "rd"
    refine .inr ⟨_, rfl, ?_⟩
    walk_at "rd"
    exact ⟨_, _, _, rfl, rfl, by decide, lsign_at hb, q⟩
end
end Mw

/-! R14 -/
namespace Mw
open PySem L2
def spLString : Sp := fun vs H Q _ => ∃ (a : Addr) (row : List Int) (b h : Nat) (m : Int), vs = [.ref a, .int (b : Int), .int m, .int (h : Int)] ∧ RowAt H a row ∧ h ≤ row.length ∧ 0 ≤ m ∧
  ((m = 0 ∨ 20 < m) → ∀ t H', Same H H' → H' t = some (.tup [.non, .int (b : Int)]) → Q (.ref t) H') ∧
  (¬ (m = 0 ∨ 20 < m) → (∀ cs e, strR row m.toNat h = .ok cs e → ∀ t u H', Same H H' → H' t = some (.tup [.ref u, .int (e : Nat)]) → H' u = some (.tup [.str (strOf cs)]) → Q (.ref t) H') ∧ (∀ e, strR row m.toNat h = .bad e → ∀ t H', Same H H' → H' t = some (.tup [.non, .int (e : Nat)]) → Q (.ref t) H'))
theorem rd_min2 {r : List V → Hp → VK → Prop} {H : Hp} {Q : VK} {vs : List V} (h : r vs H Q) : r vs H Q := h
section
variable {P : Program} {w : World} {K : PySem.W.Frag} {mg : Str → Option Value} {base : Heap}
local macro_rules | `(tactic| walk_at "rd") => `(tactic| (repeat (first
  | ((with_reducible refine' rd_var ?h0 ?_); (case h0 => rfl))
  | with_reducible refine rd_c ?_
  | with_reducible refine rd_op ?_
  | with_reducible refine rd_nil ?_
  | with_reducible refine rd_cons ?_
  | with_reducible refine rd_tup ?_
  | with_reducible refine rd_lst ?_
  | with_reducible refine rd_ifs ?_
  | with_reducible refine rd_seq ?_
  | with_reducible refine rd_next ?_
  | with_reducible refine rd_ret ?_
  | with_reducible refine rd_asg ?_
  | ((with_reducible refine' rd_gset ?hs ?_); (case hs => ((simp only [L2.start, List.map_cons, List.map_nil, List.length_cons, List.length_nil, List.cons_append, List.nil_append, List.set_cons_zero, List.set_cons_succ, Nat.reduceAdd, Nat.reduceSub, Nat.zero_add, List.reduceReplicate]); rfl)))
  | with_reducible refine rd_drop ?_
  | with_reducible refine rd_test ?_
  | with_reducible refine rd_B ?_
  | with_reducible refine rd_bl ?_
  | with_reducible refine rd_blP ?_
  | with_reducible refine rd_andV ?_
  | with_reducible refine rd_orV ?_
  | with_reducible refine rd_notV ?_
  | with_reducible refine rd_and ?_
  | with_reducible refine rd_or ?_
  | with_reducible refine rd_not ?_
  | with_reducible refine rd_chain ?_
  | with_reducible refine rd_dput ?_
  | with_reducible refine rd_dget ?_
  | with_reducible refine rd_cb ?_
  | with_reducible refine rd_call ?_
  | with_reducible refine rd_un ?_
  | with_reducible refine rd_sl ?_
  | with_reducible refine rd_nopart ?_
  | with_reducible refine rd_part ?_
  | with_reducible refine rd_intP ?_
  | with_reducible refine rd_rU ?_
  | with_reducible refine rd_fld ?_
  | with_reducible refine rd_eqI ?_
  | with_reducible refine rd_neI ?_
  | with_reducible refine rd_mko ?_
  | with_reducible refine rd_bm ?_
  | with_reducible refine rd_gsub ?_
  | with_reducible refine rd_i0 ?_)))
theorem ok_law_read_whole (T : Tx K mg) (B : Bk K mg T) : FnOk P w K mg base CX0 1 B.law_read_whole.f B.law_read_whole.fd ["_law_row", "_law_at"] spLWhole := by
  refine B.law_read_whole.F.ok sc_law_read_whole (fun vs H Q E h => ?_) (fun cdv A outer s H vs Q E hr h => ?_)
  · obtain ⟨a, row, h, rfl, _⟩ := h
    rfl
  · obtain ⟨a, row, h, rfl, ha, hl, q1, q0⟩ := h
    have hle := ha.le
    refine ⟨_, (pss_cons (ps_for PassesOwn.never rfl (pi_range2 (by rfl) T.b_range (pa_cons (pe_op op_add (pv 1) pe_int) (pa_cons (pe_op op_add (pe_callB call_len_seq (by rfl) T.b_len (by decide +kernel) (pa_cons (pv 0) pa_nil)) pe_int) pa_nil))) (pg_name (i := 2) sc_law_read_whole.nd rfl (Or.inl rfl)) (pss_one (ps_if (pt_cmpR op_lt (pe_ix ix_tup (pv 0) (pe_op op_sub (pv 2) pe_int) (fun _ _ => rfl)) pe_int (nomark _)) (C8.pss_cut (ps_if (PW.pt (pw_and (pt_cmpR op_eq (pe_ix ix_tup (pv 0) (pe_op op_sub (pv 2) pe_int) (fun _ _ => rfl)) pe_int (nomark _)) (pw_and1 (pt_cmpR op_gt (pe_op op_sub (pv 2) (pv 1)) pe_int (nomark _))))) (pss_one (ps_ret (pe_tup (pa_cons pe_non (pa_cons (pv 1) pa_nil))))) pss_nil)
      (pss_cons (ps_set (i := 3) sc_law_read_whole.nd rfl (Or.inl rfl) pe_int)
      (pss_cons (ps_for PassesOwn.never rfl (pi_tup (pe_revT (pe_slice sl_tupA (pv 0) (po_some (pv 1)) (po_some (pv 2))))) (pg_name (i := 4) sc_law_read_whole.nd rfl (Or.inl rfl)) (pss_one (ps_set (i := 3) sc_law_read_whole.nd rfl (Or.inl rfl) (pe_op op_add (pe_op op_mul (pv 3) pe_int) (pe_op op_mod (pe_callTy call_int1 (by rfl) T.b_int (by decide +kernel) (pa_cons (pv 4) pa_nil)) pe_int)))))
      (pss_one (ps_ret (pe_tup (pa_cons (pv 3) (pa_cons (pv 2) pa_nil)))))))) pss_nil)))
      (pss_one (ps_ret (pe_tup (pa_cons pe_non (pa_cons (pv 1) pa_nil)))))), ?_⟩
    walk_at "rd"
    show iRng2 _ _ _ _
    refine rd_rng2' ?_
    walk_at "rd"
    refine ⟨a, _, rfl, .inr (SqT.of ha.1), ?_⟩
    walk_at "rd"
    rw [List.length_map]
    refine ⟨(h : Int) + 1, (row.length : Int) + 1, rfl, ⟨by omega, by omega, by omega, by omega⟩, ?_⟩
    rw [show ((row.length : Int) + 1 - ((h : Int) + 1)).toNat = row.length - h by omega]
    generalize hL : lead (row.drop h) = L
    refine for_range (lo := (h : Int) + 1) (n := row.length - h) (fun i σ H1 => H1 = H ∧ (∃ u1 : Option V, σ = [some (.ref a), some (.int (h : Int)), u1, none, none]) ∧ L = i + lead (row.drop (h + i)))
      ⟨rfl, ⟨none, rfl⟩, by simp [hL]⟩ ?_ ?_
    · rintro i σ H1 hi ⟨rfl, ⟨u1, rfl⟩, hlead⟩
      have hlt : h + i < row.length := by omega
      obtain ⟨b, eb, ebv⟩ := row_get hlt
      have b0 := (ha.2 b (List.mem_of_getElem? eb)).1
      have eix : ((h : Int) + 1 + (i : Nat) - 1) = ((h + i : Nat) : Int) := by omega
      walk_at "rd"
      rw [eix]
      refine rd_ixT ha.1 (atI_nat ebv) ?_
      walk_at "rd"
      refine rd_ite (fun h1 => ?_) (fun h1 => ?_)
      · have c8 := of_decide_eq_true h1
        have eLi : L = i := by rw [hlead, lead_lt eb (by omega)]; rfl
        have eW : whR row h = if b = 0 ∧ 0 < L then none else some (val ((row.drop h).take (L + 1)), h + L + 1) := by
          unfold whR
          rw [hL, show h + L = h + i by omega, eb]
        walk_at "rd"
        refine ⟨fun σ2 H2 => σ2 = [some (.ref a), some (.int (h : Int)), some (.int ((h : Int) + 1 + (i : Nat))), none, none] ∧ H2 = H1 ∧ whR row h = some (val ((row.drop h).take (L + 1)), h + L + 1), ?_, ?_⟩
        · walk_at "rd"
          rw [eix]
          refine rd_ixT ha.1 (atI_nat ebv) ?_
          walk_at "rd"
          refine rd_ite (fun h2 => ?_) (fun h2 => ?_)
          · walk_at "rd"
            refine rd_ite (fun h3 => ?_) (fun h3 => ?_)
            · walk_at "rd"
              refine rd_disp rfl fun t nt => ?_
              exact q0 (by rw [eW, if_pos ⟨of_decide_eq_true h2, by have := of_decide_eq_true h3; omega⟩]) t _ (same_new nt) upd_same
            · refine ⟨rfl, rfl, ?_⟩
              rw [eW, if_neg (fun z => by have := of_decide_eq_false h3; omega)]
          · refine rd_no rfl ?_
            refine ⟨rfl, rfl, ?_⟩
            rw [eW, if_neg (fun z => of_decide_eq_false h2 z.1)]
        · rintro σ2 H2 ⟨rfl, rfl, hw⟩
          walk_at "rd"
          show iTup _ _ _ _ _
          refine rd_itup ?_
          refine rd_revT ?_
          walk_at "rd"
          refine rd_cutA ha.1 fun c H3 s3 hc => ?_
          rw [show ((h : Int) + 1 + (i : Nat)) = ((h + L + 1 : Nat) : Int) by omega, cutN row h (h + L + 1) hl (by omega) V.int, show h + L + 1 - h = L + 1 by omega] at hc
          generalize hxs : (row.drop h).take (L + 1) = xs at hc hw
          refine ⟨c, _, rfl, SqT.of hc, fun d nd => ?_⟩
          have s4 := s3.trans (same_new (o := .tup (xs.map V.int).reverse) nd)
          refine ⟨d, rfl, ⟨_, SqT.of upd_same⟩, for_tup (K := K) (a := d) (xs := (xs.map V.int).reverse) (fun j σ H4 => H4 = upd H3 d (.tup (xs.map V.int).reverse) ∧ ∃ u : Option V, σ = [some (.ref a), some (.int (h : Int)), some (.int ((h : Int) + 1 + (i : Nat))), some (.int (val (xs.drop (xs.length - j)))), u])
            ⟨rfl, none, by rw [Nat.sub_zero, List.drop_length]; rfl⟩ (fun j σ H4 _ hh => by rw [hh.1]; exact SqT.of upd_same) ?_ ?_⟩
          · rintro j y σ H4 hj ⟨rfl, u, rfl⟩
            rw [← List.map_reverse] at hj
            obtain ⟨b2, hb2, rfl⟩ := mapint_get hj
            walk_at "rd"
            refine rd_iC (.inr ⟨by decide, by decide⟩) ?_
            walk_at "rd"
            refine .inl ⟨_, rfl, ?_⟩
            walk_at "rd"
            refine rd_iC (show (0 : Int) < 128 by decide) ?_
            walk_at "rd"
            refine ⟨rfl, some (.int b2), ?_⟩
            rw [val_rev xs j b2 hb2]
          · rintro σ H4 ⟨rfl, u, rfl⟩
            rw [List.length_reverse, List.length_map, Nat.sub_self, List.drop_zero]
            walk_at "rd"
            refine rd_disp rfl fun t nt => ?_
            refine q1 _ _ hw t _ (s4.trans (same_new nt)) ?_
            rw [upd_same, show ((h : Int) + 1 + (i : Nat)) = ((h + L + 1 : Nat) : Int) by omega]
      · have h8 := of_decide_eq_false h1
        refine ⟨rfl, ⟨_, rfl⟩, ?_⟩
        rw [hlead, lead_ge eb (by omega), show h + (i + 1) = h + i + 1 by omega]
        omega
    · rintro σ H1 ⟨rfl, ⟨u1, rfl⟩, hlead⟩
      have e : h + (row.length - h) = row.length := by omega
      rw [e, lead_end (Nat.le_refl _)] at hlead
      walk_at "rd"
      refine rd_disp rfl fun t nt => ?_
      refine q0 ?_ t _ (same_new nt) upd_same
      unfold whR
      rw [hL, List.getElem?_eq_none (by omega)]
theorem ok_law_read_string (T : Tx K mg) (B : Bk K mg T) : FnOk P w K mg base CX0 2 B.law_read_string.f B.law_read_string.fd ["_law_row", "_law_begin", "_law_many", "_law_here"] spLString := by
  have G_law_sign := ok_law_sign (P := P) (w := w) (base := base) T B
  refine B.law_read_string.F.ok sc_law_read_string (fun vs H Q E h => ?_) (fun cdv A outer s H vs Q E hr h => ?_)
  · obtain ⟨a, row, b, h, m, rfl, _⟩ := h
    rfl
  · obtain ⟨a, row, b, h, m, rfl, ha, hl, hm0, q0, q1⟩ := h
    have hle := ha.le
    refine ⟨_, (C8.pss_cut (ps_if (pt_not (pt_chain op_le op_le pe_int (pv 2) pe_int)) (pss_one (ps_ret (pe_tup (pa_cons pe_non (pa_cons (pv 1) pa_nil))))) pss_nil)
      (pss_cons (ps_for PassesOwn.never rfl (pi_range2 (by rfl) T.b_range (pa_cons (pv 3) (pa_cons (pe_op op_add (pv 3) (pv 2)) pa_nil))) (pg_name (i := 4) sc_law_read_string.nd rfl (Or.inl rfl)) (pss_one (ps_if (PW.pt (pw_or (pt_cmpR op_ge (pv 4) (pe_callB call_len_seq (by rfl) T.b_len (by decide +kernel) (pa_cons (pv 0) pa_nil)) (nomark _)) (pw_or (pt_not (pt_chain op_le op_le pe_int (pe_ix ix_tup (pv 0) (pv 4) (fun _ _ => rfl)) pe_int)) (pw_or1 (pt_cmpR op_eq (pe_ix ix_tup (pv 0) (pv 4) (fun _ _ => rfl)) pe_int (nomark _)))))) (pss_one (ps_ret (pe_tup (pa_cons pe_non (pa_cons (pe_callB (call_min2 rfl) (by rfl) T.b_min (by decide +kernel) (pa_cons (pv 4) (pa_cons (pe_callB call_len_seq (by rfl) T.b_len (by decide +kernel) (pa_cons (pv 0) pa_nil)) pa_nil))) pa_nil))))) pss_nil)))
      (pss_one (ps_ret (pe_tup (pa_cons (pe_tup (pa_cons (pe_join pe_str (pe_lc (own := [("_law_byte", 5)]) (g := gName 5) rfl sc_law_read_string.nd (pi_tup (pe_slice sl_tupA (pv 0) (po_some (pv 3)) (po_some (pe_op op_add (pv 3) (pv 2))))) (blkOk_by (own := [("_law_byte", 5)]) (N := ["_law_row", "_law_begin", "_law_many", "_law_here", "_law_at", "_law_byte"]) (sc := defScope s_law_read_string) (by decide +kernel)) (fun _ _ _ _ _ => pg_name (i := 5) sc_law_read_string.nd rfl (Or.inl rfl)) (fun _ _ _ _ _ => pts_nil) (fun _ _ _ _ _ => (pe_call G_law_sign (hr.mono (by decide)) rfl B.law_sign.m B.law_sign.F.kp B.law_sign.b .nil pass0 (pa_cons (pv 5) pa_nil))))) pa_nil)) (pa_cons (pe_op op_add (pv 3) (pv 2)) pa_nil))))))), ?_⟩
    walk_at "rd"
    refine ⟨fun σ1 H1 => σ1 = [some (.ref a), some (.int (b : Int)), some (.int m), some (.int (h : Int)), none, none] ∧ H1 = H ∧ ¬ (m = 0 ∨ 20 < m), ?_, ?_⟩
    · have bad : (m = 0 ∨ 20 < m) → ∀ t, H t = none → Q (.ref t) (upd H t (.tup [.non, .int (b : Int)])) := fun z t nt => q0 z t _ (same_new nt) upd_same
      walk_at "rd"
      refine rd_ite (fun h1 => ?_) (fun h1 => ?_)
      · walk_at "rd"
        refine rd_ite (fun h2 => ?_) (fun h2 => ?_)
        · walk_at "rd"
          refine rd_disp rfl fun t nt => ?_
          have : ¬ m ≤ 20 := by simpa using h2
          exact bad (.inr (by omega)) t nt
        · have : m ≤ 20 := by simpa using h2
          have := of_decide_eq_true h1
          exact ⟨rfl, rfl, by omega⟩
      · walk_at "rd"
        refine rd_yes rfl ?_
        walk_at "rd"
        refine rd_disp rfl fun t nt => ?_
        exact bad (.inl (by have := of_decide_eq_false h1; omega)) t nt
    · rintro σ1 H1 ⟨rfl, rfl, hm⟩
      obtain ⟨q2, q3⟩ := q1 hm
      obtain ⟨m', rfl⟩ : ∃ m' : Nat, m = (m' : Int) := ⟨m.toNat, by omega⟩
      rw [Int.toNat_natCast] at q2 q3
      walk_at "rd"
      show iRng2 _ _ _ _
      refine rd_rng2' ?_
      walk_at "rd"
      refine ⟨h, (h : Int) + m', rfl, ⟨by omega, by omega, by omega, by omega⟩, ?_⟩
      rw [show ((h : Int) + m' - h).toNat = m' by omega]
      refine for_range (lo := (h : Int)) (n := m') (fun i σ H2 => H2 = H1 ∧ (∃ u : Option V, σ = [some (.ref a), some (.int (b : Int)), some (.int (m' : Int)), some (.int (h : Int)), u, none]) ∧ h + i ≤ row.length ∧ (∀ c ∈ (row.drop h).take i, isSign c = true) ∧ strR row m' h = appR (((row.drop h).take i).map Int.toNat) (strR row (m' - i) (h + i)))
        ⟨rfl, ⟨none, rfl⟩, hl, fun c hc => by simp at hc, by
          rw [Nat.sub_zero, Nat.add_zero]
          cases strR row m' h <;> rfl⟩ ?_ ?_
      · rintro i σ H2 hi ⟨rfl, ⟨u, rfl⟩, hil, hsg, hst⟩
        obtain ⟨k, hk⟩ : ∃ k, m' - i = k + 1 := ⟨m' - i - 1, by omega⟩
        rw [hk] at hst
        have eH : ((h : Int) + (i : Nat)) = ((h + i : Nat) : Int) := by omega
        walk_at "rd"
        rw [eH]
        refine ⟨a, _, rfl, .inr (SqT.of ha.1), ?_⟩
        rw [List.length_map]
        have badEnd : ∀ e, strR row m' h = .bad e → ∀ t, H2 t = none → Q (.ref t) (upd H2 t (.tup [.non, .int (e : Nat)])) := fun e z t nt => q3 e z t _ (same_new nt) upd_same
        walk_at "rd"
        refine rd_ite (fun h1 => ?_) (fun h1 => ?_)
        · have hge : row.length ≤ h + i := by
            have := of_decide_eq_true h1
            omega
          have e0 : h + i = row.length := by omega
          have eb : strR row m' h = .bad row.length := by
            rw [hst]
            show appR _ (match row[h + i]? with | none => _ | some b => _) = _
            rw [List.getElem?_eq_none hge]
            rfl
          refine rd_yes rfl ?_
          walk_at "rd"
          refine ⟨a, _, rfl, .inr (SqT.of ha.1), ?_⟩
          rw [List.length_map]
          refine ⟨_, _, rfl, ?_⟩
          walk_at "rd"
          refine rd_disp rfl fun t nt => ?_
          rw [if_neg (by omega), e0]
          exact badEnd _ eb t nt
        · have hlt : h + i < row.length := by
            have := of_decide_eq_false h1
            omega
          obtain ⟨c, ec, ecv⟩ := row_get hlt
          have c0 := (ha.2 c (List.mem_of_getElem? ec)).1
          have e2 : strR row (k + 1) (h + i) = if isSign c = true then consR c.toNat (strR row k (h + i + 1)) else .bad (h + i) := by
            show (match row[h + i]? with | none => _ | some b => _) = _
            rw [ec]
          rw [e2] at hst
          have bad : isSign c = false → strR row m' h = .bad (h + i) := fun z => by
            rw [hst, if_neg (by rw [z]; decide)]
            rfl
          have edr : (row.drop h)[i]? = some c := by
            rw [List.getElem?_drop]
            exact ec
          have good : isSign c = true → H2 = H2 ∧ (∃ u : Option V, [some (V.ref a), some (.int (b : Int)), some (.int (m' : Int)), some (.int (h : Int)), some (.int ((h + i : Nat) : Int)), none] = [some (.ref a), some (.int (b : Int)), some (.int (m' : Int)), some (.int (h : Int)), u, none]) ∧ h + (i + 1) ≤ row.length ∧ (∀ c ∈ (row.drop h).take (i + 1), isSign c = true) ∧ strR row m' h = appR (((row.drop h).take (i + 1)).map Int.toNat) (strR row (m' - (i + 1)) (h + (i + 1))) := fun z => by
            refine ⟨rfl, ⟨_, rfl⟩, by omega, fun x hx => ?_, ?_⟩
            · rw [take_snoc edr] at hx
              rcases List.mem_append.mp hx with y | y
              · exact hsg x y
              · rw [show x = c by simpa using y]
                exact z
            · rw [hst, if_pos z, appR_cons, take_snoc edr, List.map_append, show m' - (i + 1) = k by omega, show h + (i + 1) = h + i + 1 by omega]
              rfl
          walk_at "rd"
          refine rd_ixT ha.1 (atI_nat ecv) ?_
          walk_at "rd"
          refine rd_ite (fun h2 => ?_) (fun h2 => ?_)
          · have c32 : 32 ≤ c := of_decide_eq_true h2
            walk_at "rd"
            refine rd_ite (fun h3 => ?_) (fun h3 => ?_)
            · have c126 : ¬ c ≤ 126 := by simpa using h3
              refine rd_yes rfl ?_
              walk_at "rd"
              refine ⟨a, _, rfl, .inr (SqT.of ha.1), ?_⟩
              rw [List.length_map]
              refine ⟨_, _, rfl, ?_⟩
              walk_at "rd"
              refine rd_disp rfl fun t nt => ?_
              rw [if_neg (by omega)]
              exact badEnd _ (bad (by unfold isSign; rw [decide_eq_false c126]; simp)) t nt
            · have c126 : c ≤ 126 := by simpa using h3
              walk_at "rd"
              refine rd_ixT ha.1 (atI_nat ecv) ?_
              walk_at "rd"
              refine rd_ite (fun h4 => ?_) (fun h4 => ?_)
              · walk_at "rd"
                refine ⟨a, _, rfl, .inr (SqT.of ha.1), ?_⟩
                rw [List.length_map]
                refine ⟨_, _, rfl, ?_⟩
                walk_at "rd"
                refine rd_disp rfl fun t nt => ?_
                rw [if_neg (by omega)]
                exact badEnd _ (bad (by unfold isSign; rw [h4]; simp)) t nt
              · exact good (by unfold isSign; rw [decide_eq_true c32, decide_eq_true c126, h4]; rfl)
          · have c32 : ¬ 32 ≤ c := of_decide_eq_false h2
            walk_at "rd"
            refine rd_yes rfl ?_
            refine rd_yes rfl ?_
            walk_at "rd"
            refine ⟨a, _, rfl, .inr (SqT.of ha.1), ?_⟩
            rw [List.length_map]
            refine ⟨_, _, rfl, ?_⟩
            walk_at "rd"
            refine rd_disp rfl fun t nt => ?_
            rw [if_neg (by omega)]
            exact badEnd _ (bad (by unfold isSign; rw [decide_eq_false c32]; simp)) t nt
      · rintro σ H2 ⟨rfl, ⟨u, rfl⟩, hil, hsg, hst⟩
        walk_at "rd"
        refine rd_join ?_
        walk_at "rd"
        refine ⟨⟨_, rfl⟩, ?_⟩
        show iTup _ _ _ _ _
        refine rd_itup ?_
        walk_at "rd"
        refine rd_cutA ha.1 fun c H3 s3 hc => ?_
        rw [show ((h : Int) + (m' : Int)) = ((h + m' : Nat) : Int) by omega, cutN row h (h + m') hl hil V.int, show h + m' - h = m' by omega] at hc
        generalize hxs : (row.drop h).take m' = xs at hc hsg hst
        have hxl : xs.length ≤ 20 := by
          rw [← hxs, List.length_take]
          omega
        refine ⟨c, rfl, ⟨_, SqT.of hc⟩, fun D hD => lc_tup (K := K) (a := c) (xs := xs.map V.int) (fun i H4 => Same H2 H4 ∧ H4 c = some (.tup (xs.map V.int)) ∧ H4 D = some (.lst (((xs.take i).map Int.toNat).map fun c => V.str ⟨#[c]⟩)))
          ⟨s3.trans (same_new hD), (same_new hD) _ _ hc, upd_same⟩ (fun i H4 _ hh => SqT.of hh.2.1) ?_ ?_⟩
        · rintro i y H4 hi ⟨hs, hc4, hacc⟩
          obtain ⟨b2, hb2, rfl⟩ := mapint_get hi
          refine ⟨rfl, ?_⟩
          refine rd_tyes ?_
          refine rd_yes rfl ?_
          walk_at "rd"
          refine ⟨b2, rfl, hsg b2 (List.mem_of_getElem? hb2), ?_⟩
          refine ⟨_, hacc, small' (by rw [List.length_map, List.length_map, List.length_take]; omega), fun x o ex => (upd_ne (ne_of_none (s3 _ _ ex) hD)).trans (hs x o ex), (upd_ne (ne_of_none hc hD)).trans hc4, ?_⟩
          rw [upd_same, take_snoc hb2, List.map_append, List.map_append]
          rfl
        · rintro H4 ⟨hs, hc4, hacc⟩
          rw [List.length_map, List.take_length] at hacc
          refine ⟨"", D, (xs.map Int.toNat).map fun c => (⟨#[c]⟩ : Str), rfl, rfl, .inl (SqL.of (by rw [hacc, List.map_map (g := V.str)]; rfl)), join_ok (by rw [List.length_map]; omega), ?_⟩
          rw [show (Str.ofString "") = ("" : Str) from rfl, join_one]
          walk_at "rd"
          refine rd_disp rfl fun u2 nu2 => ?_
          walk_at "rd"
          refine rd_disp rfl fun t nt => ?_
          have sA := same_new (o := .tup [.str (strOf (xs.map Int.toNat))]) nu2
          have sB := same_new (o := .tup [.ref u2, .int ((h : Int) + (m' : Int))]) nt
          refine q2 (xs.map Int.toNat) (h + m') ?_ t u2 _ ((hs.trans sA).trans sB) ?_ (sB _ _ upd_same)
          · rw [hst, Nat.sub_self]
            show Rs.ok (xs.map Int.toNat ++ []) (h + m') = _
            rw [List.append_nil]
          · rw [upd_same, show ((h + m' : Nat) : Int) = (h : Int) + m' by omega]
end
end Mw

/-! R15 -/
namespace Mw
open PySem L2
def spLRead (CP : Addr → Prop) (n : Nat) : Sp := fun vs H Q _ => ∃ (a : Addr) (row : List Int) (h m : Nat), m < n ∧ vs = [.ref a, .int (h : Int), .int (m : Int)] ∧ RowAt H a row ∧ h ≤ row.length ∧
  (∀ d e, Rd row m h (.ok d e) → ∀ t u v H', Same H H' → H' t = some (.tup [.ref u, .int (e : Nat)]) → H' u = some (.tup [v]) → Dt CP [] H' d v → Q (.ref t) H') ∧
  (∀ e, Rd row m h (.bad e) → ∀ t H', Same H H' → H' t = some (.tup [.non, .int (e : Nat)]) → Q (.ref t) H')
def spLTold (CP : Addr → Prop) : Sp := fun vs H Q _ => ∃ (a : Addr) (row : List Int), vs = [.ref a] ∧ RowAt H a row ∧
  (∀ d, Rd row 20 0 (.ok d row.length) → ∀ u v H', Same H H' → H' u = some (.tup [v]) → Dt CP [] H' d v → Q (.ref u) H') ∧
  (∀ d e, Rd row 20 0 (.ok d e) → e ≠ row.length → ∀ H', Same H H' → Q (.int (e : Nat)) H') ∧
  (∀ e, Rd row 20 0 (.bad e) → ∀ H', Same H H' → Q (.int (e : Nat)) H')
def spLSealed : Sp := fun vs H Q _ => ∃ (a : Addr) (row : List Int), vs = [.ref a] ∧ H a = some (.tup (row.map V.int)) ∧ row.length ≤ 900000 ∧ ∀ t H', Same H H' → H' t = some (.tup ((row ++ sealL row).map V.int)) → Q (.ref t) H'
def spLOpened (CP : Addr → Prop) : Sp := fun vs H Q _ => ∃ (a : Addr) (row : List Int), vs = [.ref a] ∧ RowAt H a row ∧ ∀ D v H', OpD row D → Same H H' → Dt CP [] H' D v → Q v H'
theorem sk_law {m : Int} (h : 0 ≤ m) : sk 4 m = [(1 : Int), 256, 65536, 16777216].map fun x => (m % 4294967296) / x % 256 := by
  show [m % 256, m / 256 % 256, m / 256 / 256 % 256, m / 256 / 256 / 256 % 256] = [(m % 4294967296) / 1 % 256, (m % 4294967296) / 256 % 256, (m % 4294967296) / 65536 % 256, (m % 4294967296) / 16777216 % 256]
  rw [show m % 256 = (m % 4294967296) / 1 % 256 by omega, show m / 256 % 256 = (m % 4294967296) / 256 % 256 by omega, show m / 256 / 256 % 256 = (m % 4294967296) / 65536 % 256 by omega, show m / 256 / 256 / 256 % 256 = (m % 4294967296) / 16777216 % 256 by omega]
section
variable {P : Program} {w : World} {K : PySem.W.Frag} {mg : Str → Option Value} {base : Heap}
local macro_rules | `(tactic| walk_at "rd") => `(tactic| (repeat (first
  | ((with_reducible refine' rd_var ?h0 ?_); (case h0 => rfl))
  | with_reducible refine rd_c ?_
  | with_reducible refine rd_op ?_
  | with_reducible refine rd_nil ?_
  | with_reducible refine rd_cons ?_
  | with_reducible refine rd_tup ?_
  | with_reducible refine rd_lst ?_
  | with_reducible refine rd_ifs ?_
  | with_reducible refine rd_seq ?_
  | with_reducible refine rd_next ?_
  | with_reducible refine rd_ret ?_
  | with_reducible refine rd_asg ?_
  | ((with_reducible refine' rd_gset ?hs ?_); (case hs => ((simp only [L2.start, List.map_cons, List.map_nil, List.length_cons, List.length_nil, List.cons_append, List.nil_append, List.set_cons_zero, List.set_cons_succ, Nat.reduceAdd, Nat.reduceSub, Nat.zero_add, List.reduceReplicate]); rfl)))
  | with_reducible refine rd_drop ?_
  | with_reducible refine rd_test ?_
  | with_reducible refine rd_B ?_
  | with_reducible refine rd_bl ?_
  | with_reducible refine rd_blP ?_
  | with_reducible refine rd_andV ?_
  | with_reducible refine rd_orV ?_
  | with_reducible refine rd_notV ?_
  | with_reducible refine rd_and ?_
  | with_reducible refine rd_or ?_
  | with_reducible refine rd_not ?_
  | with_reducible refine rd_chain ?_
  | with_reducible refine rd_dput ?_
  | with_reducible refine rd_dget ?_
  | with_reducible refine rd_cb ?_
  | with_reducible refine rd_call ?_
  | with_reducible refine rd_un ?_
  | with_reducible refine rd_sl ?_
  | with_reducible refine rd_nopart ?_
  | with_reducible refine rd_part ?_
  | with_reducible refine rd_intP ?_
  | with_reducible refine rd_rU ?_
  | with_reducible refine rd_fld ?_
  | with_reducible refine rd_eqI ?_
  | with_reducible refine rd_neI ?_
  | with_reducible refine rd_mko ?_
  | with_reducible refine rd_bm ?_
  | with_reducible refine rd_gsub ?_
  | with_reducible refine rd_i0 ?_)))
theorem lread_step (T : Tx K mg) (B : Bk K mg T) {n k : Nat} (hk : 2 ≤ k) (G_law_read : FnOk P w K mg base CX0 k B.law_read.f B.law_read.fd ["_law_row", "_law_at", "_law_left"] (spLRead T.CP n)) :
    FnOk P w K mg base CX0 (k + 1) B.law_read.f B.law_read.fd ["_law_row", "_law_at", "_law_left"] (spLRead T.CP (n + 1)) := by
  have G_law_read_whole := ok_law_read_whole (P := P) (w := w) (base := base) T B
  have G_law_read_string := ok_law_read_string (P := P) (w := w) (base := base) T B
  refine B.law_read.F.ok sc_law_read (fun vs H Q E h => ?_) (fun cdv A outer s H vs Q E hr h => ?_)
  · obtain ⟨a, row, h, m, _, rfl, _⟩ := h
    rfl
  · obtain ⟨a, row, h, m, hmn, rfl, ha, hl, q1, q0⟩ := h
    have hle := ha.le
    refine ⟨_, (pss_cons (ps_if (pt_cmpR op_ge (pv 1) (pe_callB call_len_seq (by rfl) T.b_len (by decide +kernel) (pa_cons (pv 0) pa_nil)) (nomark _)) (pss_one (ps_ret (pe_tup (pa_cons pe_non (pa_cons (pe_callB call_len_seq (by rfl) T.b_len (by decide +kernel) (pa_cons (pv 0) pa_nil)) pa_nil))))) pss_nil)
      (pss_cons (ps_set (i := 3) sc_law_read.nd rfl (Or.inl rfl) (pe_ix ix_tup (pv 0) (pv 1) (fun _ _ => rfl)))
      (C8.pss_cut (ps_if (PW.pt (pw_or (pt_cmpR op_gt (pv 3) pe_int (nomark _)) (pw_or1 (PW.pt (pw_and (pt_cmpR op_eq (pv 3) pe_int (nomark _)) (pw_and1 (pt_cmpR op_eq (pv 2) pe_int (nomark _)))))))) (pss_one (ps_ret (pe_tup (pa_cons pe_non (pa_cons (pv 1) pa_nil))))) pss_nil)
      (pss_cons (ps_if (pt_cmpR op_lt (pv 3) pe_int (nomark _)) (pss_one (ps_ret (pe_tup (pa_cons (pe_tup (pa_cons (pe_ix ix_list (pe_lst (pa_cons pe_non (pa_cons pe_bl (pa_cons pe_bl pa_nil)))) (pv 3) (fun _ _ => rfl)) pa_nil)) (pa_cons (pe_op op_add (pv 1) pe_int) pa_nil))))) pss_nil)
      (pss_cons (ps_asg (pe_call G_law_read_whole (hr.mono (by omega)) rfl B.law_read_whole.m B.law_read_whole.F.kp B.law_read_whole.b .nil pass0 (pa_cons (pv 0) (pa_cons (pe_op op_add (pv 1) pe_int) pa_nil))) (pg_tup (by rfl) (pgs_cons (pg_name (i := 4) sc_law_read.nd rfl (Or.inl rfl)) (pgs_cons (pg_name (i := 5) sc_law_read.nd rfl (Or.inl rfl)) pgs_nil))))
      (pss_cons (ps_if (pt_cmpR op_isN (pv 4) pe_non (nomark _)) (pss_one (ps_ret (pe_tup (pa_cons pe_non (pa_cons (pv 5) pa_nil))))) pss_nil)
      (pss_cons (ps_if (pt_cmpR op_lt (pv 3) pe_int (nomark _)) (pss_one (ps_ret (pe_tup (pa_cons (pe_tup (pa_cons (pe_ifExp (pt_cmpR op_eq (pv 3) pe_int (nomark _)) (pv 4) (pe_op op_sub (pe_op op_sub pe_int pe_int) (pv 4))) pa_nil)) (pa_cons (pv 5) pa_nil))))) pss_nil)
      (pss_cons (ps_if (pt_cmpR op_eq (pv 3) pe_int (nomark _)) (pss_one (ps_ret (pe_call G_law_read_string (hr.mono (by omega)) rfl B.law_read_string.m B.law_read_string.F.kp B.law_read_string.b .nil pass0 (pa_cons (pv 0) (pa_cons (pe_op op_add (pv 1) pe_int) (pa_cons (pv 4) (pa_cons (pv 5) pa_nil))))))) pss_nil)
      (pss_cons (ps_set (i := 6) sc_law_read.nd rfl (Or.inl rfl) (pe_lst pa_nil))
      (pss_cons (ps_while PassesOwn.never (pt_cmpR op_lt (pe_callB call_len_seq (by rfl) T.b_len (by decide +kernel) (pa_cons (pv 6) pa_nil)) (pv 4) (nomark _)) (pss_cons (ps_asg (pe_call G_law_read (hr.mono (by omega)) rfl B.law_read.m B.law_read.F.kp B.law_read.b .nil pass0 (pa_cons (pv 0) (pa_cons (pv 5) (pa_cons (pe_op op_sub (pv 2) pe_int) pa_nil)))) (pg_tup (by rfl) (pgs_cons (pg_name (i := 7) sc_law_read.nd rfl (Or.inl rfl)) (pgs_cons (pg_name (i := 5) sc_law_read.nd rfl (Or.inl rfl)) pgs_nil))))
      (pss_cons (ps_if (pt_cmpR op_isN (pv 7) pe_non (nomark _)) (pss_one (ps_ret (pe_tup (pa_cons pe_non (pa_cons (pv 5) pa_nil))))) pss_nil)
      (pss_one (ps_expr (pe_bm PySem.F.plainAttrs_list PySem.F.slot_list_append PySem.F.type_list_append mt_append (pv 6) (pa_cons (pe_ix ix_tup (pv 7) pe_int (fun _ _ => rfl)) pa_nil)))))))
      (pss_one (ps_ret (pe_tup (pa_cons (pe_tup (pa_cons (pe_callTy call_tuple_of (by rfl) T.b_tuple (by decide +kernel) (pa_cons (pv 6) pa_nil)) pa_nil)) (pa_cons (pv 5) pa_nil))))))))))))))), ?_⟩
    walk_at "rd"
    refine ⟨a, _, rfl, .inr (SqT.of ha.1), ?_⟩
    walk_at "rd"
    rw [List.length_map]
    refine rd_ite (fun h1 => ?_) (fun h1 => ?_)
    · have hge : row.length ≤ h := by
        have := of_decide_eq_true h1
        omega
      walk_at "rd"
      refine ⟨a, _, rfl, .inr (SqT.of ha.1), ?_⟩
      walk_at "rd"
      rw [List.length_map]
      refine rd_disp rfl fun t nt => ?_
      exact q0 _ (rdd.mpr (rdB_none hge)) t _ (same_new nt) upd_same
    · have hlt : h < row.length := by
        have := of_decide_eq_false h1
        omega
      obtain ⟨b, eb, ebv⟩ := row_get hlt
      have b0 := (ha.2 b (List.mem_of_getElem? eb)).1
      have hin : (inn row m).isNone = true ↔ m = 0 := by
        cases m with
        | zero => exact ⟨fun _ => rfl, fun _ => rfl⟩
        | succ m => exact ⟨fun z => (by cases z), fun z => (by cases z)⟩
      walk_at "rd"
      refine rd_ixT ha.1 (atI_nat ebv) ?_
      walk_at "rd"
      refine ⟨fun σ1 H1 => σ1 = [some (.ref a), some (.int (h : Int)), some (.int (m : Int)), some (.int b), none, none, none, none] ∧ H1 = H ∧ ¬ (6 < b ∨ (b = 6 ∧ (inn row m).isNone = true)), ?_, ?_⟩
      · have bad : (6 < b ∨ (b = 6 ∧ m = 0)) → ∀ t, H t = none → Q (.ref t) (upd H t (.tup [.non, .int (h : Int)])) := fun z t nt => q0 h (rdd.mpr (rdB_top eb (by rw [hin]; exact z))) t _ (same_new nt) upd_same
        walk_at "rd"
        refine rd_ite (fun h1 => ?_) (fun h1 => ?_)
        · refine rd_yes rfl ?_
          walk_at "rd"
          refine rd_disp rfl fun t nt => ?_
          exact bad (.inl (of_decide_eq_true h1)) t nt
        · have h1' := of_decide_eq_false h1
          walk_at "rd"
          refine rd_ite (fun h2 => ?_) (fun h2 => ?_)
          · walk_at "rd"
            refine rd_ite (fun h3 => ?_) (fun h3 => ?_)
            · walk_at "rd"
              refine rd_disp rfl fun t nt => ?_
              exact bad (.inr ⟨of_decide_eq_true h2, by have := of_decide_eq_true h3; omega⟩) t nt
            · refine ⟨rfl, rfl, fun z => ?_⟩
              have := of_decide_eq_false h3
              rw [hin] at z
              omega
          · refine rd_no rfl ?_
            refine ⟨rfl, rfl, fun z => ?_⟩
            have := of_decide_eq_false h2
            rw [hin] at z
            omega
      · rintro σ1 H1 ⟨rfl, rfl, hnb⟩
        walk_at "rd"
        refine rd_ite (fun h1 => ?_) (fun h1 => ?_)
        · have b3 : b < 3 := of_decide_eq_true h1
          have hR := rdB_low (R := inn row m) eb b3
          walk_at "rd"
          refine rd_disp rfl fun l nl => ?_
          have s1 := same_new (o := .lst [.non, .bl false, .bl true]) nl
          walk_at "rd"
          have fin : ∀ (v : V) (d : PyData), (∀ H', Dt T.CP [] H' d v) → d = (if b = 0 then .none else .bool (decide (b = 2))) → ∀ u, (upd H1 l (.lst [.non, .bl false, .bl true])) u = none → ∀ t, (upd (upd H1 l (.lst [.non, .bl false, .bl true])) u (.tup [v])) t = none →
              Q (.ref t) (upd (upd (upd H1 l (.lst [.non, .bl false, .bl true])) u (.tup [v])) t (.tup [.ref u, .int ((h : Int) + 1)])) := fun v d hd ed u nu t nt => by
            have s2 := s1.trans (same_new (o := .tup [v]) nu)
            have s3 := same_new (o := .tup [.ref u, .int ((h : Int) + 1)]) nt
            refine q1 d (h + 1) (rdd.mpr (by rw [ed]; exact hR)) t u v _ (s2.trans s3) ?_ (s3 _ _ upd_same) (hd _)
            rw [upd_same, show ((h + 1 : Nat) : Int) = (h : Int) + 1 by omega]
          have hj : b.toNat < 3 := by omega
          have er : b = (b.toNat : Int) := by omega
          generalize b.toNat = j at hj er
          match j, hj with
          | 0, _ =>
            refine rd_ixL upd_same (at_of (j := 0) er rfl) ?_
            walk_at "rd"
            refine rd_disp rfl fun u nu => ?_
            walk_at "rd"
            refine rd_disp rfl fun t nt => ?_
            exact fin .non .none (fun _ => dt_non) (by rw [if_pos (show b = 0 from er)]) u nu t nt
          | 1, _ =>
            refine rd_ixL upd_same (at_of (j := 1) er rfl) ?_
            walk_at "rd"
            refine rd_disp rfl fun u nu => ?_
            walk_at "rd"
            refine rd_disp rfl fun t nt => ?_
            refine fin (.bl false) (.bool false) (fun _ => dt_bl) ?_ u nu t nt
            rw [show b = 1 from er]
            rfl
          | 2, _ =>
            refine rd_ixL upd_same (at_of (j := 2) er rfl) ?_
            walk_at "rd"
            refine rd_disp rfl fun u nu => ?_
            walk_at "rd"
            refine rd_disp rfl fun t nt => ?_
            refine fin (.bl true) (.bool true) (fun _ => dt_bl) ?_ u nu t nt
            rw [show b = 2 from er]
            rfl
        · have b3 : ¬ b < 3 := of_decide_eq_false h1
          walk_at "rd"
          refine ⟨a, row, h + 1, rfl, ha, hlt, fun m2 e hw t H2 s2 ht => ?_, fun hw t H2 s2 ht => ?_⟩
          · have hm0 := whR_nn hw
            have hle2 := whR_le hw
            refine ⟨t, _, rfl, SqT.of ht, rfl, _, _, rfl, _, _, rfl, rfl, ?_⟩
            walk_at "rd"
            refine ⟨rfl, ?_⟩
            walk_at "rd"
            refine rd_no rfl ?_
            walk_at "rd"
            refine rd_ite (fun h2 => ?_) (fun h2 => ?_)
            · have b5 : b < 5 := of_decide_eq_true h2
              have hI := rdB_int (R := inn row m) eb b3 b5 hw
              walk_at "rd"
              refine rd_S (fun x H3 => x = .int (if b = 3 then m2 else -1 - m2) ∧ H3 = H2) ?_ (fun Q' hQ => ?_)
              · rintro x H3 ⟨rfl, rfl⟩
                walk_at "rd"
                refine rd_disp rfl fun u nu => ?_
                have sA := same_new (o := .tup [.int (if b = 3 then m2 else -1 - m2)]) nu
                walk_at "rd"
                refine rd_disp rfl fun t2 nt2 => ?_
                have sB := same_new (o := .tup [.ref u, .int (e : Int)]) nt2
                exact q1 _ e (rdd.mpr hI) t2 u _ _ ((s2.trans sA).trans sB) upd_same (sB _ _ upd_same) dt_int
              · refine rd_ifx ?_
                walk_at "rd"
                refine rd_ite (fun h3 => ?_) (fun h3 => ?_)
                · walk_at "rd"
                  exact hQ _ _ ⟨by rw [if_pos (of_decide_eq_true h3)], rfl⟩
                · walk_at "rd"
                  exact hQ _ _ ⟨by rw [if_neg (of_decide_eq_false h3)]; rfl, rfl⟩
            · have b5 : ¬ b < 5 := of_decide_eq_false h2
              walk_at "rd"
              refine rd_ite (fun h3 => ?_) (fun h3 => ?_)
              · have e5 : b = 5 := of_decide_eq_true h3
                walk_at "rd"
                refine ⟨a, row, h + 1, e, m2, rfl, ha.same s2, hle2.2, hm0, fun z t2 H3 s3 ht2 => ?_, fun z => ⟨fun cs e3 hst t2 u H3 s3 ht2 hu => ?_, fun e3 hst t2 H3 s3 ht2 => ?_⟩⟩
                · exact q0 _ (rdd.mpr (rdB_s0 eb e5 hw z)) t2 _ (s2.trans s3) ht2
                · have hS := rdB_s1 (R := inn row m) eb e5 hw z
                  rw [hst] at hS
                  exact q1 _ _ (rdd.mpr hS) t2 u _ _ (s2.trans s3) ht2 hu dt_str
                · have hS := rdB_s1 (R := inn row m) eb e5 hw z
                  rw [hst] at hS
                  exact q0 _ (rdd.mpr hS) t2 _ (s2.trans s3) ht2
              · have e5 : b ≠ 5 := of_decide_eq_false h3
                have e6 : b = 6 := by
                  have : ¬ 6 < b := fun z => hnb (.inl z)
                  omega
                obtain ⟨m', rfl⟩ : ∃ m', m = m' + 1 := ⟨m - 1, by
                  have : ¬ m = 0 := fun z => hnb (.inr ⟨e6, hin.mpr z⟩)
                  omega⟩
                obtain ⟨k2, rfl⟩ : ∃ k2 : Nat, m2 = (k2 : Int) := ⟨m2.toNat, by omega⟩
                have hT := fun (r : Rs (List PyData)) (hI : Its (Rd row m') (k2 : Int).toNat e r) => (rdd (row := row) (n := m' + 1)).mpr (rdB_tup (R := Rd row m') eb e6 hw hI)
                rw [Int.toNat_natCast] at hT
                walk_at "rd"
                refine rd_disp rfl fun l nl => ?_
                have s3 := s2.trans (same_new (o := .lst []) nl)
                have nl0 : H1 l = none := s2.free nl
                walk_at "rd"
                refine ⟨fun μ σ H4 => ∃ (ds : List PyData) (vs : List V) (h2 : Nat) (u : Option V), σ = [some (.ref a), some (.int (h : Int)), some (.int ((m' + 1 : Nat) : Int)), some (.int b), some (.int (k2 : Int)), some (.int (h2 : Int)), some (.ref l), u] ∧ Same H1 H4 ∧ H4 l = some (.lst vs) ∧ DtAll T.CP [] H4 ds vs ∧ plainAll ds = true ∧ Run (Rd row m') e ds h2 ∧ h2 ≤ row.length ∧ ds.length + e ≤ h2 ∧ ds.length ≤ k2 ∧ μ = row.length - h2,
                  ⟨_, [], [], e, none, rfl, s3, upd_same, dtAll_nil, rfl, Run.nil, hle2.2, by simp, Nat.zero_le _, rfl⟩, ?_⟩
                rintro μ σ H4 ⟨ds, vs, h2, u, rfl, hs, hacc, hds, hpl, hrun, hh2, hlen, hdm, hμ⟩
                have hlv := hds.len
                walk_at "rd"
                refine ⟨l, vs, rfl, .inl (SqL.of hacc), ?_⟩
                walk_at "rd"
                rw [← hlv]
                refine rd_ite (fun h4 => ?_) (fun h4 => ?_)
                · have hlt2 : ds.length < k2 := by
                    have := of_decide_eq_true h4
                    omega
                  refine ⟨fun σ' H' => ∃ mm, mm < μ ∧ ∃ (ds : List PyData) (vs : List V) (h2 : Nat) (u : Option V), σ' = [some (.ref a), some (.int (h : Int)), some (.int ((m' + 1 : Nat) : Int)), some (.int b), some (.int (k2 : Int)), some (.int (h2 : Int)), some (.ref l), u] ∧ Same H1 H' ∧ H' l = some (.lst vs) ∧ DtAll T.CP [] H' ds vs ∧ plainAll ds = true ∧ Run (Rd row m') e ds h2 ∧ h2 ≤ row.length ∧ ds.length + e ≤ h2 ∧ ds.length ≤ k2 ∧ mm = row.length - h2, fun _ _ h => h, ?_⟩
                  walk_at "rd"
                  refine ⟨a, row, h2, m', by omega, ?_, ha.same hs, hh2, fun d e3 hR t2 u2 v H5 s5 ht2 hu2 hd => ?_, fun e3 hR t2 H5 s5 ht2 => ?_⟩
                  · rw [show ((m' + 1 : Nat) : Int) - 1 = (m' : Int) by omega]
                    rfl
                  · have hlee := rd_le hR
                    have hs5 := hs.trans s5
                    have nl2 := s5 _ _ hacc
                    walk_at "rd"
                    refine ⟨t2, _, rfl, SqT.of ht2, rfl, _, _, rfl, _, _, rfl, rfl, ?_⟩
                    walk_at "rd"
                    refine ⟨rfl, ?_⟩
                    walk_at "rd"
                    refine rd_no rfl ?_
                    walk_at "rd"
                    refine ⟨.inl ⟨rfl, _, SqL.of nl2⟩, ?_⟩
                    walk_at "rd"
                    refine rd_ixT hu2 rfl ?_
                    walk_at "rd"
                    refine rd_append nl2 (small' (by omega)) ?_
                    have hp2 : plainAll (ds ++ [d]) = true := by
                      rw [plain_app, hpl]
                      show (true && (plainD d && true)) = true
                      rw [rd_plain hR]
                      rfl
                    refine ⟨_, by omega, ds ++ [d], vs ++ [v], e3, _, rfl, fun x o ex => (upd_ne (ne_of_none ex nl0)).trans (hs5 x o ex), upd_same, DtAll.plain (M := []) (KT.mut nl2 fun _ z => by cases z) _ _ hp2 ((hds.s s5).snoc hd), hp2, hrun.snoc hR, hlee.2, by simp; omega, by simp; omega, rfl⟩
                  · walk_at "rd"
                    refine ⟨t2, _, rfl, SqT.of ht2, rfl, _, _, rfl, _, _, rfl, rfl, ?_⟩
                    walk_at "rd"
                    refine ⟨rfl, ?_⟩
                    walk_at "rd"
                    refine rd_yes rfl ?_
                    walk_at "rd"
                    refine rd_disp rfl fun t3 nt3 => ?_
                    exact q0 e3 (hT (.bad e3) (run_bad hrun hlt2 hR)) t3 _ ((hs.trans s5).trans (same_new nt3)) upd_same
                · have hend : ds.length = k2 := by
                    have := of_decide_eq_false h4
                    omega
                  walk_at "rd"
                  refine ⟨l, vs, rfl, .inl ⟨SqL.of hacc, fun u2 nu2 => ?_⟩⟩
                  have sA := same_new (o := .tup vs) nu2
                  walk_at "rd"
                  refine rd_disp rfl fun u3 nu3 => ?_
                  have sB := same_new (o := .tup [.ref u2]) nu3
                  walk_at "rd"
                  refine rd_disp rfl fun t2 nt2 => ?_
                  have sC := same_new (o := .tup [.ref u3, .int (h2 : Int)]) nt2
                  have hI := run_end hrun
                  rw [hend] at hI
                  exact q1 (.tuple ds) h2 (hT (.ok ds h2) hI) t2 u3 (.ref u2) _ (((hs.trans sA).trans sB).trans sC) upd_same (sC _ _ upd_same) (dt_tup (sC _ _ (sB _ _ upd_same)) (((hds.s sA).s sB).s sC))
          · refine ⟨t, _, rfl, SqT.of ht, rfl, _, _, rfl, _, _, rfl, rfl, ?_⟩
            walk_at "rd"
            refine ⟨rfl, ?_⟩
            walk_at "rd"
            refine rd_yes rfl ?_
            walk_at "rd"
            refine rd_disp rfl fun t2 nt2 => ?_
            exact q0 _ (rdd.mpr (rdB_wh eb hnb b3 hw)) t2 _ (s2.trans (same_new nt2)) upd_same
theorem ok_lread_n (T : Tx K mg) (B : Bk K mg T) : ∀ n, FnOk P w K mg base CX0 (n + 3) B.law_read.f B.law_read.fd ["_law_row", "_law_at", "_law_left"] (spLRead T.CP n)
  | 0 => fn_no fun vs H Q E h => by
    obtain ⟨a, row, h, m, hm, _⟩ := h
    omega
  | n + 1 => lread_step T B (by omega) (ok_lread_n T B n)
end
end Mw

/-! R16 -/
namespace Mw
open PySem L2
section
variable {P : Program} {w : World} {K : PySem.W.Frag} {mg : Str → Option Value} {base : Heap}
local macro_rules | `(tactic| walk_at "rd") => `(tactic| (repeat (first
  | ((with_reducible refine' rd_var ?h0 ?_); (case h0 => rfl))
  | with_reducible refine rd_c ?_
  | with_reducible refine rd_op ?_
  | with_reducible refine rd_nil ?_
  | with_reducible refine rd_cons ?_
  | with_reducible refine rd_tup ?_
  | with_reducible refine rd_lst ?_
  | with_reducible refine rd_ifs ?_
  | with_reducible refine rd_seq ?_
  | with_reducible refine rd_next ?_
  | with_reducible refine rd_ret ?_
  | with_reducible refine rd_asg ?_
  | ((with_reducible refine' rd_gset ?hs ?_); (case hs => ((simp only [L2.start, List.map_cons, List.map_nil, List.length_cons, List.length_nil, List.cons_append, List.nil_append, List.set_cons_zero, List.set_cons_succ, Nat.reduceAdd, Nat.reduceSub, Nat.zero_add, List.reduceReplicate]); rfl)))
  | with_reducible refine rd_drop ?_
  | with_reducible refine rd_test ?_
  | with_reducible refine rd_B ?_
  | with_reducible refine rd_bl ?_
  | with_reducible refine rd_blP ?_
  | with_reducible refine rd_andV ?_
  | with_reducible refine rd_orV ?_
  | with_reducible refine rd_notV ?_
  | with_reducible refine rd_and ?_
  | with_reducible refine rd_or ?_
  | with_reducible refine rd_not ?_
  | with_reducible refine rd_chain ?_
  | with_reducible refine rd_dput ?_
  | with_reducible refine rd_dget ?_
  | with_reducible refine rd_cb ?_
  | with_reducible refine rd_call ?_
  | with_reducible refine rd_un ?_
  | with_reducible refine rd_sl ?_
  | with_reducible refine rd_nopart ?_
  | with_reducible refine rd_part ?_
  | with_reducible refine rd_intP ?_
  | with_reducible refine rd_rU ?_
  | with_reducible refine rd_fld ?_
  | with_reducible refine rd_eqI ?_
  | with_reducible refine rd_neI ?_
  | with_reducible refine rd_mko ?_
  | with_reducible refine rd_bm ?_
  | with_reducible refine rd_gsub ?_
  | with_reducible refine rd_i0 ?_)))
theorem ok_law_told (T : Tx K mg) (B : Bk K mg T) : FnOk P w K mg base CX0 25 B.law_told.f B.law_told.fd ["_law_row"] (spLTold T.CP) := by
  have G_law_read := ok_lread_n (P := P) (w := w) (base := base) T B 21
  refine B.law_told.F.ok sc_law_told (fun vs H Q E h => ?_) (fun cdv A outer s H vs Q E hr h => ?_)
  · obtain ⟨a, row, rfl, _⟩ := h
    rfl
  · obtain ⟨a, row, rfl, ha, q1, q2, q3⟩ := h
    refine ⟨_, (pss_cons (ps_asg (pe_call G_law_read (hr.mono (by omega)) rfl B.law_read.m B.law_read.F.kp B.law_read.b .nil pass0 (pa_cons (pv 0) (pa_cons pe_int (pa_cons pe_int pa_nil)))) (pg_tup (by rfl) (pgs_cons (pg_name (i := 1) sc_law_told.nd rfl (Or.inl rfl)) (pgs_cons (pg_name (i := 2) sc_law_told.nd rfl (Or.inl rfl)) pgs_nil))))
      (pss_cons (ps_if (pt_cmpR op_isN (pv 1) pe_non (nomark _)) (pss_one (ps_ret (pv 2))) pss_nil)
      (pss_one (ps_ret (pe_ifExp (pt_cmpR op_eq (pv 2) (pe_callB call_len_seq (by rfl) T.b_len (by decide +kernel) (pa_cons (pv 0) pa_nil)) (nomark _)) (pv 1) (pv 2)))))), ?_⟩
    walk_at "rd"
    refine ⟨a, row, 0, 20, by omega, rfl, ha, Nat.zero_le _, fun d e hR t u v H1 s1 ht hu hd => ?_, fun e hR t H1 s1 ht => ?_⟩
    · refine ⟨t, _, rfl, SqT.of ht, rfl, _, _, rfl, _, _, rfl, rfl, ?_⟩
      walk_at "rd"
      refine ⟨rfl, ?_⟩
      walk_at "rd"
      refine rd_no rfl ?_
      walk_at "rd"
      refine rd_ifx ?_
      walk_at "rd"
      refine ⟨a, _, rfl, .inr (SqT.of (s1 _ _ ha.1)), ?_⟩
      walk_at "rd"
      rw [List.length_map]
      refine rd_ite (fun h1 => ?_) (fun h1 => ?_)
      · have e2 : e = row.length := by
          have := of_decide_eq_true h1
          omega
        subst e2
        walk_at "rd"
        exact q1 d hR u v _ s1 hu hd
      · walk_at "rd"
        exact q2 d e hR (by have := of_decide_eq_false h1; omega) _ s1
    · refine ⟨t, _, rfl, SqT.of ht, rfl, _, _, rfl, _, _, rfl, rfl, ?_⟩
      walk_at "rd"
      refine ⟨rfl, ?_⟩
      walk_at "rd"
      refine rd_yes rfl ?_
      walk_at "rd"
      exact q3 e hR _ s1
end
end Mw

/-! R17m -/
/-! THE FACT OF ROWS, there. -/
namespace Mw
open PySem L2
theorem wh_facts : ∀ (k n : Nat), n ≤ k → ∀ post : List Int, lead (wh n ++ post) + 1 = (wh n).length ∧ ∃ c, (wh n ++ post)[lead (wh n ++ post)]? = some c ∧ (c = 0 → n = 0) ∧ val ((wh n ++ post).take (lead (wh n ++ post) + 1)) = (n : Int)
  | 0, n, h, post => by
    have : n = 0 := by omega
    subst this
    rw [wh_lt (by decide)]
    refine ⟨rfl, 0, rfl, fun _ => rfl, rfl⟩
  | k + 1, n, h, post => by
    by_cases c : n < 128
    · rw [wh_lt c]
      have e : lead ([(n : Int)] ++ post) = 0 := by
        show (if 128 ≤ (n : Int) then _ else _) = _
        rw [if_neg (by omega)]
      rw [e]
      refine ⟨rfl, (n : Int), rfl, fun z => by omega, ?_⟩
      show (n : Int) % 128 + 128 * 0 = n
      omega
    · obtain ⟨h1, x, h2, h3, h4⟩ := wh_facts k (n / 128) (by omega) post
      rw [wh_ge c]
      have e : lead (((n % 128 + 128 : Nat) : Int) :: wh (n / 128) ++ post) = lead (wh (n / 128) ++ post) + 1 := by
        show (if 128 ≤ ((n % 128 + 128 : Nat) : Int) then _ else _) = _
        rw [if_pos (by omega)]
        rfl
      rw [e]
      refine ⟨by rw [List.length_cons, h1], x, ?_, fun z => ?_, ?_⟩
      · show (((n % 128 + 128 : Nat) : Int) :: (wh (n / 128) ++ post))[lead (wh (n / 128) ++ post) + 1]? = some x
        rw [List.getElem?_cons_succ]
        exact h2
      · have := h3 z
        omega
      · show val ((((n % 128 + 128 : Nat) : Int) :: (wh (n / 128) ++ post)).take (lead (wh (n / 128) ++ post) + 1 + 1)) = n
        rw [List.take_succ_cons]
        show ((n % 128 + 128 : Nat) : Int) % 128 + 128 * val _ = n
        rw [h4]
        omega
theorem whR_wh {row post : List Int} {h n : Nat} (e : row.drop h = wh n ++ post) : whR row h = some ((n : Int), h + (wh n).length) := by
  obtain ⟨h1, c, h2, h3, h4⟩ := wh_facts n n (Nat.le_refl _) post
  unfold whR
  have e2 : row[h + lead (row.drop h)]? = some c := by
    rw [← List.getElem?_drop, e]
    exact h2
  rw [e2, e]
  have : ¬ (c = 0 ∧ 0 < lead (wh n ++ post)) := fun z => by
    have := h3 z.1
    subst this
    have l1 : (wh 0).length = 1 := by
      rw [wh_lt (by decide)]
      rfl
    have := z.2
    omega
  show (if c = 0 ∧ 0 < lead (wh n ++ post) then _ else _) = _
  rw [if_neg this, h4, show h + lead (wh n ++ post) + 1 = h + (wh n).length by omega]
theorem drop_cons {row r : List Int} {h : Nat} {b : Int} (e : row.drop h = b :: r) : row[h]? = some b ∧ row.drop (h + 1) = r := by
  constructor
  · have := List.getElem?_drop (xs := row) (i := h) (j := 0)
    rw [e, Nat.add_zero] at this
    exact this.symm
  · rw [← List.drop_drop, e]
    rfl
theorem drop_app {row a b : List Int} {h : Nat} (e : row.drop h = a ++ b) : row.drop (h + a.length) = b := by
  rw [← List.drop_drop, e, List.drop_left]
theorem strR_of {row post : List Int} : ∀ {cs : List Int} {h : Nat}, row.drop h = cs ++ post → cs.all isSign = true → strR row cs.length h = .ok (cs.map Int.toNat) (h + cs.length)
  | [], h, _, _ => rfl
  | c :: cs, h, e, a => by
    obtain ⟨e1, e2⟩ := drop_cons (r := cs ++ post) e
    rw [List.all_cons, Bool.and_eq_true] at a
    show (match row[h]? with | none => _ | some b => _) = _
    rw [e1]
    show (if isSign c = true then consR c.toNat (strR row cs.length (h + 1)) else _) = _
    rw [if_pos a.1, strR_of e2 a.2]
    show Rs.ok _ (h + 1 + cs.length) = Rs.ok _ (h + (cs.length + 1))
    rw [show h + 1 + cs.length = h + (cs.length + 1) by omega]
    rfl
theorem strOf_sgn (s : Str) : strOf ((sgn s).map Int.toNat) = s := by
  unfold strOf sgn
  rw [List.map_map]
  have : (Int.toNat ∘ fun c : Nat => (c : Int)) = id := by
    funext c
    exact Int.toNat_natCast c
  rw [this, List.map_id]
mutual
theorem rd_by {row : List Int} : ∀ {n h : Nat} {post : List Int} (d : PyData), isPc n d = true → row.drop h = byD d ++ post → Rd row n h (.ok d (h + (byD d).length))
  | n, h, post, .none, _, e => by
    obtain ⟨e1, e2⟩ := drop_cons (r := post) e
    rw [rdd]
    have := rdB_low (R := inn row n) e1 (by decide)
    rw [if_pos rfl] at this
    exact this
  | n, h, post, .bool b, _, e => by
    obtain ⟨e1, e2⟩ := drop_cons (r := post) e
    rw [rdd]
    cases b with
    | true =>
      have := rdB_low (R := inn row n) e1 (by decide)
      rw [if_neg (by decide)] at this
      exact this
    | false =>
      have := rdB_low (R := inn row n) e1 (by decide)
      rw [if_neg (by decide)] at this
      exact this
  | n, h, post, .int i, _, e => by
    rw [rdd]
    by_cases c : 0 ≤ i
    · have eb : byD (.int i) = 3 :: wh i.toNat := if_pos c
      rw [eb] at e ⊢
      obtain ⟨e1, e2⟩ := drop_cons (r := wh i.toNat ++ post) e
      have := rdB_int (R := inn row n) e1 (by decide) (by decide) (whR_wh e2)
      rw [if_pos rfl, Int.toNat_of_nonneg c] at this
      rw [List.length_cons, show h + ((wh i.toNat).length + 1) = h + 1 + (wh i.toNat).length by omega]
      exact this
    · have eb : byD (.int i) = 4 :: wh (-1 - i).toNat := if_neg c
      rw [eb] at e ⊢
      obtain ⟨e1, e2⟩ := drop_cons (r := wh (-1 - i).toNat ++ post) e
      have := rdB_int (R := inn row n) e1 (by decide) (by decide) (whR_wh e2)
      rw [if_neg (by decide), Int.toNat_of_nonneg (by omega), show -1 - (-1 - i) = i by omega] at this
      rw [List.length_cons, show h + ((wh (-1 - i).toNat).length + 1) = h + 1 + (wh (-1 - i).toNat).length by omega]
      exact this
  | n, h, post, .str s, hp, e => by
    rw [rdd]
    have hp' : okStr s = true := hp
    unfold okStr at hp'
    simp only [Bool.and_eq_true, decide_eq_true_eq] at hp'
    have e' : row.drop h = 5 :: (wh s.length ++ (sgn s ++ post)) := by
      rw [e]
      show 5 :: (wh s.length ++ sgn s) ++ post = _
      rw [List.cons_append, List.append_assoc]
    obtain ⟨e1, e2⟩ := drop_cons e'
    have e3 := drop_app e2
    have := rdB_s1 (R := inn row n) e1 rfl (whR_wh e2) (by omega)
    rw [Int.toNat_natCast] at this
    have hS := strR_of (cs := sgn s) e3 hp'.2
    rw [sgn_len] at hS
    rw [hS] at this
    have g : strD (.ok ((sgn s).map Int.toNat) (h + 1 + (wh s.length).length + s.length)) = .ok (.str s) (h + (byD (.str s)).length) := by
      show Rs.ok (PyData.str (strOf ((sgn s).map Int.toNat))) _ = _
      rw [strOf_sgn]
      show Rs.ok _ _ = Rs.ok _ (h + ((5 : Int) :: (wh s.length ++ sgn s)).length)
      rw [List.length_cons, List.length_append, sgn_len, show h + 1 + (wh s.length).length + s.length = h + ((wh s.length).length + s.length + 1) by omega]
    rw [g] at this
    exact this
  | n, h, post, .list _, hp, e => by simp [isPc] at hp
  | n, h, post, .dict _, hp, e => by simp [isPc] at hp
  | n, h, post, .tuple ds, hp, e => by
    have hp' := hp
    simp only [isPc, Bool.and_eq_true, decide_eq_true_eq] at hp'
    obtain ⟨n', rfl⟩ : ∃ n', n = n' + 1 := ⟨n - 1, by omega⟩
    have e' : row.drop h = 6 :: (wh ds.length ++ (byAll ds ++ post)) := by
      rw [e]
      show 6 :: (wh ds.length ++ byAll ds) ++ post = _
      rw [List.cons_append, List.append_assoc]
    obtain ⟨e1, e2⟩ := drop_cons e'
    have e3 := drop_app e2
    have hI := its_by ds hp'.2 e3
    have := rdB_tup (R := Rd row n') (r := .ok ds (h + 1 + (wh ds.length).length + (byAll ds).length)) e1 rfl (whR_wh e2) (by rw [Int.toNat_natCast]; exact hI)
    show RdB row (some (Rd row n')) h _
    have g : tupD (.ok ds (h + 1 + (wh ds.length).length + (byAll ds).length)) = .ok (.tuple ds) (h + (byD (.tuple ds)).length) := by
      show Rs.ok _ _ = Rs.ok _ (h + ((6 : Int) :: (wh ds.length ++ byAll ds)).length)
      rw [List.length_cons, List.length_append, show h + 1 + (wh ds.length).length + (byAll ds).length = h + ((wh ds.length).length + (byAll ds).length + 1) by omega]
    rw [g] at this
    exact this
theorem its_by {row : List Int} : ∀ {n h : Nat} {post : List Int} (ds : List PyData), isPcAll n ds = true → row.drop h = byAll ds ++ post → Its (Rd row n) ds.length h (.ok ds (h + (byAll ds).length))
  | n, h, post, [], _, e => Its.nil h
  | n, h, post, d :: ds, hp, e => by
    simp only [isPcAll, Bool.and_eq_true] at hp
    have e' : row.drop h = byD d ++ (byAll ds ++ post) := by
      rw [e]
      show byD d ++ byAll ds ++ post = _
      rw [List.append_assoc]
    have h1 := rd_by d hp.1 e'
    have h2 := its_by ds hp.2 (drop_app e')
    have := Its.one h1 h2
    show Its (Rd row n) (ds.length + 1) h (.ok (d :: ds) (h + (byD d ++ byAll ds).length))
    rw [List.length_append, ← Nat.add_assoc]
    exact this
end
theorem opD_seal {d : PyData} (h : isPc 20 d = true) : OpD (byD d ++ sealL (byD d)) (.tuple [d]) := by
  obtain ⟨h1, h2⟩ := seal_of (byD d)
  refine .inl ⟨h1, d, ?_, rfl⟩
  rw [h2]
  have := rd_by (row := byD d) (n := 20) (h := 0) (post := []) d h (by rw [List.append_nil]; rfl)
  rw [Nat.zero_add] at this
  exact this
end Mw

/-! R17 -/
namespace Mw
open PySem L2
def spLaw (K : PySem.W.Frag) : Sp := fun vs H Q _ => ∃ (a : Addr) (ns : List Int), vs = [.ref a] ∧ SqL K H a (ns.map V.int) ∧ ∀ H', Q (.bl true) H'
/-- a row that is not too long stands at a -/
def RwA (H : Hp) (a : Addr) : Prop := ∃ row, RowAt H a row ∧ row.length ≤ 50000
theorem RwA.kt {H H' : Hp} {a : Addr} (h : RwA H a) (k : KT H H') : RwA H' a := by
  obtain ⟨row, h1, h2⟩ := h
  exact ⟨row, h1.kt k, h2⟩
def RwAll (H : Hp) (as : List Addr) : Prop := ∀ a ∈ as, RwA H a
theorem RwAll.kt {H H' : Hp} {as : List Addr} (h : RwAll H as) (k : KT H H') : RwAll H' as := fun a ha => (h a ha).kt k
theorem RwAll.one {H : Hp} {a : Addr} (h : RwA H a) : RwAll H [a] := fun b hb => by
  rw [show b = a by simpa using hb]
  exact h
theorem RwAll.app {H : Hp} {as bs : List Addr} (h : RwAll H as) (k : RwAll H bs) : RwAll H (as ++ bs) := fun b hb => by
  rcases List.mem_append.mp hb with z | z
  · exact h b z
  · exact k b z
theorem RwAll.snoc {H H' : Hp} {as : List Addr} {a : Addr} (h : RwAll H as) (k : KT H H') (n : RwA H' a) : RwAll H' (as ++ [a]) := (h.kt k).app (.one n)
theorem cut_row (row : List Int) (lo hi : Option Int) : ∃ sub : List Int, cutV (row.map V.int) lo hi = sub.map V.int ∧ (∀ b ∈ sub, b ∈ row) ∧ sub.length ≤ row.length := by
  refine ⟨(row.drop (HT.sIx row.length 0 lo)).take (HT.sIx row.length row.length hi - HT.sIx row.length 0 lo), ?_, fun b hb => List.mem_of_mem_drop (List.mem_of_mem_take hb), ?_⟩
  · unfold cutV
    rw [List.length_map, List.map_take, List.map_drop]
  · rw [List.length_take, List.length_drop]
    omega
theorem rd_cutR {K : PySem.W.Frag} {H : Hp} {Q : VK} {a : Addr} {row : List Int} {lo hi : Option Int} (h : RowAt H a row) (q : ∀ c sub H', Same H H' → RowAt H' c sub → sub.length ≤ row.length → Q (.ref c) H') : rSlA K (.ref a) lo hi H Q := by
  refine rd_cutA h.1 fun c H' s hc => ?_
  obtain ⟨sub, e, hm, hl⟩ := cut_row row lo hi
  rw [e] at hc
  exact q c sub H' s ⟨hc, fun b hb => h.2 b (hm b hb), Nat.le_trans hl h.3⟩ hl
theorem rd_catR {K : PySem.W.Frag} {H : Hp} {Q : VK} {a b : Addr} {r1 r2 : List Int} (h1 : RowAt H a r1) (h2 : RowAt H b r2) (hl : r1.length + r2.length ≤ 900000) (q : ∀ c H', Same H H' → RowAt H' c (r1 ++ r2) → Q (.ref c) H') : rCatA K (.ref a) (.ref b) H Q := by
  have hb : ∀ x ∈ r1 ++ r2, 0 ≤ x ∧ x < 256 := fun x hx => by
    rcases List.mem_append.mp hx with z | z
    · exact h1.2 x z
    · exact h2.2 x z
  refine ⟨a, b, _, _, rfl, rfl, SqT.of h1.1, SqT.of h2.1, small (by rw [List.length_map, List.length_map]; omega), fun e => ?_, fun _ e => ?_, fun _ _ c nc => ?_⟩
  · have e0 : r1 = [] := by simpa using e
    subst e0
    exact q _ _ (Same.refl H) h2
  · have e0 : r2 = [] := by simpa using e
    subst e0
    refine q _ _ (Same.refl H) ?_
    rw [List.append_nil]
    exact h1
  · exact q _ _ (same_new nc) ⟨by rw [upd_same, List.map_append], hb, by rw [List.length_append]; exact hl⟩
theorem rd_catD {K : PySem.W.Frag} {CP : Addr → Prop} {M : List Addr} {H : Hp} {Q : VK} {v u : V} {ds es : List PyData} (h1 : Dt CP M H (.tuple ds) v) (h2 : Dt CP M H (.tuple es) u) (hl : ds.length + es.length ≤ 900000) (q : ∀ r H', Same H H' → Dt CP M H' (.tuple (ds ++ es)) r → Q r H') : rCatA K v u H Q := by
  obtain ⟨a, xs, rfl, a1, a2⟩ := dt_tup' (id h1)
  obtain ⟨b, ys, rfl, b1, b2⟩ := dt_tup' (id h2)
  have l1 := a2.len
  have l2 := b2.len
  refine ⟨a, b, xs, ys, rfl, rfl, SqT.of a1, SqT.of b1, small (by omega), fun e => ?_, fun _ e => ?_, fun _ _ c hc => ?_⟩
  · have e0 : ds = [] := List.eq_nil_of_length_eq_zero (by rw [l1, e]; rfl)
    rw [e0] at q
    exact q _ _ (Same.refl H) h2
  · have e0 : es = [] := List.eq_nil_of_length_eq_zero (by rw [l2, e]; rfl)
    rw [e0, List.append_nil] at q
    exact q _ _ (Same.refl H) h1
  · exact q _ _ (same_new hc) (dt_tup upd_same ((a2.append b2).s (same_new hc)))
/-- a thing that is sealed of nothing -/
def Odd (d : PyData) : Prop := (isRowD d = false ∨ d = .tuple []) ∧ lenD d ≤ 900000
theorem odd_last {ds : List PyData} {x : PyData} (h : isByte x = false) (hl : ds.length ≤ 800000) : Odd (.tuple (ds ++ [x])) := by
  refine ⟨.inl ?_, by show (ds ++ [x]).length ≤ 900000; simp; omega⟩
  show ((ds ++ [x]).map isByte).all id = false
  rw [List.map_append, List.all_append]
  show (_ && (isByte x && true)) = false
  rw [h]
  simp
theorem opD_nil : OpD [] (.tuple []) := .inr ⟨.inl fun z => by
  have := seal_len z
  simp at this, rfl⟩
theorem isPc_same {n : Nat} {d : PyData} (h : isPc n d = true) : plainD d = true := isPc_plain d h
/-- what is opened tells plain things, not deep -/
theorem opD_plain {row : List Int} {D : PyData} (h : OpD row D) : plainD D = true := by
  rcases h with ⟨_, d, hR, rfl⟩ | ⟨_, rfl⟩
  · show (plainD d && true) = true
    rw [rd_plain hR]
    rfl
  · rfl
theorem ints_inj : ∀ {xs ys : List Int}, xs.map PyData.int = ys.map PyData.int → xs = ys
  | [], [], _ => rfl
  | [], y :: ys, h => by cases h
  | x :: xs, [], h => by cases h
  | x :: xs, y :: ys, h => by
    rw [List.map_cons, List.map_cons] at h
    injection h with h1 h2
    injection h1 with h1
    rw [h1, ints_inj h2]
theorem tup_inj {xs ys : List Int} (h : PyData.tuple (xs.map PyData.int) = .tuple (ys.map PyData.int)) : xs = ys := by
  injection h with h
  exact ints_inj h
theorem RowAt.disp {H : Hp} {t : Addr} {b : Int} (h : 0 ≤ b ∧ b < 256) : RowAt (upd H t (.tup [.int b])) t [b] := ⟨upd_same, fun x hx => by
  rw [show x = b by simpa using hx]
  exact h, by simp⟩
theorem lenD_row {row : List Int} (h : row.length ≤ 900000) : lenD (.tuple (row.map PyData.int)) ≤ 900000 := by
  show (row.map PyData.int).length ≤ 900000
  rw [List.length_map]
  exact h
/-- the pool, a sealed row at c, a row at r -/
structure K3 (H : Hp) (p l c r : Addr) (S R : List Int) : Prop where
  hh : PoolAt H p l
  hc : RowAt H c S
  hr : RowAt H r R
theorem K3.s {H H' : Hp} {p l c r : Addr} {S R : List Int} (h : K3 H p l c r S R) (s : Same H H') : K3 H' p l c r S R := ⟨h.1.same s, h.2.same s, h.3.same s⟩
theorem K3.k {H H' : Hp} {p l c r : Addr} {S R : List Int} (h : K3 H p l c r S R) (k : KT H H') (hh : PoolAt H' p l) : K3 H' p l c r S R := ⟨hh, h.2.kt k, h.3.kt k⟩
theorem RwA.of {H : Hp} {a : Addr} {row : List Int} (h : RowAt H a row) (l : row.length ≤ 50000) : RwA H a := ⟨row, h, l⟩
theorem RwAll.add {H H' : Hp} {as : List Addr} {a : Addr} (h : RwAll H as) (s : Same H H') (n : RwA H' a) : RwAll H' (as ++ [a]) := h.snoc (KT.same s) n
/-- opened twice the same -/
theorem rd_eqD {K : PySem.W.Frag} {CP : Addr → Prop} {M1 M2 : List Addr} {H : Hp} {Q : VK} {v u : V} {d e : PyData} (h1 : Dt CP M1 H d v) (h2 : Dt CP M2 H e u) (l1 : SeqAt.shaped d = true) (l2 : SeqAt.shaped e = true) (q : Q (.bl (!PyData.eqv d e)) H) : rNeD K v u H Q :=
  ⟨d, e, dt_dp _ _ (SeqAt.canLay_of_shaped l1) h1, dt_dp _ _ (SeqAt.canLay_of_shaped l2) h2, l1, l2, q⟩
theorem RowAt.sealed {H : Hp} {t : Addr} {r : List Int} (h : H t = some (.tup ((r ++ sealL r).map V.int))) (hb : ∀ b ∈ r, 0 ≤ b ∧ b < 256) (hl : r.length ≤ 40000) : RowAt H t (r ++ sealL r) ∧ RwA H t := by
  have e : (r ++ sealL r).length = r.length + 4 := by rw [List.length_append, sealL_len]
  have h1 : RowAt H t (r ++ sealL r) := ⟨h, fun b hb' => by
    rcases List.mem_append.mp hb' with z | z
    · exact hb b z
    · exact sk_by 4 _ b z, by omega⟩
  exact ⟨h1, ⟨_, h1, by omega⟩⟩
end Mw

/-! R18m -/
/-! THE FACT OF ROWS, and back. -/
namespace Mw
open PySem L2
theorem val_one : ∀ (L : List Int) (c : Int), (∀ b ∈ L, 0 ≤ b ∧ b < 256) → L[lead L]? = some c → c ≠ 0 → 1 ≤ val (L.take (lead L + 1))
  | [], c, _, e, _ => by simp [lead] at e
  | b :: r, c, hb, e, hc => by
    have b1 := hb b (by simp)
    by_cases g : 128 ≤ b
    · have el : lead (b :: r) = lead r + 1 := if_pos g
      rw [el] at e ⊢
      rw [List.getElem?_cons_succ] at e
      have := val_one r c (fun x hx => hb x (by simp [hx])) e hc
      rw [List.take_succ_cons]
      show 1 ≤ b % 128 + 128 * val (r.take (lead r + 1))
      omega
    · have el : lead (b :: r) = 0 := if_neg g
      rw [el] at e ⊢
      have : b = c := by simpa using e
      show 1 ≤ b % 128 + 128 * 0
      omega
theorem wh_inv : ∀ (L : List Int) (c : Int), (∀ b ∈ L, 0 ≤ b ∧ b < 256) → L[lead L]? = some c → (c ≠ 0 ∨ lead L = 0) → L.take (lead L + 1) = wh (val (L.take (lead L + 1))).toNat
  | [], c, _, e, _ => by simp [lead] at e
  | b :: r, c, hb, e, hc => by
    have b1 := hb b (by simp)
    by_cases g : 128 ≤ b
    · have el : lead (b :: r) = lead r + 1 := if_pos g
      rw [el] at e hc ⊢
      rw [List.getElem?_cons_succ] at e
      have c0 : c ≠ 0 := by
        rcases hc with z | z
        · exact z
        · omega
      have hr : ∀ x ∈ r, 0 ≤ x ∧ x < 256 := fun x hx => hb x (by simp [hx])
      have v1 := val_one r c hr e c0
      have ih := wh_inv r c hr e (.inl c0)
      rw [List.take_succ_cons]
      have ev : val (b :: r.take (lead r + 1)) = b % 128 + 128 * val (r.take (lead r + 1)) := rfl
      rw [ev]
      generalize hv : val (r.take (lead r + 1)) = v at v1 ih
      rw [wh_ge (show ¬ (b % 128 + 128 * v).toNat < 128 by omega), ih]
      have e1 : (((b % 128 + 128 * v).toNat % 128 + 128 : Nat) : Int) = b := by omega
      have e2 : (b % 128 + 128 * v).toNat / 128 = v.toNat := by omega
      rw [e1, e2]
    · have el : lead (b :: r) = 0 := if_neg g
      rw [el]
      show [b] = wh (b % 128 + 128 * 0).toNat
      rw [wh_lt (by omega)]
      have : ((b % 128 + 128 * 0).toNat : Int) = b := by omega
      rw [this]
theorem whR_inv {row : List Int} (hb : ∀ b ∈ row, 0 ≤ b ∧ b < 256) {h e : Nat} {n : Int} (g : whR row h = some (n, e)) : row.drop h = wh n.toNat ++ row.drop e := by
  unfold whR at g
  split at g
  · cases g
  · rename_i c hc
    split at g
    · cases g
    · rename_i hn
      injection g with g
      injection g with g1 g2
      have e2 : (row.drop h)[lead (row.drop h)]? = some c := by
        rw [List.getElem?_drop]
        exact hc
      have hk : c ≠ 0 ∨ lead (row.drop h) = 0 := by omega
      have := wh_inv (row.drop h) c (fun b hb' => hb b (List.mem_of_mem_drop hb')) e2 hk
      rw [g1] at this
      rw [← this, ← g2, Nat.add_assoc, ← List.drop_drop, List.take_append_drop]
theorem strR_inv {row : List Int} (hb : ∀ b ∈ row, 0 ≤ b ∧ b < 256) : ∀ {m h e : Nat} {cs : List Nat}, strR row m h = .ok cs e → cs.length = m ∧ row.drop h = (cs.map fun c : Nat => (c : Int)) ++ row.drop e ∧ (cs.map fun c : Nat => (c : Int)).all isSign = true
  | 0, h, e, cs, g => by
    unfold strR at g
    injection g with g1 g2
    subst g1 g2
    exact ⟨rfl, rfl, rfl⟩
  | m + 1, h, e, cs, g => by
    unfold strR at g
    split at g
    · cases g
    · rename_i b hb'
      split at g
      · rename_i hs
        cases k : strR row m (h + 1) with
        | bad e2 =>
          rw [k] at g
          cases g
        | ok cs2 e2 =>
          rw [k] at g
          injection g with g1 g2
          subst g1 g2
          obtain ⟨i1, i2, i3⟩ := strR_inv hb k
          have hl := (List.getElem?_eq_some_iff.mp hb').1
          have b0 := hb b (List.mem_of_getElem? hb')
          have ebb : ((b.toNat : Nat) : Int) = b := by omega
          refine ⟨by simp [i1], ?_, ?_⟩
          · rw [List.drop_eq_getElem_cons hl, show row[h] = b from (List.getElem?_eq_some_iff.mp hb').2, i2, List.map_cons, ebb]
            rfl
          · rw [List.map_cons, List.all_cons, ebb, hs, i3]
            rfl
      · cases g
theorem its_inv {row : List Int} {n : Nat} (hR : ∀ h d e, Rd row n h (.ok d e) → isPc n d = true ∧ row.drop h = byD d ++ row.drop e) {m h : Nat} {r : Rs (List PyData)} (a : Its (Rd row n) m h r) : ∀ ds e, r = .ok ds e → ds.length = m ∧ isPcAll n ds = true ∧ row.drop h = byAll ds ++ row.drop e := by
  induction a with
  | nil h =>
    intro ds e z
    injection z with z1 z2
    subst z1 z2
    exact ⟨rfl, rfl, rfl⟩
  | bad x =>
    intro ds e z
    cases z
  | @one m h h2 d r x y ih =>
    intro ds e z
    cases r with
    | bad e2 => cases z
    | ok l2 e2 =>
      injection z with z1 z2
      subst z1 z2
      obtain ⟨i1, i2, i3⟩ := ih _ _ rfl
      obtain ⟨j1, j2⟩ := hR _ _ _ x
      refine ⟨by simp [i1], ?_, ?_⟩
      · simp only [isPcAll, Bool.and_eq_true]
        exact ⟨j1, i2⟩
      · rw [j2, i3]
        show _ = byD d ++ byAll l2 ++ _
        rw [List.append_assoc]
theorem rdB_inv {row : List Int} (hb : ∀ b ∈ row, 0 ≤ b ∧ b < 256) {n : Nat} (hR : ∀ n', n = n' + 1 → ∀ h d e, Rd row n' h (.ok d e) → isPc n' d = true ∧ row.drop h = byD d ++ row.drop e) {h e : Nat} {d : PyData} (a : RdB row (inn row n) h (.ok d e)) : isPc n d = true ∧ row.drop h = byD d ++ row.drop e := by
  unfold RdB at a
  split at a
  · cases a
  · rename_i c hc
    have hl := (List.getElem?_eq_some_iff.mp hc).1
    have ec : row.drop h = c :: row.drop (h + 1) := by
      rw [List.drop_eq_getElem_cons hl, show row[h] = c from (List.getElem?_eq_some_iff.mp hc).2]
    have c0 := hb c (List.mem_of_getElem? hc)
    split at a
    · cases a
    · rename_i hn
      split at a
      · rename_i c3
        injection a with a1 a2
        subst a1 a2
        rw [ec]
        by_cases z : c = 0
        · rw [if_pos z, z]
          exact ⟨rfl, rfl⟩
        · rw [if_neg z]
          refine ⟨rfl, ?_⟩
          by_cases z2 : c = 2
          · rw [decide_eq_true z2, z2]
            rfl
          · rw [decide_eq_false z2, show c = 1 by omega]
            rfl
      · rename_i c3
        split at a
        · cases a
        · rename_i k e' hw
          have hwi := whR_inv hb hw
          have hk := whR_nn hw
          split at a
          · rename_i c5
            injection a with a1 a2
            subst a1 a2
            refine ⟨rfl, ?_⟩
            rw [ec, hwi]
            by_cases z : c = 3
            · rw [if_pos z, z]
              have : byD (.int k) = 3 :: wh k.toNat := if_pos hk
              rw [this]
              rfl
            · rw [if_neg z, show c = 4 by omega]
              have : byD (.int (-1 - k)) = 4 :: wh (-1 - (-1 - k)).toNat := if_neg (by omega)
              rw [this, show -1 - (-1 - k) = k by omega]
              rfl
          · rename_i c5
            split at a
            · rename_i z5
              split at a
              · cases a
              · rename_i hk20
                cases q : strR row k.toNat e' with
                | bad e2 =>
                  rw [q] at a
                  cases a
                | ok cs e2 =>
                  rw [q] at a
                  injection a with a1 a2
                  subst a1 a2
                  obtain ⟨i1, i2, i3⟩ := strR_inv hb q
                  refine ⟨?_, ?_⟩
                  · show okStr (strOf cs) = true
                    unfold okStr
                    rw [len_of, sgn_of, i3, i1, decide_eq_true (show 0 < k.toNat by omega), decide_eq_true (show k.toNat ≤ 20 by omega)]
                    rfl
                  · rw [ec, hwi, i2, z5]
                    show _ = (5 : Int) :: (wh (strOf cs).length ++ sgn (strOf cs)) ++ _
                    rw [len_of, sgn_of, i1, List.cons_append, List.append_assoc]
            · rename_i z5
              have z6 : c = 6 := by omega
              obtain ⟨R', r, x, y, z⟩ := a
              cases n with
              | zero => cases x
              | succ n =>
                cases x
                cases r with
                | bad e2 => cases z
                | ok ds e2 =>
                  injection z with z1 z2
                  subst z1 z2
                  obtain ⟨i1, i2, i3⟩ := its_inv (hR n rfl) y _ _ rfl
                  refine ⟨?_, ?_⟩
                  · simp only [isPc, Bool.and_eq_true, decide_eq_true_eq]
                    exact ⟨by omega, i2⟩
                  · rw [ec, hwi, i3, z6]
                    show _ = (6 : Int) :: (wh ds.length ++ byAll ds) ++ _
                    rw [i1, List.cons_append, List.append_assoc]
theorem rd_inv {row : List Int} (hb : ∀ b ∈ row, 0 ≤ b ∧ b < 256) : ∀ {n h e : Nat} {d : PyData}, Rd row n h (.ok d e) → isPc n d = true ∧ row.drop h = byD d ++ row.drop e
  | 0, h, e, d, a => rdB_inv hb (n := 0) (fun n' z => by omega) a
  | n + 1, h, e, d, a => rdB_inv hb (n := n + 1) (fun n' z h d e x => by
    have : n' = n := by omega
    subst this
    exact rd_inv hb x) a
theorem rd_inv_all {row : List Int} (hb : ∀ b ∈ row, 0 ≤ b ∧ b < 256) {d : PyData} (a : Rd row 20 0 (.ok d row.length)) : isPc 20 d = true ∧ row = byD d := by
  obtain ⟨h1, h2⟩ := rd_inv hb a
  refine ⟨h1, ?_⟩
  rw [List.drop_length, List.append_nil] at h2
  exact h2
theorem opD_size {row : List Int} (hb : ∀ b ∈ row, 0 ≤ b ∧ b < 256) {D : PyData} (h : OpD row D) : plainD D = true ∧ D.depth < 22 ∧ szd D ≤ row.length + 2 := by
  rcases h with ⟨_, d, hR, rfl⟩ | ⟨_, rfl⟩
  · have hbb : ∀ b ∈ body row, 0 ≤ b ∧ b < 256 := fun b hb' => hb b (List.mem_of_mem_take hb')
    obtain ⟨h1, h2⟩ := rd_inv_all hbb hR
    have h3 := isPc_depth d h1
    have h4 := szd_by d h1
    have h5 : (body row).length ≤ row.length := by
      unfold body
      rw [List.length_take]
      omega
    rw [← h2] at h4
    refine ⟨?_, ?_, ?_⟩
    · show (plainD d && true) = true
      rw [isPc_plain d h1]
      rfl
    · show max d.depth 0 + 1 < 22
      omega
    · show szd d + 0 + 1 ≤ row.length + 2
      omega
  · refine ⟨rfl, by decide, ?_⟩
    show 0 + 1 ≤ row.length + 2
    omega
end Mw

/-! T1m -/
/-! Things nested; sizes; where what is none stands. -/
namespace Mw
open PySem L2
def nestL : Nat → PyData
  | 0 => .none
  | n + 1 => .list [nestL n]
def nestT : Nat → PyData → PyData
  | 0, d => d
  | n + 1, d => .tuple [nestT n d]
theorem nestT_pc : ∀ (n k : Nat) (d : PyData), isPc k d = true → isPc (n + k) (nestT n d) = true
  | 0, k, d, h => by
    rw [Nat.zero_add]
    exact h
  | n + 1, k, d, h => by
    have := nestT_pc n k d h
    show (decide (0 < n + 1 + k) && (isPc (n + 1 + k - 1) (nestT n d) && true)) = true
    rw [show n + 1 + k - 1 = n + k by omega, this, decide_eq_true (by omega)]
    rfl
theorem nestT_by : ∀ (n : Nat) (d : PyData), (byD (nestT n d)).length = 2 * n + (byD d).length
  | 0, d => by
    show (byD d).length = _
    omega
  | n + 1, d => by
    have := nestT_by n d
    show ((6 : Int) :: (wh [nestT n d].length ++ byAll [nestT n d])).length = _
    rw [byAll_one, show [nestT n d].length = 1 from rfl, wh_lt (by decide)]
    simp
    omega
theorem isPc_flat {d : PyData} (h : isT d = false) {n m : Nat} (p : isPc n d = true) : isPc m d = true := by
  cases d with
  | tuple ds => cases h
  | list ds => exact p
  | dict ds => exact p
  | none => exact p
  | bool b => exact p
  | int b => exact p
  | str b => exact p
mutual
def pctF : PyData → Bool
  | .str s => (sgn s).all fun c => !decide (c = 37)
  | .tuple ds => pctFAll ds
  | _ => true
def pctFAll : List PyData → Bool
  | [] => true
  | d :: ds => pctF d && pctFAll ds
end
theorem pctF_get : ∀ {ds : List PyData} {i : Nat} {d : PyData}, pctFAll ds = true → ds[i]? = some d → pctF d = true
  | [], i, d, _, e => by simp at e
  | c :: ds, 0, d, h, e => by
    simp only [pctFAll, Bool.and_eq_true] at h
    cases e
    exact h.1
  | c :: ds, i + 1, d, h, e => by
    simp only [pctFAll, Bool.and_eq_true] at h
    exact pctF_get h.2 (by simpa using e)
mutual
theorem isPc_pct : ∀ {n : Nat} (d : PyData), isPc n d = true → pctF d = true
  | n, .none, _ => rfl
  | n, .bool _, _ => rfl
  | n, .int _, _ => rfl
  | n, .list _, _ => rfl
  | n, .dict _, _ => rfl
  | n, .str s, h => by
    have h' : okStr s = true := h
    unfold okStr at h'
    simp only [Bool.and_eq_true, decide_eq_true_eq] at h'
    show (sgn s).all (fun c => !decide (c = 37)) = true
    rw [List.all_eq_true]
    intro c hc
    have := List.all_eq_true.mp h'.2 c hc
    unfold isSign at this
    simp only [Bool.and_eq_true, decide_eq_true_eq] at this
    exact this.2
  | n, .tuple ds, h => by
    simp only [isPc, Bool.and_eq_true, decide_eq_true_eq] at h
    exact isPcAll_pct ds h.2
theorem isPcAll_pct : ∀ {n : Nat} (ds : List PyData), isPcAll n ds = true → pctFAll ds = true
  | n, [], _ => rfl
  | n, d :: ds, h => by
    simp only [isPcAll, pctFAll, Bool.and_eq_true] at h ⊢
    exact ⟨isPc_pct d h.1, isPcAll_pct ds h.2⟩
end
mutual
def smallI : PyData → Bool
  | .int i => decide (i.natAbs < 10 ^ 20 + 1)
  | .str s => decide (s.length < 16384)
  | .tuple ds => decide (ds.length < 16384) && smallIAll ds
  | _ => true
def smallIAll : List PyData → Bool
  | [] => true
  | d :: ds => smallI d && smallIAll ds
end
mutual
theorem by_szd : ∀ d : PyData, smallI d = true → (byD d).length ≤ 12 * szd d
  | .none, _ => by decide
  | .bool b, _ => by
    show [if b then (2 : Int) else 1].length ≤ 12 * 1
    simp
  | .int i, h => by
    have h' : decide (i.natAbs < 10 ^ 20 + 1) = true := h
    have := by_int (of_decide_eq_true h')
    show _ ≤ 12 * 1
    omega
  | .list _, _ => Nat.zero_le _
  | .dict _, _ => Nat.zero_le _
  | .str s, h => by
    have h' : decide (s.length < 16384) = true := h
    have h2 := of_decide_eq_true h'
    have e : (128 : Nat) ^ 2 = 16384 := by decide
    have := wh_len 1 s.length (by rw [e]; exact h2)
    show ((5 : Int) :: (wh s.length ++ sgn s)).length ≤ 12 * (s.length + 1)
    rw [List.length_cons, List.length_append, sgn_len]
    omega
  | .tuple ds, h => by
    simp only [smallI, Bool.and_eq_true, decide_eq_true_eq] at h
    have e : (128 : Nat) ^ 2 = 16384 := by decide
    have h1 := wh_len 1 ds.length (by rw [e]; exact h.1)
    have h2 := byAll_szd ds h.2
    show ((6 : Int) :: (wh ds.length ++ byAll ds)).length ≤ 12 * (szdAll ds + 1)
    rw [List.length_cons, List.length_append]
    omega
theorem byAll_szd : ∀ ds : List PyData, smallIAll ds = true → (byAll ds).length ≤ 12 * szdAll ds
  | [], _ => Nat.zero_le _
  | d :: ds, h => by
    simp only [smallIAll, Bool.and_eq_true] at h
    have h1 := by_szd d h.1
    have h2 := byAll_szd ds h.2
    show (byD d ++ byAll ds).length ≤ 12 * (szd d + szdAll ds)
    rw [List.length_append]
    omega
end
theorem strR_bad {row : List Int} : ∀ {m h e : Nat}, h ≤ row.length → strR row m h = .bad e → e ≤ row.length
  | 0, h, e, l, g => by
    unfold strR at g
    cases g
  | m + 1, h, e, l, g => by
    unfold strR at g
    split at g
    · injection g with g
      omega
    · rename_i b hb
      have hl := (List.getElem?_eq_some_iff.mp hb).1
      split at g
      · cases k : strR row m (h + 1) with
        | bad e2 =>
          rw [k] at g
          injection g with g
          have := strR_bad (by omega) k
          omega
        | ok cs2 e2 =>
          rw [k] at g
          cases g
      · injection g with g
        omega
theorem its_bad {row : List Int} {R : Nat → Rs PyData → Prop} (hR : ∀ h d e, R h (.ok d e) → h < e ∧ e ≤ row.length) (hB : ∀ h e, h ≤ row.length → R h (.bad e) → e ≤ row.length) {m h : Nat} {r : Rs (List PyData)} (a : Its R m h r) : ∀ e, r = .bad e → h ≤ row.length → e ≤ row.length := by
  induction a with
  | nil h =>
    intro e z
    cases z
  | @bad m h e2 x =>
    intro e z l
    injection z with z
    have := hB _ _ l x
    omega
  | @one m h h2 d r x y ih =>
    intro e z l
    have h1 := hR _ _ _ x
    cases r with
    | bad e2 =>
      injection z with z
      subst z
      exact ih _ rfl h1.2
    | ok l2 e2 => cases z
theorem rdB_bad {row : List Int} {R : Option (Nat → Rs PyData → Prop)} (hR : ∀ R', R = some R' → ∀ h d e, R' h (.ok d e) → h < e ∧ e ≤ row.length) (hB : ∀ R', R = some R' → ∀ h e, h ≤ row.length → R' h (.bad e) → e ≤ row.length) {h e : Nat} (l : h ≤ row.length) (a : RdB row R h (.bad e)) : e ≤ row.length := by
  unfold RdB at a
  split at a
  · injection a with a
    omega
  · rename_i c hc
    have hl := (List.getElem?_eq_some_iff.mp hc).1
    split at a
    · injection a with a
      omega
    · split at a
      · cases a
      · split at a
        · injection a with a
          omega
        · rename_i n e' hw
          have := whR_le hw
          split at a
          · cases a
          · split at a
            · split at a
              · injection a with a
                omega
              · cases k : strR row n.toNat e' with
                | bad e2 =>
                  rw [k] at a
                  injection a with a
                  have := strR_bad (by omega) k
                  omega
                | ok cs e2 =>
                  rw [k] at a
                  cases a
            · obtain ⟨R', r, x, y, z⟩ := a
              cases r with
              | bad e2 =>
                injection z with z
                have := its_bad (hR _ x) (hB _ x) y _ rfl (by omega)
                omega
              | ok ds e2 => cases z
theorem rd_bad {row : List Int} : ∀ {n h e : Nat}, h ≤ row.length → Rd row n h (.bad e) → e ≤ row.length
  | 0, h, e, l, a => rdB_bad (R := none) (fun _ z => by cases z) (fun _ z => by cases z) l a
  | n + 1, h, e, l, a => rdB_bad (R := some (Rd row n)) (fun R' z h d e x => by
    cases z
    exact rd_le x) (fun R' z h e l x => by
    cases z
    exact rd_bad l x) l a
end Mw

/-! T1 -/
namespace Mw
open PySem L2
def spDeep (CP : Addr → Prop) : Sp := fun vs H Q _ => ∃ M : List Addr, vs = [] ∧ (∀ m ∈ M, ∃ o, H m = some o) ∧ ∀ v H', Same H H' → Dt CP M H' (nestL 36) v → Q v H'
def spFlag : Sp := fun vs H Q _ => ∃ b : Bool, vs = [.bl b, .bl b] ∧ Q (.bl true) H
def spNested (CP : Addr → Prop) : Sp := fun vs H Q _ => ∃ (M : List Addr) (d : PyData) (n : Nat) (x : V), vs = [.int (n : Int), x] ∧ n ≤ 100 ∧ Dt CP M H d x ∧ ∀ v H', Same H H' → Dt CP M H' (nestT n d) v → Q v H'
/-- the law's own judge, of things in which no sign is the one that is none -/
def spLPc (CP : Addr → Prop) (n : Nat) : Sp := fun vs H Q _ => ∃ (M : List Addr) (d : PyData) (x : V) (deep : Nat), vs = [x, .int (deep : Int)] ∧ Dt CP M H d x ∧ deep < n ∧ szd d ≤ 900000 ∧ pctF d = true ∧ ∀ H', Same H H' → Q (.bl (isPc deep d)) H'
theorem lt1 (c d : Nat) : decide (([c] : List Nat) < [d]) = decide (c < d) := by
  by_cases h : c < d
  · rw [decide_eq_true h, decide_eq_true]
    exact List.cons_lt_cons_iff.mpr (.inl h)
  · rw [decide_eq_false h, decide_eq_false]
    intro z
    rcases List.cons_lt_cons_iff.mp z with y | ⟨_, y⟩
    · exact h y
    · exact absurd y (List.not_lt_nil _)
theorem new_out {M : List Addr} {H : Hp} {a : Addr} (hM : ∀ m ∈ M, ∃ o, H m = some o) (n : H a = none) : a ∉ M := fun z => by
  obtain ⟨o, h⟩ := hM a z
  rw [n] at h
  cases h
theorem there_same {M : List Addr} {H H' : Hp} (hM : ∀ m ∈ M, ∃ o, H m = some o) (s : Same H H') : ∀ m ∈ M, ∃ o, H' m = some o := fun m hm => by
  obtain ⟨o, h⟩ := hM m hm
  exact ⟨o, s _ _ h⟩
section
variable {P : Program} {w : World} {K : PySem.W.Frag} {mg : Str → Option Value} {base : Heap}
local macro_rules | `(tactic| walk_at "rd") => `(tactic| (repeat (first
  | ((with_reducible refine' rd_var ?h0 ?_); (case h0 => rfl))
  | with_reducible refine rd_c ?_
  | with_reducible refine rd_op ?_
  | with_reducible refine rd_nil ?_
  | with_reducible refine rd_cons ?_
  | with_reducible refine rd_tup ?_
  | with_reducible refine rd_lst ?_
  | with_reducible refine rd_ifs ?_
  | with_reducible refine rd_seq ?_
  | with_reducible refine rd_next ?_
  | with_reducible refine rd_ret ?_
  | with_reducible refine rd_asg ?_
  | ((with_reducible refine' rd_gset ?hs ?_); (case hs => ((simp only [L2.start, List.map_cons, List.map_nil, List.length_cons, List.length_nil, List.cons_append, List.nil_append, List.set_cons_zero, List.set_cons_succ, Nat.reduceAdd, Nat.reduceSub, Nat.zero_add, List.reduceReplicate]); rfl)))
  | with_reducible refine rd_drop ?_
  | with_reducible refine rd_test ?_
  | with_reducible refine rd_B ?_
  | with_reducible refine rd_bl ?_
  | with_reducible refine rd_blP ?_
  | with_reducible refine rd_andV ?_
  | with_reducible refine rd_orV ?_
  | with_reducible refine rd_notV ?_
  | with_reducible refine rd_and ?_
  | with_reducible refine rd_or ?_
  | with_reducible refine rd_not ?_
  | with_reducible refine rd_chain ?_
  | with_reducible refine rd_dput ?_
  | with_reducible refine rd_dget ?_
  | with_reducible refine rd_cb ?_
  | with_reducible refine rd_call ?_
  | with_reducible refine rd_un ?_
  | with_reducible refine rd_sl ?_
  | with_reducible refine rd_nopart ?_
  | with_reducible refine rd_part ?_
  | with_reducible refine rd_intP ?_
  | with_reducible refine rd_rU ?_
  | with_reducible refine rd_fld ?_
  | with_reducible refine rd_eqI ?_
  | with_reducible refine rd_neI ?_
  | with_reducible refine rd_mko ?_
  | with_reducible refine rd_bm ?_
  | with_reducible refine rd_gsub ?_
  | with_reducible refine rd_i0 ?_)))
theorem ok_law_deep (T : Tx K mg) (B : Bk K mg T) : FnOk P w K mg base CX0 1 B.law_deep.f B.law_deep.fd [] (spDeep T.CP) := by
  refine B.law_deep.F.ok sc_law_deep (fun vs H Q E h => ?_) (fun cdv A outer s H vs Q E hr h => ?_)
  · obtain ⟨M, rfl, _⟩ := h
    rfl
  · obtain ⟨M, rfl, hM, q⟩ := h
    refine ⟨_, (pss_cons (ps_set (i := 0) sc_law_deep.nd rfl (Or.inl rfl) (pe_lst (pa_cons pe_non pa_nil)))
      (pss_cons (ps_for PassesOwn.never rfl (pi_range1 (by rfl) T.b_range (pa_cons pe_int pa_nil)) (pg_name (i := 1) sc_law_deep.nd rfl (Or.inl rfl)) (pss_one (ps_set (i := 0) sc_law_deep.nd rfl (Or.inl rfl) (pe_lst (pa_cons (pv 0) pa_nil)))))
      (pss_one (ps_ret (pv 0))))), ?_⟩
    walk_at "rd"
    refine rd_disp rfl fun l nl => ?_
    have s1 := same_new (o := .lst [.non]) nl
    walk_at "rd"
    refine ⟨35, rfl, by decide, by decide, for_range (lo := 0) (n := 35) (fun i σ H1 => Same H H1 ∧ ∃ (v : V) (u : Option V), σ = [some v, u] ∧ Dt T.CP M H1 (nestL (i + 1)) v)
      ⟨s1, .ref l, none, rfl, dt_lst (new_out hM nl) upd_same (dtAll_cons dt_non dtAll_nil)⟩ ?_ ?_⟩
    · rintro i σ H1 hi ⟨hs, v, u, rfl, hv⟩
      walk_at "rd"
      refine rd_disp rfl fun l2 nl2 => ?_
      have s2 := same_new (o := .lst [v]) nl2
      exact ⟨hs.trans s2, .ref l2, _, rfl, dt_lst (new_out (there_same hM hs) nl2) upd_same (dtAll_cons (hv.s s2) dtAll_nil)⟩
    · rintro σ H1 ⟨hs, v, u, rfl, hv⟩
      walk_at "rd"
      exact q v H1 hs hv
theorem ok_law_flag (T : Tx K mg) (B : Bk K mg T) : FnOk P w K mg base CX0 1 B.law_flag.f B.law_flag.fd ["_law_thing", "_law_due"] spFlag := by
  refine B.law_flag.F.ok sc_law_flag (fun vs H Q E h => ?_) (fun cdv A outer s H vs Q E hr h => ?_)
  · obtain ⟨b, rfl, _⟩ := h
    rfl
  · obtain ⟨b, rfl, q⟩ := h
    refine ⟨_, (pss_one (ps_ret (pe_and (pe_callB call_isi (by rfl) T.b_isinstance (by decide +kernel) (pa_cons (pv 0) (pa_cons (pe_bltn (v := .ty "bool") (by rfl) T.b_bool (by decide +kernel) rfl) pa_nil))) (pe_one (pe_cmpR op_eq (pv 0) (pv 1) (nomark _)))))), ?_⟩
    walk_at "rd"
    refine dt_isB (CP := T.CP) (M := []) T.W (dt_bl (b := b)) ?_
    walk_at "rd"
    refine rd_yes rfl ?_
    walk_at "rd"
    refine rd_eq (by cases b <;> rfl) ?_
    rw [decide_eq_true rfl]
    exact q
theorem ok_law_nested (T : Tx K mg) (B : Bk K mg T) : FnOk P w K mg base CX0 1 B.law_nested.f B.law_nested.fd ["_law_many", "_law_inner"] (spNested T.CP) := by
  refine B.law_nested.F.ok sc_law_nested (fun vs H Q E h => ?_) (fun cdv A outer s H vs Q E hr h => ?_)
  · obtain ⟨M, d, n, x, rfl, _⟩ := h
    rfl
  · obtain ⟨M, d, n, x, rfl, hn, hd, q⟩ := h
    refine ⟨_, (pss_cons (ps_set (i := 2) sc_law_nested.nd rfl (Or.inl rfl) (pv 1))
      (pss_cons (ps_for PassesOwn.never rfl (pi_range1 (by rfl) T.b_range (pa_cons (pv 0) pa_nil)) (pg_name (i := 3) sc_law_nested.nd rfl (Or.inl rfl)) (pss_one (ps_set (i := 2) sc_law_nested.nd rfl (Or.inl rfl) (pe_tup (pa_cons (pv 2) pa_nil)))))
      (pss_one (ps_ret (pv 2))))), ?_⟩
    walk_at "rd"
    show iRng1 _ _ _ _
    refine rd_rng1 ?_
    walk_at "rd"
    refine ⟨n, rfl, by omega, by omega, ?_⟩
    rw [Int.toNat_natCast]
    refine for_range (lo := 0) (n := n) (fun i σ H1 => Same H H1 ∧ ∃ (v : V) (u : Option V), σ = [some (.int (n : Int)), some x, some v, u] ∧ Dt T.CP M H1 (nestT i d) v)
      ⟨Same.refl H, x, none, rfl, hd⟩ ?_ ?_
    · rintro i σ H1 hi ⟨hs, v, u, rfl, hv⟩
      walk_at "rd"
      refine rd_disp rfl fun t nt => ?_
      have s2 := same_new (o := .tup [v]) nt
      exact ⟨hs.trans s2, .ref t, _, rfl, dt_tup upd_same (dtAll_cons (hv.s s2) dtAll_nil)⟩
    · rintro σ H1 ⟨hs, v, u, rfl, hv⟩
      walk_at "rd"
      exact q v H1 hs hv
theorem lpc_step (T : Tx K mg) (B : Bk K mg T) {n k : Nat} (hk : 1 ≤ k) (G_law_is_parcel : FnOk P w K mg base CX0 k B.law_is_parcel.f B.law_is_parcel.fd ["_law_thing", "_law_left"] (spLPc T.CP n)) :
    FnOk P w K mg base CX0 (k + 1) B.law_is_parcel.f B.law_is_parcel.fd ["_law_thing", "_law_left"] (spLPc T.CP (n + 1)) := by
  refine B.law_is_parcel.F.ok sc_law_is_parcel (fun vs H Q E h => ?_) (fun cdv A outer s H vs Q E hr h => ?_)
  · obtain ⟨M, d, x, deep, rfl, _⟩ := h
    rfl
  · obtain ⟨M, d, x, deep, rfl, hd, hn, hz, hpct, q⟩ := h
    refine ⟨_, (pss_cons (ps_if (pt_val (pe_callB call_isi (by rfl) T.b_isinstance (by decide +kernel) (pa_cons (pv 0) (pa_cons (pe_bltn (v := .ty "tuple") (by rfl) T.b_tuple (by decide +kernel) rfl) pa_nil)))) (pss_one (ps_ret (pe_and (pe_cmpR op_gt (pv 1) pe_int (nomark _)) (pe_one (pe_callB (cr_all rfl) (by rfl) T.b_all (by decide +kernel) (pa_cons (pe_lc (own := [("_law_part", 2)]) (g := gName 2) rfl sc_law_is_parcel.nd (pi_tup (pv 0)) (blkOk_by (own := [("_law_part", 2)]) (N := ["_law_thing", "_law_left", "_law_part", "_law_sign_here"]) (sc := defScope s_law_is_parcel) (by decide +kernel)) (fun _ _ _ _ _ => pg_name (i := 2) sc_law_is_parcel.nd rfl (Or.inl rfl)) (fun _ _ _ _ _ => pts_nil) (fun _ _ _ _ _ => (pe_call G_law_is_parcel (hr.mono (by omega)) rfl B.law_is_parcel.m B.law_is_parcel.F.kp B.law_is_parcel.b .nil pass0 (pa_cons (pv 2) (pa_cons (pe_op op_sub (pv 1) pe_int) pa_nil))))) pa_nil)))))) pss_nil)
      (pss_cons (ps_if (pt_val (pe_callB call_isi (by rfl) T.b_isinstance (by decide +kernel) (pa_cons (pv 0) (pa_cons (pe_bltn (v := .ty "str") (by rfl) T.b_str (by decide +kernel) rfl) pa_nil)))) (pss_one (ps_ret (pe_and (pe_chain op_le op_le pe_int (pe_callB call_len_str (by rfl) T.b_len (by decide +kernel) (pa_cons (pv 0) pa_nil)) pe_int) (pe_one (pe_callB (cr_all rfl) (by rfl) T.b_all (by decide +kernel) (pa_cons (pe_lc (own := [("_law_sign_here", 3)]) (g := gName 3) rfl sc_law_is_parcel.nd (pi_str (pv 0)) (blkOk_by (own := [("_law_sign_here", 3)]) (N := ["_law_thing", "_law_left", "_law_part", "_law_sign_here"]) (sc := defScope s_law_is_parcel) (by decide +kernel)) (fun _ _ _ _ _ => pg_name (i := 3) sc_law_is_parcel.nd rfl (Or.inl rfl)) (fun _ _ _ _ _ => pts_nil) (fun _ _ _ _ _ => (pe_chain op_le_str op_le_str pe_str (pv 3) pe_str))) pa_nil)))))) pss_nil)
      (pss_one (ps_ret (pe_or (pe_cmpR op_isN (pv 0) pe_non (nomark _)) (pe_one (pe_callB call_isi (by rfl) T.b_isinstance (by decide +kernel) (pa_cons (pv 0) (pa_cons (pe_bltn (v := .ty "int") (by rfl) T.b_int (by decide +kernel) rfl) pa_nil))))))))), ?_⟩
    walk_at "rd"
    have q0 := q H (Same.refl H)
    refine dt_isT T.W hd ?_
    walk_at "rd"
    have hd' := hd
    cases d with
    | tuple ds =>
      obtain ⟨a, xs, rfl, ha, hx⟩ := dt_tup' hd'
      have hlx := hx.len
      have hz' : szdAll ds + 1 ≤ 900000 := hz
      have hlen := szdAll_len ds
      have hpct' : pctFAll ds = true := hpct
      refine rd_yes rfl ?_
      walk_at "rd"
      have e : isPc deep (.tuple ds) = (decide (0 < deep) && isPcAll (deep - 1) ds) := rfl
      rw [e] at q0
      refine rd_ite (fun h1 => ?_) (fun h1 => ?_)
      · have hdp : 0 < deep := by
          have := of_decide_eq_true h1
          omega
        walk_at "rd"
        show iTup _ _ _ _ _
        refine rd_itup ?_
        walk_at "rd"
        refine ⟨a, rfl, ⟨xs, SqT.of ha⟩, fun D hD => lc_tup (K := K) (a := a) (xs := xs) (fun i H1 => Same H H1 ∧ H1 D = some (.lst (((ds.take i).map (isPc (deep - 1))).map V.bl))) ⟨same_new hD, upd_same⟩ (fun i H1 _ hh => SqT.of (hh.1 _ _ ha)) ?_ ?_⟩
        · rintro i y H1 hi ⟨hs, hacc⟩
          obtain ⟨d1, hd1, td1⟩ := hx.get' hi
          have := szdAll_get hd1
          refine ⟨rfl, ?_⟩
          refine rd_tyes ?_
          refine rd_yes rfl ?_
          walk_at "rd"
          refine ⟨M, d1, y, deep - 1, ?_, td1.s hs, by omega, by omega, pctF_get hpct' hd1, fun H2 s2 => ?_⟩
          · rw [show ((deep : Int) - 1) = ((deep - 1 : Nat) : Int) by omega]
            rfl
          · refine ⟨_, s2 _ _ hacc, small' (by rw [List.length_map, List.length_map, List.length_take]; omega), fun b o e => (upd_ne (ne_of_none e hD)).trans (s2 b o (hs b o e)), ?_⟩
            rw [upd_same, take_snoc hd1, List.map_append, List.map_append]
            rfl
        · rintro H1 ⟨hs, hacc⟩
          rw [← hlx, List.take_length] at hacc
          refine ⟨D, _, rfl, SqL.of hacc, ?_⟩
          have z := q H1 hs
          rw [e, decide_eq_true hdp, Bool.true_and] at z
          have e2 : isPcAll (deep - 1) ds = (ds.map (isPc (deep - 1))).all id := by
            clear z hacc q q0 e hd hd' hx hlx hz hz' hlen hpct hpct'
            induction ds with
            | nil => rfl
            | cons d ds ih =>
              show (isPc (deep - 1) d && isPcAll (deep - 1) ds) = _
              rw [ih]
              rfl
          rw [e2] at z
          exact z
      · have hdp : ¬ 0 < deep := by
          have := of_decide_eq_false h1
          omega
        rw [decide_eq_false hdp, Bool.false_and] at q0
        exact q0
    | str z =>
      cases dt_str' hd'
      have hz' : z.length + 1 ≤ 900000 := hz
      have hpct' : (sgn z).all (fun c => !decide (c = 37)) = true := hpct
      refine rd_no rfl ?_
      walk_at "rd"
      refine dt_isS T.W hd ?_
      walk_at "rd"
      refine rd_yes rfl ?_
      walk_at "rd"
      have e : isPc deep (.str z) = ((decide (0 < z.length) && decide (z.length ≤ 20)) && (sgn z).all isSign) := rfl
      rw [e] at q0
      refine ⟨z, rfl, small (by omega), ?_⟩
      walk_at "rd"
      refine rd_ite (fun h1 => ?_) (fun h1 => ?_)
      · have h1' : 0 < z.length := by
          have := of_decide_eq_true h1
          omega
        walk_at "rd"
        refine rd_ite (fun h2 => ?_) (fun h2 => ?_)
        · have h2' : z.length ≤ 20 := by
            have := of_decide_eq_true h2
            omega
          walk_at "rd"
          show iStr _ _ _ _
          refine rd_istr ?_
          walk_at "rd"
          refine ⟨z, rfl, fun D hD => lc_it walk_str (fun i H2 => Same H H2 ∧ H2 D = some (.lst ((((sgn z).take i).map isSign).map V.bl)))
            ⟨same_new hD, upd_same⟩ (fun _ _ _ _ => trivial) ?_ ?_⟩
          · rintro i y H2 H3 hi ⟨hs, hacc⟩ ⟨rfl, c, hc, rfl⟩
            refine ⟨rfl, ?_⟩
            refine rd_tyes ?_
            refine rd_yes rfl ?_
            have hsg : (sgn z)[i]? = some (c : Int) := by
              unfold sgn
              rw [List.getElem?_map, Array.getElem?_toList, hc]
              rfl
            have c37 : decide ((c : Int) = 37) = false := by
              have := List.all_eq_true.mp hpct' _ (List.mem_of_getElem? hsg)
              simpa using this
            have fin : ∀ b : Bool, b = isSign (c : Int) → ∃ acc, H3 D = some (.lst acc) ∧ acc.length < sizeLine ∧ (Same H (upd H3 D (.lst (acc ++ [V.bl b]))) ∧ (upd H3 D (.lst (acc ++ [V.bl b]))) D = some (.lst ((((sgn z).take (i + 1)).map isSign).map V.bl))) := fun b hb => by
              refine ⟨_, hacc, small' (by rw [List.length_map, List.length_map, List.length_take, sgn_len]; omega), fun b o eb => (upd_ne (ne_of_none eb hD)).trans (hs b o eb), ?_⟩
              rw [upd_same, take_snoc hsg, List.map_append, List.map_append, hb]
              rfl
            walk_at "rd"
            refine ⟨_, _, rfl, rfl, ?_⟩
            walk_at "rd"
            refine rd_ite (fun h3 => ?_) (fun h3 => ?_)
            · have c32 : 32 ≤ c := by
                have h3' : (!decide (([c] : List Nat) < [32])) = true := h3
                rw [lt1] at h3'
                simpa using h3'
              walk_at "rd"
              refine ⟨_, _, rfl, rfl, ?_⟩
              refine fin _ ?_
              unfold isSign
              rw [c37, decide_eq_true (show (32 : Int) ≤ c by omega)]
              by_cases z126 : c ≤ 126
              · rw [decide_eq_true (show (c : Int) ≤ 126 by omega)]
                show (!decide (([126] : List Nat) < [c])) = true
                rw [lt1]
                simpa using z126
              · rw [decide_eq_false (show ¬ (c : Int) ≤ 126 by omega)]
                show (!decide (([126] : List Nat) < [c])) = false
                rw [lt1]
                simpa using z126
            · have c32 : c < 32 := by
                have h3' : (!decide (([c] : List Nat) < [32])) = false := h3
                rw [lt1] at h3'
                simpa using h3'
              refine fin _ ?_
              unfold isSign
              rw [decide_eq_false (show ¬ (32 : Int) ≤ c by omega)]
              rfl
          · rintro H2 ⟨hs, hacc⟩
            rw [List.take_of_length_le (by rw [sgn_len]; exact Nat.le_refl _)] at hacc
            refine ⟨D, _, rfl, SqL.of hacc, ?_⟩
            have zz := q H2 hs
            rw [e, decide_eq_true h1', decide_eq_true h2', Bool.true_and, Bool.true_and] at zz
            have e2 : ((sgn z).map isSign).all id = (sgn z).all isSign := by
              rw [List.all_map]
              rfl
            rw [← e2] at zz
            exact zz
        · have h2' : ¬ z.length ≤ 20 := by
            have := of_decide_eq_false h2
            omega
          rw [decide_eq_false h2', Bool.and_false, Bool.false_and] at q0
          exact q0
      · have h1' : ¬ 0 < z.length := by
          have := of_decide_eq_false h1
          omega
        rw [decide_eq_false h1', Bool.false_and, Bool.false_and] at q0
        walk_at "rd"
        exact q0
    | none =>
      cases dt_non' hd'
      refine rd_no rfl ?_
      walk_at "rd"
      refine dt_isS T.W hd ?_
      walk_at "rd"
      refine rd_no rfl ?_
      walk_at "rd"
      refine ⟨rfl, ?_⟩
      walk_at "rd"
      refine rd_yes rfl ?_
      exact q0
    | bool b =>
      cases dt_bl' hd'
      refine rd_no rfl ?_
      walk_at "rd"
      refine dt_isS T.W hd ?_
      walk_at "rd"
      refine rd_no rfl ?_
      walk_at "rd"
      refine ⟨rfl, ?_⟩
      walk_at "rd"
      refine rd_no rfl ?_
      walk_at "rd"
      refine dt_isI T.W hd ?_
      exact q0
    | int b =>
      cases dt_int' hd'
      refine rd_no rfl ?_
      walk_at "rd"
      refine dt_isS T.W hd ?_
      walk_at "rd"
      refine rd_no rfl ?_
      walk_at "rd"
      refine ⟨rfl, ?_⟩
      walk_at "rd"
      refine rd_no rfl ?_
      walk_at "rd"
      refine dt_isI T.W hd ?_
      exact q0
    | list es =>
      obtain ⟨a, xs, rfl, _⟩ := dt_lst' hd'
      refine rd_no rfl ?_
      walk_at "rd"
      refine dt_isS T.W hd ?_
      walk_at "rd"
      refine rd_no rfl ?_
      walk_at "rd"
      refine ⟨rfl, ?_⟩
      walk_at "rd"
      refine rd_no rfl ?_
      walk_at "rd"
      refine dt_isI T.W hd ?_
      exact q0
    | dict es =>
      obtain ⟨a, rfl, _⟩ := dt_dic' hd'
      refine rd_no rfl ?_
      walk_at "rd"
      refine dt_isS T.W hd ?_
      walk_at "rd"
      refine rd_no rfl ?_
      walk_at "rd"
      refine ⟨rfl, ?_⟩
      walk_at "rd"
      refine rd_no rfl ?_
      walk_at "rd"
      refine dt_isI T.W hd ?_
      exact q0
theorem ok_lpc_n (T : Tx K mg) (B : Bk K mg T) : ∀ n, FnOk P w K mg base CX0 (n + 1) B.law_is_parcel.f B.law_is_parcel.fd ["_law_thing", "_law_left"] (spLPc T.CP n)
  | 0 => fn_no fun vs H Q E h => by
    obtain ⟨M, d, x, deep, _, _, hn, _⟩ := h
    omega
  | n + 1 => lpc_step T B (by omega) (ok_lpc_n T B n)
end
end Mw

/-! T2 -/
namespace Mw
open PySem L2
def wordOf (d : PyData) : Str := if isPc 20 d = true then "let" else "parcel"
def spWord (CP : Addr → Prop) : Sp := fun vs H Q _ => ∃ (M : List Addr) (d : PyData) (x : V) (n : Int), vs = [.int n, x] ∧ Dt CP M H d x ∧ szd d ≤ 900000 ∧ (isPc 20 d = true → (byD d).length ≤ 800000) ∧ ∀ H', Same H H' → Q (.str (wordOf d)) H'
def spReadBy (CP : Addr → Prop) : Sp := fun vs H Q _ => ∃ (a : Addr) (row : List Int), vs = [.ref a] ∧ RowAt H a row ∧
  (∀ d, Rd row 20 0 (.ok d row.length) → ∀ u v H', Same H H' → H' u = some (.tup [v]) → Dt CP [] H' d v → Q (.ref u) H') ∧
  (∀ d e, Rd row 20 0 (.ok d e) → e ≠ row.length → ∀ H', Same H H' → Q (.int (e : Nat)) H') ∧
  (∀ e, Rd row 20 0 (.bad e) → ∀ H', Same H H' → Q (.int (e : Nat)) H')
def spSpoilt : Sp := fun vs H Q _ => ∃ (p l a : Addr) (row : List Int), vs = [.ref p, .ref a] ∧ PoolAt H p l ∧ RowAt H a row ∧ row.length ≤ 200000 ∧ ∀ c r2 H', RowAt H' c r2 → r2.length ≤ 2 * row.length + 1 → PoolAt H' p l → FK [p, l] H H' → Q (.ref c) H'
def spRight : Sp := fun vs H Q _ => ∃ (a : Addr) (row : List Int), vs = [.ref a] ∧ RowAt H a row ∧ row.length ≤ 400000 ∧ ∀ H', Same H H' → Q (.bl true) H'
theorem rd_par {i j : Nat} {ta : TA} {D : Ends} {σ : L2.St} {H : Hp} (h : ta σ H fun vs H1 => ∃ v w, vs = [v, w] ∧ D.nx ((σ.set i (some v)).set j (some w)) H1) : tPar i j ta D σ H := h
section
variable {P : Program} {w : World} {K : PySem.W.Frag} {mg : Str → Option Value} {base : Heap}
local macro_rules | `(tactic| walk_at "rd") => `(tactic| (repeat (first
  | ((with_reducible refine' rd_var ?h0 ?_); (case h0 => rfl))
  | with_reducible refine rd_c ?_
  | with_reducible refine rd_op ?_
  | with_reducible refine rd_nil ?_
  | with_reducible refine rd_cons ?_
  | with_reducible refine rd_tup ?_
  | with_reducible refine rd_lst ?_
  | with_reducible refine rd_ifs ?_
  | with_reducible refine rd_seq ?_
  | with_reducible refine rd_next ?_
  | with_reducible refine rd_ret ?_
  | with_reducible refine rd_asg ?_
  | ((with_reducible refine' rd_gset ?hs ?_); (case hs => ((simp only [L2.start, List.map_cons, List.map_nil, List.length_cons, List.length_nil, List.cons_append, List.nil_append, List.set_cons_zero, List.set_cons_succ, Nat.reduceAdd, Nat.reduceSub, Nat.zero_add, List.reduceReplicate]); rfl)))
  | with_reducible refine rd_drop ?_
  | with_reducible refine rd_test ?_
  | with_reducible refine rd_B ?_
  | with_reducible refine rd_bl ?_
  | with_reducible refine rd_blP ?_
  | with_reducible refine rd_andV ?_
  | with_reducible refine rd_orV ?_
  | with_reducible refine rd_notV ?_
  | with_reducible refine rd_and ?_
  | with_reducible refine rd_or ?_
  | with_reducible refine rd_not ?_
  | with_reducible refine rd_chain ?_
  | with_reducible refine rd_dput ?_
  | with_reducible refine rd_dget ?_
  | with_reducible refine rd_cb ?_
  | with_reducible refine rd_call ?_
  | with_reducible refine rd_un ?_
  | with_reducible refine rd_sl ?_
  | with_reducible refine rd_nopart ?_
  | with_reducible refine rd_part ?_
  | with_reducible refine rd_intP ?_
  | with_reducible refine rd_rU ?_
  | with_reducible refine rd_fld ?_
  | with_reducible refine rd_eqI ?_
  | with_reducible refine rd_neI ?_
  | with_reducible refine rd_mko ?_
  | with_reducible refine rd_bm ?_
  | with_reducible refine rd_gsub ?_
  | with_reducible refine rd_i0 ?_)))
theorem ok_law_word (T : Tx K mg) (B : Bk K mg T) : FnOk P w K mg base CX0 30 B.law_word.f B.law_word.fd ["_law_which", "_law_thing"] (spWord T.CP) := by
  have G_row_of := ok_row_of (P := P) (w := w) (base := base) T B
  have G_sealed := ok_sealed (P := P) (w := w) (base := base) T B
  refine B.law_word.F.ok sc_law_word (fun vs H Q E h => ?_) (fun cdv A outer s H vs Q E hr h => ?_)
  · obtain ⟨M, d, x, n, rfl, _⟩ := h
    rfl
  · obtain ⟨M, d, x, n, rfl, hd, hz, hb, q⟩ := h
    refine ⟨_, (pss_cons (ps_set (i := 2) sc_law_word.nd rfl (Or.inl rfl) pe_str)
      (pss_cons (ps_try_as (i := 3) (Wout := fun _ _ _ _ => False) rfl rfl sc_law_word.nd rfl rfl ⟨by rfl, by decide, Or.inl T.g_StreamError⟩ takes0 (fun W pn xe tk _ => (pss_one (ps_if (pt_cmpR op_eq (pv 0) pe_int (nomark _)) (pss_one (ps_expr (pe_callS G_row_of (hr.mono (by omega)) rfl B.row_of.m B.row_of.F.kp B.row_of.b (fun σ => passAt tk σ) (pa_cons (pv 1) pa_nil)))) (pss_one (ps_expr (pe_callS G_sealed (hr.mono (by omega)) rfl B.sealed.m B.sealed.F.kp B.sealed.b (fun σ => passAt tk σ) (pa_cons (pv 1) pa_nil))))))) (fun a oe cls d pn hz hf => (pss_one (ps_set (i := 2) sc_law_word.nd rfl (Or.inl rfl) (pe_ifExp (PW.pt (pw_and (pt_val (pe_callB (call_isEx hz hf) (by rfl) T.b_isinstance (by decide +kernel) (pa_cons (pv 3) (pa_cons (pe_glob (v := .ref T.c_NoParcel) (by rfl) T.g_NoParcel rfl) pa_nil)))) (pw_and1 (pt_val (pe_callB (call_isEx hz hf) (by rfl) T.b_isinstance (by decide +kernel) (pa_cons (pv 3) (pa_cons (pe_bltn (v := .ty "ValueError") (by rfl) T.b_ValueError (by decide +kernel) rfl) pa_nil))))))) pe_str pe_str)))))
      (pss_one (ps_ret (pv 2))))), ?_⟩
    walk_at "rd"
    have yes : ∀ H', isPc 20 d = true → Same H H' → Q (.str "let") H' := fun H' hp s => by
      have := q H' s
      unfold wordOf at this
      rw [if_pos hp] at this
      exact this
    have no : ∀ H', isPc 20 d = false → Same H H' → Q (.str "parcel") H' := fun H' hp s => by
      have := q H' s
      unfold wordOf at this
      rw [if_neg (by rw [hp]; decide)] at this
      exact this
    refine rd_ite (fun h1 => ?_) (fun h1 => ?_)
    · walk_at "rd"
      refine rd_callS ?_
      walk_at "rd"
      refine ⟨M, d, x, rfl, hd, hz, fun hp => by have := hb hp; omega, fun hp t H1 s1 ht => ?_, fun hp H1 s1 => ?_⟩
      · walk_at "rd"
        exact yes _ hp s1
      · refine ⟨true, T.r_NoParcelStream, fun _ z hnz => ?_, fun z => by cases z⟩
        walk_at "rd"
        refine rd_ifx ?_
        walk_at "rd"
        refine ⟨_, _, _, _, rfl, rfl, T.xc_NoParcel, .inl rfl, .own _, T.q_NpNp, ?_⟩
        walk_at "rd"
        refine rd_yes rfl ?_
        walk_at "rd"
        refine ⟨_, _, _, _, rfl, rfl, T.xc_NoParcel, .inl rfl, .ty _, T.q_NpVe, ?_⟩
        walk_at "rd"
        refine rd_yes rfl ?_
        walk_at "rd"
        exact no _ hp s1
    · walk_at "rd"
      refine rd_callS ?_
      walk_at "rd"
      refine ⟨M, d, x, rfl, hd, hz, hb, fun hp t H1 s1 ht => ?_, fun hp H1 s1 => ?_⟩
      · walk_at "rd"
        exact yes _ hp s1
      · refine ⟨true, T.r_NoParcelStream, fun _ z hnz => ?_, fun z => by cases z⟩
        walk_at "rd"
        refine rd_ifx ?_
        walk_at "rd"
        refine ⟨_, _, _, _, rfl, rfl, T.xc_NoParcel, .inl rfl, .own _, T.q_NpNp, ?_⟩
        walk_at "rd"
        refine rd_yes rfl ?_
        walk_at "rd"
        refine ⟨_, _, _, _, rfl, rfl, T.xc_NoParcel, .inl rfl, .ty _, T.q_NpVe, ?_⟩
        walk_at "rd"
        refine rd_yes rfl ?_
        walk_at "rd"
        exact no _ hp s1
theorem ok_law_read_by (T : Tx K mg) (B : Bk K mg T) : FnOk P w K mg base CX0 48 B.law_read_by.f B.law_read_by.fd ["_law_row"] (spReadBy T.CP) := by
  have G_parcel_of := ok_parcel_of (P := P) (w := w) (base := base) T B
  refine B.law_read_by.F.ok sc_law_read_by (fun vs H Q E h => ?_) (fun cdv A outer s H vs Q E hr h => ?_)
  · obtain ⟨a, row, rfl, _⟩ := h
    rfl
  · obtain ⟨a, row, rfl, ha, q1, q2, q3⟩ := h
    refine ⟨_, (pss_cons (ps_set (i := 1) sc_law_read_by.nd rfl (Or.inl rfl) pe_non)
      (pss_cons (ps_try_as (i := 2) (Wout := fun _ _ _ _ => False) rfl rfl sc_law_read_by.nd rfl rfl ⟨by rfl, by decide, Or.inl T.g_BadRow⟩ takes0 (fun W pn xe tk _ => (pss_one (ps_set (i := 1) sc_law_read_by.nd rfl (Or.inl rfl) (pe_tup (pa_cons (pe_callS G_parcel_of (hr.mono (by omega)) rfl B.parcel_of.m B.parcel_of.F.kp B.parcel_of.b (fun σ => passAt tk σ) (pa_cons (pv 0) pa_nil)) pa_nil))))) (fun a oe cls d pn hz hf => (pss_one (ps_set (i := 1) sc_law_read_by.nd rfl (Or.inl rfl) (pe_ifExp (PW.pt (pw_and (pt_val (pe_callB (call_isEx hz hf) (by rfl) T.b_isinstance (by decide +kernel) (pa_cons (pv 2) (pa_cons (pe_glob (v := .ref T.c_StreamError) (by rfl) T.g_StreamError rfl) pa_nil)))) (pw_and1 (pt_val (pe_callB (call_isEx hz hf) (by rfl) T.b_isinstance (by decide +kernel) (pa_cons (pv 2) (pa_cons (pe_bltn (v := .ty "ValueError") (by rfl) T.b_ValueError (by decide +kernel) rfl) pa_nil))))))) (pe_xf T.xf_BadRow T.xn_BadRow hz hf (pv 2)) pe_non)))))
      (pss_one (ps_ret (pv 1))))), ?_⟩
    walk_at "rd"
    refine rd_callS ?_
    walk_at "rd"
    refine ⟨a, row, rfl, ha, fun d hR v H1 s1 hv => ?_, fun d e hR ne H1 s1 e2 H2 n2 s2 hx => ?_, fun e hR H1 s1 e2 H2 n2 s2 hx => ?_⟩
    · walk_at "rd"
      refine rd_disp rfl fun u nu => ?_
      have sn := same_new (o := .tup [v]) nu
      walk_at "rd"
      exact q1 d hR u v _ (s1.trans sn) upd_same (hv.s sn)
    · refine ⟨true, T.e_BadRowBadRow, fun _ z hnz => ?_, fun z => by cases z⟩
      walk_at "rd"
      refine rd_ifx ?_
      walk_at "rd"
      refine ⟨_, _, _, _, rfl, rfl, T.xc_BadRow, .inr ⟨_, _, rfl, hx⟩, .own _, T.q_BrSe, ?_⟩
      walk_at "rd"
      refine rd_yes rfl ?_
      walk_at "rd"
      refine ⟨_, _, _, _, rfl, rfl, T.xc_BadRow, .inr ⟨_, _, rfl, hx⟩, .ty _, T.q_BrVe, ?_⟩
      walk_at "rd"
      refine rd_yes rfl ?_
      walk_at "rd"
      refine ⟨_, rfl, rfl, rfl, e2, _, _, rfl, hx, rfl, ?_⟩
      walk_at "rd"
      exact q2 d e hR ne _ (s1.trans s2)
    · refine ⟨true, T.e_BadRowBadRow, fun _ z hnz => ?_, fun z => by cases z⟩
      walk_at "rd"
      refine rd_ifx ?_
      walk_at "rd"
      refine ⟨_, _, _, _, rfl, rfl, T.xc_BadRow, .inr ⟨_, _, rfl, hx⟩, .own _, T.q_BrSe, ?_⟩
      walk_at "rd"
      refine rd_yes rfl ?_
      walk_at "rd"
      refine ⟨_, _, _, _, rfl, rfl, T.xc_BadRow, .inr ⟨_, _, rfl, hx⟩, .ty _, T.q_BrVe, ?_⟩
      walk_at "rd"
      refine rd_yes rfl ?_
      walk_at "rd"
      refine ⟨_, rfl, rfl, rfl, e2, _, _, rfl, hx, rfl, ?_⟩
      walk_at "rd"
      exact q3 e hR _ (s1.trans s2)
theorem ok_law_spoilt (T : Tx K mg) (B : Bk K mg T) : FnOk P w K mg base CX0 2 B.law_spoilt.f B.law_spoilt.fd ["_law_pool_here", "_law_row"] spSpoilt := by
  have G_law_draw := ok_law_draw (P := P) (w := w) (base := base) T B
  refine B.law_spoilt.F.ok sc_law_spoilt (fun vs H Q E h => ?_) (fun cdv A outer s H vs Q E hr h => ?_)
  · obtain ⟨p, l, a, row, rfl, _⟩ := h
    rfl
  · obtain ⟨p, l, a, row, rfl, hh, ha, hl, q⟩ := h
    refine ⟨_, (pss_cons (ps_set (i := 2) sc_law_spoilt.nd rfl (Or.inl rfl) (pe_call G_law_draw (hr.mono (by decide)) rfl B.law_draw.m B.law_draw.F.kp B.law_draw.b .nil pass0 (pa_cons (pv 0) (pa_cons (pe_op op_add (pe_callB call_len_seq (by rfl) T.b_len (by decide +kernel) (pa_cons (pv 1) pa_nil)) pe_int) pa_nil))))
      (pss_cons (ps_set (i := 3) sc_law_spoilt.nd rfl (Or.inl rfl) (pe_ix ix_list (pe_lst (pa_cons pe_int (pa_cons pe_int (pa_cons pe_int (pa_cons pe_int (pa_cons pe_int (pa_cons pe_int (pa_cons pe_int (pa_cons pe_int (pa_cons pe_int (pa_cons pe_int (pa_cons pe_int (pa_cons pe_int (pa_cons pe_int (pa_cons pe_int (pa_cons pe_int (pa_cons pe_int pa_nil))))))))))))))))) (pe_call G_law_draw (hr.mono (by decide)) rfl B.law_draw.m B.law_draw.F.kp B.law_draw.b .nil pass0 (pa_cons (pv 0) (pa_cons pe_int pa_nil))) (fun _ _ => rfl)))
      (pss_cons (ps_set (i := 4) sc_law_spoilt.nd rfl (Or.inl rfl) (pe_lst (pa_cons (pe_slice sl_tupA (pv 1) po_none (po_some (pv 2))) (pa_cons (pe_op op_catA (pe_op op_catA (pe_slice sl_tupA (pv 1) po_none (po_some (pv 2))) (pe_tup (pa_cons (pv 3) pa_nil))) (pe_slice sl_tupA (pv 1) (po_some (pv 2)) po_none)) (pa_cons (pe_op op_catA (pe_op op_catA (pe_slice sl_tupA (pv 1) po_none (po_some (pv 2))) (pe_tup (pa_cons (pv 3) pa_nil))) (pe_slice sl_tupA (pv 1) (po_some (pe_op op_add (pv 2) pe_int)) po_none)) pa_nil)))))
      (pss_cons (ps_set (i := 4) sc_law_spoilt.nd rfl (Or.inl rfl) (pe_op op_cat (pv 4) (pe_lst (pa_cons (pe_op op_catA (pe_slice sl_tupA (pv 1) po_none (po_some (pv 2))) (pe_slice sl_tupA (pv 1) (po_some (pe_op op_add (pv 2) pe_int)) po_none)) (pa_cons (pe_op op_catA (pv 1) (pe_tup (pa_cons (pv 3) pa_nil))) pa_nil)))))
      (pss_one (ps_ret (pe_ix ix_list (pv 4) (pe_call G_law_draw (hr.mono (by decide)) rfl B.law_draw.m B.law_draw.F.kp B.law_draw.b .nil pass0 (pa_cons (pv 0) (pa_cons pe_int pa_nil))) (fun _ _ => rfl)))))))), ?_⟩
    walk_at "rd"
    refine ⟨a, _, rfl, .inr (SqT.of ha.1), ?_⟩
    walk_at "rd"
    rw [List.length_map]
    refine ⟨p, l, _, rfl, by omega, by omega, hh, fun j H1 j0 j1 hh1 k1 => ?_⟩
    obtain ⟨at_, rfl⟩ : ∃ at_ : Nat, j = (at_ : Int) := ⟨j.toNat, by omega⟩
    walk_at "rd"
    refine rd_disp rfl fun l1 nl1 => ?_
    have o1 := hh1.out nl1
    walk_at "rd"
    refine ⟨p, l, _, rfl, by decide, by decide, hh1.new nl1, fun j2 H2 j20 j21 hh2 k2 => ?_⟩
    have key : ∃ y : Int, ([.int 0, .int 1, .int 3, .int 4, .int 5, .int 6, .int 7, .int 20, .int 21, .int 127, .int 128, .int 129, .int 255, .int 32, .int 31, .int 37] : List V)[j2.toNat]? = some (.int y) ∧ 0 ≤ y ∧ y < 256 := by
      have hj : j2.toNat < 16 := by omega
      generalize j2.toNat = n at hj
      match n, hj with
      | 0, _ => exact ⟨_, rfl, by decide, by decide⟩
      | 1, _ => exact ⟨_, rfl, by decide, by decide⟩
      | 2, _ => exact ⟨_, rfl, by decide, by decide⟩
      | 3, _ => exact ⟨_, rfl, by decide, by decide⟩
      | 4, _ => exact ⟨_, rfl, by decide, by decide⟩
      | 5, _ => exact ⟨_, rfl, by decide, by decide⟩
      | 6, _ => exact ⟨_, rfl, by decide, by decide⟩
      | 7, _ => exact ⟨_, rfl, by decide, by decide⟩
      | 8, _ => exact ⟨_, rfl, by decide, by decide⟩
      | 9, _ => exact ⟨_, rfl, by decide, by decide⟩
      | 10, _ => exact ⟨_, rfl, by decide, by decide⟩
      | 11, _ => exact ⟨_, rfl, by decide, by decide⟩
      | 12, _ => exact ⟨_, rfl, by decide, by decide⟩
      | 13, _ => exact ⟨_, rfl, by decide, by decide⟩
      | 14, _ => exact ⟨_, rfl, by decide, by decide⟩
      | 15, _ => exact ⟨_, rfl, by decide, by decide⟩
      | n + 16, h => exact absurd h (by omega)
    obtain ⟨by_, hy, hby⟩ := key
    refine rd_ixL (k2.at o1 upd_same) (at_of (j := j2.toNat) (by omega) hy) ?_
    have k3 := (k1.trans (FK.new nl1)).trans k2
    have ha2 := ha.kt k3.2
    walk_at "rd"
    -- five rows
    refine rd_cutR ha2 fun e1 sub1 Ha sa h1 l1 => ?_
    walk_at "rd"
    refine rd_cutR (ha2.same sa) fun c2 sub2 Hb sb h2 l2 => ?_
    walk_at "rd"
    refine rd_disp rfl fun b2 nb2 => ?_
    have sc := same_new (o := .tup [.int by_]) nb2
    refine rd_catR (h2.same sc) (RowAt.disp hby) (by simp; omega) fun c3 Hc sd h3 => ?_
    walk_at "rd"
    have x1 := ((sa.trans sb).trans sc).trans sd
    refine rd_cutR (ha2.same x1) fun c4 sub4 Hd se h4 l4 => ?_
    refine rd_catR (h3.same se) h4 (by simp; omega) fun e2 He sf hE2 => ?_
    have x2 := (x1.trans se).trans sf
    walk_at "rd"
    refine rd_cutR (ha2.same x2) fun c5 sub5 Hf sg h5 l5 => ?_
    walk_at "rd"
    refine rd_disp rfl fun b3 nb3 => ?_
    have sh := same_new (o := .tup [.int by_]) nb3
    refine rd_catR (h5.same sh) (RowAt.disp hby) (by simp; omega) fun c6 Hg si h6 => ?_
    walk_at "rd"
    have x3 := ((x2.trans sg).trans sh).trans si
    refine rd_cutR (ha2.same x3) fun c7 sub7 Hh sj h7 l7 => ?_
    refine rd_catR (h6.same sj) h7 (by simp; omega) fun e3 Hi sk hE3 => ?_
    have x4 := (x3.trans sj).trans sk
    walk_at "rd"
    refine rd_disp rfl fun l2_ nl2 => ?_
    have sl := same_new (o := .lst [.ref e1, .ref e2, .ref e3]) nl2
    have x5 := x4.trans sl
    have y5 := (((((((((sb.trans sc).trans sd).trans se).trans sf).trans sg).trans sh).trans si).trans sj).trans sk).trans sl
    have g1 := h1.same y5
    have g2 := hE2.same ((((((sg.trans sh).trans si).trans sj).trans sk)).trans sl)
    have g3 := hE3.same sl
    walk_at "rd"
    refine rd_cutR (ha2.same x5) fun c8 sub8 Hj sm h8 l8 => ?_
    walk_at "rd"
    refine rd_cutR (ha2.same (x5.trans sm)) fun c9 sub9 Hk sn h9 l9 => ?_
    refine rd_catR (h8.same sn) h9 (by omega) fun e4 Hl so hE4 => ?_
    have x6 := ((x5.trans sm).trans sn).trans so
    walk_at "rd"
    refine rd_disp rfl fun b4 nb4 => ?_
    have sp := same_new (o := .tup [.int by_]) nb4
    refine rd_catR (ha2.same (x6.trans sp)) (RowAt.disp hby) (by simp; omega) fun e5 Hm sq hE5 => ?_
    walk_at "rd"
    refine rd_disp rfl fun l3_ nl3 => ?_
    have sr := same_new (o := .lst [.ref e4, .ref e5]) nl3
    have x7 := ((x6.trans sp).trans sq).trans sr
    have y7 := ((((sm.trans sn).trans so).trans sp).trans sq).trans sr
    refine ⟨l2_, l3_, _, _, rfl, rfl, y7 _ _ upd_same, upd_same, small (by simp), fun l4_ nl4 => ?_⟩
    have ss := same_new (o := .lst ([.ref e1, .ref e2, .ref e3] ++ [.ref e4, .ref e5])) nl4
    have x8 := x7.trans ss
    have hh8 := hh2.same x8
    have o4 := (hh2.same x7).out nl4
    have rows : ∀ (n : Nat) (c : Addr), [e1, e2, e3, e4, e5][n]? = some c → ∃ r2, RowAt (upd (upd Hm l3_ (.lst [.ref e4, .ref e5])) l4_ (.lst ([.ref e1, .ref e2, .ref e3] ++ [.ref e4, .ref e5]))) c r2 ∧ r2.length ≤ 2 * row.length + 1 := fun n c hn => by
      match n, hn with
      | 0, hn =>
        cases hn
        exact ⟨_, (g1.same y7).same ss, by omega⟩
      | 1, hn =>
        cases hn
        exact ⟨_, (g2.same y7).same ss, by simp; omega⟩
      | 2, hn =>
        cases hn
        exact ⟨_, (g3.same y7).same ss, by simp; omega⟩
      | 3, hn =>
        cases hn
        exact ⟨_, (hE4.same ((sp.trans sq).trans sr)).same ss, by simp; omega⟩
      | 4, hn =>
        cases hn
        exact ⟨_, (hE5.same sr).same ss, by simp; omega⟩
      | n + 5, hn => simp at hn
    have hl4 : (upd (upd Hm l3_ (.lst [.ref e4, .ref e5])) l4_ (.lst ([.ref e1, .ref e2, .ref e3] ++ [.ref e4, .ref e5]))) l4_ = some (.lst ([e1, e2, e3, e4, e5].map V.ref)) := upd_same
    generalize upd (upd Hm l3_ (.lst [.ref e4, .ref e5])) l4_ (.lst ([.ref e1, .ref e2, .ref e3] ++ [.ref e4, .ref e5])) = Hn at x8 hh8 rows hl4
    have h5 : [e1, e2, e3, e4, e5].length = 5 := rfl
    generalize [e1, e2, e3, e4, e5] = as at rows hl4 h5
    walk_at "rd"
    refine ⟨p, l, _, rfl, by decide, by decide, hh8, fun j3 Ho j30 j31 hh9 k9 => ?_⟩
    obtain ⟨c, hc⟩ : ∃ c, as[j3.toNat]? = some c := ⟨as[j3.toNat]'(by omega), by simp⟩
    obtain ⟨r2, hr2, hr2l⟩ := rows _ _ hc
    refine rd_ixL (v := .ref c) (k9.at o4 hl4) (at_of (j := j3.toNat) (by omega) (by rw [List.getElem?_map, hc]; rfl)) ?_
    exact q c r2 _ (hr2.kt k9.2) hr2l hh9 ((k3.trans (FK.same x8)).trans k9)
theorem ok_law_right (T : Tx K mg) (B : Bk K mg T) : FnOk P w K mg base CX0 50 B.law_right.f B.law_right.fd ["_law_row"] spRight := by
  have G_law_told := ok_law_told (P := P) (w := w) (base := base) T B
  have G_law_read_by := ok_law_read_by (P := P) (w := w) (base := base) T B
  have G_law_is := ok_law_is (P := P) (w := w) (base := base) T B
  have G_law_same := ok_same_n (P := P) (w := w) (base := base) T B 22
  have G_row_of := ok_row_of (P := P) (w := w) (base := base) T B
  refine B.law_right.F.ok sc_law_right (fun vs H Q E h => ?_) (fun cdv A outer s H vs Q E hr h => ?_)
  · obtain ⟨a, row, rfl, _⟩ := h
    rfl
  · obtain ⟨a, row, rfl, ha, hl, q⟩ := h
    refine ⟨_, (pss_cons (ps_par (i := 1) (j := 2) rfl sc_law_right.nd rfl rfl (by decide) rfl rfl (pa_cons (pe_call G_law_told (hr.mono (by omega)) rfl B.law_told.m B.law_told.F.kp B.law_told.b .nil pass0 (pa_cons (pv 0) pa_nil)) (pa_cons (pe_call G_law_read_by (hr.mono (by omega)) rfl B.law_read_by.m B.law_read_by.F.kp B.law_read_by.b .nil pass0 (pa_cons (pv 0) pa_nil)) pa_nil)) rfl)
      (pss_cons (ps_if (pt_not (pt_val (pe_callB call_isi (by rfl) T.b_isinstance (by decide +kernel) (pa_cons (pv 1) (pa_cons (pe_bltn (v := .ty "tuple") (by rfl) T.b_tuple (by decide +kernel) rfl) pa_nil))))) (pss_one (ps_ret (pe_call G_law_is (hr.mono (by omega)) rfl B.law_is.m B.law_is.F.kp B.law_is.b .nil pass0 (pa_cons (pv 2) (pa_cons (pv 1) pa_nil))))) pss_nil)
      (pss_one (ps_ret (pe_and (pe_callB call_isi (by rfl) T.b_isinstance (by decide +kernel) (pa_cons (pv 2) (pa_cons (pe_bltn (v := .ty "tuple") (by rfl) T.b_tuple (by decide +kernel) rfl) pa_nil))) (pe_and (pe_call G_law_same (hr.mono (by omega)) rfl B.law_same.m B.law_same.F.kp B.law_same.b .nil pass0 (pa_cons (pv 2) (pa_cons (pv 1) pa_nil))) (pe_one (pe_cmpR (op_eqD hr.units) (pe_call G_row_of (hr.mono (by omega)) rfl B.row_of.m B.row_of.F.kp B.row_of.b .nil passL (pa_cons (pe_ix ix_tup (pv 2) pe_int (fun _ _ => rfl)) pa_nil)) (pv 0) (nomark _))))))))), ?_⟩
    walk_at "rd"
    refine rd_par ?_
    walk_at "rd"
    refine ⟨a, row, rfl, ha, fun d hR u v H1 s1 hu hv => ?_, fun d e hR ne H1 s1 => ?_, fun e hR H1 s1 => ?_⟩
    · obtain ⟨hpc, erow⟩ := rd_inv_all ha.2 hR
      walk_at "rd"
      refine ⟨a, row, rfl, ha.same s1, fun d2 hR2 u2 v2 H2 s2 hu2 hv2 => ?_, fun d2 e2 hR2 ne2 H2 s2 => ?_, fun e2 hR2 H2 s2 => ?_⟩
      · have := rd_det hR hR2
        injection this with z1 z2
        subst z1
        walk_at "rd"
        refine ⟨_, _, rfl, ?_⟩
        dsimp only [List.set]
        have st := Same.refl H2
        have D1 : Dt T.CP [] _ (.tuple [d]) (.ref u) := (dt_tup (s2 _ _ hu) (dtAll_cons (hv.s s2) dtAll_nil)).s st
        have D2 : Dt T.CP [] _ (.tuple [d]) (.ref u2) := (dt_tup hu2 (dtAll_cons hv2 dtAll_nil)).s st
        have hdp := isPc_depth d hpc
        have hsz := szd_by d hpc
        have hpl := isPc_plain d hpc
        have hle : (byD d).length ≤ 400000 := by rw [← erow]; exact hl
        walk_at "rd"
        refine dt_isT T.W D1 ?_
        walk_at "rd"
        refine rd_no rfl ?_
        walk_at "rd"
        refine dt_isT T.W D2 ?_
        walk_at "rd"
        refine rd_yes rfl ?_
        walk_at "rd"
        refine ⟨[], [], .tuple [d], .ref u2, .ref u, rfl, by show (plainD d && true) = true; rw [hpl]; rfl, by show max d.depth 0 + 1 < 22; omega, by show szd d + 0 + 1 ≤ 900000; omega, D2, D1, fun H3 s3 => ?_⟩
        walk_at "rd"
        refine rd_yes rfl ?_
        walk_at "rd"
        have hu3 := (st.trans s3) _ _ hu2
        refine rd_ixT hu3 rfl ?_
        walk_at "rd"
        refine ⟨[], d, v2, rfl, (hv2.s st).s s3, by omega, fun _ => by omega, fun _ t4 H4 s4 ht4 => ?_, fun z => by rw [hpc] at z; cases z⟩
        have sA := ((s1.trans s2).trans st).trans (s3.trans s4)
        walk_at "rd"
        refine ⟨.tuple ((byD d).map PyData.int), .tuple (row.map PyData.int), dt_dp (CP := T.CP) (M := []) _ _ (ints_lay _) (row_dt ht4), dt_dp (CP := T.CP) (M := []) _ _ (ints_lay _) (row_dt (sA _ _ ha.1)), ints_shaped _, ints_shaped _, ?_⟩
        rw [show PyData.eqv (.tuple ((byD d).map PyData.int)) (.tuple (row.map PyData.int)) = PyData.eqvAll ((byD d).map PyData.int) (row.map PyData.int) from rfl, eqv_ints, ← erow, decide_eq_true rfl]
        exact q _ sA
      · have := rd_det hR hR2
        injection this with z1 z2
        exact absurd z2.symm ne2
      · have := rd_det hR hR2
        cases this
    · have hle := rd_le hR
      walk_at "rd"
      refine ⟨a, row, rfl, ha.same s1, fun d2 hR2 u2 v2 H2 s2 hu2 hv2 => ?_, fun d2 e2 hR2 ne2 H2 s2 => ?_, fun e2 hR2 H2 s2 => ?_⟩
      · have := rd_det hR hR2
        injection this with z1 z2
        exact absurd z2 ne
      · have := rd_det hR hR2
        injection this with z1 z2
        subst z2
        walk_at "rd"
        refine ⟨_, _, rfl, ?_⟩
        dsimp only [List.set]
        have st := Same.refl H2
        walk_at "rd"
        refine dt_isT (CP := T.CP) (M := []) T.W (dt_int (i := ((e : Nat) : Int))) ?_
        walk_at "rd"
        refine rd_yes rfl ?_
        walk_at "rd"
        exact ⟨_, rfl, by omega, by omega, q _ ((s1.trans s2).trans st)⟩
      · have := rd_det hR hR2
        cases this
    · have hle := rd_bad (Nat.zero_le _) hR
      walk_at "rd"
      refine ⟨a, row, rfl, ha.same s1, fun d2 hR2 u2 v2 H2 s2 hu2 hv2 => ?_, fun d2 e2 hR2 ne2 H2 s2 => ?_, fun e2 hR2 H2 s2 => ?_⟩
      · have := rd_det hR hR2
        cases this
      · have := rd_det hR hR2
        cases this
      · have := rd_det hR hR2
        injection this with z2
        subst z2
        walk_at "rd"
        refine ⟨_, _, rfl, ?_⟩
        dsimp only [List.set]
        have st := Same.refl H2
        walk_at "rd"
        refine dt_isT (CP := T.CP) (M := []) T.W (dt_int (i := ((e : Nat) : Int))) ?_
        walk_at "rd"
        refine rd_yes rfl ?_
        walk_at "rd"
        exact ⟨_, rfl, by omega, by omega, q _ ((s1.trans s2).trans st)⟩
end
end Mw

/-! T3 -/
namespace Mw
open PySem L2
def spFirst (K : PySem.W.Frag) : Sp := fun vs H Q _ => ∃ (a : Addr) (ns : List Int), vs = [.ref a] ∧ SqL K H a (ns.map V.int) ∧ ∀ H', Same H H' → Q (.bl true) H'
theorem FK.all {M : List Addr} {H0 H1 H2 : Hp} (s : Same H0 H1) (k : FK M H1 H2) (n : ∀ m ∈ M, H0 m = none) : Same H0 H2 := fun b o e => k.1 b o (fun z => by
  have := n b z
  rw [this] at e
  cases e) (s b o e)
/-- a thing that is asked whether it is a parcel -/
def Okd (d : PyData) : Prop := pctF d = true ∧ szd d ≤ 300000 ∧ (byD d).length ≤ 400000
theorem okd_of {d : PyData} (h : (pctF d && smallI d && decide (szd d ≤ 100)) = true) : Okd d := by
  simp only [Bool.and_eq_true, decide_eq_true_eq] at h
  have := by_szd d h.1.2
  exact ⟨h.1.1, by omega, by omega⟩
theorem okd_pair {a b : PyData} (ha : Okd a) (hb : Okd b) (la : szd a ≤ 100000) (lb : szd b ≤ 100000) (ma : (byD a).length ≤ 100000) (mb : (byD b).length ≤ 100000) : Okd (.tuple [a, b]) := by
  refine ⟨?_, ?_, ?_⟩
  · show (pctF a && (pctF b && true)) = true
    rw [ha.1, hb.1]
    rfl
  · show szd a + (szd b + 0) + 1 ≤ 300000
    omega
  · show ((6 : Int) :: (wh [a, b].length ++ (byD a ++ (byD b ++ [])))).length ≤ 400000
    rw [show [a, b].length = 2 from rfl, wh_lt (by decide)]
    simp
    omega
theorem word_shaped (e : PyData) : SeqAt.shaped (.list [.str (wordOf e), .str (wordOf e)]) = true := by
  unfold wordOf
  split <;> decide +kernel
theorem word_eqv (e : PyData) : PyData.eqv (.list [.str (wordOf e), .str (wordOf e)]) (.list [.str (wordOf e), .str (wordOf e)]) = true := by
  unfold wordOf
  split <;> decide +kernel
theorem dt_list2 {CP : Addr → Prop} {H : Hp} {a : Addr} {z : Str} (h : H a = some (.lst [.str z, .str z])) : Dt CP [] H (.list [.str z, .str z]) (.ref a) := dt_lst (by simp) h (dtAll_cons dt_str (dtAll_cons dt_str dtAll_nil))
section
variable {P : Program} {w : World} {K : PySem.W.Frag} {mg : Str → Option Value} {base : Heap}
local macro_rules | `(tactic| walk_at "rd") => `(tactic| (repeat (first
  | ((with_reducible refine' rd_var ?h0 ?_); (case h0 => rfl))
  | with_reducible refine rd_c ?_
  | with_reducible refine rd_op ?_
  | with_reducible refine rd_nil ?_
  | with_reducible refine rd_cons ?_
  | with_reducible refine rd_tup ?_
  | with_reducible refine rd_lst ?_
  | with_reducible refine rd_ifs ?_
  | with_reducible refine rd_seq ?_
  | with_reducible refine rd_next ?_
  | with_reducible refine rd_ret ?_
  | with_reducible refine rd_asg ?_
  | ((with_reducible refine' rd_gset ?hs ?_); (case hs => ((simp only [L2.start, List.map_cons, List.map_nil, List.length_cons, List.length_nil, List.cons_append, List.nil_append, List.set_cons_zero, List.set_cons_succ, Nat.reduceAdd, Nat.reduceSub, Nat.zero_add, List.reduceReplicate]); rfl)))
  | with_reducible refine rd_drop ?_
  | with_reducible refine rd_test ?_
  | with_reducible refine rd_B ?_
  | with_reducible refine rd_bl ?_
  | with_reducible refine rd_blP ?_
  | with_reducible refine rd_andV ?_
  | with_reducible refine rd_orV ?_
  | with_reducible refine rd_notV ?_
  | with_reducible refine rd_and ?_
  | with_reducible refine rd_or ?_
  | with_reducible refine rd_not ?_
  | with_reducible refine rd_chain ?_
  | with_reducible refine rd_dput ?_
  | with_reducible refine rd_dget ?_
  | with_reducible refine rd_cb ?_
  | with_reducible refine rd_call ?_
  | with_reducible refine rd_un ?_
  | with_reducible refine rd_sl ?_
  | with_reducible refine rd_nopart ?_
  | with_reducible refine rd_part ?_
  | with_reducible refine rd_intP ?_
  | with_reducible refine rd_rU ?_
  | with_reducible refine rd_fld ?_
  | with_reducible refine rd_eqI ?_
  | with_reducible refine rd_neI ?_
  | with_reducible refine rd_mko ?_
  | with_reducible refine rd_bm ?_
  | with_reducible refine rd_gsub ?_
  | with_reducible refine rd_i0 ?_)))
theorem ok_law_first (T : Tx K mg) (B : Bk K mg T) : FnOk P w K mg base CX0 55 B.law_first.f B.law_first.fd ["_law_script"] (spFirst K) := by
  have G_law_pool := ok_law_pool (P := P) (w := w) (base := base) T B
  have G_law_parcel := ok_parcel_n (P := P) (w := w) (base := base) T B 4
  have G_law_draw := ok_law_draw (P := P) (w := w) (base := base) T B
  have G_law_nested := ok_law_nested (P := P) (w := w) (base := base) T B
  have G_row_of := ok_row_of (P := P) (w := w) (base := base) T B
  have G_law_bytes := ok_law_bytes_n (P := P) (w := w) (base := base) T B 21
  have G_law_same := ok_same_n (P := P) (w := w) (base := base) T B 22
  have G_parcel_of := ok_parcel_of (P := P) (w := w) (base := base) T B
  have G_law_deep := ok_law_deep (P := P) (w := w) (base := base) T B
  have G_law_is_parcel := ok_lpc_n (P := P) (w := w) (base := base) T B 21
  have G_law_word := ok_law_word (P := P) (w := w) (base := base) T B
  have G_law_flag := ok_law_flag (P := P) (w := w) (base := base) T B
  have G_is_parcel := ok_is_parcel (P := P) (w := w) (base := base) T B
  refine B.law_first.F.ok sc_law_first (fun vs H Q E h => ?_) (fun cdv A outer s H vs Q E hr h => ?_)
  · obtain ⟨a, ns, rfl, _⟩ := h
    rfl
  · obtain ⟨a, ns, rfl, ha, q⟩ := h
    refine ⟨_, (pss_cons (ps_set (i := 1) sc_law_first.nd rfl (Or.inl rfl) (pe_call G_law_pool (hr.mono (by omega)) rfl B.law_pool.m B.law_pool.F.kp B.law_pool.b .nil pass0 (pa_cons (pv 0) pa_nil)))
      (pss_cons (ps_for PassesOwn.never rfl (pi_range1 (by rfl) T.b_range (pa_cons pe_int pa_nil)) (pg_name (i := 2) sc_law_first.nd rfl (Or.inl rfl)) (pss_cons (ps_set (i := 3) sc_law_first.nd rfl (Or.inl rfl) (pe_call G_law_parcel (hr.mono (by omega)) rfl B.law_parcel.m B.law_parcel.F.kp B.law_parcel.b .nil pass0 (pa_cons (pv 1) (pa_cons pe_int pa_nil))))
      (C8.pss_cut (ps_if (pt_cmpR op_eq (pe_call G_law_draw (hr.mono (by omega)) rfl B.law_draw.m B.law_draw.F.kp B.law_draw.b .nil pass0 (pa_cons (pv 1) (pa_cons pe_int pa_nil))) pe_int (nomark _)) (pss_one (ps_set (i := 3) sc_law_first.nd rfl (Or.inl rfl) (pe_call G_law_nested (hr.mono (by omega)) rfl B.law_nested.m B.law_nested.F.kp B.law_nested.b .nil pass0 (pa_cons (pe_op op_sub (pe_ix ix_list (pe_lst (pa_cons pe_int (pa_cons pe_int (pa_cons pe_int pa_nil)))) (pe_call G_law_draw (hr.mono (by omega)) rfl B.law_draw.m B.law_draw.F.kp B.law_draw.b .nil pass0 (pa_cons (pv 1) (pa_cons pe_int pa_nil))) (fun _ _ => rfl)) (pe_op op_mul (pe_callTy call_int1 (by rfl) T.b_int (by decide +kernel) (pa_cons (pe_callB call_isi (by rfl) T.b_isinstance (by decide +kernel) (pa_cons (pv 3) (pa_cons (pe_bltn (v := .ty "tuple") (by rfl) T.b_tuple (by decide +kernel) rfl) pa_nil))) pa_nil)) pe_int)) (pa_cons (pv 3) pa_nil))))) pss_nil)
      (pss_cons (ps_set (i := 4) sc_law_first.nd rfl (Or.inl rfl) (pe_call G_row_of (hr.mono (by omega)) rfl B.row_of.m B.row_of.F.kp B.row_of.b .nil passL (pa_cons (pv 3) pa_nil)))
      (pss_cons (ps_if (PW.pt (pw_or (pt_cmpR (op_neD hr.units) (pv 4) (pe_callTy call_tuple_of (by rfl) T.b_tuple (by decide +kernel) (pa_cons (pe_call G_law_bytes (hr.mono (by omega)) rfl B.law_bytes.m B.law_bytes.F.kp B.law_bytes.b .nil pass0 (pa_cons (pv 3) pa_nil)) pa_nil)) (nomark _)) (pw_or (pt_not (pt_val (pe_callB call_isi (by rfl) T.b_isinstance (by decide +kernel) (pa_cons (pv 4) (pa_cons (pe_bltn (v := .ty "tuple") (by rfl) T.b_tuple (by decide +kernel) rfl) pa_nil))))) (pw_or1 (pt_not (pt_val (pe_call G_law_same (hr.mono (by omega)) rfl B.law_same.m B.law_same.F.kp B.law_same.b .nil pass0 (pa_cons (pe_call G_parcel_of (hr.mono (by omega)) rfl B.parcel_of.m B.parcel_of.F.kp B.parcel_of.b .nil passL (pa_cons (pv 4) pa_nil)) (pa_cons (pv 3) pa_nil))))))))) (pss_one (ps_ret pe_bl)) pss_nil)
      (pss_cons (ps_set (i := 5) sc_law_first.nd rfl (Or.inl rfl) (pe_lst (pa_cons pe_str (pa_cons (pe_op op_mul_str pe_str pe_int) (pa_cons (pe_op op_mul_str pe_str pe_int) (pa_cons pe_str (pa_cons (pe_lst pa_nil) (pa_cons (pe_lst (pa_cons pe_int pa_nil)) (pa_cons pe_dnewK (pa_cons (pe_call0 G_law_deep (hr.mono (by omega)) rfl B.law_deep.m B.law_deep.F.kp B.law_deep.b .nil pass0) pa_nil))))))))))
      (pss_cons (ps_set (i := 5) sc_law_first.nd rfl (Or.inl rfl) (pe_op op_cat (pv 5) (pe_lst (pa_cons (pe_call G_law_nested (hr.mono (by omega)) rfl B.law_nested.m B.law_nested.F.kp B.law_nested.b .nil pass0 (pa_cons pe_int (pa_cons pe_int pa_nil))) (pa_cons (pe_call G_law_nested (hr.mono (by omega)) rfl B.law_nested.m B.law_nested.F.kp B.law_nested.b .nil pass0 (pa_cons pe_int (pa_cons (pe_tup pa_nil) pa_nil))) (pa_cons (pe_call G_law_nested (hr.mono (by omega)) rfl B.law_nested.m B.law_nested.F.kp B.law_nested.b .nil pass0 (pa_cons pe_int (pa_cons pe_int pa_nil))) pa_nil))))))
      (pss_cons (ps_set (i := 5) sc_law_first.nd rfl (Or.inl rfl) (pe_op op_cat (pv 5) (pe_lst (pa_cons (pe_tup (pa_cons pe_int (pa_cons (pe_lst pa_nil) pa_nil))) (pa_cons (pe_tup (pa_cons pe_str (pa_cons pe_int pa_nil))) pa_nil)))))
      (pss_cons (ps_set (i := 6) sc_law_first.nd rfl (Or.inl rfl) (pe_ix ix_list (pv 5) (pe_call G_law_draw (hr.mono (by omega)) rfl B.law_draw.m B.law_draw.F.kp B.law_draw.b .nil pass0 (pa_cons (pv 1) (pa_cons pe_int pa_nil))) (fun _ _ => rfl)))
      (pss_one (ps_for PassesOwn.never rfl (pi_list (pe_lst (pa_cons (pv 3) (pa_cons (pv 6) (pa_cons (pe_tup (pa_cons (pv 6) (pa_cons (pv 3) pa_nil))) pa_nil))))) (pg_name (i := 7) sc_law_first.nd rfl (Or.inr rfl)) (pss_cons (ps_set (i := 8) sc_law_first.nd rfl (Or.inl rfl) (pe_call G_law_is_parcel (hr.mono (by omega)) rfl B.law_is_parcel.m B.law_is_parcel.F.kp B.law_is_parcel.b .nil pass0 (pa_cons (pv 7) (pa_cons pe_int pa_nil))))
      (pss_cons (ps_setLc (i := 9) (own := [("_law_which", 10)]) (g := gName 10) rfl sc_law_first.nd rfl rfl (sw_true rfl rfl rfl (by decide +kernel)) (pi_range1 (by rfl) T.b_range (pa_cons pe_int pa_nil)) (blkOk_by (own := [("_law_which", 10)]) (N := ["_law_script", "_law_pool_here", "_law_turn", "_law_parcel_here", "_law_row", "_law_odd", "_law_thing", "_law_one", "_law_due", "_law_words", "_law_which"]) (sc := defScope s_law_first) (by decide +kernel)) (fun _ _ _ _ _ => pg_name (i := 10) sc_law_first.nd rfl (Or.inl rfl)) (fun _ _ _ _ _ => pts_nil) (fun _ _ _ _ _ => (pe_call G_law_word (hr.mono (by omega)) rfl B.law_word.m B.law_word.F.kp B.law_word.b .nil pass0 (pa_cons (pv 10) (pa_cons (pv 7) pa_nil)))))
      (pss_one (ps_if (PW.pt (pw_or (pt_not (pt_val (pe_call G_law_flag (hr.mono (by omega)) rfl B.law_flag.m B.law_flag.F.kp B.law_flag.b .nil pass0 (pa_cons (pe_call G_is_parcel (hr.mono (by omega)) rfl B.is_parcel.m B.is_parcel.F.kp B.is_parcel.b .nil pass0 (pa_cons (pv 7) pa_nil)) (pa_cons (pv 8) pa_nil))))) (pw_or1 (pt_cmpR (op_neD hr.units) (pv 9) (pe_op op_rep (pe_lst (pa_cons (pe_ix ix_list (pe_lst (pa_cons pe_str (pa_cons pe_str pa_nil))) (pe_callTy call_int1 (by rfl) T.b_int (by decide +kernel) (pa_cons (pv 8) pa_nil)) (fun _ _ => rfl)) pa_nil)) pe_int) (nomark _))))) (pss_one (ps_ret pe_bl)) pss_nil)))))))))))))))
      (pss_one (ps_ret pe_bl)))), ?_⟩
    walk_at "rd"
    refine ⟨a, ns, rfl, ha, fun p l H0 np nl hh0 s0 => ?_⟩
    have npl : ∀ m ∈ [p, l], H m = none := fun m hm => by
      simp at hm
      rcases hm with z | z
      · rw [z]
        exact np
      · rw [z]
        exact nl
    walk_at "rd"
    refine ⟨4, rfl, by decide, by decide, for_range (lo := 0) (n := 4) (fun i σ H1 => PoolAt H1 p l ∧ FK [p, l] H0 H1 ∧ ∃ u2 u3 u4 u5 u6 u7 u8 u9 u10 : Option V, σ = [some (.ref a), some (.ref p), u2, u3, u4, u5, u6, u7, u8, u9, u10])
      ⟨hh0, FK.refl, _, _, _, _, _, _, _, _, _, rfl⟩ ?_ ?_⟩
    · rintro i σ H1 hi ⟨hh1, f1, u2, u3, u4, u5, u6, u7, u8, u9, u10, rfl⟩
      walk_at "rd"
      refine ⟨p, l, 3, by omega, rfl, hh1, fun d v H2 hpc hby hdv hh2 k2 => ?_⟩
      have bB3 : bB 3 = 20518 := rfl
      rw [bB3] at hby
      walk_at "rd"
      refine ⟨fun σ3 H3 => PoolAt H3 p l ∧ FK [p, l] H0 H3 ∧ ∃ (d : PyData) (v : V) (u2 u4 u5 u6 u7 u8 u9 u10 : Option V), σ3 = [some (.ref a), some (.ref p), u2, some v, u4, u5, u6, u7, u8, u9, u10] ∧ Dt T.CP [p, l] H3 d v ∧ isPc 20 d = true ∧ (byD d).length ≤ 20600, ?_, ?_⟩
      · walk_at "rd"
        refine ⟨p, l, _, rfl, by decide, by decide, hh2, fun j H3 j0 j1 hh3 k3 => ?_⟩
        have hdv3 := hdv.k k3
        have f3 := (f1.trans k2).trans k3
        walk_at "rd"
        refine rd_ite (fun h1 => ?_) (fun h1 => ?_)
        · walk_at "rd"
          refine rd_disp rfl fun b nb => ?_
          have sb := same_new (o := .lst [.int 20, .int 19, .int 5]) nb
          have ob := hh3.out nb
          walk_at "rd"
          refine ⟨p, l, _, rfl, by decide, by decide, hh3.same sb, fun j2 H4 j20 j21 hh4 k4 => ?_⟩
          have hdv4 := (hdv3.s sb).k k4
          have f4 := (f3.trans (FK.same sb)).trans k4
          have key : ∃ y : Int, ([.int 20, .int 19, .int 5] : List V)[j2.toNat]? = some (.int y) ∧ 5 ≤ y ∧ y ≤ 20 := by
            have hj : j2.toNat < 3 := by omega
            generalize j2.toNat = n at hj
            match n, hj with
            | 0, _ => exact ⟨_, rfl, by decide, by decide⟩
            | 1, _ => exact ⟨_, rfl, by decide, by decide⟩
            | 2, _ => exact ⟨_, rfl, by decide, by decide⟩
          obtain ⟨y, hy, y5, y20⟩ := key
          refine rd_ixL (k4.at ob upd_same) (at_of (j := j2.toNat) (by omega) hy) ?_
          walk_at "rd"
          refine dt_isT T.W hdv4 ?_
          refine .inr ⟨_, rfl, ?_⟩
          walk_at "rd"
          refine rd_iC (.inr ⟨by decide, by decide⟩) ?_
          walk_at "rd"
          obtain ⟨n, hn, hpn, hn20⟩ : ∃ n : Nat, y - (if isT d = true then 1 else 0) * 4 = (n : Int) ∧ isPc 20 (nestT n d) = true ∧ n ≤ 20 := by
            cases hT : isT d with
            | true =>
              refine ⟨(y - 4).toNat, ?_, ?_, by omega⟩
              · rw [if_pos rfl]
                omega
              · exact isPc_mono _ (by omega) (nestT_pc (y - 4).toNat 3 d hpc)
            | false =>
              refine ⟨y.toNat, ?_, ?_, by omega⟩
              · rw [if_neg (by decide)]
                omega
              · exact isPc_mono _ (by omega) (nestT_pc y.toNat 0 d (isPc_flat hT hpc))
          rw [hn]
          refine ⟨[p, l], d, n, v, rfl, by omega, hdv4, fun v2 H5 s5 hv2 => ?_⟩
          walk_at "rd"
          refine ⟨hh4.same s5, f4.trans (FK.same s5), nestT n d, v2, _, _, _, _, _, _, _, _, rfl, hv2, hpn, ?_⟩
          rw [nestT_by]
          omega
        · exact ⟨hh3, f3, d, v, _, _, _, _, _, _, _, _, rfl, hdv3, isPc_mono d (by decide) hpc, by omega⟩
      · clear hdv hpc hby
        rintro σ3 H3 ⟨hh3, f3, d, v, u2, u4, u5, u6, u7, u8, u9, u10, rfl, hdv, hpc, hby⟩
        have hsz := szd_by d hpc
        have hdp := isPc_depth d hpc
        have hpl := isPc_plain d hpc
        have hokd : Okd d := ⟨isPc_pct d hpc, by omega, by omega⟩
        walk_at "rd"
        refine ⟨[p, l], d, v, rfl, hdv, by omega, fun _ => by omega, fun _ r H4 s4 hr4 => ?_, fun z => by rw [hpc] at z; cases z⟩
        walk_at "rd"
        refine ⟨[p, l], d, v, rfl, hdv.s s4, hpl, by omega, by omega, fun b H5 s5 nb hb => ?_⟩
        walk_at "rd"
        refine ⟨b, _, rfl, .inl ⟨SqL.of hb, fun t nt => ?_⟩⟩
        have st := same_new (o := .tup ((byD d).map V.int)) nt
        have hr6 := st _ _ (s5 _ _ hr4)
        refine ⟨.tuple ((byD d).map PyData.int), .tuple ((byD d).map PyData.int), dt_dp (CP := T.CP) (M := []) _ _ (ints_lay _) (row_dt hr6), dt_dp (CP := T.CP) (M := []) _ _ (ints_lay _) (row_dt upd_same), ints_shaped _, ints_shaped _, ?_⟩
        rw [show PyData.eqv (.tuple ((byD d).map PyData.int)) (.tuple ((byD d).map PyData.int)) = PyData.eqvAll ((byD d).map PyData.int) ((byD d).map PyData.int) from rfl, eqv_ints, decide_eq_true rfl]
        walk_at "rd"
        refine rd_no rfl ?_
        walk_at "rd"
        refine dt_isT (CP := T.CP) (M := []) T.W (row_dt hr6) ?_
        walk_at "rd"
        refine rd_no rfl ?_
        walk_at "rd"
        have hRA : RowAt _ r (byD d) := ⟨hr6, byD_by d hpc, by omega⟩
        have hRd : Rd (byD d) 20 0 (.ok d (byD d).length) := by
          have := rd_by (row := byD d) (n := 20) (h := 0) (post := []) d hpc (by rw [List.append_nil]; rfl)
          rw [Nat.zero_add] at this
          exact this
        have x1 := (s4.trans s5).trans st
        refine ⟨r, byD d, rfl, hRA, fun d2 hR v2 H6 s6 hv2 => ?_, fun d2 e hR ne => ?_, fun e hR => ?_⟩
        · have := rd_det hR hRd
          injection this with z1 z2
          subst z1
          walk_at "rd"
          have x2 := x1.trans s6
          refine ⟨[], [p, l], d2, v2, v, rfl, hpl, by omega, by omega, hv2, hdv.s x2, fun H7 s7 => ?_⟩
          walk_at "rd"
          refine rd_no rfl ?_
          have x3 := x2.trans s7
          have hh7 := hh3.same x3
          have f7 := f3.trans (FK.same x3)
          have hdv7 := hdv.s x3
          clear x1 x2 x3 s4 s5 s6 s7 st hr4 hr6 hb nb hRA hv2
          walk_at "rd"
          -- odd things
          refine ⟨"a", 21, rfl, rfl, by decide, by decide, by decide, by decide, ?_⟩
          walk_at "rd"
          refine ⟨"a", 20, rfl, rfl, by decide, by decide, by decide, by decide, ?_⟩
          walk_at "rd"
          refine rd_disp rfl fun l1 nl1 => ?_
          have s1 := same_new (o := .lst []) nl1
          have o1 := hh7.out nl1
          have d1 : DtAll T.CP [p, l] (upd H7 l1 (.lst [])) [.str "", .str (repS "a" 21), .str (repS "a" 20), .str "a\n", .list []] [.str "", .str (repS "a" 21), .str (repS "a" 20), .str "a\n", .ref l1] := dtAll_cons dt_str (dtAll_cons dt_str (dtAll_cons dt_str (dtAll_cons dt_str (dtAll_cons (dt_lst o1 upd_same dtAll_nil) dtAll_nil))))
          walk_at "rd"
          refine rd_disp rfl fun l2 nl2 => ?_
          have s2 := same_new (o := .lst [.int 1]) nl2
          have o2 := (hh7.same s1).out nl2
          have d2 := (d1.s s2).snoc (dt_lst o2 upd_same (dtAll_cons (dt_int (i := 1)) dtAll_nil))
          walk_at "rd"
          intro l3 nl3
          have s3 := same_new (o := .dK []) nl3
          have x3 := (s1.trans s2).trans s3
          have o3 := (hh7.same (s1.trans s2)).out nl3
          have d3 := (d2.s s3).snoc (dt_dic (kv := []) o3 upd_same)
          walk_at "rd"
          refine ⟨[p, l], rfl, fun m hm => ?_, fun v4 H8 s4 hv4 => ?_⟩
          · have hhx := hh7.same x3
            simp at hm
            rcases hm with z | z
            · rw [z]
              obtain ⟨us, h⟩ := hhx.p
              exact ⟨_, h⟩
            · rw [z]
              obtain ⟨us, h⟩ := hhx.l
              exact ⟨_, h⟩
          have d4 := (d3.s s4).snoc hv4
          have x4 := x3.trans s4
          walk_at "rd"
          refine rd_disp rfl fun ls1 nls1 => ?_
          have s5 := same_new (o := .lst [.str "", .str (repS "a" 21), .str (repS "a" 20), .str "a\n", .ref l1, .ref l2, .ref l3, v4]) nls1
          have d5 := d4.s s5
          have hls1 : (upd H8 ls1 (.lst [.str "", .str (repS "a" 21), .str (repS "a" 20), .str "a\n", .ref l1, .ref l2, .ref l3, v4])) ls1 = some (.lst [.str "", .str (repS "a" 21), .str (repS "a" 20), .str "a\n", .ref l1, .ref l2, .ref l3, v4]) := upd_same
          have x5 := x4.trans s5
          generalize upd H8 ls1 (.lst [.str "", .str (repS "a" 21), .str (repS "a" 20), .str "a\n", .ref l1, .ref l2, .ref l3, v4]) = H9 at d5 hls1 x5
          walk_at "rd"
          refine ⟨[p, l], .int 0, 21, .int 0, rfl, by decide, dt_int, fun v5 Ha sa hv5 => ?_⟩
          have d6 := (d5.s sa).snoc hv5
          walk_at "rd"
          refine rd_disp rfl fun t1 nt1 => ?_
          have sb := same_new (o := .tup []) nt1
          walk_at "rd"
          refine ⟨[p, l], .tuple [], 20, .ref t1, rfl, by decide, dt_tup upd_same dtAll_nil, fun v6 Hb sc hv6 => ?_⟩
          have d7 := (d6.s (sb.trans sc)).snoc hv6
          walk_at "rd"
          refine ⟨[p, l], .int 0, 20, .int 0, rfl, by decide, dt_int, fun v7 Hc sd hv7 => ?_⟩
          have d8 := (d7.s sd).snoc hv7
          walk_at "rd"
          refine rd_disp rfl fun ls2 nls2 => ?_
          have se := same_new (o := .lst [v5, v6, v7]) nls2
          have y1 := ((sa.trans sb).trans sc).trans sd
          refine ⟨ls1, ls2, _, _, rfl, rfl, se _ _ (y1 _ _ hls1), upd_same, small (by simp), fun ls3 nls3 => ?_⟩
          have sf := same_new (o := .lst ([.str "", .str (repS "a" 21), .str (repS "a" 20), .str "a\n", .ref l1, .ref l2, .ref l3, v4] ++ [v5, v6, v7])) nls3
          have d9 := (d8.s se).s sf
          have hls3 : (upd (upd Hc ls2 (.lst [v5, v6, v7])) ls3 (.lst ([.str "", .str (repS "a" 21), .str (repS "a" 20), .str "a\n", .ref l1, .ref l2, .ref l3, v4] ++ [v5, v6, v7]))) ls3 = some (.lst ([.str "", .str (repS "a" 21), .str (repS "a" 20), .str "a\n", .ref l1, .ref l2, .ref l3, v4] ++ [v5, v6, v7])) := upd_same
          have x6 := ((x5.trans y1).trans se).trans sf
          generalize upd (upd Hc ls2 (.lst [v5, v6, v7])) ls3 (.lst ([.str "", .str (repS "a" 21), .str (repS "a" 20), .str "a\n", .ref l1, .ref l2, .ref l3, v4] ++ [v5, v6, v7])) = Hd at d9 hls3 x6
          walk_at "rd"
          refine rd_disp rfl fun l4 nl4 => ?_
          have sg := same_new (o := .lst []) nl4
          have o4 := (hh7.same x6).out nl4
          walk_at "rd"
          refine rd_disp rfl fun t2 nt2 => ?_
          have sh := same_new (o := .tup [.int 1, .ref l4]) nt2
          have dA : Dt T.CP [p, l] _ (.tuple [.int 1, .list []]) (.ref t2) := dt_tup (upd_same (H := upd Hd l4 (.lst [])) (a := t2) (o := .tup [.int 1, .ref l4])) (dtAll_cons dt_int (dtAll_cons (dt_lst o4 (sh _ _ upd_same) dtAll_nil) dtAll_nil))
          walk_at "rd"
          refine rd_disp rfl fun t3 nt3 => ?_
          have si := same_new (o := .tup [.str "", .int 1]) nt3
          have d10 := (((d9.s (sg.trans sh)).snoc dA).s si).snoc (dt_tup (ds := [.str "", .int 1]) upd_same (dtAll_cons dt_str (dtAll_cons dt_int dtAll_nil)))
          walk_at "rd"
          refine rd_disp rfl fun ls4 nls4 => ?_
          have sj := same_new (o := .lst [.ref t2, .ref t3]) nls4
          have y2 := ((sg.trans sh).trans si)
          refine ⟨ls3, ls4, _, _, rfl, rfl, sj _ _ (y2 _ _ hls3), upd_same, small (by simp), fun ls5 nls5 => ?_⟩
          have sk := same_new (o := .lst ([.str "", .str (repS "a" 21), .str (repS "a" 20), .str "a\n", .ref l1, .ref l2, .ref l3, v4] ++ [v5, v6, v7] ++ [.ref t2, .ref t3])) nls5
          have d11 := (d10.s sj).s sk
          have x7 := ((x6.trans y2).trans sj)
          have o5 := (hh7.same x7).out nls5
          have x8 := x7.trans sk
          have hls5 : (upd (upd (upd (upd (upd Hd l4 (.lst [])) t2 (.tup [.int 1, .ref l4])) t3 (.tup [.str "", .int 1])) ls4 (.lst [.ref t2, .ref t3])) ls5 (.lst ([.str "", .str (repS "a" 21), .str (repS "a" 20), .str "a\n", .ref l1, .ref l2, .ref l3, v4] ++ [v5, v6, v7] ++ [.ref t2, .ref t3]))) ls5 = some (.lst ([.str "", .str (repS "a" 21), .str (repS "a" 20), .str "a\n", .ref l1, .ref l2, .ref l3, v4] ++ [v5, v6, v7] ++ [.ref t2, .ref t3])) := upd_same
          have d12 : DtAll T.CP [p, l] (upd (upd (upd (upd (upd Hd l4 (.lst [])) t2 (.tup [.int 1, .ref l4])) t3 (.tup [.str "", .int 1])) ls4 (.lst [.ref t2, .ref t3])) ls5 (.lst ([.str "", .str (repS "a" 21), .str (repS "a" 20), .str "a\n", .ref l1, .ref l2, .ref l3, v4] ++ [v5, v6, v7] ++ [.ref t2, .ref t3]))) [.str "", .str (repS "a" 21), .str (repS "a" 20), .str "a\n", .list [], .list [.int 1], .dict [], nestL 36, nestT 21 (.int 0), nestT 20 (.tuple []), nestT 20 (.int 0), .tuple [.int 1, .list []], .tuple [.str "", .int 1]] ([.str "", .str (repS "a" 21), .str (repS "a" 20), .str "a\n", .ref l1, .ref l2, .ref l3, v4] ++ [v5, v6, v7] ++ [.ref t2, .ref t3]) := d11
          clear d1 d2 d3 d4 d5 d6 d7 d8 d9 d10 d11
          have hods : ∀ d ∈ ([.str "", .str (repS "a" 21), .str (repS "a" 20), .str "a\n", .list [], .list [.int 1], .dict [], nestL 36, nestT 21 (.int 0), nestT 20 (.tuple []), nestT 20 (.int 0), .tuple [.int 1, .list []], .tuple [.str "", .int 1]] : List PyData), (pctF d && smallI d && decide (szd d ≤ 100)) = true := List.all_eq_true.mp (by decide +kernel)
          generalize ([.str "", .str (repS "a" 21), .str (repS "a" 20), .str "a\n", .list [], .list [.int 1], .dict [], nestL 36, nestT 21 (.int 0), nestT 20 (.tuple []), nestT 20 (.int 0), .tuple [.int 1, .list []], .tuple [.str "", .int 1]] : List PyData) = ods at d12 hods
          have h13 : ([.str "", .str (repS "a" 21), .str (repS "a" 20), .str "a\n", .ref l1, .ref l2, .ref l3, v4] ++ [v5, v6, v7] ++ [.ref t2, .ref t3] : List V).length = 13 := rfl
          generalize ([.str "", .str (repS "a" 21), .str (repS "a" 20), .str "a\n", .ref l1, .ref l2, .ref l3, v4] ++ [v5, v6, v7] ++ [.ref t2, .ref t3] : List V) = ovs at d12 hls5 h13 x8
          generalize upd (upd (upd (upd (upd Hd l4 (.lst [])) t2 (.tup [.int 1, .ref l4])) t3 (.tup [.str "", .int 1])) ls4 (.lst [.ref t2, .ref t3])) ls5 (.lst ovs) = He at d12 hls5 x8
          have hh9 := hh7.same x8
          have hdv9 := hdv7.s x8
          have f9 := f7.trans (FK.same x8)
          have oE : ls5 ∉ [p, l] := o5
          clear x3 x4 x5 x6 x7 y1 y2 hh7 hdv7 f7
          walk_at "rd"
          refine ⟨p, l, _, rfl, by decide, by decide, hh9, fun j Hf j0 j1 hhf kf => ?_⟩
          have d13 := d12.k kf
          obtain ⟨y, hy⟩ : ∃ y, ovs[j.toNat]? = some y := ⟨ovs[j.toNat]'(by omega), by simp⟩
          obtain ⟨od, hod, hodv⟩ := d13.get' hy
          have hq := hods od (List.mem_of_getElem? hod)
          have hokt : Okd od := okd_of hq
          have hod100 : szd od ≤ 100 := by
            simp only [Bool.and_eq_true, decide_eq_true_eq] at hq
            exact hq.2
          have hodby : (byD od).length ≤ 1200 := by
            simp only [Bool.and_eq_true, decide_eq_true_eq] at hq
            have := by_szd od hq.1.2
            omega
          have hdvf := hdv9.k kf
          have ff := f9.trans kf
          refine rd_ixL (kf.at oE hls5) (at_of (j := j.toNat) (by omega) hy) ?_
          walk_at "rd"
          dsimp only
          show iList _ _ _ _ _
          refine rd_ilist ?_
          walk_at "rd"
          refine rd_disp rfl fun t4 nt4 => ?_
          have st4 := same_new (o := .tup [y, v]) nt4
          walk_at "rd"
          refine rd_disp rfl fun ls6 nls6 => ?_
          have sls6 := same_new (o := .lst [v, y, .ref t4]) nls6
          have x9 := st4.trans sls6
          have dall : DtAll T.CP [p, l] _ [d2, od, .tuple [od, d2]] [v, y, .ref t4] := dtAll_cons (hdvf.s x9) (dtAll_cons (hodv.s x9) (dtAll_cons (dt_tup (sls6 _ _ upd_same) (dtAll_cons (hodv.s x9) (dtAll_cons (hdvf.s x9) dtAll_nil))) dtAll_nil))
          have hls6 : (upd (upd Hf t4 (.tup [y, v])) ls6 (.lst [v, y, .ref t4])) ls6 = some (.lst [v, y, .ref t4]) := upd_same
          have okall : ∀ e ∈ [d2, od, .tuple [od, d2]], Okd e := fun e he => by
            simp only [List.mem_cons, List.not_mem_nil, or_false] at he
            rcases he with h | h | h
            · rw [h]
              exact hokd
            · rw [h]
              exact hokt
            · rw [h]
              exact okd_pair hokt hokd (by omega) (by omega) (by omega) (by omega)
          generalize upd (upd Hf t4 (.tup [y, v])) ls6 (.lst [v, y, .ref t4]) = Hg at x9 dall hls6
          generalize [v, y, .ref t4] = xs at dall hls6
          generalize [d2, od, .tuple [od, d2]] = es at dall okall
          refine ⟨ls6, rfl, ⟨_, SqL.of hls6⟩, for_list (K := K) (a := ls6) (xs := xs) (fun i σ Hh => Same Hg Hh ∧ ∃ u2 u3 u4 u5 u6 u7 u8 u9 u10 : Option V, σ = [some (.ref a), some (.ref p), u2, u3, u4, u5, u6, u7, u8, u9, u10])
            ⟨Same.refl _, _, _, _, _, _, _, _, _, _, rfl⟩ (fun i σ Hh _ hh => SqL.of (hh.1 _ _ hls6)) ?_ ?_⟩
          · rintro i2 y2 σ Hh hi2 ⟨sA, w2, w3, w4, w5, w6, w7, w8, w9, w10, rfl⟩
            obtain ⟨e, he, hev⟩ := dall.get' hi2
            have oke := okall e (List.mem_of_getElem? he)
            have hev2 := hev.s sA
            walk_at "rd"
            refine ⟨[p, l], e, y2, 20, rfl, hev2, by decide, by have := oke.2.1; omega, oke.1, fun Hi sB => ?_⟩
            walk_at "rd"
            show iRng1 _ _ _ _
            refine rd_rng1 ?_
            walk_at "rd"
            refine ⟨2, rfl, by decide, by decide, fun D hD => lc_range (lo := 0) (n := 2) (fun i H5 => Same Hi H5 ∧ H5 D = some (.lst (List.replicate i (V.str (wordOf e))))) ⟨same_new hD, upd_same⟩ ?_ ?_⟩
            · rintro i3 H5 hi3 ⟨sC, hacc⟩
              refine ⟨rfl, ?_⟩
              refine rd_tyes ?_
              refine rd_yes rfl ?_
              walk_at "rd"
              refine ⟨[p, l], e, y2, _, rfl, (hev2.s sB).s sC, by have := oke.2.1; omega, fun _ => by have := oke.2.2; omega, fun H6 sD => ?_⟩
              refine ⟨_, sD _ _ hacc, small' (by rw [List.length_replicate]; omega), fun b o eb => (upd_ne (ne_of_none eb hD)).trans (sD _ _ (sC b o eb)), ?_⟩
              rw [upd_same, List.replicate_succ']
            · rintro H5 ⟨sC, hacc⟩
              walk_at "rd"
              refine ⟨[p, l], e, y2, rfl, (hev2.s sB).s sC, by have := oke.2.1; omega, fun H6 sD => ?_⟩
              walk_at "rd"
              refine ⟨isPc 20 e, rfl, ?_⟩
              walk_at "rd"
              refine rd_no rfl ?_
              walk_at "rd"
              refine rd_disp rfl fun q1_ nq1 => ?_
              have s1 := same_new (o := .lst [.str "parcel", .str "let"]) nq1
              walk_at "rd"
              refine .inr ⟨_, rfl, ?_⟩
              have eix : ∃ z : Str, z = wordOf e ∧ atI ([.str "parcel", .str "let"] : List V) (if isPc 20 e = true then 1 else 0) = some (.str z) := by
                refine ⟨_, rfl, ?_⟩
                unfold wordOf
                cases isPc 20 e <;> rfl
              obtain ⟨z, hz, hat⟩ := eix
              subst hz
              refine rd_ixL upd_same hat ?_
              walk_at "rd"
              refine rd_disp rfl fun q2_ nq2 => ?_
              have s2 := same_new (o := .lst [.str (wordOf e)]) nq2
              walk_at "rd"
              refine ⟨q2_, 2, _, rfl, rfl, upd_same, by decide, by decide, small (by simp), fun q3_ nq3 => ?_⟩
              have s3 := same_new (o := .lst (List.replicate (2 : Int).toNat [V.str (wordOf e)]).flatten) nq3
              have hD2 := ((s1.trans s2).trans s3) _ _ (sD _ _ hacc)
              rw [show List.replicate 2 (V.str (wordOf e)) = [.str (wordOf e), .str (wordOf e)] from rfl] at hD2
              refine rd_eqD (CP := T.CP) (M1 := []) (M2 := []) (dt_list2 hD2) (dt_list2 (upd_same)) ?_ ?_ ?_
              · exact word_shaped e
              · exact word_shaped e
              · rw [word_eqv e]
                walk_at "rd"
                refine rd_no rfl ?_
                exact ⟨(((sA.trans sB).trans sC).trans sD).trans ((s1.trans s2).trans s3), _, _, _, _, _, _, _, _, _, rfl⟩
          · rintro σ Hh ⟨sA, w2, w3, w4, w5, w6, w7, w8, w9, w10, rfl⟩
            have x10 := x9.trans sA
            exact ⟨hhf.same x10, ff.trans (FK.same x10), _, _, _, _, _, _, _, _, _, rfl⟩
        · have := rd_det hR hRd
          injection this with z1 z2
          exact absurd z2 ne
        · have := rd_det hR hRd
          cases this
    · rintro σ H1 ⟨hh1, f1, u2, u3, u4, u5, u6, u7, u8, u9, u10, rfl⟩
      walk_at "rd"
      exact q _ (FK.all s0 f1 npl)
end
end Mw

/-! T4 -/
namespace Mw
open PySem L2
def spLaw2 (K : PySem.W.Frag) : Sp := fun vs H Q _ => ∃ (a : Addr) (ns : List Int), vs = [.ref a] ∧ SqL K H a (ns.map V.int) ∧ ∀ H', Q (.bl true) H'
section
variable {P : Program} {w : World} {K : PySem.W.Frag} {mg : Str → Option Value} {base : Heap}
local macro_rules | `(tactic| walk_at "rd") => `(tactic| (repeat (first
  | ((with_reducible refine' rd_var ?h0 ?_); (case h0 => rfl))
  | with_reducible refine rd_c ?_
  | with_reducible refine rd_op ?_
  | with_reducible refine rd_nil ?_
  | with_reducible refine rd_cons ?_
  | with_reducible refine rd_tup ?_
  | with_reducible refine rd_lst ?_
  | with_reducible refine rd_ifs ?_
  | with_reducible refine rd_seq ?_
  | with_reducible refine rd_next ?_
  | with_reducible refine rd_ret ?_
  | with_reducible refine rd_asg ?_
  | ((with_reducible refine' rd_gset ?hs ?_); (case hs => ((simp only [L2.start, List.map_cons, List.map_nil, List.length_cons, List.length_nil, List.cons_append, List.nil_append, List.set_cons_zero, List.set_cons_succ, Nat.reduceAdd, Nat.reduceSub, Nat.zero_add, List.reduceReplicate]); rfl)))
  | with_reducible refine rd_drop ?_
  | with_reducible refine rd_test ?_
  | with_reducible refine rd_B ?_
  | with_reducible refine rd_bl ?_
  | with_reducible refine rd_blP ?_
  | with_reducible refine rd_andV ?_
  | with_reducible refine rd_orV ?_
  | with_reducible refine rd_notV ?_
  | with_reducible refine rd_and ?_
  | with_reducible refine rd_or ?_
  | with_reducible refine rd_not ?_
  | with_reducible refine rd_chain ?_
  | with_reducible refine rd_dput ?_
  | with_reducible refine rd_dget ?_
  | with_reducible refine rd_cb ?_
  | with_reducible refine rd_call ?_
  | with_reducible refine rd_un ?_
  | with_reducible refine rd_sl ?_
  | with_reducible refine rd_nopart ?_
  | with_reducible refine rd_part ?_
  | with_reducible refine rd_intP ?_
  | with_reducible refine rd_rU ?_
  | with_reducible refine rd_fld ?_
  | with_reducible refine rd_eqI ?_
  | with_reducible refine rd_neI ?_
  | with_reducible refine rd_mko ?_
  | with_reducible refine rd_bm ?_
  | with_reducible refine rd_gsub ?_
  | with_reducible refine rd_i0 ?_)))
theorem ok_law_second (T : Tx K mg) (B : Bk K mg T) : FnOk P w K mg base CX0 55 B.law_second.f B.law_second.fd ["_law_script"] (spLaw2 K) := by
  have G_law_pool := ok_law_pool (P := P) (w := w) (base := base) T B
  have G_law_parcel := ok_parcel_n (P := P) (w := w) (base := base) T B 4
  have G_law_draw := ok_law_draw (P := P) (w := w) (base := base) T B
  have G_law_nested := ok_law_nested (P := P) (w := w) (base := base) T B
  have G_law_bytes := ok_law_bytes_n (P := P) (w := w) (base := base) T B 24
  have G_law_right := ok_law_right (P := P) (w := w) (base := base) T B
  have G_law_spoilt := ok_law_spoilt (P := P) (w := w) (base := base) T B
  refine B.law_second.F.ok sc_law_second (fun vs H Q E h => ?_) (fun cdv A outer s H vs Q E hr h => ?_)
  · obtain ⟨a, ns, rfl, _⟩ := h
    rfl
  · obtain ⟨a, ns, rfl, ha, q⟩ := h
    refine ⟨_, (pss_cons (ps_set (i := 1) sc_law_second.nd rfl (Or.inr rfl) (pe_call G_law_pool (hr.mono (by omega)) rfl B.law_pool.m B.law_pool.F.kp B.law_pool.b .nil pass0 (pa_cons (pv 0) pa_nil)))
      (pss_cons (ps_for PassesOwn.never rfl (pi_range1 (by rfl) T.b_range (pa_cons pe_int pa_nil)) (pg_name (i := 2) sc_law_second.nd rfl (Or.inl rfl)) (pss_cons (ps_set (i := 3) sc_law_second.nd rfl (Or.inl rfl) (pe_callTy call_tuple_of (by rfl) T.b_tuple (by decide +kernel) (pa_cons (pe_call G_law_bytes (hr.mono (by omega)) rfl B.law_bytes.m B.law_bytes.F.kp B.law_bytes.b .nil pass0 (pa_cons (pe_call G_law_parcel (hr.mono (by omega)) rfl B.law_parcel.m B.law_parcel.F.kp B.law_parcel.b .nil pass0 (pa_cons (pv 1) (pa_cons pe_int pa_nil))) pa_nil)) pa_nil)))
      (pss_cons (ps_for PassesOwn.never rfl (pi_range1 (by rfl) T.b_range (pa_cons (pe_op op_add pe_int (pe_call G_law_draw (hr.mono (by omega)) rfl B.law_draw.m B.law_draw.F.kp B.law_draw.b .nil pass0 (pa_cons (pv 1) (pa_cons pe_int pa_nil)))) pa_nil)) (pg_name (i := 4) sc_law_second.nd rfl (Or.inl rfl)) (pss_cons (ps_if (pt_not (pt_val (pe_call G_law_right (hr.mono (by omega)) rfl B.law_right.m B.law_right.F.kp B.law_right.b .nil pass0 (pa_cons (pv 3) pa_nil)))) (pss_one (ps_ret pe_bl)) pss_nil)
      (pss_one (ps_set (i := 3) sc_law_second.nd rfl (Or.inl rfl) (pe_call G_law_spoilt (hr.mono (by omega)) rfl B.law_spoilt.m B.law_spoilt.F.kp B.law_spoilt.b .nil pass0 (pa_cons (pv 1) (pa_cons (pv 3) pa_nil)))))))
      (pss_cons (ps_set (i := 5) sc_law_second.nd rfl (Or.inr rfl) (pe_lst (pa_cons pe_int (pa_cons pe_int (pa_cons pe_int (pa_cons pe_int (pa_cons pe_int (pa_cons pe_int (pa_cons pe_int (pa_cons pe_int (pa_cons pe_int (pa_cons pe_int (pa_cons pe_int (pa_cons pe_int (pa_cons pe_int pa_nil)))))))))))))))
      (pss_cons (ps_set (i := 6) sc_law_second.nd rfl (Or.inl rfl) (pe_callTy call_tuple_of (by rfl) T.b_tuple (by decide +kernel) (pa_cons (pe_lc (own := [("_law_at", 8)]) (g := gName 8) rfl sc_law_second.nd (pi_range1 (by rfl) T.b_range (pa_cons (pe_call G_law_draw (hr.mono (by omega)) rfl B.law_draw.m B.law_draw.F.kp B.law_draw.b .nil pass0 (pa_cons (pv 1) (pa_cons pe_int pa_nil))) pa_nil)) (blkOk_by (own := [("_law_at", 8)]) (N := ["_law_script", "_law_pool_here", "_law_turn", "_law_row", "_law_again", "_law_few", "_law_drawn", "_law_deep_here", "_law_at"]) (sc := defScope s_law_second) (by decide +kernel)) (fun _ _ _ _ _ => pg_name (i := 8) sc_law_second.nd rfl (Or.inl rfl)) (fun _ _ _ _ _ => pts_nil) (fun _ _ _ _ _ => (pe_ix (r := rIxL K) ix_list (pv 5) (pe_call G_law_draw (hr.mono (by omega)) rfl B.law_draw.m B.law_draw.F.kp B.law_draw.b .nil pass0 (pa_cons (pv 1) (pa_cons pe_int pa_nil))) (fun _ _ => rfl)))) pa_nil)))
      (pss_cons (ps_if (PW.pt (pw_or (pt_not (pt_val (pe_call G_law_right (hr.mono (by omega)) rfl B.law_right.m B.law_right.F.kp B.law_right.b .nil pass0 (pa_cons (pv 3) pa_nil)))) (pw_or1 (pt_not (pt_val (pe_call G_law_right (hr.mono (by omega)) rfl B.law_right.m B.law_right.F.kp B.law_right.b .nil pass0 (pa_cons (pv 6) pa_nil))))))) (pss_one (ps_ret pe_bl)) pss_nil)
      (pss_cons (ps_set (i := 7) sc_law_second.nd rfl (Or.inl rfl) (pe_callTy call_tuple_of (by rfl) T.b_tuple (by decide +kernel) (pa_cons (pe_call G_law_bytes (hr.mono (by omega)) rfl B.law_bytes.m B.law_bytes.F.kp B.law_bytes.b .nil pass0 (pa_cons (pe_call G_law_nested (hr.mono (by omega)) rfl B.law_nested.m B.law_nested.F.kp B.law_nested.b .nil pass0 (pa_cons (pe_op op_add pe_int (pe_call G_law_draw (hr.mono (by omega)) rfl B.law_draw.m B.law_draw.F.kp B.law_draw.b .nil pass0 (pa_cons (pv 1) (pa_cons pe_int pa_nil)))) (pa_cons (pe_ix ix_list (pe_lst (pa_cons pe_int (pa_cons (pe_tup pa_nil) (pa_cons pe_str pa_nil)))) (pe_call G_law_draw (hr.mono (by omega)) rfl B.law_draw.m B.law_draw.F.kp B.law_draw.b .nil pass0 (pa_cons (pv 1) (pa_cons pe_int pa_nil))) (fun _ _ => rfl)) pa_nil))) pa_nil)) pa_nil)))
      (pss_one (ps_if (PW.pt (pw_or (pt_not (pt_val (pe_call G_law_right (hr.mono (by omega)) rfl B.law_right.m B.law_right.F.kp B.law_right.b .nil pass0 (pa_cons (pv 7) pa_nil)))) (pw_or1 (pt_not (pt_val (pe_call G_law_right (hr.mono (by omega)) rfl B.law_right.m B.law_right.F.kp B.law_right.b .nil pass0 (pa_cons (pe_call G_law_spoilt (hr.mono (by omega)) rfl B.law_spoilt.m B.law_spoilt.F.kp B.law_spoilt.b .nil pass0 (pa_cons (pv 1) (pa_cons (pv 7) pa_nil))) pa_nil))))))) (pss_one (ps_ret pe_bl)) pss_nil)))))))))
      (pss_one (ps_ret (pe_call G_law_right (hr.mono (by omega)) rfl B.law_right.m B.law_right.F.kp B.law_right.b .nil pass0 (pa_cons (pe_tup pa_nil) pa_nil)))))), ?_⟩
    walk_at "rd"
    refine ⟨a, ns, rfl, ha, fun p l H0 np nl hh0 s0 => ?_⟩
    walk_at "rd"
    refine ⟨4, rfl, by decide, by decide, for_range (lo := 0) (n := 4) (fun i σ H1 => PoolAt H1 p l ∧ ∃ u2 u3 u4 u5 u6 u7 u8 : Option V, σ = [some (.ref a), some (.ref p), u2, u3, u4, u5, u6, u7, u8])
      ⟨hh0, _, _, _, _, _, _, _, rfl⟩ ?_ ?_⟩
    · rintro i σ H1 hi ⟨hh1, u2, u3, u4, u5, u6, u7, u8, rfl⟩
      walk_at "rd"
      refine ⟨p, l, 3, by omega, rfl, hh1, fun d v H2 hpc hby hdv hh2 k2 => ?_⟩
      have bB3 : bB 3 = 20518 := rfl
      rw [bB3] at hby
      have hdp := isPc_depth d hpc
      walk_at "rd"
      refine ⟨[p, l], d, v, rfl, hdv, isPc_plain d hpc, by omega, by omega, fun b H3 s3 nb hb => ?_⟩
      walk_at "rd"
      refine ⟨b, _, rfl, .inl ⟨SqL.of hb, fun r nr => ?_⟩⟩
      have s4 := s3.trans (same_new (o := .tup ((byD d).map V.int)) nr)
      have hrow : RowAt (upd H3 r (.tup ((byD d).map V.int))) r (byD d) := ⟨upd_same, byD_by d hpc, by omega⟩
      have hh4 := hh2.same s4
      generalize upd H3 r (.tup ((byD d).map V.int)) = H4 at hrow hh4
      generalize byD d = row at hrow hby
      clear hdv hpc s3 s4 nb hb nr hdp
      walk_at "rd"
      show iRng1 _ _ _ _
      refine rd_rng1 ?_
      walk_at "rd"
      refine ⟨p, l, _, rfl, by decide, by decide, hh4, fun m H5 m0 m1 hh5 k5 => ?_⟩
      walk_at "rd"
      refine ⟨_, rfl, by omega, by omega, for_range (lo := 0) (n := (1 + m).toNat) (fun i σ H6 => PoolAt H6 p l ∧ ∃ (r : Addr) (row : List Int), RowAt H6 r row ∧ row.length + 1 ≤ 2 ^ i * 20519 ∧ ∃ u2 u4 u5 u6 u7 u8 : Option V, σ = [some (.ref a), some (.ref p), u2, some (.ref r), u4, u5, u6, u7, u8])
        ⟨hh5, r, row, hrow.kt k5.2, by omega, _, _, _, _, _, _, rfl⟩ ?_ ?_⟩
      · rintro j σ H6 hj ⟨hh6, r6, row6, hr6, hl6, w2, w4, w5, w6, w7, w8, rfl⟩
        have hj4 : j < 4 := by omega
        have h2j : (2 : Nat) ^ j ≤ 8 := Nat.le_trans (Nat.pow_le_pow_right (by decide) (show j ≤ 3 by omega)) (by decide)
        have hmul : 2 ^ j * 20519 ≤ 8 * 20519 := Nat.mul_le_mul_right _ h2j
        walk_at "rd"
        refine ⟨r6, row6, rfl, hr6, by omega, fun H7 s7 => ?_⟩
        walk_at "rd"
        refine rd_no rfl ?_
        walk_at "rd"
        refine ⟨p, l, r6, row6, rfl, hh6.same s7, hr6.same s7, by omega, fun c r2 H8 hr8 hl8 hh8 k8 => ?_⟩
        walk_at "rd"
        refine ⟨hh8, c, r2, hr8, ?_, _, _, _, _, _, _, rfl⟩
        rw [Nat.pow_succ]
        omega
      · rintro σ H6 ⟨hh6, r6, row6, hr6, hl6, w2, w4, w5, w6, w7, w8, rfl⟩
        have h2j : (2 : Nat) ^ (1 + m).toNat ≤ 16 := Nat.le_trans (Nat.pow_le_pow_right (by decide) (show (1 + m).toNat ≤ 4 by omega)) (by decide)
        have hmul : 2 ^ (1 + m).toNat * 20519 ≤ 16 * 20519 := Nat.mul_le_mul_right _ h2j
        have hl7 : row6.length ≤ 400000 := by omega
        clear hl6 hmul h2j
        walk_at "rd"
        refine rd_disp rfl fun fw nfw => ?_
        have sfw := same_new (o := .lst [.int 0, .int 1, .int 2, .int 3, .int 4, .int 5, .int 6, .int 6, .int 6, .int 7, .int 65, .int 128, .int 130]) nfw
        have ofw := hh6.out nfw
        have hh7 := hh6.same sfw
        have hfw : (upd H6 fw (.lst [.int 0, .int 1, .int 2, .int 3, .int 4, .int 5, .int 6, .int 6, .int 6, .int 7, .int 65, .int 128, .int 130])) fw = some (.lst ([(0 : Int), 1, 2, 3, 4, 5, 6, 6, 6, 7, 65, 128, 130].map V.int)) := upd_same
        have hr7 := hr6.same sfw
        generalize upd H6 fw (.lst [.int 0, .int 1, .int 2, .int 3, .int 4, .int 5, .int 6, .int 6, .int 6, .int 7, .int 65, .int 128, .int 130]) = H7 at hh7 hfw hr7
        walk_at "rd"
        show iRng1 _ _ _ _
        refine rd_rng1 ?_
        walk_at "rd"
        refine ⟨p, l, _, rfl, by decide, by decide, hh7, fun c H8 c0 c1 hh8 k8 => ?_⟩
        walk_at "rd"
        refine ⟨_, rfl, by omega, by omega, fun D hD => lc_range (lo := 0) (n := c.toNat) (fun i H9 => ∃ ws : List Int, ws.length = i ∧ H9 D = some (.lst (ws.map V.int)) ∧ (∀ b ∈ ws, 0 ≤ b ∧ b < 256) ∧ PoolAt H9 p l ∧ RowAt H9 r6 row6 ∧ H9 fw = some (.lst ([(0 : Int), 1, 2, 3, 4, 5, 6, 6, 6, 7, 65, 128, 130].map V.int)))
          ⟨[], rfl, upd_same, fun b hb => (by cases hb), hh8.new hD, (hr7.kt k8.2).same (same_new hD), (upd_ne (ne_of_none (k8.at ofw hfw) hD)).trans (k8.at ofw hfw)⟩ ?_ ?_⟩
        · rintro i2 H9 hi2 ⟨ws, hwl, hacc, hwb, hh9, hr9, hfw9⟩
          have hout := hh8.out hD
          refine ⟨rfl, ?_⟩
          refine rd_tyes ?_
          refine rd_yes rfl ?_
          walk_at "rd"
          refine ⟨p, l, _, rfl, by decide, by decide, hh9, fun j Ha j0 j1 hha ka => ?_⟩
          obtain ⟨y, hy⟩ : ∃ y, ([(0 : Int), 1, 2, 3, 4, 5, 6, 6, 6, 7, 65, 128, 130])[j.toNat]? = some y := ⟨[(0 : Int), 1, 2, 3, 4, 5, 6, 6, 6, 7, 65, 128, 130][j.toNat]'(by simp; omega), by simp⟩
          have hyb : 0 ≤ y ∧ y < 256 := by
            have := List.mem_of_getElem? hy
            simp at this
            omega
          refine rd_ixL (v := .int y) (ka.at ofw hfw9) (at_of (j := j.toNat) (by omega) (by rw [List.getElem?_map, hy]; rfl)) ?_
          have hacc2 := ka.at hout hacc
          have nfD : fw ≠ D := ne_of_none (k8.at ofw hfw) hD
          refine ⟨_, hacc2, small' (by rw [List.length_map]; omega), ws ++ [y], by simp [hwl], ?_, fun b hb => ?_, hha.upd hout, hr9.kt (ka.2.trans (KT.mut hacc2 fun _ z => by cases z)), (upd_ne nfD).trans (ka.at ofw hfw9)⟩
          · rw [upd_same, List.map_append]
            rfl
          · rcases List.mem_append.mp hb with z | z
            · exact hwb b z
            · rw [show b = y by simpa using z]
              exact hyb
        · rintro H9 ⟨ws, hwl, hacc, hwb, hh9, hr9, hfw9⟩
          walk_at "rd"
          refine ⟨D, _, rfl, .inl ⟨SqL.of hacc, fun dr ndr => ?_⟩⟩
          have sd := same_new (o := .tup (ws.map V.int)) ndr
          have hdr : RowAt (upd H9 dr (.tup (ws.map V.int))) dr ws := ⟨upd_same, hwb, by omega⟩
          have hh10 := hh9.same sd
          have hr10 := hr9.same sd
          generalize upd H9 dr (.tup (ws.map V.int)) = Ha at hdr hh10 hr10
          walk_at "rd"
          refine ⟨r6, row6, rfl, hr10, hl7, fun Hb sb => ?_⟩
          walk_at "rd"
          refine rd_no rfl ?_
          walk_at "rd"
          refine ⟨dr, ws, rfl, hdr.same sb, by omega, fun Hc sc => ?_⟩
          walk_at "rd"
          refine rd_no rfl ?_
          walk_at "rd"
          refine ⟨p, l, _, rfl, by decide, by decide, hh10.same (sb.trans sc), fun j1_ Hd j10 j11 hhd kd => ?_⟩
          obtain ⟨n, hn⟩ : ∃ n : Nat, 18 + j1_ = (n : Int) := ⟨(18 + j1_).toNat, by omega⟩
          walk_at "rd"
          rw [hn]
          refine rd_disp rfl fun t1 nt1 => ?_
          have s1 := same_new (o := .tup []) nt1
          walk_at "rd"
          refine rd_disp rfl fun l1 nl1 => ?_
          have s2 := same_new (o := .lst [.int 0, .ref t1, .str "ab"]) nl1
          have x1 := s1.trans s2
          have o1 := (hhd.same s1).out nl1
          have d1 : DtAll T.CP [p, l] (upd (upd Hd t1 (.tup [])) l1 (.lst [.int 0, .ref t1, .str "ab"])) [.int 0, .tuple [], .str "ab"] [.int 0, .ref t1, .str "ab"] := dtAll_cons dt_int (dtAll_cons (dt_tup (s2 _ _ upd_same) dtAll_nil) (dtAll_cons dt_str dtAll_nil))
          walk_at "rd"
          refine ⟨p, l, _, rfl, by decide, by decide, hhd.same x1, fun j2_ He j20 j21 hhe ke => ?_⟩
          have d2 := d1.k ke
          obtain ⟨y, hy⟩ : ∃ y, ([.int 0, .ref t1, .str "ab"] : List V)[j2_.toNat]? = some y := ⟨[V.int 0, .ref t1, .str "ab"][j2_.toNat]'(by simp; omega), by simp⟩
          obtain ⟨od, hod, hodv⟩ := d2.get' hy
          have hq : isPc 1 od = true ∧ (byD od).length ≤ 10 := by
            have hm := List.mem_of_getElem? hod
            simp only [List.mem_cons, List.not_mem_nil, or_false] at hm
            have e2 : (128 : Nat) ^ 2 = 16384 := by decide
            rcases hm with z | z | z
            · rw [z]
              refine ⟨rfl, ?_⟩
              have := by_small (i := 0) (by decide) (by decide)
              omega
            · rw [z]
              refine ⟨rfl, ?_⟩
              show ((6 : Int) :: (wh 0 ++ [])).length ≤ 10
              rw [wh_lt (by decide)]
              decide
            · rw [z]
              refine ⟨by decide +kernel, ?_⟩
              show ((5 : Int) :: (wh ("ab" : Str).length ++ sgn "ab")).length ≤ 10
              rw [show ("ab" : Str).length = 2 from rfl, wh_lt (by decide), List.length_cons, List.length_append, sgn_len]
              decide
          refine rd_ixL (ke.at o1 upd_same) (at_of (j := j2_.toNat) (by omega) hy) ?_
          walk_at "rd"
          refine ⟨[p, l], od, n, y, rfl, by omega, hodv, fun v3 Hf sf hv3 => ?_⟩
          have hpn := nestT_pc n 1 od hq.1
          have hbn := nestT_by n od
          have hdn := isPc_depth _ hpn
          walk_at "rd"
          refine ⟨[p, l], nestT n od, v3, rfl, hv3, isPc_plain _ hpn, by omega, by omega, fun b2 Hg sg nb2 hb2 => ?_⟩
          walk_at "rd"
          refine ⟨b2, _, rfl, .inl ⟨SqL.of hb2, fun dr2 ndr2 => ?_⟩⟩
          have sh := same_new (o := .tup ((byD (nestT n od)).map V.int)) ndr2
          have hdr2 : RowAt (upd Hg dr2 (.tup ((byD (nestT n od)).map V.int))) dr2 (byD (nestT n od)) := ⟨upd_same, byD_by _ hpn, by omega⟩
          have hhg := hhe.same ((sf.trans sg).trans sh)
          walk_at "rd"
          refine ⟨dr2, _, rfl, hdr2, by omega, fun Hh si => ?_⟩
          walk_at "rd"
          refine rd_no rfl ?_
          walk_at "rd"
          refine ⟨p, l, dr2, _, rfl, hhg.same si, hdr2.same si, by omega, fun c2 r2 Hi hr8 hl8 hh11 k11 => ?_⟩
          walk_at "rd"
          refine ⟨c2, r2, rfl, hr8, by omega, fun Hj sj => ?_⟩
          walk_at "rd"
          refine rd_no rfl ?_
          exact ⟨hh11.same sj, _, _, _, _, _, _, _, rfl⟩
    · rintro σ H1 ⟨hh1, u2, u3, u4, u5, u6, u7, u8, rfl⟩
      walk_at "rd"
      refine rd_disp rfl fun t nt => ?_
      walk_at "rd"
      refine ⟨t, [], rfl, ⟨upd_same, fun b hb => (by cases hb), Nat.zero_le _⟩, Nat.zero_le _, fun H2 s2 => ?_⟩
      exact q _
theorem ok_law (T : Tx K mg) (B : Bk K mg T) : FnOk P w K mg base CX0 56 B.law.f B.law.fd ["_law_script"] (spLaw K) := by
  have G_law_first := ok_law_first (P := P) (w := w) (base := base) T B
  have G_law_second := ok_law_second (P := P) (w := w) (base := base) T B
  refine B.law.F.ok sc_law (fun vs H Q E h => ?_) (fun cdv A outer s H vs Q E hr h => ?_)
  · obtain ⟨a, ns, rfl, _⟩ := h
    rfl
  · obtain ⟨a, ns, rfl, ha, q⟩ := h
    refine ⟨_, (pss_one (ps_ret (pe_and (pe_call G_law_first (hr.mono (by omega)) rfl B.law_first.m B.law_first.F.kp B.law_first.b .nil pass0 (pa_cons (pv 0) pa_nil)) (pe_one (pe_call G_law_second (hr.mono (by omega)) rfl B.law_second.m B.law_second.F.kp B.law_second.b .nil pass0 (pa_cons (pv 0) pa_nil)))))), ?_⟩
    walk_at "rd"
    refine ⟨a, ns, rfl, ha, fun H1 s1 => ?_⟩
    walk_at "rd"
    refine rd_yes rfl ?_
    walk_at "rd"
    exact ⟨a, ns, rfl, Same.seq s1 ha, fun H2 => q H2⟩
end
end Mw

/-! Z1 -/
namespace Mw
open PySem L2
theorem kit_bt {K : PySem.W.Frag} {C : Addr} {T : String} {b : Bool} (h : PySem.W.mroIn K C (.type T) = some b) (hm : PySem.W.kitMeta T = true) (hne : (Value.ref C == .type T) = false) : PySem.W.kitOne K (.ref C) (.type T) = some b := by
  unfold PySem.W.kitOne PySem.W.kitCls
  rw [if_neg (by rw [hne]; simp)]
  simp only [hm, if_true]
  exact h
theorem kit_cls {K : PySem.W.Frag} {t : Value} {C : Addr} {b : Bool} (hne : (t == .ref C) = false) (h2 : PySem.W.isClsIn K C = true) (h3 : PySem.W.typeIn K (.ref C) = some (.type "type")) (h : PySem.W.subIn K t (.ref C) = some b) : PySem.W.kitOne K t (.ref C) = some b := by
  have e2 : ((PySem.W.clsIn K C).isSome && PySem.W.typeIn K (.ref C) == some (.type "type")) = true := by
    have h2' : (PySem.W.clsIn K C).isSome = true := h2
    rw [h2', h3] <;> rfl
  unfold PySem.W.kitOne PySem.W.kitCls
  rw [if_neg (by rw [hne]; simp)]
  simp only [e2]
  exact h
theorem exm_cls {K : PySem.W.Frag} {S D : Addr} {b : Bool} (h1 : PySem.W.subIn K (.ref D) (.type "BaseException") = some true) (h2 : PySem.W.isClsIn K D = true) (h3 : PySem.W.typeIn K (.ref D) = some (.type "type")) (h4 : PySem.W.subIn K (.ref S) (.ref D) = some b) : PySem.W.exmOne K (.ref S) (.ref D) = some b := by
  have e2 : ((PySem.W.clsIn K D).isSome && PySem.W.typeIn K (.ref D) == some (.type "type")) = true := by
    have h2' : (PySem.W.clsIn K D).isSome = true := h2
    rw [h2', h3] <;> rfl
  unfold PySem.W.exmOne PySem.W.kitCls
  rw [if_pos (by rw [h1] <;> rfl)]
  simp only [e2]
  exact h4
theorem kit_subT {K : PySem.W.Frag} {C : Addr} {T : String} (hm : PySem.W.kitMeta T = true) (h : PySem.W.subIn K (.ref C) (.type T) = some true) : PySem.W.kitOne K (.ref C) (.type T) = some true := by
  unfold PySem.W.kitOne PySem.W.kitCls
  split
  · rfl
  · simp only [hm, if_true]
    exact h
theorem kit_subR {K : PySem.W.Frag} {A C : Addr} (h2 : PySem.W.isClsIn K C = true) (h3 : PySem.W.typeIn K (.ref C) = some (.type "type")) (h : PySem.W.subIn K (.ref A) (.ref C) = some true) : PySem.W.kitOne K (.ref A) (.ref C) = some true := by
  have e2 : ((PySem.W.clsIn K C).isSome && PySem.W.typeIn K (.ref C) == some (.type "type")) = true := by
    have h2' : (PySem.W.clsIn K C).isSome = true := h2
    rw [h2', h3] <;> rfl
  unfold PySem.W.kitOne PySem.W.kitCls
  split
  · rfl
  · simp only [e2]
    exact h
theorem tup_not {K : PySem.W.Frag} {C : Addr} : PySem.W.subIn K (.type "tuple") (.ref C) = some false := rfl
theorem fin_of {l : PySem.W.OpenLaw} {w : World} {K : PySem.W.Frag} {mg : Str → Option Value} {fa : Addr} (T : Tx K mg) (B : Bk K mg T) (hfa : mg "law" = some (.ref fa)) (hb : ∀ (s : Shared) (v : Value), BindsTo s B.law.fd ⟨[v], []⟩ [("_law_script", v)]) :
    ∃ fd : FuncData, (∀ (s : Shared) (v : Value), BindsTo s fd ⟨[v], []⟩ [("_law_script", v)]) ∧ ∀ base : Heap, K.In base → base.Ns mainGlobals mg → FnOk l.prog w K mg base CX0 56 fa fd ["_law_script"] (spLaw K) := by
  have e : fa = B.law.f := by
    have z := hfa.symm.trans B.law.m
    injection z with z
    injection z
  subst e
  exact ⟨B.law.fd, hb, fun base _ _ => ok_law T B⟩
theorem all_mk {l : PySem.W.OpenLaw} {w : World} {K : PySem.W.Frag} {h : Heap} {mg : Str → Option Value} {fa c_NoParcel c_NoRow c_BadRow c_StreamError f0 f1 f2 f3 f4 f5 f6 f7 f8 f9 f10 f11 f12 f13 f14 f15 f16 f17 f18 f19 f20 f21 f22 f23 f24 f25 f26 f27 f28 f29 f30 f31 f32 f33 f34 f35 f36 f37 f38 f39 f40 f41 f42 f43 f44 f45 f46 f47 : Addr} (X : K.In h) (G : h.Ns mainGlobals mg) (hfa : mg "law" = some (.ref fa)) {tk1 tk2 tk3 tk4 tk5 tk6 tk7 tk8 tk9 tk10 tk11 tk12 tk13 tk14 tk15 tk16 tk17 : Tok}
    {nm0 q0 : Str} {N0 ss0 : Addr} {bs0 : List Value} {sn0 : List Str} {sub0 : List Value} {ab0 : Bool} {col0 : Option Bool} {dd0 : Option Addr} {ma0 mb0 mc0 md0 me0 : Option Value} {nm1 q1 : Str} {N1 ss1 : Addr} {bs1 : List Value} {sn1 : List Str} {sub1 : List Value} {ab1 : Bool} {col1 : Option Bool} {dd1 : Option Addr} {ma1 mb1 mc1 md1 me1 : Option Value} {nm2 q2 : Str} {N2 ss2 : Addr} {bs2 : List Value} {sn2 : List Str} {sub2 : List Value} {ab2 : Bool} {col2 : Option Bool} {dd2 : Option Addr} {ma2 mb2 mc2 md2 me2 : Option Value}
    {od0 an0 : Option Addr} {sl0 : Array (Option Value)} {oc0 kV0 dc0 pm0 cd0 ct0 : Value}
    {od1 an1 : Option Addr} {sl1 : Array (Option Value)} {oc1 kV1 dc1 pm1 cd1 ct1 : Value}
    {od2 an2 : Option Addr} {sl2 : Array (Option Value)} {oc2 kV2 dc2 pm2 cd2 ct2 : Value}
    {od3 an3 : Option Addr} {sl3 : Array (Option Value)} {oc3 kV3 dc3 pm3 cd3 ct3 : Value}
    {od4 an4 : Option Addr} {sl4 : Array (Option Value)} {oc4 kV4 dc4 pm4 cd4 ct4 : Value}
    {od5 an5 : Option Addr} {sl5 : Array (Option Value)} {oc5 kV5 dc5 pm5 cd5 ct5 : Value}
    {od6 an6 : Option Addr} {sl6 : Array (Option Value)} {oc6 kV6 dc6 pm6 cd6 ct6 : Value}
    {od7 an7 : Option Addr} {sl7 : Array (Option Value)} {oc7 kV7 dc7 pm7 cd7 ct7 : Value}
    {od8 an8 : Option Addr} {sl8 : Array (Option Value)} {oc8 kV8 dc8 pm8 cd8 ct8 : Value}
    {od9 an9 : Option Addr} {sl9 : Array (Option Value)} {oc9 kV9 dc9 pm9 cd9 ct9 : Value}
    {od10 an10 : Option Addr} {sl10 : Array (Option Value)} {oc10 kV10 dc10 pm10 cd10 ct10 : Value}
    {od11 an11 : Option Addr} {sl11 : Array (Option Value)} {oc11 kV11 dc11 pm11 cd11 ct11 : Value}
    {od12 an12 : Option Addr} {sl12 : Array (Option Value)} {oc12 kV12 dc12 pm12 cd12 ct12 : Value}
    {od13 an13 : Option Addr} {sl13 : Array (Option Value)} {oc13 kV13 dc13 pm13 cd13 ct13 : Value}
    {od14 an14 : Option Addr} {sl14 : Array (Option Value)} {oc14 kV14 dc14 pm14 cd14 ct14 : Value}
    {od15 an15 : Option Addr} {sl15 : Array (Option Value)} {oc15 kV15 dc15 pm15 cd15 ct15 : Value}
    {od16 an16 : Option Addr} {sl16 : Array (Option Value)} {oc16 kV16 dc16 pm16 cd16 ct16 : Value}
    {od17 an17 : Option Addr} {sl17 : Array (Option Value)} {oc17 kV17 dc17 pm17 cd17 ct17 : Value}
    {od18 an18 : Option Addr} {sl18 : Array (Option Value)} {oc18 kV18 dc18 pm18 cd18 ct18 : Value}
    {od19 an19 : Option Addr} {sl19 : Array (Option Value)} {oc19 kV19 dc19 pm19 cd19 ct19 : Value}
    {od20 an20 : Option Addr} {sl20 : Array (Option Value)} {oc20 kV20 dc20 pm20 cd20 ct20 : Value}
    {od21 an21 : Option Addr} {sl21 : Array (Option Value)} {oc21 kV21 dc21 pm21 cd21 ct21 : Value}
    {od22 an22 : Option Addr} {sl22 : Array (Option Value)} {oc22 kV22 dc22 pm22 cd22 ct22 : Value}
    {od23 an23 : Option Addr} {sl23 : Array (Option Value)} {oc23 kV23 dc23 pm23 cd23 ct23 : Value}
    {od24 an24 : Option Addr} {sl24 : Array (Option Value)} {oc24 kV24 dc24 pm24 cd24 ct24 : Value}
    {od25 an25 : Option Addr} {sl25 : Array (Option Value)} {oc25 kV25 dc25 pm25 cd25 ct25 : Value}
    {od26 an26 : Option Addr} {sl26 : Array (Option Value)} {oc26 kV26 dc26 pm26 cd26 ct26 : Value}
    {od27 an27 : Option Addr} {sl27 : Array (Option Value)} {oc27 kV27 dc27 pm27 cd27 ct27 : Value}
    {od28 an28 : Option Addr} {sl28 : Array (Option Value)} {oc28 kV28 dc28 pm28 cd28 ct28 : Value}
    {od29 an29 : Option Addr} {sl29 : Array (Option Value)} {oc29 kV29 dc29 pm29 cd29 ct29 : Value}
    {od30 an30 : Option Addr} {sl30 : Array (Option Value)} {oc30 kV30 dc30 pm30 cd30 ct30 : Value}
    {od31 an31 : Option Addr} {sl31 : Array (Option Value)} {oc31 kV31 dc31 pm31 cd31 ct31 : Value}
    {od32 an32 : Option Addr} {sl32 : Array (Option Value)} {oc32 kV32 dc32 pm32 cd32 ct32 : Value}
    {od33 an33 : Option Addr} {sl33 : Array (Option Value)} {oc33 kV33 dc33 pm33 cd33 ct33 : Value}
    {od34 an34 : Option Addr} {sl34 : Array (Option Value)} {oc34 kV34 dc34 pm34 cd34 ct34 : Value}
    {od35 an35 : Option Addr} {sl35 : Array (Option Value)} {oc35 kV35 dc35 pm35 cd35 ct35 : Value}
    {od36 an36 : Option Addr} {sl36 : Array (Option Value)} {oc36 kV36 dc36 pm36 cd36 ct36 : Value}
    {od37 an37 : Option Addr} {sl37 : Array (Option Value)} {oc37 kV37 dc37 pm37 cd37 ct37 : Value}
    {od38 an38 : Option Addr} {sl38 : Array (Option Value)} {oc38 kV38 dc38 pm38 cd38 ct38 : Value}
    {od39 an39 : Option Addr} {sl39 : Array (Option Value)} {oc39 kV39 dc39 pm39 cd39 ct39 : Value}
    {od40 an40 : Option Addr} {sl40 : Array (Option Value)} {oc40 kV40 dc40 pm40 cd40 ct40 : Value}
    {od41 an41 : Option Addr} {sl41 : Array (Option Value)} {oc41 kV41 dc41 pm41 cd41 ct41 : Value}
    {od42 an42 : Option Addr} {sl42 : Array (Option Value)} {oc42 kV42 dc42 pm42 cd42 ct42 : Value}
    {od43 an43 : Option Addr} {sl43 : Array (Option Value)} {oc43 kV43 dc43 pm43 cd43 ct43 : Value}
    {od44 an44 : Option Addr} {sl44 : Array (Option Value)} {oc44 kV44 dc44 pm44 cd44 ct44 : Value}
    {od45 an45 : Option Addr} {sl45 : Array (Option Value)} {oc45 kV45 dc45 pm45 cd45 ct45 : Value}
    {od46 an46 : Option Addr} {sl46 : Array (Option Value)} {oc46 kV46 dc46 pm46 cd46 ct46 : Value}
    {od47 an47 : Option Addr} {sl47 : Array (Option Value)} {oc47 kV47 dc47 pm47 cd47 ct47 : Value}
    (g_c_NoParcel : PySem.W.nsIn K mainGlobals "NoParcel" = some (some (.ref c_NoParcel)))
    (g_c_NoRow : PySem.W.nsIn K mainGlobals "NoRow" = some (some (.ref c_NoRow)))
    (g_c_BadRow : PySem.W.nsIn K mainGlobals "BadRow" = some (some (.ref c_BadRow)))
    (g_c_StreamError : PySem.W.nsIn K mainGlobals "StreamError" = some (some (.ref c_StreamError)))
    (g_NONE : PySem.W.nsIn K mainGlobals "NONE" = some (some (.int 0 tk1)))
    (g_NO : PySem.W.nsIn K mainGlobals "NO" = some (some (.int 1 tk2)))
    (g_YES : PySem.W.nsIn K mainGlobals "YES" = some (some (.int 2 tk3)))
    (g_FROM_ZERO : PySem.W.nsIn K mainGlobals "FROM_ZERO" = some (some (.int 3 tk4)))
    (g_BELOW_ZERO : PySem.W.nsIn K mainGlobals "BELOW_ZERO" = some (some (.int 4 tk5)))
    (g_STRING : PySem.W.nsIn K mainGlobals "STRING" = some (some (.int 5 tk6)))
    (g_TUPLE : PySem.W.nsIn K mainGlobals "TUPLE" = some (some (.int 6 tk7)))
    (g_MOST_SIGNS : PySem.W.nsIn K mainGlobals "MOST_SIGNS" = some (some (.int 20 tk8)))
    (g_MOST_DEEP : PySem.W.nsIn K mainGlobals "MOST_DEEP" = some (some (.int 20 tk9)))
    (g_BYTE_LIMIT : PySem.W.nsIn K mainGlobals "BYTE_LIMIT" = some (some (.int 256 tk10)))
    (g_FIGURE_LIMIT : PySem.W.nsIn K mainGlobals "FIGURE_LIMIT" = some (some (.int 128 tk11)))
    (g_MARK_LIMIT : PySem.W.nsIn K mainGlobals "MARK_LIMIT" = some (some (.int 2305843009213693951 tk12)))
    (g_SEAL_LENGTH : PySem.W.nsIn K mainGlobals "SEAL_LENGTH" = some (some (.int 4 tk13)))
    (g_LEAST_SIGN : PySem.W.nsIn K mainGlobals "LEAST_SIGN" = some (some (.int 32 tk14)))
    (g_GREATEST_SIGN : PySem.W.nsIn K mainGlobals "GREATEST_SIGN" = some (some (.int 126 tk15)))
    (g_NO_SIGN : PySem.W.nsIn K mainGlobals "NO_SIGN" = some (some (.int 37 tk16)))
    (g_SIGNS : PySem.W.nsIn K mainGlobals "SIGNS" = some (some (.str SC_SIGNS tk17)))
    (b_isinstance : PySem.W.nsIn K mainGlobals "isinstance" = some none)
    (b_int : PySem.W.nsIn K mainGlobals "int" = some none)
    (b_bool : PySem.W.nsIn K mainGlobals "bool" = some none)
    (b_tuple : PySem.W.nsIn K mainGlobals "tuple" = some none)
    (b_list : PySem.W.nsIn K mainGlobals "list" = some none)
    (b_str : PySem.W.nsIn K mainGlobals "str" = some none)
    (b_len : PySem.W.nsIn K mainGlobals "len" = some none)
    (b_range : PySem.W.nsIn K mainGlobals "range" = some none)
    (b_zip : PySem.W.nsIn K mainGlobals "zip" = some none)
    (b_min : PySem.W.nsIn K mainGlobals "min" = some none)
    (b_all : PySem.W.nsIn K mainGlobals "all" = some none)
    (b_sum : PySem.W.nsIn K mainGlobals "sum" = some none)
    (b_abs : PySem.W.nsIn K mainGlobals "abs" = some none)
    (b_ord : PySem.W.nsIn K mainGlobals "ord" = some none)
    (b_repr : PySem.W.nsIn K mainGlobals "repr" = some none)
    (b_ValueError : PySem.W.nsIn K mainGlobals "ValueError" = some none)
    (w_cg : PySem.W.specialIn K (.builtin "object.__class__") "__get__" = some (some (.builtin "getset_descriptor.__get__")))
    (w_ct : PySem.W.takesIn K (.builtin "object.__class__") = some true)
    (x0_l : K.lookup c_NoParcel = some (excClassObj nm0 q0 c_NoParcel N0 bs0 [.ref ss0, .type "ValueError", .type "Exception", .type "BaseException", .type "object"] true sn0 sub0 ab0 col0 dd0 ma0 mb0 mc0 md0 me0 "ValueError.__new__"))
    (x0_sa : PySem.W.findIn K (.ref c_NoParcel) "__setattr__" = some (some (.builtin "object.__setattr__")))
    (x0_ex : PySem.W.subIn K (.ref c_NoParcel) (.type "BaseException") = some true)
    (x0_ty : PySem.W.typeIn K (.ref c_NoParcel) = some (.type "type"))
    (x0_kp : PySem.W.keepIn K (.ref c_NoParcel) = true)
    (x0_is : PySem.W.isClsIn K c_NoParcel = true)
    (x1_l : K.lookup c_NoRow = some (excClassObj nm1 q1 c_NoRow N1 bs1 [.ref ss1, .type "ValueError", .type "Exception", .type "BaseException", .type "object"] true sn1 sub1 ab1 col1 dd1 ma1 mb1 mc1 md1 me1 "ValueError.__new__"))
    (x1_sa : PySem.W.findIn K (.ref c_NoRow) "__setattr__" = some (some (.builtin "object.__setattr__")))
    (x1_ex : PySem.W.subIn K (.ref c_NoRow) (.type "BaseException") = some true)
    (x1_ty : PySem.W.typeIn K (.ref c_NoRow) = some (.type "type"))
    (x1_kp : PySem.W.keepIn K (.ref c_NoRow) = true)
    (x1_is : PySem.W.isClsIn K c_NoRow = true)
    (x2_l : K.lookup c_BadRow = some (excClassObj nm2 q2 c_BadRow N2 bs2 [.ref ss2, .type "ValueError", .type "Exception", .type "BaseException", .type "object"] true sn2 sub2 ab2 col2 dd2 ma2 mb2 mc2 md2 me2 "ValueError.__new__"))
    (x2_sa : PySem.W.findIn K (.ref c_BadRow) "__setattr__" = some (some (.builtin "object.__setattr__")))
    (x2_ex : PySem.W.subIn K (.ref c_BadRow) (.type "BaseException") = some true)
    (x2_ty : PySem.W.typeIn K (.ref c_BadRow) = some (.type "type"))
    (x2_kp : PySem.W.keepIn K (.ref c_BadRow) = true)
    (x2_is : PySem.W.isClsIn K c_BadRow = true)
    (p2_na : PySem.W.findIn K (.ref c_BadRow) "place" = some none)
    (p2_ga : PySem.W.findIn K (.ref c_BadRow) "__getattribute__" = some (some (.builtin "BaseException.__getattribute__")))
    (p2_gg : PySem.W.findIn K (.ref c_BadRow) "__getattr__" = some none)
    (p2_hd : PySem.W.hasDictIn K c_BadRow = true)
    (qna_place : PySem.W.findIn K (.ref c_BadRow) "place" = some none)
    (se_BadRowBadRow : PySem.W.subIn K (.ref c_BadRow) (.ref c_BadRow) = some true)
    (y_c_NoParcelg : PySem.W.findIn K (.ref c_NoParcel) "__getattribute__" = some (some (.builtin "BaseException.__getattribute__")))
    (y_c_NoParcelk : PySem.W.findIn K (.ref c_NoParcel) "__getattr__" = some none)
    (y_c_NoParcels : PySem.W.subIn K (.ref c_NoParcel) (.type "BaseException") = some true)
    (y_c_NoParceld : PySem.W.hasDictIn K c_NoParcel = true)
    (y_c_NoParcela : PySem.W.findIn K (.ref c_NoParcel) "__class__" = some (some (.builtin "object.__class__")))
    (y_c_NoParcelm : PySem.W.mroIn K c_NoParcel (.type "object") = some true)
    (y_c_BadRowg : PySem.W.findIn K (.ref c_BadRow) "__getattribute__" = some (some (.builtin "BaseException.__getattribute__")))
    (y_c_BadRowk : PySem.W.findIn K (.ref c_BadRow) "__getattr__" = some none)
    (y_c_BadRows : PySem.W.subIn K (.ref c_BadRow) (.type "BaseException") = some true)
    (y_c_BadRowd : PySem.W.hasDictIn K c_BadRow = true)
    (y_c_BadRowa : PySem.W.findIn K (.ref c_BadRow) "__class__" = some (some (.builtin "object.__class__")))
    (y_c_BadRowm : PySem.W.mroIn K c_BadRow (.type "object") = some true)
    (uq_NpNp : PySem.W.subIn K (.ref c_NoParcel) (.ref c_NoParcel) = some true)
    (v_c_NoParcel_is : PySem.W.isClsIn K c_NoParcel = true)
    (v_c_NoParcel_ty : PySem.W.typeIn K (.ref c_NoParcel) = some (.type "type"))
    (uq_NpVe : PySem.W.subIn K (.ref c_NoParcel) (.type "ValueError") = some true)
    (uq_BrSe : PySem.W.subIn K (.ref c_BadRow) (.ref c_StreamError) = some true)
    (v_c_StreamError_is : PySem.W.isClsIn K c_StreamError = true)
    (v_c_StreamError_ty : PySem.W.typeIn K (.ref c_StreamError) = some (.type "type"))
    (uq_BrVe : PySem.W.subIn K (.ref c_BadRow) (.type "ValueError") = some true)
    (wr_NoParcelStream : PySem.W.subIn K (.ref c_StreamError) (.type "BaseException") = some true)
    (ur_NoParcelStream : PySem.W.subIn K (.ref c_NoParcel) (.ref c_StreamError) = some true)
    (a0 : PySem.W.findIn K (.ref c_NoParcel) "__init__" = some (some (.ref f0)))
    (i0 : PySem.W.isFn K (.ref f0) = true)
    (t0 : PySem.W.typeIn K (.ref f0) = some (.type "function"))
    (l0 : K.lookup f0 = some ⟨oc0, od0, .func (PySem.W.fnOf "__init__" "NoParcel.__init__" (defArgs s_NoParcel_init) (defBody s_NoParcel_init) (defScope s_NoParcel_init) .none kV0 dc0 pm0 an0 cd0 ct0), sl0⟩)
    (c0 : PySem.W.codeIn K cd0 "NoParcel.__init__" = true)
    (k0 : PySem.W.keepIn K (.ref f0) = true)
    (a1 : PySem.W.findIn K (.ref c_NoRow) "__init__" = some (some (.ref f1)))
    (i1 : PySem.W.isFn K (.ref f1) = true)
    (t1 : PySem.W.typeIn K (.ref f1) = some (.type "function"))
    (l1 : K.lookup f1 = some ⟨oc1, od1, .func (PySem.W.fnOf "__init__" "NoRow.__init__" (defArgs s_NoRow_init) (defBody s_NoRow_init) (defScope s_NoRow_init) .none kV1 dc1 pm1 an1 cd1 ct1), sl1⟩)
    (c1 : PySem.W.codeIn K cd1 "NoRow.__init__" = true)
    (k1 : PySem.W.keepIn K (.ref f1) = true)
    (a2 : PySem.W.findIn K (.ref c_BadRow) "__init__" = some (some (.ref f2)))
    (i2 : PySem.W.isFn K (.ref f2) = true)
    (t2 : PySem.W.typeIn K (.ref f2) = some (.type "function"))
    (l2 : K.lookup f2 = some ⟨oc2, od2, .func (PySem.W.fnOf "__init__" "BadRow.__init__" (defArgs s_BadRow_init) (defBody s_BadRow_init) (defScope s_BadRow_init) .none kV2 dc2 pm2 an2 cd2 ct2), sl2⟩)
    (c2 : PySem.W.codeIn K cd2 "BadRow.__init__" = true)
    (k2 : PySem.W.keepIn K (.ref f2) = true)
    (a3 : PySem.W.nsIn K mainGlobals "is_int" = some (some (.ref f3)))
    (l3 : K.lookup f3 = some ⟨oc3, od3, .func (PySem.W.fnOf "is_int" "is_int" (defArgs s_is_int) (defBody s_is_int) (defScope s_is_int) .none kV3 dc3 pm3 an3 cd3 ct3), sl3⟩)
    (c3 : PySem.W.codeIn K cd3 "is_int" = true)
    (k3 : PySem.W.keepIn K (.ref f3) = true)
    (a4 : PySem.W.nsIn K mainGlobals "is_number" = some (some (.ref f4)))
    (l4 : K.lookup f4 = some ⟨oc4, od4, .func (PySem.W.fnOf "is_number" "is_number" (defArgs s_is_number) (defBody s_is_number) (defScope s_is_number) .none kV4 dc4 pm4 an4 cd4 ct4), sl4⟩)
    (c4 : PySem.W.codeIn K cd4 "is_number" = true)
    (k4 : PySem.W.keepIn K (.ref f4) = true)
    (a5 : PySem.W.nsIn K mainGlobals "is_number_below" = some (some (.ref f5)))
    (l5 : K.lookup f5 = some ⟨oc5, od5, .func (PySem.W.fnOf "is_number_below" "is_number_below" (defArgs s_is_number_below) (defBody s_is_number_below) (defScope s_is_number_below) .none kV5 dc5 pm5 an5 cd5 ct5), sl5⟩)
    (c5 : PySem.W.codeIn K cd5 "is_number_below" = true)
    (k5 : PySem.W.keepIn K (.ref f5) = true)
    (a6 : PySem.W.nsIn K mainGlobals "is_byte" = some (some (.ref f6)))
    (l6 : K.lookup f6 = some ⟨oc6, od6, .func (PySem.W.fnOf "is_byte" "is_byte" (defArgs s_is_byte) (defBody s_is_byte) (defScope s_is_byte) .none kV6 dc6 pm6 an6 cd6 ct6), sl6⟩)
    (c6 : PySem.W.codeIn K cd6 "is_byte" = true)
    (k6 : PySem.W.keepIn K (.ref f6) = true)
    (a7 : PySem.W.nsIn K mainGlobals "is_row" = some (some (.ref f7)))
    (l7 : K.lookup f7 = some ⟨oc7, od7, .func (PySem.W.fnOf "is_row" "is_row" (defArgs s_is_row) (defBody s_is_row) (defScope s_is_row) .none kV7 dc7 pm7 an7 cd7 ct7), sl7⟩)
    (c7 : PySem.W.codeIn K cd7 "is_row" = true)
    (k7 : PySem.W.keepIn K (.ref f7) = true)
    (a8 : PySem.W.nsIn K mainGlobals "check_row" = some (some (.ref f8)))
    (l8 : K.lookup f8 = some ⟨oc8, od8, .func (PySem.W.fnOf "check_row" "check_row" (defArgs s_check_row) (defBody s_check_row) (defScope s_check_row) .none kV8 dc8 pm8 an8 cd8 ct8), sl8⟩)
    (c8 : PySem.W.codeIn K cd8 "check_row" = true)
    (k8 : PySem.W.keepIn K (.ref f8) = true)
    (a9 : PySem.W.nsIn K mainGlobals "_is_sign" = some (some (.ref f9)))
    (l9 : K.lookup f9 = some ⟨oc9, od9, .func (PySem.W.fnOf "_is_sign" "_is_sign" (defArgs s_is_sign) (defBody s_is_sign) (defScope s_is_sign) .none kV9 dc9 pm9 an9 cd9 ct9), sl9⟩)
    (c9 : PySem.W.codeIn K cd9 "_is_sign" = true)
    (k9 : PySem.W.keepIn K (.ref f9) = true)
    (a10 : PySem.W.nsIn K mainGlobals "is_parcel" = some (some (.ref f10)))
    (l10 : K.lookup f10 = some ⟨oc10, od10, .func (PySem.W.fnOf "is_parcel" "is_parcel" (defArgs s_is_parcel) (defBody s_is_parcel) (defScope s_is_parcel) .none kV10 dc10 pm10 an10 cd10 ct10), sl10⟩)
    (c10 : PySem.W.codeIn K cd10 "is_parcel" = true)
    (k10 : PySem.W.keepIn K (.ref f10) = true)
    (a11 : PySem.W.nsIn K mainGlobals "_is_parcel_within" = some (some (.ref f11)))
    (l11 : K.lookup f11 = some ⟨oc11, od11, .func (PySem.W.fnOf "_is_parcel_within" "_is_parcel_within" (defArgs s_is_parcel_within) (defBody s_is_parcel_within) (defScope s_is_parcel_within) .none kV11 dc11 pm11 an11 cd11 ct11), sl11⟩)
    (c11 : PySem.W.codeIn K cd11 "_is_parcel_within" = true)
    (k11 : PySem.W.keepIn K (.ref f11) = true)
    (a12 : PySem.W.nsIn K mainGlobals "row_of" = some (some (.ref f12)))
    (l12 : K.lookup f12 = some ⟨oc12, od12, .func (PySem.W.fnOf "row_of" "row_of" (defArgs s_row_of) (defBody s_row_of) (defScope s_row_of) .none kV12 dc12 pm12 an12 cd12 ct12), sl12⟩)
    (c12 : PySem.W.codeIn K cd12 "row_of" = true)
    (k12 : PySem.W.keepIn K (.ref f12) = true)
    (a13 : PySem.W.nsIn K mainGlobals "_told" = some (some (.ref f13)))
    (l13 : K.lookup f13 = some ⟨oc13, od13, .func (PySem.W.fnOf "_told" "_told" (defArgs s_told) (defBody s_told) (defScope s_told) .none kV13 dc13 pm13 an13 cd13 ct13), sl13⟩)
    (c13 : PySem.W.codeIn K cd13 "_told" = true)
    (k13 : PySem.W.keepIn K (.ref f13) = true)
    (a14 : PySem.W.nsIn K mainGlobals "_whole" = some (some (.ref f14)))
    (l14 : K.lookup f14 = some ⟨oc14, od14, .func (PySem.W.fnOf "_whole" "_whole" (defArgs s_whole) (defBody s_whole) (defScope s_whole) .none kV14 dc14 pm14 an14 cd14 ct14), sl14⟩)
    (c14 : PySem.W.codeIn K cd14 "_whole" = true)
    (k14 : PySem.W.keepIn K (.ref f14) = true)
    (a15 : PySem.W.nsIn K mainGlobals "parcel_of" = some (some (.ref f15)))
    (l15 : K.lookup f15 = some ⟨oc15, od15, .func (PySem.W.fnOf "parcel_of" "parcel_of" (defArgs s_parcel_of) (defBody s_parcel_of) (defScope s_parcel_of) .none kV15 dc15 pm15 an15 cd15 ct15), sl15⟩)
    (c15 : PySem.W.codeIn K cd15 "parcel_of" = true)
    (k15 : PySem.W.keepIn K (.ref f15) = true)
    (a16 : PySem.W.nsIn K mainGlobals "_check_there" = some (some (.ref f16)))
    (l16 : K.lookup f16 = some ⟨oc16, od16, .func (PySem.W.fnOf "_check_there" "_check_there" (defArgs s_check_there) (defBody s_check_there) (defScope s_check_there) .none kV16 dc16 pm16 an16 cd16 ct16), sl16⟩)
    (c16 : PySem.W.codeIn K cd16 "_check_there" = true)
    (k16 : PySem.W.keepIn K (.ref f16) = true)
    (a17 : PySem.W.nsIn K mainGlobals "_parcel_at" = some (some (.ref f17)))
    (l17 : K.lookup f17 = some ⟨oc17, od17, .func (PySem.W.fnOf "_parcel_at" "_parcel_at" (defArgs s_parcel_at) (defBody s_parcel_at) (defScope s_parcel_at) .none kV17 dc17 pm17 an17 cd17 ct17), sl17⟩)
    (c17 : PySem.W.codeIn K cd17 "_parcel_at" = true)
    (k17 : PySem.W.keepIn K (.ref f17) = true)
    (a18 : PySem.W.nsIn K mainGlobals "_whole_at" = some (some (.ref f18)))
    (l18 : K.lookup f18 = some ⟨oc18, od18, .func (PySem.W.fnOf "_whole_at" "_whole_at" (defArgs s_whole_at) (defBody s_whole_at) (defScope s_whole_at) .none kV18 dc18 pm18 an18 cd18 ct18), sl18⟩)
    (c18 : PySem.W.codeIn K cd18 "_whole_at" = true)
    (k18 : PySem.W.keepIn K (.ref f18) = true)
    (a19 : PySem.W.nsIn K mainGlobals "_string_at" = some (some (.ref f19)))
    (l19 : K.lookup f19 = some ⟨oc19, od19, .func (PySem.W.fnOf "_string_at" "_string_at" (defArgs s_string_at) (defBody s_string_at) (defScope s_string_at) .none kV19 dc19 pm19 an19 cd19 ct19), sl19⟩)
    (c19 : PySem.W.codeIn K cd19 "_string_at" = true)
    (k19 : PySem.W.keepIn K (.ref f19) = true)
    (a20 : PySem.W.nsIn K mainGlobals "_tuple_at" = some (some (.ref f20)))
    (l20 : K.lookup f20 = some ⟨oc20, od20, .func (PySem.W.fnOf "_tuple_at" "_tuple_at" (defArgs s_tuple_at) (defBody s_tuple_at) (defScope s_tuple_at) .none kV20 dc20 pm20 an20 cd20 ct20), sl20⟩)
    (c20 : PySem.W.codeIn K cd20 "_tuple_at" = true)
    (k20 : PySem.W.keepIn K (.ref f20) = true)
    (a21 : PySem.W.nsIn K mainGlobals "_mark_of" = some (some (.ref f21)))
    (l21 : K.lookup f21 = some ⟨oc21, od21, .func (PySem.W.fnOf "_mark_of" "_mark_of" (defArgs s_mark_of) (defBody s_mark_of) (defScope s_mark_of) .none kV21 dc21 pm21 an21 cd21 ct21), sl21⟩)
    (c21 : PySem.W.codeIn K cd21 "_mark_of" = true)
    (k21 : PySem.W.keepIn K (.ref f21) = true)
    (a22 : PySem.W.nsIn K mainGlobals "_seal" = some (some (.ref f22)))
    (l22 : K.lookup f22 = some ⟨oc22, od22, .func (PySem.W.fnOf "_seal" "_seal" (defArgs s_seal_) (defBody s_seal_) (defScope s_seal_) .none kV22 dc22 pm22 an22 cd22 ct22), sl22⟩)
    (c22 : PySem.W.codeIn K cd22 "_seal" = true)
    (k22 : PySem.W.keepIn K (.ref f22) = true)
    (a23 : PySem.W.nsIn K mainGlobals "sealed" = some (some (.ref f23)))
    (l23 : K.lookup f23 = some ⟨oc23, od23, .func (PySem.W.fnOf "sealed" "sealed" (defArgs s_sealed) (defBody s_sealed) (defScope s_sealed) .none kV23 dc23 pm23 an23 cd23 ct23), sl23⟩)
    (c23 : PySem.W.codeIn K cd23 "sealed" = true)
    (k23 : PySem.W.keepIn K (.ref f23) = true)
    (a24 : PySem.W.nsIn K mainGlobals "_law_pool" = some (some (.ref f24)))
    (l24 : K.lookup f24 = some ⟨oc24, od24, .func (PySem.W.fnOf "_law_pool" "_law_pool" (defArgs s_law_pool) (defBody s_law_pool) (defScope s_law_pool) .none kV24 dc24 pm24 an24 cd24 ct24), sl24⟩)
    (c24 : PySem.W.codeIn K cd24 "_law_pool" = true)
    (k24 : PySem.W.keepIn K (.ref f24) = true)
    (a25 : PySem.W.nsIn K mainGlobals "_law_draw" = some (some (.ref f25)))
    (l25 : K.lookup f25 = some ⟨oc25, od25, .func (PySem.W.fnOf "_law_draw" "_law_draw" (defArgs s_law_draw) (defBody s_law_draw) (defScope s_law_draw) .none kV25 dc25 pm25 an25 cd25 ct25), sl25⟩)
    (c25 : PySem.W.codeIn K cd25 "_law_draw" = true)
    (k25 : PySem.W.keepIn K (.ref f25) = true)
    (a26 : PySem.W.nsIn K mainGlobals "_law_deep" = some (some (.ref f26)))
    (l26 : K.lookup f26 = some ⟨oc26, od26, .func (PySem.W.fnOf "_law_deep" "_law_deep" (defArgs s_law_deep) (defBody s_law_deep) (defScope s_law_deep) .none kV26 dc26 pm26 an26 cd26 ct26), sl26⟩)
    (c26 : PySem.W.codeIn K cd26 "_law_deep" = true)
    (k26 : PySem.W.keepIn K (.ref f26) = true)
    (a27 : PySem.W.nsIn K mainGlobals "_law_flag" = some (some (.ref f27)))
    (l27 : K.lookup f27 = some ⟨oc27, od27, .func (PySem.W.fnOf "_law_flag" "_law_flag" (defArgs s_law_flag) (defBody s_law_flag) (defScope s_law_flag) .none kV27 dc27 pm27 an27 cd27 ct27), sl27⟩)
    (c27 : PySem.W.codeIn K cd27 "_law_flag" = true)
    (k27 : PySem.W.keepIn K (.ref f27) = true)
    (a28 : PySem.W.nsIn K mainGlobals "_law_whole" = some (some (.ref f28)))
    (l28 : K.lookup f28 = some ⟨oc28, od28, .func (PySem.W.fnOf "_law_whole" "_law_whole" (defArgs s_law_whole) (defBody s_law_whole) (defScope s_law_whole) .none kV28 dc28 pm28 an28 cd28 ct28), sl28⟩)
    (c28 : PySem.W.codeIn K cd28 "_law_whole" = true)
    (k28 : PySem.W.keepIn K (.ref f28) = true)
    (a29 : PySem.W.nsIn K mainGlobals "_law_bytes" = some (some (.ref f29)))
    (l29 : K.lookup f29 = some ⟨oc29, od29, .func (PySem.W.fnOf "_law_bytes" "_law_bytes" (defArgs s_law_bytes) (defBody s_law_bytes) (defScope s_law_bytes) .none kV29 dc29 pm29 an29 cd29 ct29), sl29⟩)
    (c29 : PySem.W.codeIn K cd29 "_law_bytes" = true)
    (k29 : PySem.W.keepIn K (.ref f29) = true)
    (a30 : PySem.W.nsIn K mainGlobals "_law_number" = some (some (.ref f30)))
    (l30 : K.lookup f30 = some ⟨oc30, od30, .func (PySem.W.fnOf "_law_number" "_law_number" (defArgs s_law_number) (defBody s_law_number) (defScope s_law_number) .none kV30 dc30 pm30 an30 cd30 ct30), sl30⟩)
    (c30 : PySem.W.codeIn K cd30 "_law_number" = true)
    (k30 : PySem.W.keepIn K (.ref f30) = true)
    (a31 : PySem.W.nsIn K mainGlobals "_law_parcel" = some (some (.ref f31)))
    (l31 : K.lookup f31 = some ⟨oc31, od31, .func (PySem.W.fnOf "_law_parcel" "_law_parcel" (defArgs s_law_parcel) (defBody s_law_parcel) (defScope s_law_parcel) .none kV31 dc31 pm31 an31 cd31 ct31), sl31⟩)
    (c31 : PySem.W.codeIn K cd31 "_law_parcel" = true)
    (k31 : PySem.W.keepIn K (.ref f31) = true)
    (a32 : PySem.W.nsIn K mainGlobals "_law_nested" = some (some (.ref f32)))
    (l32 : K.lookup f32 = some ⟨oc32, od32, .func (PySem.W.fnOf "_law_nested" "_law_nested" (defArgs s_law_nested) (defBody s_law_nested) (defScope s_law_nested) .none kV32 dc32 pm32 an32 cd32 ct32), sl32⟩)
    (c32 : PySem.W.codeIn K cd32 "_law_nested" = true)
    (k32 : PySem.W.keepIn K (.ref f32) = true)
    (a33 : PySem.W.nsIn K mainGlobals "_law_same" = some (some (.ref f33)))
    (l33 : K.lookup f33 = some ⟨oc33, od33, .func (PySem.W.fnOf "_law_same" "_law_same" (defArgs s_law_same) (defBody s_law_same) (defScope s_law_same) .none kV33 dc33 pm33 an33 cd33 ct33), sl33⟩)
    (c33 : PySem.W.codeIn K cd33 "_law_same" = true)
    (k33 : PySem.W.keepIn K (.ref f33) = true)
    (a34 : PySem.W.nsIn K mainGlobals "_law_is_parcel" = some (some (.ref f34)))
    (l34 : K.lookup f34 = some ⟨oc34, od34, .func (PySem.W.fnOf "_law_is_parcel" "_law_is_parcel" (defArgs s_law_is_parcel) (defBody s_law_is_parcel) (defScope s_law_is_parcel) .none kV34 dc34 pm34 an34 cd34 ct34), sl34⟩)
    (c34 : PySem.W.codeIn K cd34 "_law_is_parcel" = true)
    (k34 : PySem.W.keepIn K (.ref f34) = true)
    (a35 : PySem.W.nsIn K mainGlobals "_law_word" = some (some (.ref f35)))
    (l35 : K.lookup f35 = some ⟨oc35, od35, .func (PySem.W.fnOf "_law_word" "_law_word" (defArgs s_law_word) (defBody s_law_word) (defScope s_law_word) .none kV35 dc35 pm35 an35 cd35 ct35), sl35⟩)
    (c35 : PySem.W.codeIn K cd35 "_law_word" = true)
    (k35 : PySem.W.keepIn K (.ref f35) = true)
    (a36 : PySem.W.nsIn K mainGlobals "_law_first" = some (some (.ref f36)))
    (l36 : K.lookup f36 = some ⟨oc36, od36, .func (PySem.W.fnOf "_law_first" "_law_first" (defArgs s_law_first) (defBody s_law_first) (defScope s_law_first) .none kV36 dc36 pm36 an36 cd36 ct36), sl36⟩)
    (c36 : PySem.W.codeIn K cd36 "_law_first" = true)
    (k36 : PySem.W.keepIn K (.ref f36) = true)
    (a37 : PySem.W.nsIn K mainGlobals "_law_is" = some (some (.ref f37)))
    (l37 : K.lookup f37 = some ⟨oc37, od37, .func (PySem.W.fnOf "_law_is" "_law_is" (defArgs s_law_is) (defBody s_law_is) (defScope s_law_is) .none kV37 dc37 pm37 an37 cd37 ct37), sl37⟩)
    (c37 : PySem.W.codeIn K cd37 "_law_is" = true)
    (k37 : PySem.W.keepIn K (.ref f37) = true)
    (a38 : PySem.W.nsIn K mainGlobals "_law_sign" = some (some (.ref f38)))
    (l38 : K.lookup f38 = some ⟨oc38, od38, .func (PySem.W.fnOf "_law_sign" "_law_sign" (defArgs s_law_sign) (defBody s_law_sign) (defScope s_law_sign) .none kV38 dc38 pm38 an38 cd38 ct38), sl38⟩)
    (c38 : PySem.W.codeIn K cd38 "_law_sign" = true)
    (k38 : PySem.W.keepIn K (.ref f38) = true)
    (a39 : PySem.W.nsIn K mainGlobals "_law_read_whole" = some (some (.ref f39)))
    (l39 : K.lookup f39 = some ⟨oc39, od39, .func (PySem.W.fnOf "_law_read_whole" "_law_read_whole" (defArgs s_law_read_whole) (defBody s_law_read_whole) (defScope s_law_read_whole) .none kV39 dc39 pm39 an39 cd39 ct39), sl39⟩)
    (c39 : PySem.W.codeIn K cd39 "_law_read_whole" = true)
    (k39 : PySem.W.keepIn K (.ref f39) = true)
    (a40 : PySem.W.nsIn K mainGlobals "_law_read" = some (some (.ref f40)))
    (l40 : K.lookup f40 = some ⟨oc40, od40, .func (PySem.W.fnOf "_law_read" "_law_read" (defArgs s_law_read) (defBody s_law_read) (defScope s_law_read) .none kV40 dc40 pm40 an40 cd40 ct40), sl40⟩)
    (c40 : PySem.W.codeIn K cd40 "_law_read" = true)
    (k40 : PySem.W.keepIn K (.ref f40) = true)
    (a41 : PySem.W.nsIn K mainGlobals "_law_read_string" = some (some (.ref f41)))
    (l41 : K.lookup f41 = some ⟨oc41, od41, .func (PySem.W.fnOf "_law_read_string" "_law_read_string" (defArgs s_law_read_string) (defBody s_law_read_string) (defScope s_law_read_string) .none kV41 dc41 pm41 an41 cd41 ct41), sl41⟩)
    (c41 : PySem.W.codeIn K cd41 "_law_read_string" = true)
    (k41 : PySem.W.keepIn K (.ref f41) = true)
    (a42 : PySem.W.nsIn K mainGlobals "_law_told" = some (some (.ref f42)))
    (l42 : K.lookup f42 = some ⟨oc42, od42, .func (PySem.W.fnOf "_law_told" "_law_told" (defArgs s_law_told) (defBody s_law_told) (defScope s_law_told) .none kV42 dc42 pm42 an42 cd42 ct42), sl42⟩)
    (c42 : PySem.W.codeIn K cd42 "_law_told" = true)
    (k42 : PySem.W.keepIn K (.ref f42) = true)
    (a43 : PySem.W.nsIn K mainGlobals "_law_read_by" = some (some (.ref f43)))
    (l43 : K.lookup f43 = some ⟨oc43, od43, .func (PySem.W.fnOf "_law_read_by" "_law_read_by" (defArgs s_law_read_by) (defBody s_law_read_by) (defScope s_law_read_by) .none kV43 dc43 pm43 an43 cd43 ct43), sl43⟩)
    (c43 : PySem.W.codeIn K cd43 "_law_read_by" = true)
    (k43 : PySem.W.keepIn K (.ref f43) = true)
    (a44 : PySem.W.nsIn K mainGlobals "_law_spoilt" = some (some (.ref f44)))
    (l44 : K.lookup f44 = some ⟨oc44, od44, .func (PySem.W.fnOf "_law_spoilt" "_law_spoilt" (defArgs s_law_spoilt) (defBody s_law_spoilt) (defScope s_law_spoilt) .none kV44 dc44 pm44 an44 cd44 ct44), sl44⟩)
    (c44 : PySem.W.codeIn K cd44 "_law_spoilt" = true)
    (k44 : PySem.W.keepIn K (.ref f44) = true)
    (a45 : PySem.W.nsIn K mainGlobals "_law_right" = some (some (.ref f45)))
    (l45 : K.lookup f45 = some ⟨oc45, od45, .func (PySem.W.fnOf "_law_right" "_law_right" (defArgs s_law_right) (defBody s_law_right) (defScope s_law_right) .none kV45 dc45 pm45 an45 cd45 ct45), sl45⟩)
    (c45 : PySem.W.codeIn K cd45 "_law_right" = true)
    (k45 : PySem.W.keepIn K (.ref f45) = true)
    (a46 : PySem.W.nsIn K mainGlobals "_law_second" = some (some (.ref f46)))
    (l46 : K.lookup f46 = some ⟨oc46, od46, .func (PySem.W.fnOf "_law_second" "_law_second" (defArgs s_law_second) (defBody s_law_second) (defScope s_law_second) .none kV46 dc46 pm46 an46 cd46 ct46), sl46⟩)
    (c46 : PySem.W.codeIn K cd46 "_law_second" = true)
    (k46 : PySem.W.keepIn K (.ref f46) = true)
    (a47 : PySem.W.nsIn K mainGlobals "law" = some (some (.ref f47)))
    (l47 : K.lookup f47 = some ⟨oc47, od47, .func (PySem.W.fnOf "law" "law" (defArgs s_law) (defBody s_law) (defScope s_law) .none kV47 dc47 pm47 an47 cd47 ct47), sl47⟩)
    (c47 : PySem.W.codeIn K cd47 "law" = true)
    (k47 : PySem.W.keepIn K (.ref f47) = true) :
    ∃ fd : FuncData, (∀ (s : Shared) (v : Value), BindsTo s fd ⟨[v], []⟩ [("_law_script", v)]) ∧ ∀ base : Heap, K.In base → base.Ns mainGlobals mg → FnOk l.prog w K mg base CX0 56 fa fd ["_law_script"] (spLaw K) := by
  have hb : ∀ (s : Shared) (v : Value), BindsTo s (PySem.W.fnOf "law" "law" (defArgs s_law) (defBody s_law) (defScope s_law) .none kV47 dc47 pm47 an47 cd47 ct47) ⟨[v], []⟩ [("_law_script", v)] := fun s v => .of_eq rfl
  let T : Tx K mg := {
    c_NoParcel := c_NoParcel, c_NoRow := c_NoRow, c_BadRow := c_BadRow, c_StreamError := c_StreamError,
    b_isinstance := PySem.W.mg_none_of X G b_isinstance,
    b_int := PySem.W.mg_none_of X G b_int,
    b_bool := PySem.W.mg_none_of X G b_bool,
    b_tuple := PySem.W.mg_none_of X G b_tuple,
    b_list := PySem.W.mg_none_of X G b_list,
    b_str := PySem.W.mg_none_of X G b_str,
    b_len := PySem.W.mg_none_of X G b_len,
    b_range := PySem.W.mg_none_of X G b_range,
    b_zip := PySem.W.mg_none_of X G b_zip,
    b_min := PySem.W.mg_none_of X G b_min,
    b_all := PySem.W.mg_none_of X G b_all,
    b_sum := PySem.W.mg_none_of X G b_sum,
    b_abs := PySem.W.mg_none_of X G b_abs,
    b_ord := PySem.W.mg_none_of X G b_ord,
    b_repr := PySem.W.mg_none_of X G b_repr,
    b_ValueError := PySem.W.mg_none_of X G b_ValueError,
    g_NoParcel := PySem.W.mg_of X G g_c_NoParcel,
    g_NoRow := PySem.W.mg_of X G g_c_NoRow,
    g_BadRow := PySem.W.mg_of X G g_c_BadRow,
    g_StreamError := PySem.W.mg_of X G g_c_StreamError,
    k1 := tk1, k2 := tk2, k3 := tk3, k4 := tk4, k5 := tk5, k6 := tk6, k7 := tk7, k8 := tk8, k9 := tk9, k10 := tk10, k11 := tk11, k12 := tk12, k13 := tk13, k14 := tk14, k15 := tk15, k16 := tk16, k17 := tk17,
    g_NONE := PySem.W.mg_of X G g_NONE,
    g_NO := PySem.W.mg_of X G g_NO,
    g_YES := PySem.W.mg_of X G g_YES,
    g_FROM_ZERO := PySem.W.mg_of X G g_FROM_ZERO,
    g_BELOW_ZERO := PySem.W.mg_of X G g_BELOW_ZERO,
    g_STRING := PySem.W.mg_of X G g_STRING,
    g_TUPLE := PySem.W.mg_of X G g_TUPLE,
    g_MOST_SIGNS := PySem.W.mg_of X G g_MOST_SIGNS,
    g_MOST_DEEP := PySem.W.mg_of X G g_MOST_DEEP,
    g_BYTE_LIMIT := PySem.W.mg_of X G g_BYTE_LIMIT,
    g_FIGURE_LIMIT := PySem.W.mg_of X G g_FIGURE_LIMIT,
    g_MARK_LIMIT := PySem.W.mg_of X G g_MARK_LIMIT,
    g_SEAL_LENGTH := PySem.W.mg_of X G g_SEAL_LENGTH,
    g_LEAST_SIGN := PySem.W.mg_of X G g_LEAST_SIGN,
    g_GREATEST_SIGN := PySem.W.mg_of X G g_GREATEST_SIGN,
    g_NO_SIGN := PySem.W.mg_of X G g_NO_SIGN,
    g_SIGNS := PySem.W.mg_of X G g_SIGNS,
    x_NoParcel := ⟨⟨_, _, _, _, _, _, _, _, _, _, _, _, _, _, _, x0_l, rfl⟩, x0_sa, x0_ex, x0_ty, x0_kp⟩,
    x_NoRow := ⟨⟨_, _, _, _, _, _, _, _, _, _, _, _, _, _, _, x1_l, rfl⟩, x1_sa, x1_ex, x1_ty, x1_kp⟩,
    x_BadRow := ⟨⟨_, _, _, _, _, _, _, _, _, _, _, _, _, _, _, x2_l, rfl⟩, x2_sa, x2_ex, x2_ty, x2_kp⟩,
    xn_BadRow := p2_na, xf_BadRow := ⟨p2_ga, p2_gg, x2_ex, p2_hd⟩,
    na_place := qna_place,
    e_BadRowBadRow := exm_cls x2_ex x2_is x2_ty se_BadRowBadRow,
    xc_NoParcel := ⟨y_c_NoParcelg, y_c_NoParcelk, y_c_NoParcels, y_c_NoParceld, y_c_NoParcela, w_cg, w_ct, y_c_NoParcelm⟩,
    xc_BadRow := ⟨y_c_BadRowg, y_c_BadRowk, y_c_BadRows, y_c_BadRowd, y_c_BadRowa, w_cg, w_ct, y_c_BadRowm⟩,
    q_NpNp := kit_subR v_c_NoParcel_is v_c_NoParcel_ty uq_NpNp,
    q_NpVe := kit_subT (by decide +kernel) uq_NpVe,
    q_BrSe := kit_subR v_c_StreamError_is v_c_StreamError_ty uq_BrSe,
    q_BrVe := kit_subT (by decide +kernel) uq_BrVe,
    r_NoParcelStream := exm_cls wr_NoParcelStream v_c_StreamError_is v_c_StreamError_ty ur_NoParcelStream }
  let B : Bk K mg T := {
    NoParcel_init := ⟨f0, _, fun_mk (st := s_NoParcel_init) l0 c0 k0, a0, i0, t0, (fun_mk (st := s_NoParcel_init) l0 c0 k0).binds (ps := ["self"]) fun _ _ _ _ _ _ us hl => match us, hl with | [_], _ => rfl⟩,
    NoRow_init := ⟨f1, _, fun_mk (st := s_NoRow_init) l1 c1 k1, a1, i1, t1, (fun_mk (st := s_NoRow_init) l1 c1 k1).binds (ps := ["self"]) fun _ _ _ _ _ _ us hl => match us, hl with | [_], _ => rfl⟩,
    BadRow_init := ⟨f2, _, fun_mk (st := s_BadRow_init) l2 c2 k2, a2, i2, t2, (fun_mk (st := s_BadRow_init) l2 c2 k2).binds (ps := ["self", "place"]) fun _ _ _ _ _ _ us hl => match us, hl with | [_, _], _ => rfl⟩,
    is_int := ⟨f3, _, fun_mk (st := s_is_int) l3 c3 k3, PySem.W.mg_of X G a3, (fun_mk (st := s_is_int) l3 c3 k3).binds (ps := ["thing"]) fun _ _ _ _ _ _ us hl => match us, hl with | [_], _ => rfl⟩,
    is_number := ⟨f4, _, fun_mk (st := s_is_number) l4 c4 k4, PySem.W.mg_of X G a4, (fun_mk (st := s_is_number) l4 c4 k4).binds (ps := ["thing"]) fun _ _ _ _ _ _ us hl => match us, hl with | [_], _ => rfl⟩,
    is_number_below := ⟨f5, _, fun_mk (st := s_is_number_below) l5 c5 k5, PySem.W.mg_of X G a5, (fun_mk (st := s_is_number_below) l5 c5 k5).binds (ps := ["limit", "thing"]) fun _ _ _ _ _ _ us hl => match us, hl with | [_, _], _ => rfl⟩,
    is_byte := ⟨f6, _, fun_mk (st := s_is_byte) l6 c6 k6, PySem.W.mg_of X G a6, (fun_mk (st := s_is_byte) l6 c6 k6).binds (ps := ["thing"]) fun _ _ _ _ _ _ us hl => match us, hl with | [_], _ => rfl⟩,
    is_row := ⟨f7, _, fun_mk (st := s_is_row) l7 c7 k7, PySem.W.mg_of X G a7, (fun_mk (st := s_is_row) l7 c7 k7).binds (ps := ["thing"]) fun _ _ _ _ _ _ us hl => match us, hl with | [_], _ => rfl⟩,
    check_row := ⟨f8, _, fun_mk (st := s_check_row) l8 c8 k8, PySem.W.mg_of X G a8, (fun_mk (st := s_check_row) l8 c8 k8).binds (ps := ["row"]) fun _ _ _ _ _ _ us hl => match us, hl with | [_], _ => rfl⟩,
    is_sign := ⟨f9, _, fun_mk (st := s_is_sign) l9 c9 k9, PySem.W.mg_of X G a9, (fun_mk (st := s_is_sign) l9 c9 k9).binds (ps := ["number"]) fun _ _ _ _ _ _ us hl => match us, hl with | [_], _ => rfl⟩,
    is_parcel := ⟨f10, _, fun_mk (st := s_is_parcel) l10 c10 k10, PySem.W.mg_of X G a10, (fun_mk (st := s_is_parcel) l10 c10 k10).binds (ps := ["thing"]) fun _ _ _ _ _ _ us hl => match us, hl with | [_], _ => rfl⟩,
    is_parcel_within := ⟨f11, _, fun_mk (st := s_is_parcel_within) l11 c11 k11, PySem.W.mg_of X G a11, (fun_mk (st := s_is_parcel_within) l11 c11 k11).binds (ps := ["deep", "thing"]) fun _ _ _ _ _ _ us hl => match us, hl with | [_, _], _ => rfl⟩,
    row_of := ⟨f12, _, fun_mk (st := s_row_of) l12 c12 k12, PySem.W.mg_of X G a12, (fun_mk (st := s_row_of) l12 c12 k12).binds (ps := ["parcel"]) fun _ _ _ _ _ _ us hl => match us, hl with | [_], _ => rfl⟩,
    told := ⟨f13, _, fun_mk (st := s_told) l13 c13 k13, PySem.W.mg_of X G a13, (fun_mk (st := s_told) l13 c13 k13).binds (ps := ["parcel"]) fun _ _ _ _ _ _ us hl => match us, hl with | [_], _ => rfl⟩,
    whole := ⟨f14, _, fun_mk (st := s_whole) l14 c14 k14, PySem.W.mg_of X G a14, (fun_mk (st := s_whole) l14 c14 k14).binds (ps := ["number"]) fun _ _ _ _ _ _ us hl => match us, hl with | [_], _ => rfl⟩,
    parcel_of := ⟨f15, _, fun_mk (st := s_parcel_of) l15 c15 k15, PySem.W.mg_of X G a15, (fun_mk (st := s_parcel_of) l15 c15 k15).binds (ps := ["row"]) fun _ _ _ _ _ _ us hl => match us, hl with | [_], _ => rfl⟩,
    check_there := ⟨f16, _, fun_mk (st := s_check_there) l16 c16 k16, PySem.W.mg_of X G a16, (fun_mk (st := s_check_there) l16 c16 k16).binds (ps := ["row", "place"]) fun _ _ _ _ _ _ us hl => match us, hl with | [_, _], _ => rfl⟩,
    parcel_at := ⟨f17, _, fun_mk (st := s_parcel_at) l17 c17 k17, PySem.W.mg_of X G a17, (fun_mk (st := s_parcel_at) l17 c17 k17).binds (ps := ["row", "place", "deep"]) fun _ _ _ _ _ _ us hl => match us, hl with | [_, _, _], _ => rfl⟩,
    whole_at := ⟨f18, _, fun_mk (st := s_whole_at) l18 c18 k18, PySem.W.mg_of X G a18, (fun_mk (st := s_whole_at) l18 c18 k18).binds (ps := ["row", "place"]) fun _ _ _ _ _ _ us hl => match us, hl with | [_, _], _ => rfl⟩,
    string_at := ⟨f19, _, fun_mk (st := s_string_at) l19 c19 k19, PySem.W.mg_of X G a19, (fun_mk (st := s_string_at) l19 c19 k19).binds (ps := ["row", "place", "many"]) fun _ _ _ _ _ _ us hl => match us, hl with | [_, _, _], _ => rfl⟩,
    tuple_at := ⟨f20, _, fun_mk (st := s_tuple_at) l20 c20 k20, PySem.W.mg_of X G a20, (fun_mk (st := s_tuple_at) l20 c20 k20).binds (ps := ["row", "place", "many", "deep"]) fun _ _ _ _ _ _ us hl => match us, hl with | [_, _, _, _], _ => rfl⟩,
    mark_of := ⟨f21, _, fun_mk (st := s_mark_of) l21 c21 k21, PySem.W.mg_of X G a21, (fun_mk (st := s_mark_of) l21 c21 k21).binds (ps := ["row"]) fun _ _ _ _ _ _ us hl => match us, hl with | [_], _ => rfl⟩,
    seal_ := ⟨f22, _, fun_mk (st := s_seal_) l22 c22 k22, PySem.W.mg_of X G a22, (fun_mk (st := s_seal_) l22 c22 k22).binds (ps := ["row"]) fun _ _ _ _ _ _ us hl => match us, hl with | [_], _ => rfl⟩,
    sealed := ⟨f23, _, fun_mk (st := s_sealed) l23 c23 k23, PySem.W.mg_of X G a23, (fun_mk (st := s_sealed) l23 c23 k23).binds (ps := ["parcel"]) fun _ _ _ _ _ _ us hl => match us, hl with | [_], _ => rfl⟩,
    law_pool := ⟨f24, _, fun_mk (st := s_law_pool) l24 c24 k24, PySem.W.mg_of X G a24, (fun_mk (st := s_law_pool) l24 c24 k24).binds (ps := ["_law_script"]) fun _ _ _ _ _ _ us hl => match us, hl with | [_], _ => rfl⟩,
    law_draw := ⟨f25, _, fun_mk (st := s_law_draw) l25 c25 k25, PySem.W.mg_of X G a25, (fun_mk (st := s_law_draw) l25 c25 k25).binds (ps := ["_law_pool_here", "_law_many"]) fun _ _ _ _ _ _ us hl => match us, hl with | [_, _], _ => rfl⟩,
    law_deep := ⟨f26, _, fun_mk (st := s_law_deep) l26 c26 k26, PySem.W.mg_of X G a26, (fun_mk (st := s_law_deep) l26 c26 k26).binds (ps := []) fun _ _ _ _ _ _ us hl => match us, hl with | [], _ => rfl⟩,
    law_flag := ⟨f27, _, fun_mk (st := s_law_flag) l27 c27 k27, PySem.W.mg_of X G a27, (fun_mk (st := s_law_flag) l27 c27 k27).binds (ps := ["_law_thing", "_law_due"]) fun _ _ _ _ _ _ us hl => match us, hl with | [_, _], _ => rfl⟩,
    law_whole := ⟨f28, _, fun_mk (st := s_law_whole) l28 c28 k28, PySem.W.mg_of X G a28, (fun_mk (st := s_law_whole) l28 c28 k28).binds (ps := ["_law_number_here"]) fun _ _ _ _ _ _ us hl => match us, hl with | [_], _ => rfl⟩,
    law_bytes := ⟨f29, _, fun_mk (st := s_law_bytes) l29 c29 k29, PySem.W.mg_of X G a29, (fun_mk (st := s_law_bytes) l29 c29 k29).binds (ps := ["_law_parcel_here"]) fun _ _ _ _ _ _ us hl => match us, hl with | [_], _ => rfl⟩,
    law_number := ⟨f30, _, fun_mk (st := s_law_number) l30 c30 k30, PySem.W.mg_of X G a30, (fun_mk (st := s_law_number) l30 c30 k30).binds (ps := ["_law_pool_here"]) fun _ _ _ _ _ _ us hl => match us, hl with | [_], _ => rfl⟩,
    law_parcel := ⟨f31, _, fun_mk (st := s_law_parcel) l31 c31 k31, PySem.W.mg_of X G a31, (fun_mk (st := s_law_parcel) l31 c31 k31).binds (ps := ["_law_pool_here", "_law_deep_here"]) fun _ _ _ _ _ _ us hl => match us, hl with | [_, _], _ => rfl⟩,
    law_nested := ⟨f32, _, fun_mk (st := s_law_nested) l32 c32 k32, PySem.W.mg_of X G a32, (fun_mk (st := s_law_nested) l32 c32 k32).binds (ps := ["_law_many", "_law_inner"]) fun _ _ _ _ _ _ us hl => match us, hl with | [_, _], _ => rfl⟩,
    law_same := ⟨f33, _, fun_mk (st := s_law_same) l33 c33 k33, PySem.W.mg_of X G a33, (fun_mk (st := s_law_same) l33 c33 k33).binds (ps := ["_law_one", "_law_other"]) fun _ _ _ _ _ _ us hl => match us, hl with | [_, _], _ => rfl⟩,
    law_is_parcel := ⟨f34, _, fun_mk (st := s_law_is_parcel) l34 c34 k34, PySem.W.mg_of X G a34, (fun_mk (st := s_law_is_parcel) l34 c34 k34).binds (ps := ["_law_thing", "_law_left"]) fun _ _ _ _ _ _ us hl => match us, hl with | [_, _], _ => rfl⟩,
    law_word := ⟨f35, _, fun_mk (st := s_law_word) l35 c35 k35, PySem.W.mg_of X G a35, (fun_mk (st := s_law_word) l35 c35 k35).binds (ps := ["_law_which", "_law_thing"]) fun _ _ _ _ _ _ us hl => match us, hl with | [_, _], _ => rfl⟩,
    law_first := ⟨f36, _, fun_mk (st := s_law_first) l36 c36 k36, PySem.W.mg_of X G a36, (fun_mk (st := s_law_first) l36 c36 k36).binds (ps := ["_law_script"]) fun _ _ _ _ _ _ us hl => match us, hl with | [_], _ => rfl⟩,
    law_is := ⟨f37, _, fun_mk (st := s_law_is) l37 c37 k37, PySem.W.mg_of X G a37, (fun_mk (st := s_law_is) l37 c37 k37).binds (ps := ["_law_told_here", "_law_due"]) fun _ _ _ _ _ _ us hl => match us, hl with | [_, _], _ => rfl⟩,
    law_sign := ⟨f38, _, fun_mk (st := s_law_sign) l38 c38 k38, PySem.W.mg_of X G a38, (fun_mk (st := s_law_sign) l38 c38 k38).binds (ps := ["_law_byte"]) fun _ _ _ _ _ _ us hl => match us, hl with | [_], _ => rfl⟩,
    law_read_whole := ⟨f39, _, fun_mk (st := s_law_read_whole) l39 c39 k39, PySem.W.mg_of X G a39, (fun_mk (st := s_law_read_whole) l39 c39 k39).binds (ps := ["_law_row", "_law_at"]) fun _ _ _ _ _ _ us hl => match us, hl with | [_, _], _ => rfl⟩,
    law_read := ⟨f40, _, fun_mk (st := s_law_read) l40 c40 k40, PySem.W.mg_of X G a40, (fun_mk (st := s_law_read) l40 c40 k40).binds (ps := ["_law_row", "_law_at", "_law_left"]) fun _ _ _ _ _ _ us hl => match us, hl with | [_, _, _], _ => rfl⟩,
    law_read_string := ⟨f41, _, fun_mk (st := s_law_read_string) l41 c41 k41, PySem.W.mg_of X G a41, (fun_mk (st := s_law_read_string) l41 c41 k41).binds (ps := ["_law_row", "_law_begin", "_law_many", "_law_here"]) fun _ _ _ _ _ _ us hl => match us, hl with | [_, _, _, _], _ => rfl⟩,
    law_told := ⟨f42, _, fun_mk (st := s_law_told) l42 c42 k42, PySem.W.mg_of X G a42, (fun_mk (st := s_law_told) l42 c42 k42).binds (ps := ["_law_row"]) fun _ _ _ _ _ _ us hl => match us, hl with | [_], _ => rfl⟩,
    law_read_by := ⟨f43, _, fun_mk (st := s_law_read_by) l43 c43 k43, PySem.W.mg_of X G a43, (fun_mk (st := s_law_read_by) l43 c43 k43).binds (ps := ["_law_row"]) fun _ _ _ _ _ _ us hl => match us, hl with | [_], _ => rfl⟩,
    law_spoilt := ⟨f44, _, fun_mk (st := s_law_spoilt) l44 c44 k44, PySem.W.mg_of X G a44, (fun_mk (st := s_law_spoilt) l44 c44 k44).binds (ps := ["_law_pool_here", "_law_row"]) fun _ _ _ _ _ _ us hl => match us, hl with | [_, _], _ => rfl⟩,
    law_right := ⟨f45, _, fun_mk (st := s_law_right) l45 c45 k45, PySem.W.mg_of X G a45, (fun_mk (st := s_law_right) l45 c45 k45).binds (ps := ["_law_row"]) fun _ _ _ _ _ _ us hl => match us, hl with | [_], _ => rfl⟩,
    law_second := ⟨f46, _, fun_mk (st := s_law_second) l46 c46 k46, PySem.W.mg_of X G a46, (fun_mk (st := s_law_second) l46 c46 k46).binds (ps := ["_law_script"]) fun _ _ _ _ _ _ us hl => match us, hl with | [_], _ => rfl⟩,
    law := ⟨f47, _, fun_mk (st := s_law) l47 c47 k47, PySem.W.mg_of X G a47, (fun_mk (st := s_law) l47 c47 k47).binds (ps := ["_law_script"]) fun _ _ _ _ _ _ us hl => match us, hl with | [_], _ => rfl⟩ }
  exact fin_of T B hfa hb
theorem walk {l : PySem.W.OpenLaw} {q : Program} {loose : List Str} {XP : (Str → Option Value) → Heap → Prop} {YP : World → Heap → Prop} {d : DefRec} {K : Params → PySem.W.Frag} (hn : l.most = some 63) (hdf : d.params.defaults = [])
    (hY : ∀ (w : World) (h : Heap), YP w h → (K w.params).In h)
    (F : ∀ (w : World) (mg : Str → Option Value) (fa : Addr) (h : Heap), (K w.params).In h → h.Ns mainGlobals mg → mg d.name = some (.ref fa) →
      ∃ fd : FuncData, (∀ (s : Shared) (u : Value), BindsTo s fd ⟨[u], []⟩ [("_law_script", u)]) ∧ ∀ base : Heap, (K w.params).In base → base.Ns mainGlobals mg → FnOk l.prog w (K w.params) mg base CX0 56 fa fd ["_law_script"] (spLaw (K w.params))) :
    PySem.W.WalkO q loose XP YP l.row.toRowW d [] (fun f vs => PySem.call f vs) :=
  L2.walk_of (n := 63) (k := 56) (x := "_law_script") (CX := fun _ => CX0) (sp := fun w => spLaw (K w.params)) hn (by decide) hdf ⟨rfl, by decide, by decide⟩ hY F (fun _ _ a ns hl _ hS => ⟨a, ns, rfl, hS, fun _ => rfl⟩) fun _ _ _ _ _ z => z
end Mw

/-! Z2 -/
open PySem PySem.W PyProof.Rows in
set_option maxRecDepth 100000 in
set_option maxHeartbeats 0 in
theorem PySem.Challenge.cw_moststream_k28_whole_rows_there_and_back_holds : PySem.Challenge.rw_moststream_k28_whole_rows_there_and_back.Holds := by
  w_on; o_law; k_head; (case hw => w_witness2)
  k_fill
  refine Mw.walk (l := PySem.Challenge.rw_moststream_k28_whole_rows_there_and_back) rfl rfl (fun w h Y => PySem.W.kIn_of Y) ?F
  case F =>
    intro w mg fa h KX G hmg
    refine' Mw.all_mk KX G hmg ?g_c_NoParcel ?g_c_NoRow ?g_c_BadRow ?g_c_StreamError ?g_NONE ?g_NO ?g_YES ?g_FROM_ZERO ?g_BELOW_ZERO ?g_STRING ?g_TUPLE ?g_MOST_SIGNS ?g_MOST_DEEP ?g_BYTE_LIMIT ?g_FIGURE_LIMIT ?g_MARK_LIMIT ?g_SEAL_LENGTH ?g_LEAST_SIGN ?g_GREATEST_SIGN ?g_NO_SIGN ?g_SIGNS ?b_isinstance ?b_int ?b_bool ?b_tuple ?b_list ?b_str ?b_len ?b_range ?b_zip ?b_min ?b_all ?b_sum ?b_abs ?b_ord ?b_repr ?b_ValueError ?w_cg ?w_ct ?x0_l ?x0_sa ?x0_ex ?x0_ty ?x0_kp ?x0_is ?x1_l ?x1_sa ?x1_ex ?x1_ty ?x1_kp ?x1_is ?x2_l ?x2_sa ?x2_ex ?x2_ty ?x2_kp ?x2_is ?p2_na ?p2_ga ?p2_gg ?p2_hd ?qna_place ?se_BadRowBadRow ?y_c_NoParcelg ?y_c_NoParcelk ?y_c_NoParcels ?y_c_NoParceld ?y_c_NoParcela ?y_c_NoParcelm ?y_c_BadRowg ?y_c_BadRowk ?y_c_BadRows ?y_c_BadRowd ?y_c_BadRowa ?y_c_BadRowm ?uq_NpNp ?v_c_NoParcel_is ?v_c_NoParcel_ty ?uq_NpVe ?uq_BrSe ?v_c_StreamError_is ?v_c_StreamError_ty ?uq_BrVe ?wr_NoParcelStream ?ur_NoParcelStream ?a0 ?i0 ?t0 ?l0 ?c0 ?k0 ?a1 ?i1 ?t1 ?l1 ?c1 ?k1 ?a2 ?i2 ?t2 ?l2 ?c2 ?k2 ?a3 ?l3 ?c3 ?k3 ?a4 ?l4 ?c4 ?k4 ?a5 ?l5 ?c5 ?k5 ?a6 ?l6 ?c6 ?k6 ?a7 ?l7 ?c7 ?k7 ?a8 ?l8 ?c8 ?k8 ?a9 ?l9 ?c9 ?k9 ?a10 ?l10 ?c10 ?k10 ?a11 ?l11 ?c11 ?k11 ?a12 ?l12 ?c12 ?k12 ?a13 ?l13 ?c13 ?k13 ?a14 ?l14 ?c14 ?k14 ?a15 ?l15 ?c15 ?k15 ?a16 ?l16 ?c16 ?k16 ?a17 ?l17 ?c17 ?k17 ?a18 ?l18 ?c18 ?k18 ?a19 ?l19 ?c19 ?k19 ?a20 ?l20 ?c20 ?k20 ?a21 ?l21 ?c21 ?k21 ?a22 ?l22 ?c22 ?k22 ?a23 ?l23 ?c23 ?k23 ?a24 ?l24 ?c24 ?k24 ?a25 ?l25 ?c25 ?k25 ?a26 ?l26 ?c26 ?k26 ?a27 ?l27 ?c27 ?k27 ?a28 ?l28 ?c28 ?k28 ?a29 ?l29 ?c29 ?k29 ?a30 ?l30 ?c30 ?k30 ?a31 ?l31 ?c31 ?k31 ?a32 ?l32 ?c32 ?k32 ?a33 ?l33 ?c33 ?k33 ?a34 ?l34 ?c34 ?k34 ?a35 ?l35 ?c35 ?k35 ?a36 ?l36 ?c36 ?k36 ?a37 ?l37 ?c37 ?k37 ?a38 ?l38 ?c38 ?k38 ?a39 ?l39 ?c39 ?k39 ?a40 ?l40 ?c40 ?k40 ?a41 ?l41 ?c41 ?k41 ?a42 ?l42 ?c42 ?k42 ?a43 ?l43 ?c43 ?k43 ?a44 ?l44 ?c44 ?k44 ?a45 ?l45 ?c45 ?k45 ?a46 ?l46 ?c46 ?k46 ?a47 ?l47 ?c47 ?k47
    (case g_c_NoParcel => k_is)
    (case g_c_NoRow => k_is)
    (case g_c_BadRow => k_is)
    (case g_c_StreamError => k_is)
    (case g_NONE => k_is)
    (case g_NO => k_is)
    (case g_YES => k_is)
    (case g_FROM_ZERO => k_is)
    (case g_BELOW_ZERO => k_is)
    (case g_STRING => k_is)
    (case g_TUPLE => k_is)
    (case g_MOST_SIGNS => k_is)
    (case g_MOST_DEEP => k_is)
    (case g_BYTE_LIMIT => k_is)
    (case g_FIGURE_LIMIT => k_is)
    (case g_MARK_LIMIT => k_is)
    (case g_SEAL_LENGTH => k_is)
    (case g_LEAST_SIGN => k_is)
    (case g_GREATEST_SIGN => k_is)
    (case g_NO_SIGN => k_is)
    (case g_SIGNS => k_is)
    (case b_isinstance => k_is)
    (case b_int => k_is)
    (case b_bool => k_is)
    (case b_tuple => k_is)
    (case b_list => k_is)
    (case b_str => k_is)
    (case b_len => k_is)
    (case b_range => k_is)
    (case b_zip => k_is)
    (case b_min => k_is)
    (case b_all => k_is)
    (case b_sum => k_is)
    (case b_abs => k_is)
    (case b_ord => k_is)
    (case b_repr => k_is)
    (case b_ValueError => k_is)
    (case w_cg => k_is)
    (case w_ct => k_is)
    (case x0_l => k_is)
    (case x0_sa => k_is)
    (case x0_ex => k_is)
    (case x0_ty => k_is)
    (case x0_kp => k_is)
    (case x0_is => k_is)
    (case x1_l => k_is)
    (case x1_sa => k_is)
    (case x1_ex => k_is)
    (case x1_ty => k_is)
    (case x1_kp => k_is)
    (case x1_is => k_is)
    (case x2_l => k_is)
    (case x2_sa => k_is)
    (case x2_ex => k_is)
    (case x2_ty => k_is)
    (case x2_kp => k_is)
    (case x2_is => k_is)
    (case p2_na => k_is)
    (case p2_ga => k_is)
    (case p2_gg => k_is)
    (case p2_hd => k_is)
    (case qna_place => k_is)
    (case se_BadRowBadRow => k_is)
    (case y_c_NoParcelg => k_is)
    (case y_c_NoParcelk => k_is)
    (case y_c_NoParcels => k_is)
    (case y_c_NoParceld => k_is)
    (case y_c_NoParcela => k_is)
    (case y_c_NoParcelm => k_is)
    (case y_c_BadRowg => k_is)
    (case y_c_BadRowk => k_is)
    (case y_c_BadRows => k_is)
    (case y_c_BadRowd => k_is)
    (case y_c_BadRowa => k_is)
    (case y_c_BadRowm => k_is)
    (case uq_NpNp => k_is)
    (case v_c_NoParcel_is => k_is)
    (case v_c_NoParcel_ty => k_is)
    (case uq_NpVe => k_is)
    (case uq_BrSe => k_is)
    (case v_c_StreamError_is => k_is)
    (case v_c_StreamError_ty => k_is)
    (case uq_BrVe => k_is)
    (case wr_NoParcelStream => k_is)
    (case ur_NoParcelStream => k_is)
    (case a0 => k_is)
    (case i0 => k_is)
    (case t0 => k_is)
    (case l0 => k_is)
    (case c0 => k_is)
    (case k0 => k_is)
    (case a1 => k_is)
    (case i1 => k_is)
    (case t1 => k_is)
    (case l1 => k_is)
    (case c1 => k_is)
    (case k1 => k_is)
    (case a2 => k_is)
    (case i2 => k_is)
    (case t2 => k_is)
    (case l2 => k_is)
    (case c2 => k_is)
    (case k2 => k_is)
    (case a3 => k_is)
    (case l3 => k_is)
    (case c3 => k_is)
    (case k3 => k_is)
    (case a4 => k_is)
    (case l4 => k_is)
    (case c4 => k_is)
    (case k4 => k_is)
    (case a5 => k_is)
    (case l5 => k_is)
    (case c5 => k_is)
    (case k5 => k_is)
    (case a6 => k_is)
    (case l6 => k_is)
    (case c6 => k_is)
    (case k6 => k_is)
    (case a7 => k_is)
    (case l7 => k_is)
    (case c7 => k_is)
    (case k7 => k_is)
    (case a8 => k_is)
    (case l8 => k_is)
    (case c8 => k_is)
    (case k8 => k_is)
    (case a9 => k_is)
    (case l9 => k_is)
    (case c9 => k_is)
    (case k9 => k_is)
    (case a10 => k_is)
    (case l10 => k_is)
    (case c10 => k_is)
    (case k10 => k_is)
    (case a11 => k_is)
    (case l11 => k_is)
    (case c11 => k_is)
    (case k11 => k_is)
    (case a12 => k_is)
    (case l12 => k_is)
    (case c12 => k_is)
    (case k12 => k_is)
    (case a13 => k_is)
    (case l13 => k_is)
    (case c13 => k_is)
    (case k13 => k_is)
    (case a14 => k_is)
    (case l14 => k_is)
    (case c14 => k_is)
    (case k14 => k_is)
    (case a15 => k_is)
    (case l15 => k_is)
    (case c15 => k_is)
    (case k15 => k_is)
    (case a16 => k_is)
    (case l16 => k_is)
    (case c16 => k_is)
    (case k16 => k_is)
    (case a17 => k_is)
    (case l17 => k_is)
    (case c17 => k_is)
    (case k17 => k_is)
    (case a18 => k_is)
    (case l18 => k_is)
    (case c18 => k_is)
    (case k18 => k_is)
    (case a19 => k_is)
    (case l19 => k_is)
    (case c19 => k_is)
    (case k19 => k_is)
    (case a20 => k_is)
    (case l20 => k_is)
    (case c20 => k_is)
    (case k20 => k_is)
    (case a21 => k_is)
    (case l21 => k_is)
    (case c21 => k_is)
    (case k21 => k_is)
    (case a22 => k_is)
    (case l22 => k_is)
    (case c22 => k_is)
    (case k22 => k_is)
    (case a23 => k_is)
    (case l23 => k_is)
    (case c23 => k_is)
    (case k23 => k_is)
    (case a24 => k_is)
    (case l24 => k_is)
    (case c24 => k_is)
    (case k24 => k_is)
    (case a25 => k_is)
    (case l25 => k_is)
    (case c25 => k_is)
    (case k25 => k_is)
    (case a26 => k_is)
    (case l26 => k_is)
    (case c26 => k_is)
    (case k26 => k_is)
    (case a27 => k_is)
    (case l27 => k_is)
    (case c27 => k_is)
    (case k27 => k_is)
    (case a28 => k_is)
    (case l28 => k_is)
    (case c28 => k_is)
    (case k28 => k_is)
    (case a29 => k_is)
    (case l29 => k_is)
    (case c29 => k_is)
    (case k29 => k_is)
    (case a30 => k_is)
    (case l30 => k_is)
    (case c30 => k_is)
    (case k30 => k_is)
    (case a31 => k_is)
    (case l31 => k_is)
    (case c31 => k_is)
    (case k31 => k_is)
    (case a32 => k_is)
    (case l32 => k_is)
    (case c32 => k_is)
    (case k32 => k_is)
    (case a33 => k_is)
    (case l33 => k_is)
    (case c33 => k_is)
    (case k33 => k_is)
    (case a34 => k_is)
    (case l34 => k_is)
    (case c34 => k_is)
    (case k34 => k_is)
    (case a35 => k_is)
    (case l35 => k_is)
    (case c35 => k_is)
    (case k35 => k_is)
    (case a36 => k_is)
    (case l36 => k_is)
    (case c36 => k_is)
    (case k36 => k_is)
    (case a37 => k_is)
    (case l37 => k_is)
    (case c37 => k_is)
    (case k37 => k_is)
    (case a38 => k_is)
    (case l38 => k_is)
    (case c38 => k_is)
    (case k38 => k_is)
    (case a39 => k_is)
    (case l39 => k_is)
    (case c39 => k_is)
    (case k39 => k_is)
    (case a40 => k_is)
    (case l40 => k_is)
    (case c40 => k_is)
    (case k40 => k_is)
    (case a41 => k_is)
    (case l41 => k_is)
    (case c41 => k_is)
    (case k41 => k_is)
    (case a42 => k_is)
    (case l42 => k_is)
    (case c42 => k_is)
    (case k42 => k_is)
    (case a43 => k_is)
    (case l43 => k_is)
    (case c43 => k_is)
    (case k43 => k_is)
    (case a44 => k_is)
    (case l44 => k_is)
    (case c44 => k_is)
    (case k44 => k_is)
    (case a45 => k_is)
    (case l45 => k_is)
    (case c45 => k_is)
    (case k45 => k_is)
    (case a46 => k_is)
    (case l46 => k_is)
    (case c46 => k_is)
    (case k46 => k_is)
    (case a47 => k_is)
    (case l47 => k_is)
    (case c47 => k_is)
    (case k47 => k_is)
