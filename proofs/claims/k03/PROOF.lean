import PyProof.Rows.All
import Wide.All
import OpenK.AllK
import Wide.FinOn
import PyProof.EqAt
import PyProof.EqKinds
import PyProof.TupleCall
import HandS.Base
import HandS.Call
import HandS.List
import HandS.Comp
import HandS.Iter
import HandS.Ends
import HandS.Exc
import HandS.Words
import PyProof.Draws
import HandS.Zip0
import KE.KFromBytes
import HandS.ExcInit
import HandS.OwnEq
import HandS.IsInst
import HandS.ForMost
import HandS.ForExc
import HandS.TryMany
import HandS.ExcField
import HandS.TupAny
import HandS.TupLe
import HandS.TupSets
import HandS.Zip
import HandS.Style
import HandS.SortInts
import HandS.Dict
import HandS.Walk
import HandS.GenList
import KE.KDictZip
import HandS.Codes
import HandS.TupMul
import HandS.Conv
import KE.KDictSum
import KE.KDictWalk
import PySem.Challenge.RW_moststream_k03_whole_greatest_streams_an
set_option Elab.async false
set_option linter.all false
set_option maxRecDepth 100000
set_option maxHeartbeats 4000000
/-! M0 -/
/-! Readings one step at a time: each lemma turns a reading into what is left to be shown. -/
namespace Mw
open PySem L2
section
variable {σ : St} {H : Hp} {v x y : V} {i : Nat} {Q : VK} {ta tb te : TE} {r : R2} {D : Ends} {K : PySem.W.Frag}
theorem rd_var (h : σ[i]? = some (some v)) (q : Q v H) : tVar i σ H Q := ⟨v, h, q⟩
theorem rd_c (q : Q v H) : tC v σ H Q := q
theorem rd_op (h : ta σ H fun x H1 => tb σ H1 fun y H2 => r x y H2 Q) : tOp r ta tb σ H Q := h
theorem rd_un {r : V → Hp → VK → Prop} (h : ta σ H fun x H1 => r x H1 Q) : tUn r ta σ H Q := h
theorem rd_nil {Q : List V → Hp → Prop} (q : Q [] H) : tNil σ H Q := q
theorem rd_cons {tr : TA} {Q : List V → Hp → Prop} (h : ta σ H fun x H1 => tr σ H1 fun xs H2 => Q (x :: xs) H2) : tCons ta tr σ H Q := h
theorem rd_disp {xs : List V} {B : Prop} (hl : Nat.ble xs.length 1000 = true) (q : B) : xs.length ≤ sizeLine ∧ B := ⟨Nat.le_trans (Nat.le_of_ble_eq_true hl) (by decide), q⟩
theorem rd_tup {t : TA} (h : t σ H fun xs H1 => xs.length ≤ sizeLine ∧ ∀ p, H1 p = none → Q (.ref p) (upd H1 p (.tup xs))) : tTup t σ H Q := h
theorem rd_lst {t : TA} (h : t σ H fun xs H1 => xs.length ≤ sizeLine ∧ ∀ p, H1 p = none → Q (.ref p) (upd H1 p (.lst xs))) : tLst t σ H Q := h
theorem rd_ifs {c : TT} {t u : TS} (h : c σ H fun b H1 => if b = true then t D σ H1 else u D σ H1) : tIfS c t u D σ H := h
theorem rd_seq {t u : TS} (h : t { D with nx := u D } σ H) : tSeq t u D σ H := h
theorem rd_next (h : D.nx σ H) : tNext D σ H := h
theorem rd_ret (h : te σ H D.rt) : tRet te D σ H := h
theorem rd_asg {g : TG} (h : te σ H fun x H1 => g x σ H1 D.nx) : tAsg te g D σ H := h
theorem rd_gname {Q : St → Hp → Prop} (h : Q (σ.set i (some v)) H) : gName i v σ H Q := h
theorem rd_drop (h : te σ H fun _ H1 => D.nx σ H1) : tDrop te D σ H := h
theorem rd_test {Q : Bool → Hp → Prop} (h : te σ H fun x H' => ∃ k, x = .bl k ∧ Q k H') : tTest te σ H Q := h
theorem rd_B {Q : Bool → Hp → Prop} (h : te σ H fun x H1 => ∃ c, x = .bl c ∧ Q c H1) : tB te σ H Q := h
theorem rd_bl {b : Bool} {Q : Bool → Hp → Prop} (q : Q b H) : ∃ k, V.bl b = .bl k ∧ Q k H := ⟨b, rfl, q⟩
theorem rd_blP {b : Bool} {Q : Bool → Prop} (q : Q b) : ∃ k, V.bl b = .bl k ∧ Q k := ⟨b, rfl, q⟩
theorem rd_andV (h : ta σ H fun x H1 => ∃ c, x = .bl c ∧ if c = true then tb σ H1 Q else Q (.bl false) H1) : tAndV ta tb σ H Q := h
theorem rd_orV (h : ta σ H fun x H1 => ∃ c, x = .bl c ∧ if c = true then Q (.bl true) H1 else tb σ H1 Q) : tOrV ta tb σ H Q := h
theorem rd_notV (h : ta σ H fun x H1 => ∃ c, x = .bl c ∧ Q (.bl (!c)) H1) : tNotV ta σ H Q := h
theorem rd_and {t u : TT} {Q : Bool → Hp → Prop} (h : t σ H fun c H1 => if c = true then u σ H1 Q else Q false H1) : tAnd t u σ H Q := h
theorem rd_or {t u : TT} {Q : Bool → Hp → Prop} (h : t σ H fun c H1 => if c = true then Q true H1 else u σ H1 Q) : tOr t u σ H Q := h
theorem rd_not {t : TT} {Q : Bool → Hp → Prop} (h : t σ H fun c H1 => Q (!c) H1) : tNot t σ H Q := h
theorem rd_cb {r : List V → Hp → VK → Prop} {t : TA} (h : t σ H fun vs H1 => r vs H1 Q) : tCB r t σ H Q := h
theorem rd_call {sp : Sp} {dvs : List V} {E : XK} {t : TA} (h : t σ H fun vs H1 => sp (vs ++ dvs) H1 Q E) : tCall sp dvs E t σ H Q := h
theorem rd_i0 {g : Int → Int → V} {a b : Int} (q : Q (g a b) H) : rI0 g (.int a) (.int b) H Q := ⟨a, b, rfl, rfl, q⟩
theorem rd_eq (hs : scal x y = true) (q : Q (.bl (decide (x = y))) H) : rEq x y H Q := ⟨hs, q⟩
end
section
variable {σ : L2.St} {H : Hp} {x y : V} {Q : VK} {te : TE} {K : PySem.W.Frag}
theorem rd_sl {r : V → Option Int → Option Int → Hp → VK → Prop} {tl th : TO} (h : te σ H fun x H1 => tl σ H1 fun l H2 => th σ H2 fun u H3 => r x l u H3 Q) : tSl r te tl th σ H Q := h
theorem rd_nopart {Q : Option Int → Hp → Prop} (h : Q none H) : tNoPart σ H Q := h
theorem rd_part {Q : Option Int → Hp → Prop} (h : te σ H fun x H1 => ∃ i, x = .int i ∧ Q (some i) H1) : tPart te σ H Q := h
theorem rd_intP {j : Int} {P : Int → Prop} (h : P j) : ∃ i, V.int j = .int i ∧ P i := ⟨j, rfl, h⟩
theorem rd_fld {f : Str} (h : te σ H fun x H1 => ∃ a C dx fs v, x = .ref a ∧ H1 a = some (.ins C dx fs) ∧ Cls K C ∧ NoAttr K C f ∧ fs.lookup f = some v ∧ Q v H1) : tFld K te f σ H Q := h
theorem rd_ne (hs : scal x y = true) (q : Q (.bl (!decide (x = y))) H) : rNe x y H Q := ⟨hs, q⟩
theorem rd_rU {g : Int → V} {a : Int} (q : Q (g a) H) : rU g (.int a) H Q := ⟨a, rfl, q⟩
theorem rd_iC {C : Int → Int → Prop} {g : Int → Int → V} {a b : Int} (hc : C a b) (q : Q (g a b) H) : rI C g (.int a) (.int b) H Q := ⟨a, b, rfl, rfl, hc, q⟩
theorem rd_eqI {a b : Int} (q : Q (.bl (decide (a = b))) H) : rEq (.int a) (.int b) H Q := ⟨rfl, by rw [show decide (V.int a = V.int b) = decide (a = b) by simp]; exact q⟩
theorem rd_neI {a b : Int} (q : Q (.bl (!decide (a = b))) H) : rNe (.int a) (.int b) H Q := ⟨rfl, by rw [show decide (V.int a = V.int b) = decide (a = b) by simp]; exact q⟩
end
/-! the step: all that needs no choice -/
local macro_rules | `(tactic| walk_at "rd") => `(tactic| (repeat (first
  | ((with_reducible refine' rd_var ?h0 ?_); (case h0 => rfl))
  | with_reducible refine rd_c ?_
  | with_reducible refine rd_op ?_
  | with_reducible refine rd_nil ?_
  | with_reducible refine rd_cons ?_
  | with_reducible refine rd_tup ?_
  | with_reducible refine rd_lst ?_
  | with_reducible refine rd_ifs ?_
  | with_reducible refine rd_seq ?_
  | with_reducible refine rd_next ?_
  | with_reducible refine rd_ret ?_
  | with_reducible refine rd_asg ?_
  | with_reducible refine rd_gname ?_
  | with_reducible refine rd_drop ?_
  | with_reducible refine rd_test ?_
  | with_reducible refine rd_B ?_
  | with_reducible refine rd_bl ?_
  | with_reducible refine rd_blP ?_
  | with_reducible refine rd_andV ?_
  | with_reducible refine rd_orV ?_
  | with_reducible refine rd_notV ?_
  | with_reducible refine rd_and ?_
  | with_reducible refine rd_or ?_
  | with_reducible refine rd_not ?_
  | with_reducible refine rd_cb ?_
  | with_reducible refine rd_call ?_
  | with_reducible refine rd_un ?_
  | with_reducible refine rd_sl ?_
  | with_reducible refine rd_nopart ?_
  | with_reducible refine rd_part ?_
  | with_reducible refine rd_intP ?_
  | with_reducible refine rd_rU ?_
  | with_reducible refine rd_fld ?_
  | with_reducible refine rd_eqI ?_
  | with_reducible refine rd_neI ?_
  | with_reducible refine rd_i0 ?_)))
end Mw

/-! MR1 -/
/-! enumerate over a tuple. -/
namespace Mw
open PySem PySem.Spec PyProof.Rows L2
section
variable {prog : Program} {w : World} {A : Around} {E : Value → Shared → Prop} {s : Shared}
/-- a tuple's own iterator, as something that is drawn from -/
theorem drawsT (hh : A.handled = none) {it a : Addr} {items : Array Value} (hne : a ≠ it) :
    Draws prog w A it [it, a] items.size (fun i x => items[i]? = some x) (fun i h => h.IsTupleIter it a i ∧ h.IsTuple a items) where
  live := fun i h st => by
    obtain ⟨⟨o, ho, _⟩, _⟩ := st
    exact ⟨o, ho⟩
  frame := fun i h h' st k => by
    obtain ⟨⟨o, ho, r⟩, ⟨o2, ho2, r2⟩⟩ := st
    exact ⟨⟨o, k it (by simp) o ho, r⟩, ⟨o2, k a (by simp) o2 ho2, r2⟩⟩
  item := fun i s Q E hi st hQ => by
    obtain ⟨h1, h2⟩ := st
    refine RZ.nextOf_tuple_item h1 h2 (x := items[i]) (by simp [hi]) fun h' hit' sb => ?_
    obtain ⟨o2, ho2, r2⟩ := h2
    exact hQ _ h' s.toks (by simp [hi]) ⟨hit', ⟨o2, (sb.2 a hne).trans ho2, r2⟩⟩ sb
  done := fun s Q E st hE => RZ.nextOf_tuple_end hh st.1 st.2 (by simp) hE
theorem enum_newT (l : Addr) (items : Array Value) :
    Meets (Builtin.«enumerate.__new__» ⟨[.type "enumerate", .ref l], []⟩) (fun _ R s => s.heap.IsTuple l items ∧
      R (.ok (.ret (.ref (s.heap.push { cls := .type "tuple_iterator", data := .fields #[.ref l, .int 0 0] }).objs.size)))
        { s with heap := (s.heap.push { cls := .type "tuple_iterator", data := .fields #[.ref l, .int 0 0] }).push { cls := .type "enumerate", data := .fields #[.none, .bool false, .ref s.heap.objs.size, rawInt 0, .none, .none] } }) :=
  .of_wp fun prog w A R s h => by
    obtain ⟨hp, g, d, tk, os⟩ := s
    obtain ⟨hl, h⟩ := h
    have hsub := sub_enumerate
    have hT : Heap.IsTuple (Shared.heap ⟨hp, g, d, tk, os⟩) l items := hl
    wp_walk using wpAny_pyIter_tuple hT
    refine wpAny_stack_any fun st => wpAny_pure ?_
    split
    · rename_i c _ _ _ _ _
      cases (c == Value.type "enumerate")
      all_goals
        wp_walk using wpAny_pyIter_tuple hT
        exact ⟨_, rfl, h⟩
    · wp_walk using wpAny_pyIter_tuple hT
      exact ⟨_, rfl, h⟩
theorem call_enumT {l : Addr} {items : Array Value} {Q : Value → Shared → Prop} (hT : s.heap.IsTuple l items)
    (h : ∀ h', IsEnum h' (s.heap.objs.size + 1) s.heap.objs.size 0 .none → h'.IsTupleIter s.heap.objs.size l 0 →
      (∀ c u, s.heap.get? c = some u → h'.get? c = some u) → Q (.ref (s.heap.objs.size + 1)) { s with heap := h' }) :
    wpAny (model prog w) A (call (.type "enumerate") [.ref l]) Q E s := by
  refine callType_new F.called_enumerate (by decide) (F.typeCall_enumerate_1 _) (F.newCall_enumerate_1 _) (fun o => F.args_object_init_2 o _) F.entry_enumerate_new (enum_newT l items) ⟨hT, ?_⟩
  generalize hit : ({ cls := .type "tuple_iterator", data := .fields #[.ref l, .int 0 0] } : Obj) = oi
  have hz : (s.heap.push oi).objs.size = s.heap.objs.size + 1 := Heap.size_push ..
  show _ ∧ _
  rw [hz]
  have he : IsEnum ((s.heap.push oi).push { cls := .type "enumerate", data := .fields #[.none, .bool false, .ref s.heap.objs.size, rawInt 0, .none, .none] }) (s.heap.objs.size + 1) s.heap.objs.size 0 .none := by
    have q := Heap.get?_push_size (s.heap.push oi) (o := { cls := .type "enumerate", data := .fields #[.none, .bool false, .ref s.heap.objs.size, rawInt 0, .none, .none] }) rfl
    rw [hz] at q
    exact q
  refine ⟨⟨_, he, rfl⟩, h _ he ⟨oi, Heap.get?_push_of_some _ (Heap.get?_push_size _ (by rw [← hit]; rfl)), by rw [← hit], by rw [← hit]; rfl⟩ fun c u x => Heap.get?_push_of_some _ (Heap.get?_push_of_some _ x)⟩
end
/-- the tuple at a, each item in a new pair with its number -/
def IteT (K : PySem.W.Frag) (a : Addr) : It :=
  ⟨fun i H => ∃ (xs : List V) (x : V), SqT K H a xs ∧ xs[i]? = some x, fun i H v H' => ∃ T x, v = .ref T ∧ H T = none ∧ H' = upd H T (.tup [.int (i : Nat), x]) ∧ ∀ ys, SqT K H a ys → ys[i]? = some x,
    fun i H => ∃ xs : List V, SqT K H a xs ∧ xs.length ≤ i⟩
theorem turn_enumT {P : Program} {w : World} {K : PySem.W.Frag} {elts : List Expr} {kk : Nat} {tpos : Pos} (a e it : Addr) (hea : e ≠ a) (hia : a ≠ it) :
    Turn P w K (.Tuple elts kk tpos) (IteT K a) [e, it] e (fun i h => (∃ old, IsEnum h e it ((i : Nat) : Int) old) ∧ h.IsTupleIter it a i ∧ e ≠ it) where
  mem := by simp
  obj := fun i h st b hb => by
    obtain ⟨⟨old, he⟩, ⟨o, ho, hc, hd⟩, _⟩ := st
    have e' : b = e ∨ b = it := by simpa using hb
    rcases e' with z | z
    · rw [z]; exact ⟨_, he, fun v q => nomatch q⟩
    · exact ⟨o, by rw [z]; exact ho, fun v q => by rw [hd] at q; cases q⟩
  keep := fun i h h' st k => by
    obtain ⟨⟨old, he⟩, hi, hne⟩ := st
    exact ⟨⟨old, k e (by simp) _ he⟩, hi.at fun o q => k it (by simp) o q, hne⟩
  item := by
    intro X hP hw hK hc i pins s σ H E I hf st hg
    subst hP hw hK
    obtain ⟨⟨old, he⟩, hit, hne⟩ := st
    obtain ⟨xs, x, hq, hx⟩ := hg
    obtain ⟨its, rv, p, hz⟩ := I.tuple hq
    obtain ⟨u, hu, ru⟩ := rv.get hx
    have hel : e < s.heap.objs.size := Heap.lt_size he
    have hil : it < s.heap.objs.size := by
      obtain ⟨_, q, _⟩ := hit
      exact Heap.lt_size q
    have hT : s.heap.IsTuple a its.toArray := p
    have hlt : i < its.toArray.size := by
      have q := (List.getElem?_eq_some_iff.mp hu).1
      simpa using q
    refine wpAny_pyNext_enum_itemD (drawsT (A := X.A.in1) (prog := X.prog) (w := X.w) (I.ok.hd hc) hia) he ⟨hit, hT⟩ hlt hne (by simp [hne, hea]) fun x' h' tk hx' ho hs' hT' hsz hk => ?_
    obtain rfl : x' = u := by
      have q : its[i]? = some x' := by simpa using hx'
      rw [hu] at q
      exact (Option.some.inj q).symm
    refine ⟨_, rfl, wpAny_letOwnedTupleGo_enum (s := { s with heap := h', toks := tk + 1 }) ho fun h2 he2 sb => ?_⟩
    have hT2 : h2.get? s.heap.objs.size = some { cls := .type "tuple", data := .seq #[.int i tk, x'] } := (sb.2 _ (Nat.ne_of_gt hel)).trans hT'
    have new : ObjOk X.prog X.w (upd H s.heap.objs.size (.tup [.int (i : Nat), x])) h2 s.heap.objs.size (.tup [.int (i : Nat), x]) :=
      ⟨(by decide : 2 ≤ sizeLine), [.int i tk, x'], .cons ⟨_, rfl⟩ (.cons ru .nil), ⟨_, hT2, rfl, _, rfl⟩⟩
    have I1 : Inv X pins σ (upd H s.heap.objs.size (.tup [.int (i : Nat), x])) { s with heap := h2, toks := tk + 1 } :=
      I.turnedNew (ch := [e, it]) (fun b u hb q => (sb.2 b fun z => hb (by simp [z])).trans (hk b u (fun z => hb (by simp [z])) (fun z => hb (by simp [z])) q)) hf (Nat.le_refl _) new
    refine ⟨.ref s.heap.objs.size, _, I1, rfl, ⟨_, x, rfl, I.hok.fresh (Nat.le_refl _), rfl, fun ys hy => by rw [I.tuple_inj hy hq]; exact hx⟩, ⟨⟨x', ?_⟩, hs'.1.at fun o q => (sb.2 it (Ne.symm hne)).trans q, hne⟩, fun b hb => ?_⟩
    · rw [show ((i + 1 : Nat) : Int) = (i : Int) + 1 by omega]
      exact he2
    · have hb' : b < s.heap.objs.size := by
        have e' : b = e ∨ b = it := by simpa using hb
        rcases e' with z | z <;> rw [z] <;> assumption
      rw [upd_ne (Nat.ne_of_lt hb')]
      exact (hf b hb).1
  done := by
    intro X hP hw hK hc i pins s σ H E I hf st hg
    subst hP hw hK
    obtain ⟨⟨old, he⟩, hit, hne⟩ := st
    obtain ⟨xs, hq, hx⟩ := hg
    obtain ⟨its, rv, p, hz⟩ := I.tuple hq
    obtain ⟨f0, f1, f2, f3, f4, f5⟩ := hf it (by simp)
    have hl := rv.length
    have hT : s.heap.IsTuple a its.toArray := p
    have D : Draws X.prog X.w X.A.in1 it [it, a] i (fun _ _ => False) (fun j h => j = i ∧ h.IsTupleIter it a i ∧ h.IsTuple a its.toArray) := {
      live := fun j h st => (drawsT (A := X.A.in1) (prog := X.prog) (w := X.w) (items := its.toArray) (I.ok.hd hc) hia).live i h st.2
      frame := fun j h h' st k => ⟨st.1, (drawsT (A := X.A.in1) (prog := X.prog) (w := X.w) (items := its.toArray) (I.ok.hd hc) hia).frame i h h' st.2 k⟩
      item := fun j s Q E hj st hQ => absurd hj (by rw [st.1]; omega)
      done := fun s Q E st hE => RZ.nextOf_tuple_end (I.ok.hd hc) st.2.1 st.2.2 (by simp; omega) hE }
    exact wpAny_pyNext_enum_endD D he ⟨rfl, hit, hT⟩ fun h' eb => ⟨rfl, I.turned (t' := s.toks) (fun b o hb q => eb b o hb q) f0 f1 f3 f4 f5⟩
  self := fun A i s Q E st h => by
    obtain ⟨⟨_, he⟩, _⟩ := st
    exact wpAny_pyIter_enum he h
def iEnumT (K : PySem.W.Frag) (ta : TA) : TI := fun σ H R => ta σ H fun vs H1 => ∃ a xs, vs = [.ref a] ∧ SqT K H1 a xs ∧ R (IteT K a) H1
theorem pi_enumT {X : Cx} {e : Expr} {ta : TA} {p pos tpos : Pos} {elts : List Expr} {kk : Nat} (hg : Gl X "enumerate") (hm : X.mg "enumerate" = none) (ha : PA X [e] ta) (hs : starEach [e] X.env = [(false, eval e X.env)] := by rfl) :
    PI X (.Tuple elts kk tpos) (.Call (.Name "enumerate" p) [e] [] pos) (iEnumT X.K ta) := by
  refine ⟨fun pins s σ H R I h => ?_⟩
  refine Call_ (ld_blt I hg hm boot_enumerate (PyProof.Rows.callWith_type1 (thn (ha.run pos pins s σ H _ I h) fun us s1 hh => ?_) hs rfl))
  obtain ⟨vs, H1, I1, r1, a, xs, ex, hq, q⟩ := hh
  subst ex
  cases r1 with
  | cons r rr =>
    cases rr
    cases r
    obtain ⟨its, rv, p1, hz⟩ := I1.tuple hq
    have hT : s1.heap.IsTuple a its.toArray := p1
    have hal : a < s1.heap.objs.size := by
      obtain ⟨o, ho, _⟩ := id hT
      exact Heap.lt_size ho
    refine call_enumT hT fun h' he hit hk => wpAny_pyIter_enum he ?_
    have I2 : Inv X pins σ H1 { s1 with heap := h' } := I1.kept (t' := s1.toks) hk
    refine ⟨s1.heap.objs.size + 1, [s1.heap.objs.size + 1, s1.heap.objs.size], _, _, H1, rfl, I2, turn_enumT a (s1.heap.objs.size + 1) s1.heap.objs.size (Nat.ne_of_gt (Nat.lt_succ_of_lt hal)) (Nat.ne_of_lt hal), ⟨⟨.none, he⟩, hit, Nat.succ_ne_self _⟩, fun b hb => ?_, q⟩
    have e' : b = s1.heap.objs.size + 1 ∨ b = s1.heap.objs.size := by simpa using hb
    have hle : s1.heap.objs.size ≤ b := by
      rcases e' with z | z
      · exact Nat.le_trans (Nat.le_succ _) (Nat.le_of_eq z.symm)
      · exact Nat.le_of_eq z.symm
    exact I1.fpOk hle (I1.hok.fresh hle)
/-- a loop over it -/
theorem for_enumT {K : PySem.W.Frag} {a : Addr} {xs : List V} {g : TG} {tb : TS} {D : Ends} {σ : L2.St} {H : Hp} (Pv : Nat → L2.St → Hp → Prop) (h0 : Pv 0 σ H) (hl : ∀ i σ H, Pv i σ H → SqT K H a xs)
    (hs : ∀ i x T σ H, xs[i]? = some x → Pv i σ H → H T = none → g (.ref T) σ (upd H T (.tup [.int (i : Nat), x])) fun σ2 H2 => tb { D with nx := Pv (i + 1), ct := Pv (i + 1), bk := D.nx } σ2 H2) (hd : ∀ σ H, Pv xs.length σ H → D.nx σ H) :
    ∃ W : Nat → Nat → L2.St → Hp → Prop, (∃ m, W 0 m σ H) ∧ ∀ i m σ H, W i m σ H →
      ((IteT K a).stop i H ∧ D.nx σ H) ∨ ((IteT K a).go i H ∧ ∃ N : L2.St → Hp → Prop, (∀ σ' H', N σ' H' → ∃ m', m' < m ∧ W (i + 1) m' σ' H') ∧ ∀ x H', (IteT K a).yld i H x H' → g x σ H' fun σ2 H2 => tb { D with nx := N, ct := N, bk := D.nx } σ2 H2) := by
  refine ⟨fun i m σ H => m + i = xs.length ∧ Pv i σ H, ⟨xs.length, rfl, h0⟩, ?_⟩
  rintro i m σ H ⟨hm, pv⟩
  have q := hl i σ H pv
  cases m with
  | zero =>
    have e : i = xs.length := by omega
    subst e
    exact .inl ⟨⟨xs, q, Nat.le_refl _⟩, hd σ H pv⟩
  | succ m =>
    have hlt : i < xs.length := by omega
    have hx : xs[i]? = some xs[i] := by simp [hlt]
    refine .inr ⟨⟨xs, xs[i], q, hx⟩, Pv (i + 1), fun σ' H' p' => ⟨m, by omega, by omega, p'⟩, fun v H' y => ?_⟩
    obtain ⟨T, x, ev, hT, eH, hy⟩ := y
    subst ev eH
    have hx2 := hy xs q
    exact hs i x T σ H hx2 pv hT
end Mw

/-! MR2 -/
/-! An own error whose __init__ only passes; is of a flag; == by an own __eq__ with both answers. -/
namespace Mw
open PySem PySem.Spec PyProof.Rows L2
abbrev Sl := L2.St
/-- C(), its own __init__ keeping sp: it takes the new exception and leaves all as it was -/
def tMkP (C : Addr) (sp : Sp) : Sl → Hp → XK → Prop := fun _ H Q => ∀ a, H a = none → sp [.ref a] (upd H a (exo a C none)) (fun v H2 => v = .non ∧ H2 = upd H a (exo a C none)) (fun _ _ _ => False) ∧ Q (.ref C) none H
theorem mkP_end {X : Cx} {pins : List (Addr × Obj)} {σ : Sl} {H : Hp} {Q : XK} {hp hp2 h2 : Heap} {g1 g2 : Array GenState} {d1 d2 : Drawn} {t1 t2 : Nat} {os1 os2 : OsState} {a C : Addr} (T : Raises X (.ref C)) (I : Inv X pins σ H ⟨hp, g1, d1, t1, os1⟩)
    (ha : hp.objs.size ≤ a) (k : ∀ c u, hp.get? c = some u → hp2.get? c = some u) (un : Un (frs X.stack) [] (upd H a (exo a C none)) (upd H a (exo a C none)) hp2 h2) (hok : HOk X.prog X.w (upd H a (exo a C none)) h2) (ho : os2 = os1) (hb : AllBare g2)
    (q : Q (.ref C) none H) : MkP X pins σ Q (.ref a) ⟨h2, g2, d2, t2, os2⟩ := by
  obtain ⟨t0, hoe⟩ := exo_at hok (upd_same (H := H) (a := a) (o := exo a C none))
  have hn : H a = none := I.hok.fresh ha
  obtain ⟨G, y1, y2⟩ := restrict h2 fun c => decide (c ≠ a)
  have gk : ∀ c, c ≠ a → G.get? c = h2.get? c := fun c hc => y1 c (decide_eq_true hc)
  have ge : G.get? a = none := y2 a (by simp)
  have nha : ∀ {c : Addr} {u : Obj}, hp.get? c = some u → c ≠ a := fun {c u} z => Nat.ne_of_lt (Nat.lt_of_lt_of_le (Heap.lt_size z) ha)
  have up : ∀ {c : Addr}, c ≠ a → H c = none → upd H a (exo a C none) c = none := fun {c} hc n => (upd_ne hc).trans n
  have U : Un (frs X.stack) [] H H hp G := {
    keep := fun c u z n hf hx => (gk c (nha z)).trans (un.keep c u (k c u z) (up (nha z) n) hf hx)
    slot := fun c u z n hf hx => by
      obtain ⟨sl, e⟩ := un.slot c u (k c u z) (up (nha z) n) hf hx
      exact ⟨sl, (gk c (nha z)).trans e⟩
    free := fun _ _ _ n _ => n
    there := fun c u z hx => by
      obtain ⟨u', e⟩ := un.there c u (k c u z) hx
      exact ⟨u', (gk c (nha z)).trans e⟩
    tups := fun _ _ z => z
    frzs := fun _ _ _ z => z
    tbls := fun _ ps z => ⟨#[], by rw [z]; simp⟩ }
  have hok3 : HOk X.prog X.w H G := fun c o z => by
    have hca : c ≠ a := ne_of_none z hn
    have z2 : upd H a (exo a C none) c = some o := (upd_ne hca).trans z
    have noa : ∀ {x : Addr} {u : HO}, upd H a (exo a C none) x = some u → u ≠ exo a C none → x ≠ a := fun {x u} hx hu e => hu (by rw [e, upd_same] at hx; exact (Option.some.inj hx).symm)
    refine (hok c o z2).stay (fun x v hx y => ?_) (fun x hx => ?_) (fun x xs hx => ?_)
    · have hxa : x ≠ a := by
        rcases hx with hx | hx
        · rw [hx]
          exact hca
        · exact noa hx (Ne.symm exo_own)
      exact (gk x hxa).trans y
    · exact (upd_ne (noa hx (Ne.symm exo_own))).symm.trans hx
    · exact (upd_ne (noa hx (Ne.symm exo_tup))).symm.trans hx
  have J : Inv X pins σ H ⟨G, g2, d2, t2, os2⟩ := I.call' (ch := []) ho U hok3 hb (fun c z => absurd z (by simp))
  refine ⟨a, _, _, ⟨G, g2, d2, t2, os2⟩, H, .ref C, none, rfl, J, fun c u z => ?_, ge, hoe, ⟨rfl, rfl⟩, rfl, rfl, hn, rfl, hb, T, q⟩
  by_cases hca : c = a
  · rw [hca, ge] at z
    cases z
  · exact (gk c hca).symm.trans z
theorem pmk_pass {X : Cx} {CX : CXT} {x : Str} {C fI : Addr} {k : Nat} {fd : FuncData} {ps : List Str} {sp : Sp} {p pos : Pos} (T : OexC X.K C) (iC : PySem.W.findIn X.K (.ref C) "__init__" = some (some (.ref fI))) (tI : PySem.W.typeIn X.K (.ref fI) = some (.type "function"))
    (F1 : FnOk X.prog X.w X.K X.mg X.base CX k fI fd ps sp) (hr : Room (k + 1) X.A) (hb : Binds X.K fd ps []) (hx : Passes CX X (fun _ _ _ => False)) (hg : Gl X x) (hm : X.mg x = some (.ref C))
    (hdb : (x == ("__debug__" : Str)) = false := by decide) : PMk X (.Call (.Name x p) [] [] pos) (tMkP C sp) := by
  intro pins s σ H Q I h
  obtain ⟨nm, q, N, bs, bm, sn, sub, ab, col, dd, k0, k1, k2, k3, k5, hC, hbm⟩ := T.cls
  refine wpAny_Call_Name_kw (ld_glob I hg hm ?_ hdb)
  refine PySem.W.callWith_K0 I.kIn T.kC ?_
  obtain ⟨hp, g, dr, tk, os⟩ := s
  have hsz : hp.objs.size ≤ hp.objs.size + 1 := Nat.le_succ _
  obtain ⟨hq, hQ⟩ := h (hp.objs.size + 1) (I.hok.fresh hsz)
  have kk : ∀ c u, hp.get? c = some u → ((hp.push (PySem.W.kdv_tup [])).push (PySem.HandSPX.excO C hp.objs.size)).get? c = some u := fun c u e => Heap.get?_push_of_some _ (Heap.get?_push_of_some _ e)
  have hget : ((hp.push (PySem.W.kdv_tup [])).push (PySem.HandSPX.excO C hp.objs.size)).get? (hp.objs.size + 1) = some (PySem.HandSPX.excO C hp.objs.size) := by heap_get
  have I2 : Inv X pins σ (upd H (hp.objs.size + 1) (exo (hp.objs.size + 1) C none)) ⟨(hp.push (PySem.W.kdv_tup [])).push (PySem.HandSPX.excO C hp.objs.size), g, dr, tk, os⟩ :=
    I.laid (t' := tk) (a := hp.objs.size + 1) (o := exo (hp.objs.size + 1) C none) (h' := (hp.push (PySem.W.kdv_tup [])).push (PySem.HandSPX.excO C hp.objs.size)) kk hsz (exo_ok hget)
  have hl : [Value.ref (hp.objs.size + 1)].length = ps.length := (F1.len _ _ _ _ hq)
  refine wpAny_call (PySem.HandSPX.call_own F.excBase_ValueError (fun Y => PySem.HandSPX.refsVE_contains Y bm hbm) (I.kIn _ _ hC) (PySem.W.looks_findIn I.kIn iC) (fun self => PySem.W.bind_fn I.kIn self tI) (by show 0 ≤ sizeLine; exact Nat.zero_le _)
    (codeAny_mono (F1.run _ X.stack _ _ ⟨[Value.ref (hp.objs.size + 1)], []⟩ [Value.ref (hp.objs.size + 1)] [V.ref (hp.objs.size + 1)] _ (fun _ _ _ => False) (hr.make C [] []) (I2.env0.make C [] []) (by
      have b := hb _ [Value.ref (hp.objs.size + 1)] I2.kIn hl
      simpa using b) (show Vals [V.ref _] [Value.ref _] from .cons rfl .nil) hq) fun r s' hq' => ?_))
  cases r with
  | error er => exact hx pins σ _ _ er s' I2 hq'
  | ok fl =>
    cases fl with
    | ret u =>
      obtain ⟨v, H2, os2, bare2, un2, hok2, rv, ev, eH⟩ := hq'
      subst ev eH
      obtain ⟨h2, g2, d2, t2, os'⟩ := s'
      exact ⟨rv, mkP_end (raises_own T.exC T.tyC) I hsz kk un2 hok2 os2 bare2 hQ⟩
    | next => exact False.elim hq'
    | brk => exact False.elim hq'
    | cont => exact False.elim hq'

/-! ### is True, is False -/
theorem is_flag {X : Cx} {b : Bool} : OpR X (compareOp .Is) (fun x y H Q => y = .bl b ∧ Q (.bl (decide (x = .bl b))) H) := by
  intro pins s σ H x y v u Q I rx ry h
  obtain ⟨rfl, q⟩ := h
  cases (show u = Value.bool b from ry)
  by_cases e : x = .bl b
  · subst e
    cases (show v = Value.bool b from rx)
    exact wpAny_is_self rfl ⟨.bl true, H, I, rfl, by simpa using q⟩
  · have q' : Q (.bl false) H := by simpa [e] using q
    cases x with
    | bl c =>
      cases (show v = Value.bool c from rx)
      exact wpAny_is_other rfl (fun z => e (by cases z; rfl)) ⟨.bl false, H, I, rfl, q'⟩
    | int i =>
      obtain ⟨_, z⟩ := (show ∃ t, v = Value.int i t from rx)
      subst z
      exact wpAny_is_other rfl (fun z => nomatch z) ⟨.bl false, H, I, rfl, q'⟩
    | str i =>
      obtain ⟨_, z⟩ := (show ∃ t, v = Value.str i t from rx)
      subst z
      exact wpAny_is_other rfl (fun z => nomatch z) ⟨.bl false, H, I, rfl, q'⟩
    | byt i =>
      obtain ⟨_, z⟩ := (show ∃ t, v = Value.bytes i t from rx)
      subst z
      exact wpAny_is_other rfl (fun z => nomatch z) ⟨.bl false, H, I, rfl, q'⟩
    | flt i =>
      obtain ⟨_, z⟩ := (show ∃ t, v = Value.float i t from rx)
      subst z
      exact wpAny_is_other rfl (fun z => nomatch z) ⟨.bl false, H, I, rfl, q'⟩
    | non =>
      cases (show v = Value.none from rx)
      exact wpAny_is_other rfl (fun z => nomatch z) ⟨.bl false, H, I, rfl, q'⟩
    | ref i =>
      cases (show v = Value.ref i from rx)
      exact wpAny_is_other rfl (fun z => nomatch z) ⟨.bl false, H, I, rfl, q'⟩
    | ty i =>
      cases (show v = Value.type i from rx)
      exact wpAny_is_other rfl (fun z => nomatch z) ⟨.bl false, H, I, rfl, q'⟩

/-! ### == by an own __eq__ of the class at C, whatever it answers -/
/-- what __eq__ promises: of the instance at a and the value y it answers r -/
def spEq2 (R : Addr → V → Hp → Bool → Prop) : Sp := fun vs H Q _ => ∃ a y r, vs = [.ref a, y] ∧ R a y H r ∧ Q (.bl r) H
/-- the left one an instance of C, the right one another such or a tuple -/
def rEqI (C : Addr) (R : Addr → V → Hp → Bool → Prop) : R2 := fun x y H Q => ∃ a b dx fs r, x = .ref a ∧ y = .ref b ∧ H a = some (.ins C dx fs) ∧ ((∃ dy gs, H b = some (.ins C dy gs)) ∨ ∃ ys, H b = some (.tup ys)) ∧ R a y H r ∧ Q (.bl r) H
theorem op_eqI {X : Cx} {CX : CXT} {n : Nat} {C f : Addr} {fd : FuncData} {ps : List Str} {R : Addr → V → Hp → Bool → Prop} {E : XK} (F : FnOk X.prog X.w X.K X.mg X.base CX n f fd ps (spEq2 R)) (hr : Room n X.A)
    (hs : PySem.W.findIn X.K (.ref C) "__eq__" = some (some (.ref f))) (hf : PySem.W.isFn X.K (.ref f) = true) (hb : Binds X.K fd ps []) (hx : Passes CX X E) (hn : PySem.W.notFirst X.K C (.type "tuple") = true) : OpR X (compareOp .Eq) (rEqI C R) := by
  intro pins s σ H x y u v Q I rx ry h
  obtain ⟨a, b, dx, fs, r0, rfl, rfl, ha, hb', hR, q⟩ := h
  cases rx
  cases ry
  have hsp : spEq2 R [.ref a, .ref b] H Q E := ⟨a, _, r0, rfl, hR, q⟩
  have hl := F.len _ _ _ _ hsp
  have r2 : Vals [V.ref a, V.ref b] [Value.ref a, Value.ref b] := .cons rfl (.cons rfl .nil)
  have go : wpAny (model X.prog X.w) X.A (call (.ref f) [.ref a, .ref b]) (PySem.W.CmpBack (EP X pins σ Q)) X.xe s := by
    refine wpAny_call (codeAny_mono (F.run X.A X.stack s H ⟨[.ref a, .ref b], []⟩ [.ref a, .ref b] [.ref a, .ref b] (fun z H' => (∃ c, z = .bl c) ∧ Q z H') E hr I.env0 (by
      have z := hb s [.ref a, .ref b] I.kIn (by simpa using hl)
      simpa using z) r2 ⟨a, _, r0, rfl, hR, ⟨_, rfl⟩, q⟩) fun r s' hq => ?_)
    cases r with
    | error e => exact hx pins σ H s e s' I hq
    | ok fl =>
      cases fl with
      | ret w =>
        obtain ⟨z, H', I', rz, ⟨c, ez⟩, q'⟩ := I.after hq
        subst ez
        cases rz
        exact ⟨V.bl c, H', I', rfl, q'⟩
      | next => exact False.elim hq
      | brk => exact False.elim hq
      | cont => exact False.elim hq
  obtain ⟨mA, J, _⟩ := ins_get I.hok ha
  obtain ⟨od, J, _⟩ := J.look
  obtain ⟨m, hF⟩ := I.fr
  rcases hb' with ⟨dy, gs, hb'⟩ | ⟨ys, hb'⟩
  · obtain ⟨mB, J', _⟩ := ins_get I.hok hb'
    obtain ⟨od', J', _⟩ := J'.look
    exact PySem.W.cmp_K (op := .Eq) (tb := .ref C) hr.units0 hF I.ok.mod.kin J J'.type (by simp [PySem.W.notFirst]) hs hf go
  · obtain ⟨P, Z, p, _⟩ := kit_of I (show L2.RelV (V.ref b) (Value.ref b) from rfl) (TyX.base (TyOf.tup hb'))
    exact PySem.W.cmp_K (op := .Eq) (tb := .type "tuple") hr.units0 hF I.ok.mod.kin J (Z.ty _ _ I.kIn p) hn hs hf go
end Mw

/-! M1 -/
/-! Data: what stands behind a value, apart from one object p (the hand) that may change. -/
namespace Mw
open PySem L2
/-- an object at a, not the one at p -/
def At (p : Addr) (H : Hp) (a : Addr) (o : HO) : Prop := a ≠ p ∧ H a = some o
/-- all but the object at p is as it was -/
def Keep (p : Addr) (H H' : Hp) : Prop := ∀ a o, a ≠ p → H a = some o → H' a = some o
theorem Keep.refl {p : Addr} {H : Hp} : Keep p H H := fun _ _ _ h => h
theorem Keep.trans {p : Addr} {H H1 H2 : Hp} (x : Keep p H H1) (y : Keep p H1 H2) : Keep p H H2 := fun a o n h => y a o n (x a o n h)
theorem Keep.same {p : Addr} {H H1 : Hp} (x : Same H H1) : Keep p H H1 := fun a o _ h => x a o h
theorem Keep.new {p q : Addr} {H : Hp} {o : HO} (h : H q = none) : Keep p H (upd H q o) := fun a u _ e => (upd_ne (ne_of_none e h)).trans e
theorem Keep.put {p q : Addr} {H H1 : Hp} {o : HO} (x : Keep p H H1) (h : H1 q = none) : Keep p H (upd H1 q o) := x.trans (Keep.new h)
theorem Keep.mut {p : Addr} {H : Hp} {o : HO} : Keep p H (upd H p o) := fun a u n e => (upd_ne n).trans e
theorem Same.put {q : Addr} {H H1 : Hp} {o : HO} (x : Same H H1) (h : H1 q = none) : Same H (upd H1 q o) := fun a u e => (upd_ne (ne_of_none (x a u e) h)).trans (x a u e)
theorem same_new {q : Addr} {H : Hp} {o : HO} (h : H q = none) : Same H (upd H q o) := fun _ _ e => (upd_ne (ne_of_none e h)).trans e
theorem At.keep {p a : Addr} {H H' : Hp} {o : HO} (x : At p H a o) (k : Keep p H H') : At p H' a o := ⟨x.1, k a o x.1 x.2⟩
theorem At.new {p a : Addr} {H : Hp} {o u : HO} (hp : H p = some u) (h : H a = none) : At p (upd H a o) a o := ⟨(ne_of_none hp h).symm, upd_same⟩
/-- what isinstance asks of the class at C -/
structure WebTy (K : PySem.W.Frag) (C : Addr) : Prop where
  cl : Cls K C
  ca : PySem.W.findIn K (.ref C) "__class__" = some (some (.builtin "object.__class__"))
  cg : PySem.W.specialIn K (.builtin "object.__class__") "__get__" = some (some (.builtin "getset_descriptor.__get__"))
  ct : PySem.W.takesIn K (.builtin "object.__class__") = some true
  co : PySem.W.mroIn K C (.type "object") = some true
  ki : PySem.W.kitOne K (.ref C) (.type "int") = some false
  kb : PySem.W.kitOne K (.ref C) (.type "bool") = some false
  kt : PySem.W.kitOne K (.ref C) (.type "tuple") = some false
  kl : PySem.W.kitOne K (.ref C) (.type "list") = some false
  ks : PySem.W.kitOne K (.ref C) (.type "str") = some false
/-- a thing that is none of the judged kinds: an empty dict, an instance of the class at C -/
def Oth (C p : Addr) (H : Hp) (v : V) : Prop := ∃ a, v = .ref a ∧ a ≠ p ∧ ((∃ kvs, H a = some (.dK kvs)) ∨ ∃ dx fs, H a = some (.ins C dx fs))
mutual
def Tp (C p : Addr) (H : Hp) : PyData → V → Prop
  | .none, v => v = .non
  | .bool b, v => v = .bl b
  | .int i, v => v = .int i
  | .str s, v => v = .str s
  | .list ds, v => ∃ a xs, v = .ref a ∧ a ≠ p ∧ H a = some (.lst xs) ∧ TpAll C p H ds xs
  | .tuple ds, v => ∃ a xs, v = .ref a ∧ a ≠ p ∧ H a = some (.tup xs) ∧ TpAll C p H ds xs
  | .dict _, v => Oth C p H v
def TpAll (C p : Addr) (H : Hp) : List PyData → List V → Prop
  | [], xs => xs = []
  | d :: ds, xs => ∃ x r, xs = x :: r ∧ Tp C p H d x ∧ TpAll C p H ds r
end
section
variable {C p : Addr} {H H' : Hp} {K : PySem.W.Frag}
mutual
theorem Tp.keep (k : Keep p H H') : ∀ (d : PyData) (v : V), Tp C p H d v → Tp C p H' d v
  | .none, v, h => by simpa only [Tp] using h
  | .bool b, v, h => by simpa only [Tp] using h
  | .int i, v, h => by simpa only [Tp] using h
  | .str s, v, h => by simpa only [Tp] using h
  | .list ds, v, h => by
    simp only [Tp] at h ⊢
    obtain ⟨a, xs, e, n, ha, r⟩ := h
    exact ⟨a, xs, e, n, k a _ n ha, TpAll.keep k ds xs r⟩
  | .tuple ds, v, h => by
    simp only [Tp] at h ⊢
    obtain ⟨a, xs, e, n, ha, r⟩ := h
    exact ⟨a, xs, e, n, k a _ n ha, TpAll.keep k ds xs r⟩
  | .dict _, v, h => by
    simp only [Tp] at h ⊢
    obtain ⟨a, e, n, ⟨kvs, ha⟩ | ⟨dx, fs, ha⟩⟩ := h
    · exact ⟨a, e, n, .inl ⟨kvs, k a _ n ha⟩⟩
    · exact ⟨a, e, n, .inr ⟨dx, fs, k a _ n ha⟩⟩
theorem TpAll.keep (k : Keep p H H') : ∀ (ds : List PyData) (xs : List V), TpAll C p H ds xs → TpAll C p H' ds xs
  | [], xs, h => by simpa only [TpAll] using h
  | d :: ds, xs, h => by
    simp only [TpAll] at h ⊢
    obtain ⟨x, r, e, h1, h2⟩ := h
    exact ⟨x, r, e, Tp.keep k d x h1, TpAll.keep k ds r h2⟩
end
theorem tpAll_iff : ∀ (ds : List PyData) (xs : List V), TpAll C p H ds xs ↔ ds.length = xs.length ∧ ∀ (i : Nat) d x, ds[i]? = some d → xs[i]? = some x → Tp C p H d x
  | [], xs => by
    simp only [TpAll]
    constructor
    · rintro rfl
      exact ⟨rfl, fun i d x h _ => by simp at h⟩
    · rintro ⟨h, _⟩
      exact List.length_eq_zero_iff.mp h.symm
  | d :: ds, xs => by
    simp only [TpAll]
    constructor
    · rintro ⟨x, r, rfl, h1, h2⟩
      obtain ⟨hl, hi⟩ := (tpAll_iff ds r).mp h2
      refine ⟨by simp [hl], fun i d' x' e1 e2 => ?_⟩
      cases i with
      | zero =>
        simp only [List.getElem?_cons_zero, Option.some.injEq] at e1 e2
        subst e1 e2
        exact h1
      | succ i =>
        simp only [List.getElem?_cons_succ] at e1 e2
        exact hi i d' x' e1 e2
    · rintro ⟨hl, hi⟩
      cases xs with
      | nil => simp at hl
      | cons x r => exact ⟨x, r, rfl, hi 0 d x rfl rfl, (tpAll_iff ds r).mpr ⟨by simpa using hl, fun i d' x' e1 e2 => hi (i + 1) d' x' (by simpa using e1) (by simpa using e2)⟩⟩
theorem TpAll.len {ds : List PyData} {xs : List V} (h : TpAll C p H ds xs) : ds.length = xs.length := ((tpAll_iff ds xs).mp h).1
theorem TpAll.get {ds : List PyData} {xs : List V} (h : TpAll C p H ds xs) {i : Nat} {d : PyData} (e : ds[i]? = some d) : ∃ x, xs[i]? = some x ∧ Tp C p H d x := by
  obtain ⟨hl, hi⟩ := (tpAll_iff ds xs).mp h
  have hlt := (List.getElem?_eq_some_iff.mp e).1
  have hx : xs[i]? = some (xs[i]'(by omega)) := by simp [show i < xs.length by omega]
  exact ⟨_, hx, hi i d _ e hx⟩
theorem TpAll.get' {ds : List PyData} {xs : List V} (h : TpAll C p H ds xs) {i : Nat} {x : V} (e : xs[i]? = some x) : ∃ d, ds[i]? = some d ∧ Tp C p H d x := by
  obtain ⟨hl, hi⟩ := (tpAll_iff ds xs).mp h
  have hlt := (List.getElem?_eq_some_iff.mp e).1
  have hx : ds[i]? = some (ds[i]'(by omega)) := by simp [show i < ds.length by omega]
  exact ⟨_, hx, hi i _ x hx e⟩
theorem TpAll.append {ds es : List PyData} {xs ys : List V} (h1 : TpAll C p H ds xs) (h2 : TpAll C p H es ys) : TpAll C p H (ds ++ es) (xs ++ ys) := by
  induction ds generalizing xs with
  | nil =>
    simp only [TpAll] at h1
    subst h1
    exact h2
  | cons d ds ih =>
    simp only [TpAll] at h1
    obtain ⟨x, r, rfl, a, b⟩ := h1
    show TpAll C p H (d :: (ds ++ es)) _
    simp only [TpAll]
    exact ⟨x, r ++ ys, rfl, a, ih b⟩
theorem TpAll.take {ds : List PyData} {xs : List V} (h : TpAll C p H ds xs) (n : Nat) : TpAll C p H (ds.take n) (xs.take n) := by
  obtain ⟨hl, hi⟩ := (tpAll_iff ds xs).mp h
  refine (tpAll_iff _ _).mpr ⟨by simp [hl], fun i d x e1 e2 => ?_⟩
  rw [List.getElem?_take] at e1 e2
  by_cases q : i < n
  · rw [if_pos q] at e1 e2
    exact hi i d x e1 e2
  · rw [if_neg q] at e1
    cases e1
theorem TpAll.drop {ds : List PyData} {xs : List V} (h : TpAll C p H ds xs) (n : Nat) : TpAll C p H (ds.drop n) (xs.drop n) := by
  obtain ⟨hl, hi⟩ := (tpAll_iff ds xs).mp h
  refine (tpAll_iff _ _).mpr ⟨by simp [hl], fun i d x e1 e2 => ?_⟩
  rw [List.getElem?_drop] at e1 e2
  exact hi _ d x e1 e2
theorem tpAll_nil : TpAll C p H [] [] := by simp only [TpAll]
theorem tpAll_cons {d : PyData} {ds : List PyData} {x : V} {xs : List V} (h1 : Tp C p H d x) (h2 : TpAll C p H ds xs) : TpAll C p H (d :: ds) (x :: xs) := by
  simp only [TpAll]
  exact ⟨x, xs, rfl, h1, h2⟩
theorem tp_int {i : Int} : Tp C p H (.int i) (.int i) := by simp only [Tp]
theorem tp_str {s : Str} : Tp C p H (.str s) (.str s) := by simp only [Tp]
theorem tp_bl {b : Bool} : Tp C p H (.bool b) (.bl b) := by simp only [Tp]
theorem tp_non : Tp C p H .none .non := by simp only [Tp]
theorem tp_tup {a : Addr} {ds : List PyData} {xs : List V} (h : At p H a (.tup xs)) (r : TpAll C p H ds xs) : Tp C p H (.tuple ds) (.ref a) := by
  simp only [Tp]
  exact ⟨a, xs, rfl, h.1, h.2, r⟩
theorem tp_lst {a : Addr} {ds : List PyData} {xs : List V} (h : At p H a (.lst xs)) (r : TpAll C p H ds xs) : Tp C p H (.list ds) (.ref a) := by
  simp only [Tp]
  exact ⟨a, xs, rfl, h.1, h.2, r⟩
theorem tp_tup' {v : V} {ds : List PyData} (h : Tp C p H (.tuple ds) v) : ∃ a xs, v = .ref a ∧ At p H a (.tup xs) ∧ TpAll C p H ds xs := by
  simp only [Tp] at h
  obtain ⟨a, xs, e, n, ha, r⟩ := h
  exact ⟨a, xs, e, ⟨n, ha⟩, r⟩
theorem tp_int' {v : V} {i : Int} (h : Tp C p H (.int i) v) : v = .int i := by simpa only [Tp] using h
theorem tp_str' {v : V} {i : Str} (h : Tp C p H (.str i) v) : v = .str i := by simpa only [Tp] using h

/-! ### kinds -/
def isI : PyData → Bool | .int _ => true | .bool _ => true | _ => false
def isB : PyData → Bool | .bool _ => true | _ => false
def isT : PyData → Bool | .tuple _ => true | _ => false
def isL : PyData → Bool | .list _ => true | _ => false
def isS : PyData → Bool | .str _ => true | _ => false
/-- an integer (no flag) within bounds -/
def inI (lo hi : Int) : PyData → Bool | .int i => decide (lo ≤ i) && decide (i ≤ hi) | _ => false
def isInt : PyData → Bool | .int _ => true | _ => false
theorem Tp.ty (W : WebTy K C) (d : PyData) (v : V) (h : Tp C p H d v) : ∃ t, TyX K H v t ∧ PySem.W.kitOne K t (.type "int") = some (isI d) ∧ PySem.W.kitOne K t (.type "bool") = some (isB d) ∧ PySem.W.kitOne K t (.type "tuple") = some (isT d) ∧
    PySem.W.kitOne K t (.type "list") = some (isL d) ∧ PySem.W.kitOne K t (.type "str") = some (isS d) := by
  cases d with
  | none =>
    simp only [Tp] at h
    subst h
    exact ⟨_, .base .non, kit_ty (show kitB "NoneType" "int" = some false from by decide +kernel), kit_ty (show kitB "NoneType" "bool" = some false from by decide +kernel), kit_ty (show kitB "NoneType" "tuple" = some false from by decide +kernel), kit_ty (show kitB "NoneType" "list" = some false from by decide +kernel), kit_ty (show kitB "NoneType" "str" = some false from by decide +kernel)⟩
  | bool b =>
    simp only [Tp] at h
    subst h
    exact ⟨_, .base (.bl b), kit_ty (show kitB "bool" "int" = some true from by decide +kernel), kit_ty (show kitB "bool" "bool" = some true from by decide +kernel), kit_ty (show kitB "bool" "tuple" = some false from by decide +kernel), kit_ty (show kitB "bool" "list" = some false from by decide +kernel), kit_ty (show kitB "bool" "str" = some false from by decide +kernel)⟩
  | int i =>
    simp only [Tp] at h
    subst h
    exact ⟨_, .base (.int i), kit_ty (show kitB "int" "int" = some true from by decide +kernel), kit_ty (show kitB "int" "bool" = some false from by decide +kernel), kit_ty (show kitB "int" "tuple" = some false from by decide +kernel), kit_ty (show kitB "int" "list" = some false from by decide +kernel), kit_ty (show kitB "int" "str" = some false from by decide +kernel)⟩
  | str s =>
    simp only [Tp] at h
    subst h
    exact ⟨_, .base (.str s), kit_ty (show kitB "str" "int" = some false from by decide +kernel), kit_ty (show kitB "str" "bool" = some false from by decide +kernel), kit_ty (show kitB "str" "tuple" = some false from by decide +kernel), kit_ty (show kitB "str" "list" = some false from by decide +kernel), kit_ty (show kitB "str" "str" = some true from by decide +kernel)⟩
  | list ds =>
    simp only [Tp] at h
    obtain ⟨a, xs, rfl, n, ha, r⟩ := h
    exact ⟨_, .base (.lst ha), kit_ty (show kitB "list" "int" = some false from by decide +kernel), kit_ty (show kitB "list" "bool" = some false from by decide +kernel), kit_ty (show kitB "list" "tuple" = some false from by decide +kernel), kit_ty (show kitB "list" "list" = some true from by decide +kernel), kit_ty (show kitB "list" "str" = some false from by decide +kernel)⟩
  | tuple ds =>
    simp only [Tp] at h
    obtain ⟨a, xs, rfl, n, ha, r⟩ := h
    exact ⟨_, .base (.tup ha), kit_ty (show kitB "tuple" "int" = some false from by decide +kernel), kit_ty (show kitB "tuple" "bool" = some false from by decide +kernel), kit_ty (show kitB "tuple" "tuple" = some true from by decide +kernel), kit_ty (show kitB "tuple" "list" = some false from by decide +kernel), kit_ty (show kitB "tuple" "str" = some false from by decide +kernel)⟩
  | dict kvs =>
    simp only [Tp] at h
    obtain ⟨a, rfl, n, ⟨_, ha⟩ | ⟨dx, fs, ha⟩⟩ := h
    · exact ⟨_, .base (.dK ha), kit_ty (show kitB "dict" "int" = some false from by decide +kernel), kit_ty (show kitB "dict" "bool" = some false from by decide +kernel), kit_ty (show kitB "dict" "tuple" = some false from by decide +kernel), kit_ty (show kitB "dict" "list" = some false from by decide +kernel), kit_ty (show kitB "dict" "str" = some false from by decide +kernel)⟩
    · exact ⟨_, .base (.ins ha W.cl W.ca W.cg W.ct W.co), W.ki, W.kb, W.kt, W.kl, W.ks⟩
theorem tp_isI (W : WebTy K C) {d : PyData} {v : V} {Q : VK} (h : Tp C p H d v) (q : Q (.bl (isI d)) H) : rIsi K [v, .ty "int"] H Q := by
  obtain ⟨t, ty, k, _⟩ := h.ty W
  exact ⟨v, _, t, _, _, rfl, .ty _, ty, k, q⟩
theorem tp_isB (W : WebTy K C) {d : PyData} {v : V} {Q : VK} (h : Tp C p H d v) (q : Q (.bl (isB d)) H) : rIsi K [v, .ty "bool"] H Q := by
  obtain ⟨t, ty, _, k, _⟩ := h.ty W
  exact ⟨v, _, t, _, _, rfl, .ty _, ty, k, q⟩
theorem tp_isT (W : WebTy K C) {d : PyData} {v : V} {Q : VK} (h : Tp C p H d v) (q : Q (.bl (isT d)) H) : rIsi K [v, .ty "tuple"] H Q := by
  obtain ⟨t, ty, _, _, k, _⟩ := h.ty W
  exact ⟨v, _, t, _, _, rfl, .ty _, ty, k, q⟩
theorem tp_isL (W : WebTy K C) {d : PyData} {v : V} {Q : VK} (h : Tp C p H d v) (q : Q (.bl (isL d)) H) : rIsi K [v, .ty "list"] H Q := by
  obtain ⟨t, ty, _, _, _, k, _⟩ := h.ty W
  exact ⟨v, _, t, _, _, rfl, .ty _, ty, k, q⟩
theorem tp_isS (W : WebTy K C) {d : PyData} {v : V} {Q : VK} (h : Tp C p H d v) (q : Q (.bl (isS d)) H) : rIsi K [v, .ty "str"] H Q := by
  obtain ⟨t, ty, _, _, _, _, k⟩ := h.ty W
  exact ⟨v, _, t, _, _, rfl, .ty _, ty, k, q⟩
end
theorem rd_mko {C : Addr} {sp : Sp} {dvs : List V} {ta : TA} {σ : L2.St} {H : Hp} {Q : XK} (h : ta σ H fun vs H1 => vs.length ≤ 1000 ∧ ∀ a, H1 a = none → sp (.ref a :: (vs ++ dvs)) (upd H1 a (exo a C none))
  (fun v H2 => v = .non ∧ ∃ (d : Addr) (fs : List (Str × V)), H2 a = some (exo a C (some d)) ∧ H2 d = some (exd d fs) ∧ H1 d = none ∧ Q (.ref C) (some d) (upd (del H2 a) d (.xd fs))) (fun _ _ _ => False)) : tMkO C sp dvs ta σ H Q := h
end Mw

/-! MS -/
/-! The text by places, what the top leaves. -/
namespace Mw
open PySem L2
def top (i : Nat) : Stmt := PySem.Challenge.pw_moststream_k03_whole_greatest_streams_an.main.body.getD i (.Pass ⟨0, 0, 0, 0⟩)
/-- what the top has left: the names of the built-in things are free, the classes stand -/
structure Tx (K : PySem.W.Frag) (mg : Str → Option Value) where
  c_Web : Addr
  c_BadWeb : Addr
  c_NoStream : Addr
  c_NoSide : Addr
  b_isinstance : mg "isinstance" = none
  b_int : mg "int" = none
  b_bool : mg "bool" = none
  b_tuple : mg "tuple" = none
  b_list : mg "list" = none
  b_str : mg "str" = none
  b_len : mg "len" = none
  b_range : mg "range" = none
  b_enumerate : mg "enumerate" = none
  b_zip : mg "zip" = none
  b_sorted : mg "sorted" = none
  b_set : mg "set" = none
  b_min : mg "min" = none
  b_max : mg "max" = none
  b_all : mg "all" = none
  b_sum : mg "sum" = none
  g_Web : mg "Web" = some (.ref c_Web)
  g_BadWeb : mg "BadWeb" = some (.ref c_BadWeb)
  g_NoStream : mg "NoStream" = some (.ref c_NoStream)
  g_NoSide : mg "NoSide" = some (.ref c_NoSide)
  k1 : Tok
  k2 : Tok
  k3 : Tok
  g_FEWEST_HOUSES : mg "FEWEST_HOUSES" = some (.int 2 k1)
  g_MOST_HOUSES : mg "MOST_HOUSES" = some (.int 10 k2)
  g_LETS_LIMIT : mg "LETS_LIMIT" = some (.int 1000000 k3)
  W : WebTy K c_Web
  makes : PySem.W.makesIn K c_Web = true
  keeps : PySem.W.keepIn K (.ref c_Web) = true
  kTW : PySem.W.kitOne K (.type "tuple") (.ref c_Web) = some false
  nfW : PySem.W.notFirst K c_Web (.type "tuple") = true
  x_BadWeb : OexC K c_BadWeb
  x_NoStream : OexC K c_NoStream
  x_NoSide : OexC K c_NoSide
  na_part : PySem.W.findIn K (.ref c_BadWeb) "part" = some none
  xn_BadWeb : PySem.W.findIn K (.ref c_BadWeb) "part" = some none
  xf_BadWeb : XfC K c_BadWeb
  na_many : NoAttr K c_Web "many"
  na_ties : NoAttr K c_Web "ties"
  na_spring : NoAttr K c_Web "spring"
  na_mouth : NoAttr K c_Web "mouth"
  na_through : NoAttr K c_Web "through"
  na_around : NoAttr K c_Web "around"
/-- a def of the top by its name -/
structure Df (K : PySem.W.Frag) (mg : Str → Option Value) (x : Str) (st : Stmt) (ps : List Str) where
  f : Addr
  fd : FuncData
  F : Fun K x x st f fd
  m : mg x = some (.ref f)
  b : Binds K fd ps []
/-- a method of a class -/
structure Dm (K : PySem.W.Frag) (C : Addr) (x q : Str) (st : Stmt) (ps : List Str) where
  f : Addr
  fd : FuncData
  F : Fun K x q st f fd
  a : PySem.W.findIn K (.ref C) x = some (some (.ref f))
  i : PySem.W.isFn K (.ref f) = true
  t : PySem.W.typeIn K (.ref f) = some (.type "function")
  b : Binds K fd ps []
abbrev s_BadWeb_init : Stmt := inClass (top 2) 0
theorem sc_BadWeb_init : FnScope ["self", "part"] ["self", "part"] (defScope s_BadWeb_init) := ⟨rfl, rfl, rfl, by decide +kernel, rfl, by decide +kernel, by decide +kernel⟩
abbrev s_NoStream_init : Stmt := inClass (top 3) 0
theorem sc_NoStream_init : FnScope ["self"] ["self"] (defScope s_NoStream_init) := ⟨rfl, rfl, rfl, by decide +kernel, rfl, by decide +kernel, by decide +kernel⟩
abbrev s_NoSide_init : Stmt := inClass (top 4) 0
theorem sc_NoSide_init : FnScope ["self"] ["self"] (defScope s_NoSide_init) := ⟨rfl, rfl, rfl, by decide +kernel, rfl, by decide +kernel, by decide +kernel⟩
abbrev s_is_int : Stmt := top 6
theorem sc_is_int : FnScope ["thing"] ["thing"] (defScope s_is_int) := ⟨rfl, rfl, rfl, by decide +kernel, rfl, by decide +kernel, by decide +kernel⟩
abbrev s_is_number : Stmt := top 7
theorem sc_is_number : FnScope ["thing"] ["thing"] (defScope s_is_number) := ⟨rfl, rfl, rfl, by decide +kernel, rfl, by decide +kernel, by decide +kernel⟩
abbrev s_is_number_below : Stmt := top 8
theorem sc_is_number_below : FnScope ["limit", "thing"] ["limit", "thing"] (defScope s_is_number_below) := ⟨rfl, rfl, rfl, by decide +kernel, rfl, by decide +kernel, by decide +kernel⟩
abbrev s_is_tuple_of : Stmt := top 9
theorem sc_is_tuple_of : FnScope ["many", "thing"] ["many", "thing"] (defScope s_is_tuple_of) := ⟨rfl, rfl, rfl, by decide +kernel, rfl, by decide +kernel, by decide +kernel⟩
abbrev s_is_lot : Stmt := top 10
theorem sc_is_lot : FnScope ["thing", "one", "other", "item"] ["thing"] (defScope s_is_lot) := ⟨rfl, rfl, rfl, by decide +kernel, rfl, by decide +kernel, by decide +kernel⟩
abbrev s_Web_init : Stmt := inClass (top 15) 0
theorem sc_Web_init : FnScope ["self", "many", "ties", "spring", "mouth", "house"] ["self", "many", "ties", "spring", "mouth"] (defScope s_Web_init) := ⟨rfl, rfl, rfl, by decide +kernel, rfl, by decide +kernel, by decide +kernel⟩
abbrev s_Web_eq : Stmt := inClass (top 15) 1
theorem sc_Web_eq : FnScope ["self", "other"] ["self", "other"] (defScope s_Web_eq) := ⟨rfl, rfl, rfl, by decide +kernel, rfl, by decide +kernel, by decide +kernel⟩
abbrev s_check_many : Stmt := top 16
theorem sc_check_many : FnScope ["many"] ["many"] (defScope s_check_many) := ⟨rfl, rfl, rfl, by decide +kernel, rfl, by decide +kernel, by decide +kernel⟩
abbrev s_check_ties : Stmt := top 17
theorem sc_check_ties : FnScope ["many", "ties", "at", "tie"] ["many", "ties"] (defScope s_check_ties) := ⟨rfl, rfl, rfl, by decide +kernel, rfl, by decide +kernel, by decide +kernel⟩
abbrev s_is_tie : Stmt := top 18
theorem sc_is_tie : FnScope ["many", "thing", "one", "other", "there", "back"] ["many", "thing"] (defScope s_is_tie) := ⟨rfl, rfl, rfl, by decide +kernel, rfl, by decide +kernel, by decide +kernel⟩
abbrev s_through : Stmt := top 19
theorem sc_through : FnScope ["ties", "units_of", "one", "other", "there", "back"] ["ties"] (defScope s_through) := ⟨rfl, rfl, rfl, by decide +kernel, rfl, by decide +kernel, by decide +kernel⟩
abbrev s_around : Stmt := top 20
theorem sc_around : FnScope ["through", "house", "one", "other"] ["through", "house"] (defScope s_around) := ⟨rfl, rfl, rfl, by decide +kernel, rfl, by decide +kernel, by decide +kernel⟩
abbrev s_is_stream : Stmt := top 22
theorem sc_is_stream : FnScope ["web", "thing", "between", "house", "tie", "units"] ["web", "thing"] (defScope s_is_stream) := ⟨rfl, rfl, rfl, by decide +kernel, rfl, by decide +kernel, by decide +kernel⟩
abbrev s_fits : Stmt := top 23
theorem sc_fits : FnScope ["tie", "units"] ["tie", "units"] (defScope s_fits) := ⟨rfl, rfl, rfl, by decide +kernel, rfl, by decide +kernel, by decide +kernel⟩
abbrev s_gain : Stmt := top 24
theorem sc_gain : FnScope ["web", "stream", "house", "come", "go", "tie", "units"] ["web", "stream", "house"] (defScope s_gain) := ⟨rfl, rfl, rfl, by decide +kernel, rfl, by decide +kernel, by decide +kernel⟩
abbrev s_check_stream : Stmt := top 25
theorem sc_check_stream : FnScope ["web", "stream"] ["web", "stream"] (defScope s_check_stream) := ⟨rfl, rfl, rfl, by decide +kernel, rfl, by decide +kernel, by decide +kernel⟩
abbrev s_worth : Stmt := top 26
theorem sc_worth : FnScope ["web", "stream"] ["web", "stream"] (defScope s_worth) := ⟨rfl, rfl, rfl, by decide +kernel, rfl, by decide +kernel, by decide +kernel⟩
abbrev s_room_each_way : Stmt := top 27
theorem sc_room_each_way : FnScope ["web", "stream", "room_of", "one", "other", "there", "back", "units"] ["web", "stream"] (defScope s_room_each_way) := ⟨rfl, rfl, rfl, by decide +kernel, rfl, by decide +kernel, by decide +kernel⟩
abbrev s_reached : Stmt := top 28
theorem sc_reached : FnScope ["web", "free", "ahead", "newest", "found", "one", "other"] ["web", "free"] (defScope s_reached) := ⟨rfl, rfl, rfl, by decide +kernel, rfl, by decide +kernel, by decide +kernel⟩
abbrev s_way_to_mouth : Stmt := top 29
theorem sc_way_to_mouth : FnScope ["web", "ahead", "way"] ["web", "ahead"] (defScope s_way_to_mouth) := ⟨rfl, rfl, rfl, by decide +kernel, rfl, by decide +kernel, by decide +kernel⟩
abbrev s_steps : Stmt := top 30
theorem sc_steps : FnScope ["way"] ["way"] (defScope s_steps) := ⟨rfl, rfl, rfl, by decide +kernel, rfl, by decide +kernel, by decide +kernel⟩
abbrev s_narrowest : Stmt := top 31
theorem sc_narrowest : FnScope ["free", "way", "step"] ["free", "way"] (defScope s_narrowest) := ⟨rfl, rfl, rfl, by decide +kernel, rfl, by decide +kernel, by decide +kernel⟩
abbrev s_most : Stmt := top 32
theorem sc_most : FnScope ["web", "free", "total", "ahead", "way", "units", "one", "other"] ["web"] (defScope s_most) := ⟨rfl, rfl, rfl, by decide +kernel, rfl, by decide +kernel, by decide +kernel⟩
abbrev s_is_side : Stmt := top 33
theorem sc_is_side : FnScope ["web", "thing", "house"] ["web", "thing"] (defScope s_is_side) := ⟨rfl, rfl, rfl, by decide +kernel, rfl, by decide +kernel, by decide +kernel⟩
abbrev s_side_worth : Stmt := top 34
theorem sc_side_worth : FnScope ["web", "side", "there", "back", "tie"] ["web", "side"] (defScope s_side_worth) := ⟨rfl, rfl, rfl, by decide +kernel, rfl, by decide +kernel, by decide +kernel⟩
abbrev s_side_of : Stmt := top 35
theorem sc_side_of : FnScope ["web", "stream", "ahead"] ["web", "stream"] (defScope s_side_of) := ⟨rfl, rfl, rfl, by decide +kernel, rfl, by decide +kernel, by decide +kernel⟩
abbrev s_is_paper : Stmt := top 36
theorem sc_is_paper : FnScope ["web", "stream", "thing", "total"] ["web", "stream", "thing"] (defScope s_is_paper) := ⟨rfl, rfl, rfl, by decide +kernel, rfl, by decide +kernel, by decide +kernel⟩
abbrev s_law_hand : Stmt := top 38
theorem sc_law_hand : FnScope ["script"] ["script"] (defScope s_law_hand) := ⟨rfl, rfl, rfl, by decide +kernel, rfl, by decide +kernel, by decide +kernel⟩
abbrev s_law_take : Stmt := top 39
theorem sc_law_take : FnScope ["hand", "many", "cell", "found", "number"] ["hand", "many"] (defScope s_law_take) := ⟨rfl, rfl, rfl, by decide +kernel, rfl, by decide +kernel, by decide +kernel⟩
abbrev s_law_pick : Stmt := top 40
theorem sc_law_pick : FnScope ["hand", "things"] ["hand", "things"] (defScope s_law_pick) := ⟨rfl, rfl, rfl, by decide +kernel, rfl, by decide +kernel, by decide +kernel⟩
abbrev s_law_is_integer : Stmt := top 41
theorem sc_law_is_integer : FnScope ["thing"] ["thing"] (defScope s_law_is_integer) := ⟨rfl, rfl, rfl, by decide +kernel, rfl, by decide +kernel, by decide +kernel⟩
abbrev s_law_is_within : Stmt := top 42
theorem sc_law_is_within : FnScope ["thing", "least", "top"] ["thing", "least", "top"] (defScope s_law_is_within) := ⟨rfl, rfl, rfl, by decide +kernel, rfl, by decide +kernel, by decide +kernel⟩
abbrev s_law_same : Stmt := top 43
theorem sc_law_same : FnScope ["actual", "due", "one", "other"] ["actual", "due"] (defScope s_law_same) := ⟨rfl, rfl, rfl, by decide +kernel, rfl, by decide +kernel, by decide +kernel⟩
abbrev s_law_odd : Stmt := top 44
theorem sc_law_odd : FnScope ["hand", "turn"] ["hand"] (defScope s_law_odd) := ⟨rfl, rfl, rfl, by decide +kernel, rfl, by decide +kernel, by decide +kernel⟩
abbrev s_law_units : Stmt := top 45
theorem sc_law_units : FnScope ["hand", "span"] ["hand", "span"] (defScope s_law_units) := ⟨rfl, rfl, rfl, by decide +kernel, rfl, by decide +kernel, by decide +kernel⟩
abbrev s_law_web : Stmt := top 46
theorem sc_law_web : FnScope ["hand", "size", "pairs", "shape", "house", "other", "k", "a", "b", "span", "ties", "pair", "spring", "mouth"] ["hand", "size"] (defScope s_law_web) := ⟨rfl, rfl, rfl, by decide +kernel, rfl, by decide +kernel, by decide +kernel⟩
abbrev s_law_web_of : Stmt := top 47
theorem sc_law_web_of : FnScope ["plan"] ["plan"] (defScope s_law_web_of) := ⟨rfl, rfl, rfl, by decide +kernel, rfl, by decide +kernel, by decide +kernel⟩
abbrev s_law_near : Stmt := top 48
theorem sc_law_near : FnScope ["plan", "house", "found", "tie"] ["plan", "house"] (defScope s_law_near) := ⟨rfl, rfl, rfl, by decide +kernel, rfl, by decide +kernel, by decide +kernel⟩
abbrev s_law_at : Stmt := top 49
theorem sc_law_at : FnScope ["plan", "one", "other", "k"] ["plan", "one", "other"] (defScope s_law_at) := ⟨rfl, rfl, rfl, by decide +kernel, rfl, by decide +kernel, by decide +kernel⟩
abbrev s_law_lets : Stmt := top 50
theorem sc_law_lets : FnScope ["plan", "one", "other", "tie"] ["plan", "one", "other"] (defScope s_law_lets) := ⟨rfl, rfl, rfl, by decide +kernel, rfl, by decide +kernel, by decide +kernel⟩
abbrev s_law_flow : Stmt := top 51
theorem sc_law_flow : FnScope ["plan", "stream", "one", "other", "units"] ["plan", "stream", "one", "other"] (defScope s_law_flow) := ⟨rfl, rfl, rfl, by decide +kernel, rfl, by decide +kernel, by decide +kernel⟩
abbrev s_law_room : Stmt := top 52
theorem sc_law_room : FnScope ["plan", "stream", "one", "other"] ["plan", "stream", "one", "other"] (defScope s_law_room) := ⟨rfl, rfl, rfl, by decide +kernel, rfl, by decide +kernel, by decide +kernel⟩
abbrev s_law_come : Stmt := top 53
theorem sc_law_come : FnScope ["plan", "stream", "house", "other"] ["plan", "stream", "house"] (defScope s_law_come) := ⟨rfl, rfl, rfl, by decide +kernel, rfl, by decide +kernel, by decide +kernel⟩
abbrev s_law_reach : Stmt := top 54
theorem sc_law_reach : FnScope ["plan", "stream", "begin", "ahead", "line", "k", "other"] ["plan", "stream", "begin"] (defScope s_law_reach) := ⟨rfl, rfl, rfl, by decide +kernel, rfl, by decide +kernel, by decide +kernel⟩
abbrev s_law_way : Stmt := top 55
theorem sc_law_way : FnScope ["plan", "stream", "begin", "end", "ahead", "found", "k"] ["plan", "stream", "begin", "end"] (defScope s_law_way) := ⟨rfl, rfl, rfl, by decide +kernel, rfl, by decide +kernel, by decide +kernel⟩
abbrev s_law_sent : Stmt := top 56
theorem sc_law_sent : FnScope ["plan", "stream", "houses", "units", "found", "one", "other", "at"] ["plan", "stream", "houses", "units"] (defScope s_law_sent) := ⟨rfl, rfl, rfl, by decide +kernel, rfl, by decide +kernel, by decide +kernel⟩
abbrev s_law_least_room : Stmt := top 57
theorem sc_law_least_room : FnScope ["plan", "stream", "houses", "one", "other"] ["plan", "stream", "houses"] (defScope s_law_least_room) := ⟨rfl, rfl, rfl, by decide +kernel, rfl, by decide +kernel, by decide +kernel⟩
abbrev s_law_greatest : Stmt := top 58
theorem sc_law_greatest : FnScope ["plan", "stream", "k", "houses"] ["plan"] (defScope s_law_greatest) := ⟨rfl, rfl, rfl, by decide +kernel, rfl, by decide +kernel, by decide +kernel⟩
abbrev s_law_worth : Stmt := top 59
theorem sc_law_worth : FnScope ["plan", "stream"] ["plan", "stream"] (defScope s_law_worth) := ⟨rfl, rfl, rfl, by decide +kernel, rfl, by decide +kernel, by decide +kernel⟩
abbrev s_law_ring : Stmt := top 60
theorem sc_law_ring : FnScope ["hand", "plan", "stream", "one", "other", "near", "houses"] ["hand", "plan", "stream"] (defScope s_law_ring) := ⟨rfl, rfl, rfl, by decide +kernel, rfl, by decide +kernel, by decide +kernel⟩
abbrev s_law_some_stream : Stmt := top 61
theorem sc_law_some_stream : FnScope ["hand", "plan", "stream", "k", "turn", "houses"] ["hand", "plan"] (defScope s_law_some_stream) := ⟨rfl, rfl, rfl, by decide +kernel, rfl, by decide +kernel, by decide +kernel⟩
abbrev s_law_side : Stmt := top 62
theorem sc_law_side : FnScope ["plan", "stream"] ["plan", "stream"] (defScope s_law_side) := ⟨rfl, rfl, rfl, by decide +kernel, rfl, by decide +kernel, by decide +kernel⟩
abbrev s_law_is_side : Stmt := top 63
theorem sc_law_is_side : FnScope ["plan", "thing", "k"] ["plan", "thing"] (defScope s_law_is_side) := ⟨rfl, rfl, rfl, by decide +kernel, rfl, by decide +kernel, by decide +kernel⟩
abbrev s_law_side_worth : Stmt := top 64
theorem sc_law_side_worth : FnScope ["plan", "side", "found", "one", "other"] ["plan", "side"] (defScope s_law_side_worth) := ⟨rfl, rfl, rfl, by decide +kernel, rfl, by decide +kernel, by decide +kernel⟩
abbrev s_law_sizes : Stmt := top 65
theorem sc_law_sizes : FnScope ["hand"] ["hand"] (defScope s_law_sizes) := ⟨rfl, rfl, rfl, by decide +kernel, rfl, by decide +kernel, by decide +kernel⟩
abbrev s_law_some_side : Stmt := top 66
theorem sc_law_some_side : FnScope ["hand", "plan", "found", "house"] ["hand", "plan"] (defScope s_law_some_side) := ⟨rfl, rfl, rfl, by decide +kernel, rfl, by decide +kernel, by decide +kernel⟩
abbrev s_law_bent_side : Stmt := top 67
theorem sc_law_bent_side : FnScope ["hand", "plan", "side", "menu", "k"] ["hand", "plan", "side"] (defScope s_law_bent_side) := ⟨rfl, rfl, rfl, by decide +kernel, rfl, by decide +kernel, by decide +kernel⟩
abbrev s_law : Stmt := top 68
theorem sc_law : FnScope ["script", "hand", "plan", "web", "best", "top", "k", "stream", "side", "due", "again", "thing", "units", "odd", "is_so"] ["script"] (defScope s_law) := ⟨rfl, rfl, rfl, by decide +kernel, rfl, by decide +kernel, by decide +kernel⟩
structure Bk (K : PySem.W.Frag) (mg : Str → Option Value) (T : Tx K mg) where
  BadWeb_init : Dm K T.c_BadWeb "__init__" "BadWeb.__init__" s_BadWeb_init ["self", "part"]
  NoStream_init : Dm K T.c_NoStream "__init__" "NoStream.__init__" s_NoStream_init ["self"]
  NoSide_init : Dm K T.c_NoSide "__init__" "NoSide.__init__" s_NoSide_init ["self"]
  is_int : Df K mg "is_int" s_is_int ["thing"]
  is_number : Df K mg "is_number" s_is_number ["thing"]
  is_number_below : Df K mg "is_number_below" s_is_number_below ["limit", "thing"]
  is_tuple_of : Df K mg "is_tuple_of" s_is_tuple_of ["many", "thing"]
  is_lot : Df K mg "is_lot" s_is_lot ["thing"]
  Web_init : Dm K T.c_Web "__init__" "Web.__init__" s_Web_init ["self", "many", "ties", "spring", "mouth"]
  Web_eq : Dm K T.c_Web "__eq__" "Web.__eq__" s_Web_eq ["self", "other"]
  check_many : Df K mg "_check_many" s_check_many ["many"]
  check_ties : Df K mg "_check_ties" s_check_ties ["many", "ties"]
  is_tie : Df K mg "_is_tie" s_is_tie ["many", "thing"]
  through : Df K mg "_through" s_through ["ties"]
  around : Df K mg "_around" s_around ["through", "house"]
  is_stream : Df K mg "is_stream" s_is_stream ["web", "thing"]
  fits : Df K mg "_fits" s_fits ["tie", "units"]
  gain : Df K mg "gain" s_gain ["web", "stream", "house"]
  check_stream : Df K mg "check_stream" s_check_stream ["web", "stream"]
  worth : Df K mg "worth" s_worth ["web", "stream"]
  room_each_way : Df K mg "room_each_way" s_room_each_way ["web", "stream"]
  reached : Df K mg "_reached" s_reached ["web", "free"]
  way_to_mouth : Df K mg "_way_to_mouth" s_way_to_mouth ["web", "ahead"]
  steps : Df K mg "_steps" s_steps ["way"]
  narrowest : Df K mg "_narrowest" s_narrowest ["free", "way"]
  most : Df K mg "most" s_most ["web"]
  is_side : Df K mg "_is_side" s_is_side ["web", "thing"]
  side_worth : Df K mg "side_worth" s_side_worth ["web", "side"]
  side_of : Df K mg "side_of" s_side_of ["web", "stream"]
  is_paper : Df K mg "is_paper" s_is_paper ["web", "stream", "thing"]
  law_hand : Df K mg "_law_hand" s_law_hand ["script"]
  law_take : Df K mg "_law_take" s_law_take ["hand", "many"]
  law_pick : Df K mg "_law_pick" s_law_pick ["hand", "things"]
  law_is_integer : Df K mg "_law_is_integer" s_law_is_integer ["thing"]
  law_is_within : Df K mg "_law_is_within" s_law_is_within ["thing", "least", "top"]
  law_same : Df K mg "_law_same" s_law_same ["actual", "due"]
  law_odd : Df K mg "_law_odd" s_law_odd ["hand"]
  law_units : Df K mg "_law_units" s_law_units ["hand", "span"]
  law_web : Df K mg "_law_web" s_law_web ["hand", "size"]
  law_web_of : Df K mg "_law_web_of" s_law_web_of ["plan"]
  law_near : Df K mg "_law_near" s_law_near ["plan", "house"]
  law_at : Df K mg "_law_at" s_law_at ["plan", "one", "other"]
  law_lets : Df K mg "_law_lets" s_law_lets ["plan", "one", "other"]
  law_flow : Df K mg "_law_flow" s_law_flow ["plan", "stream", "one", "other"]
  law_room : Df K mg "_law_room" s_law_room ["plan", "stream", "one", "other"]
  law_come : Df K mg "_law_come" s_law_come ["plan", "stream", "house"]
  law_reach : Df K mg "_law_reach" s_law_reach ["plan", "stream", "begin"]
  law_way : Df K mg "_law_way" s_law_way ["plan", "stream", "begin", "end"]
  law_sent : Df K mg "_law_sent" s_law_sent ["plan", "stream", "houses", "units"]
  law_least_room : Df K mg "_law_least_room" s_law_least_room ["plan", "stream", "houses"]
  law_greatest : Df K mg "_law_greatest" s_law_greatest ["plan"]
  law_worth : Df K mg "_law_worth" s_law_worth ["plan", "stream"]
  law_ring : Df K mg "_law_ring" s_law_ring ["hand", "plan", "stream"]
  law_some_stream : Df K mg "_law_some_stream" s_law_some_stream ["hand", "plan"]
  law_side : Df K mg "_law_side" s_law_side ["plan", "stream"]
  law_is_side : Df K mg "_law_is_side" s_law_is_side ["plan", "thing"]
  law_side_worth : Df K mg "_law_side_worth" s_law_side_worth ["plan", "side"]
  law_sizes : Df K mg "_law_sizes" s_law_sizes ["hand"]
  law_some_side : Df K mg "_law_some_side" s_law_some_side ["hand", "plan"]
  law_bent_side : Df K mg "_law_bent_side" s_law_bent_side ["hand", "plan", "side"]
  law : Df K mg "law" s_law ["script"]
theorem mk_of_dm {K : PySem.W.Frag} {mg : Str → Option Value} (T : Tx K mg) {q : Str} {st : Stmt} {ps : List Str} (D : Dm K T.c_Web "__init__" q st ps) : Mk K T.c_Web D.f := ⟨T.makes, D.a, D.i, T.keeps⟩
end Mw

/-! M2 -/
/-! The program's own defs. -/
namespace Mw
open PySem L2
/-- a judge of one thing that changes nothing -/
def spJ (C : Addr) (g : PyData → Bool) : Sp := fun vs H Q _ => ∃ p d x, vs = [x] ∧ Tp C p H d x ∧ Q (.bl (g d)) H
/-- a judge of an integer and a thing -/
def spJ2 (C : Addr) (g : Int → PyData → Bool) : Sp := fun vs H Q _ => ∃ p i d x, vs = [.int i, x] ∧ Tp C p H d x ∧ Q (.bl (g i d)) H
/-- an own error with a part is raised: it stands at a new place, all else as it was -/
def Raised (C : Addr) (part : V) (H : Hp) (E : XK) : Prop := ∀ e H', H e = none → Same H H' → H' e = some (.xd [(("part" : Str), part)]) → E (.ref C) (some e) H'
def spBadInit (C : Addr) : Sp := fun vs H Q _ => ∃ a v, vs = [.ref a, v] ∧ H a = some (exo a C none) ∧ ∀ dx, H dx = none → dx ≠ a → Q .non (upd (upd H dx (exd dx [(("part" : Str), v)])) a (exo a C (some dx)))
def spPass : Sp := fun vs H Q _ => ∃ a, vs = [.ref a] ∧ Q .non H
theorem bad_made {C : Addr} {H : Hp} {part : V} {Q : XK} (h : Raised C part H Q) : [part].length ≤ 1000 ∧ ∀ a, H a = none → spBadInit C (.ref a :: ([part] ++ [])) (upd H a (exo a C none))
    (fun v H2 => v = .non ∧ ∃ (d : Addr) (fs : List (Str × V)), H2 a = some (exo a C (some d)) ∧ H2 d = some (exd d fs) ∧ H d = none ∧ Q (.ref C) (some d) (upd (del H2 a) d (.xd fs))) (fun _ _ _ => False) := by
  refine ⟨Nat.le_of_ble_eq_true rfl, fun a ha => ⟨a, part, rfl, upd_same, fun dx hdx ne => ⟨rfl, dx, [(("part" : Str), part)], upd_same, ?_, ?_, ?_⟩⟩⟩
  · rw [upd_ne ne, upd_same]
  · rw [upd_ne ne] at hdx
    exact hdx
  · have hd0 : H dx = none := by
      rw [upd_ne ne] at hdx
      exact hdx
    refine h dx _ hd0 (fun b o hb => ?_) upd_same
    have n1 : b ≠ dx := ne_of_none hb hd0
    have n2 : b ≠ a := ne_of_none hb ha
    rw [upd_ne n1, del_ne n2, upd_ne n2, upd_ne n1, upd_ne n2]
    exact hb
theorem rd_ite {b : Bool} {A B : Prop} (h1 : b = true → A) (h0 : b = false → B) : if b = true then A else B := by
  cases b
  · rw [if_neg Bool.false_ne_true]
    exact h0 rfl
  · rw [if_pos rfl]
    exact h1 rfl
theorem rd_no {b : Bool} {A B : Prop} (e : b = false) (h : B) : if b = true then A else B := by
  rw [e]
  exact iteF h
theorem rd_yes {b : Bool} {A B : Prop} (e : b = true) (h : A) : if b = true then A else B := by
  rw [e]
  exact iteT h
def isTupN (n : Int) : PyData → Bool
  | .tuple ds => decide ((ds.length : Int) = n)
  | _ => false
def spTupOf (C : Addr) : Sp := fun vs H Q _ => ∃ p n d x, vs = [.int n, x] ∧ Tp C p H d x ∧ Q (.bl (isTupN n d)) H
def isNum : PyData → Bool | .int i => decide (0 ≤ i) | _ => false
def isNb (l : Int) : PyData → Bool | .int i => decide (0 ≤ i) && decide (i < l) | _ => false
section
variable {P : Program} {w : World} {K : PySem.W.Frag} {mg : Str → Option Value} {base : Heap}
local macro_rules | `(tactic| walk_at "rd") => `(tactic| (repeat (first
  | ((with_reducible refine' rd_var ?h0 ?_); (case h0 => rfl))
  | with_reducible refine rd_c ?_
  | with_reducible refine rd_op ?_
  | with_reducible refine rd_nil ?_
  | with_reducible refine rd_cons ?_
  | with_reducible refine rd_tup ?_
  | with_reducible refine rd_lst ?_
  | with_reducible refine rd_ifs ?_
  | with_reducible refine rd_seq ?_
  | with_reducible refine rd_next ?_
  | with_reducible refine rd_ret ?_
  | with_reducible refine rd_asg ?_
  | with_reducible refine rd_gname ?_
  | with_reducible refine rd_drop ?_
  | with_reducible refine rd_test ?_
  | with_reducible refine rd_B ?_
  | with_reducible refine rd_bl ?_
  | with_reducible refine rd_blP ?_
  | with_reducible refine rd_andV ?_
  | with_reducible refine rd_orV ?_
  | with_reducible refine rd_notV ?_
  | with_reducible refine rd_and ?_
  | with_reducible refine rd_or ?_
  | with_reducible refine rd_not ?_
  | with_reducible refine rd_cb ?_
  | with_reducible refine rd_call ?_
  | with_reducible refine rd_un ?_
  | with_reducible refine rd_sl ?_
  | with_reducible refine rd_nopart ?_
  | with_reducible refine rd_part ?_
  | with_reducible refine rd_intP ?_
  | with_reducible refine rd_rU ?_
  | with_reducible refine rd_fld ?_
  | with_reducible refine rd_eqI ?_
  | with_reducible refine rd_neI ?_
  | with_reducible refine rd_mko ?_
  | with_reducible refine rd_i0 ?_)))
theorem ok_is_int (T : Tx K mg) (B : Bk K mg T) : FnOk P w K mg base CX0 1 B.is_int.f B.is_int.fd ["thing"] (spJ T.c_Web isInt) := by
  refine B.is_int.F.ok sc_is_int (fun vs H Q E h => ?_) (fun cdv A outer s H vs Q E hr h => ?_)
  · obtain ⟨p, d, x, rfl, _⟩ := h
    rfl
  · obtain ⟨p, d, x, rfl, hd, q⟩ := h
    refine ⟨_, (pss_one (ps_ret (pe_and (pe_callB call_isi (by rfl) T.b_isinstance (by decide +kernel) (pa_cons (pv 0) (pa_cons (pe_bltn (v := .ty "int") (by rfl) T.b_int (by decide +kernel) rfl) pa_nil))) (pe_one (pe_not (pe_callB call_isi (by rfl) T.b_isinstance (by decide +kernel) (pa_cons (pv 0) (pa_cons (pe_bltn (v := .ty "bool") (by rfl) T.b_bool (by decide +kernel) rfl) pa_nil)))))))), ?_⟩
    walk_at "rd"
    refine tp_isI T.W hd ?_
    walk_at "rd"
    refine rd_ite (fun h1 => ?_) (fun h0 => ?_)
    · walk_at "rd"
      refine tp_isB T.W hd ?_
      walk_at "rd"
      have e : isInt d = !isB d := by cases d <;> simp_all [isI, isB, isInt]
      rw [e] at q
      exact q
    · have e : isInt d = false := by cases d <;> simp_all [isI, isB, isInt]
      rw [e] at q
      exact q
theorem ok_is_number (T : Tx K mg) (B : Bk K mg T) : FnOk P w K mg base CX0 2 B.is_number.f B.is_number.fd ["thing"] (spJ T.c_Web isNum) := by
  have G_is_int := ok_is_int (P := P) (w := w) (base := base) T B
  refine B.is_number.F.ok sc_is_number (fun vs H Q E h => ?_) (fun cdv A outer s H vs Q E hr h => ?_)
  · obtain ⟨p, d, x, rfl, _⟩ := h
    rfl
  · obtain ⟨p, d, x, rfl, hd, q⟩ := h
    refine ⟨_, (pss_one (ps_ret (pe_and (pe_call G_is_int (hr.mono (by decide)) rfl B.is_int.m B.is_int.F.kp B.is_int.b .nil pass0 (pa_cons (pv 0) pa_nil)) (pe_one (pe_cmpR op_ge (pv 0) pe_int (nomark _)))))), ?_⟩
    walk_at "rd"
    refine ⟨p, d, x, rfl, hd, ?_⟩
    walk_at "rd"
    refine rd_ite (fun h1 => ?_) (fun h0 => ?_)
    · cases d with
      | int i =>
        cases tp_int' hd
        walk_at "rd"
        exact q
      | _ => cases h1
    · have e : isNum d = false := by cases d <;> simp_all [isNum, isInt]
      rw [e] at q
      exact q
theorem ok_is_number_below (T : Tx K mg) (B : Bk K mg T) : FnOk P w K mg base CX0 3 B.is_number_below.f B.is_number_below.fd ["limit", "thing"] (spJ2 T.c_Web isNb) := by
  have G_is_number := ok_is_number (P := P) (w := w) (base := base) T B
  refine B.is_number_below.F.ok sc_is_number_below (fun vs H Q E h => ?_) (fun cdv A outer s H vs Q E hr h => ?_)
  · obtain ⟨p, i, d, x, rfl, _⟩ := h
    rfl
  · obtain ⟨p, i, d, x, rfl, hd, q⟩ := h
    refine ⟨_, (pss_one (ps_ret (pe_and (pe_call G_is_number (hr.mono (by decide)) rfl B.is_number.m B.is_number.F.kp B.is_number.b .nil pass0 (pa_cons (pv 1) pa_nil)) (pe_one (pe_cmpR op_lt (pv 1) (pv 0) (nomark _)))))), ?_⟩
    walk_at "rd"
    refine ⟨p, d, x, rfl, hd, ?_⟩
    walk_at "rd"
    refine rd_ite (fun h1 => ?_) (fun h0 => ?_)
    · cases d with
      | int j =>
        cases tp_int' hd
        walk_at "rd"
        have e : isNb i (.int j) = decide (j < i) := by simp_all [isNb, isNum]
        rw [e] at q
        exact q
      | _ => cases h1
    · have e : isNb i d = false := by
        cases d <;> simp_all [isNum, isNb]
        omega
      rw [e] at q
      exact q
theorem ok_is_tuple_of (T : Tx K mg) (B : Bk K mg T) : FnOk P w K mg base CX0 1 B.is_tuple_of.f B.is_tuple_of.fd ["many", "thing"] (spTupOf T.c_Web) := by
  refine B.is_tuple_of.F.ok sc_is_tuple_of (fun vs H Q E h => ?_) (fun cdv A outer s H vs Q E hr h => ?_)
  · obtain ⟨p, n, d, x, rfl, _⟩ := h
    rfl
  · obtain ⟨p, n, d, x, rfl, hd, q⟩ := h
    refine ⟨_, (pss_one (ps_ret (pe_and (pe_callB call_isi (by rfl) T.b_isinstance (by decide +kernel) (pa_cons (pv 1) (pa_cons (pe_bltn (v := .ty "tuple") (by rfl) T.b_tuple (by decide +kernel) rfl) pa_nil))) (pe_one (pe_cmpR op_eq (pe_callB call_len_seq (by rfl) T.b_len (by decide +kernel) (pa_cons (pv 1) pa_nil)) (pv 0) (nomark _)))))), ?_⟩
    walk_at "rd"
    refine tp_isT T.W hd ?_
    walk_at "rd"
    cases d with
    | tuple ds =>
      obtain ⟨c, ys, rfl, hc, hy⟩ := tp_tup' hd
      have hl := hy.len
      refine rd_yes rfl ?_
      walk_at "rd"
      refine ⟨c, ys, rfl, .inr (SqT.of hc.2), ?_⟩
      walk_at "rd"
      replace q : Q (.bl (decide ((ds.length : Int) = n))) H := q
      rw [hl] at q
      exact q
    | _ =>
      refine rd_no rfl ?_
      exact q
theorem ok_bad_init (T : Tx K mg) (B : Bk K mg T) : FnOk P w K mg base CX0 1 B.BadWeb_init.f B.BadWeb_init.fd ["self", "part"] (spBadInit T.c_BadWeb) := by
  refine B.BadWeb_init.F.ok sc_BadWeb_init (fun vs H Q E h => ?_) (fun cdv A outer s H vs Q E hr h => ?_)
  · obtain ⟨a, v, rfl, _⟩ := h
    rfl
  · obtain ⟨a, v, rfl, ha, q⟩ := h
    refine ⟨_, (pss_one (ps_ost (pv 0) (pv 1))), ?_⟩
    exact ⟨v, rfl, .ref a, rfl, a, T.c_BadWeb, rfl, T.x_BadWeb, T.na_part, .inl ⟨ha, q⟩⟩
/-- a judge that raises an own error with a part -/
def spCk (C CB : Addr) (g : PyData → Bool) (part : V) : Sp := fun vs H Q E => ∃ p d x, vs = [x] ∧ Tp C p H d x ∧ (g d = true → Q .non H) ∧ (g d = false → Raised CB part H E)
theorem ok_check_many (T : Tx K mg) (B : Bk K mg T) : FnOk P w K mg base (L2.CX P w) 4 B.check_many.f B.check_many.fd ["many"] (spCk T.c_Web T.c_BadWeb (inI 2 10) (.str "many")) := by
  have G_is_number_below := ok_is_number_below (P := P) (w := w) (base := base) T B
  have G_BadWeb_init := ok_bad_init (P := P) (w := w) (base := base) T B
  refine B.check_many.F.okX sc_check_many (fun vs H Q E h => ?_) (fun cdv A outer s H vs Q E hr h => ?_)
  · obtain ⟨p, d, x, rfl, _⟩ := h
    rfl
  · obtain ⟨p, d, x, rfl, hd, q1, q0⟩ := h
    refine ⟨_, (pss_one (ps_if (PW.pt (pw_or (pt_not (pt_val (pe_call G_is_number_below (hr.mono (by decide)) rfl B.is_number_below.m B.is_number_below.F.kp B.is_number_below.b .nil pass0 (pa_cons (pe_op op_add (pe_glob (v := .int 10) (by rfl) T.g_MOST_HOUSES ⟨_, rfl⟩) pe_int) (pa_cons (pv 0) pa_nil))))) (pw_or1 (pt_cmpR op_lt (pv 0) (pe_glob (v := .int 2) (by rfl) T.g_FEWEST_HOUSES ⟨_, rfl⟩) (nomark _))))) (pss_one (ps_raise rfl (takes_of rfl rfl rfl rfl) (pmk_oex T.x_BadWeb B.BadWeb_init.a B.BadWeb_init.t G_BadWeb_init (hr.mono (by decide)) B.BadWeb_init.b .nil pass0 rfl T.g_BadWeb (pa_cons pe_str pa_nil)))) pss_nil)), ?_⟩
    have fin : inI 2 10 d = false → Raised T.c_BadWeb (.str "many") H E := q0
    walk_at "rd"
    refine ⟨p, _, d, x, rfl, hd, ?_⟩
    walk_at "rd"
    refine rd_ite (fun h1 => ?_) (fun h0 => ?_)
    · refine rd_ite (fun _ => ?_) (fun z => by cases z)
      refine bad_made (fin ?_)
      cases d <;> simp_all [isNb, inI]
      omega
    · cases d with
      | int i =>
        cases tp_int' hd
        walk_at "rd"
        refine rd_ite (fun h2 => ?_) (fun h2 => ?_)
        · refine bad_made (fin ?_)
          simp_all [isNb, inI]
          omega
        · refine q1 ?_
          simp_all [isNb, inI]
          omega
      | _ => cases h0
end
end Mw

/-! M3 -/
namespace Mw
open PySem L2
theorem tpAll4 {C p : Addr} {H : Hp} {a b c d : PyData} {xs : List V} (h : TpAll C p H [a, b, c, d] xs) : ∃ x y z u, xs = [x, y, z, u] ∧ Tp C p H a x ∧ Tp C p H b y ∧ Tp C p H c z ∧ Tp C p H d u := by
  simp only [TpAll] at h
  obtain ⟨x, _, rfl, h1, y, _, rfl, h2, z, _, rfl, h3, u, _, rfl, h4, rfl⟩ := h
  exact ⟨x, y, z, u, rfl, h1, h2, h3, h4⟩
def nbOf (b a : PyData) : Bool := match b with | .int j => isNb j a | _ => false
/-- a tie by its form -/
def tieOk (m : Int) : PyData → Bool
  | .tuple [a, b, t, k] => isNb m b && (nbOf b a && (isNb 1000000 t && isNb 1000000 k))
  | _ => false
def le2 (a b c d : Int) : Bool := if a = c then decide (b ≤ d) else decide (a ≤ c)
def pairLe : PyData → PyData → Bool
  | .tuple (.int a :: .int b :: _), .tuple (.int c :: .int d :: _) => le2 a b c d
  | _, _ => false
/-- the tie at k is none, or not above the one ahead -/
def badAt (m : Int) (ds : List PyData) (k : Nat) : Bool := match ds[k]? with
  | some d => !tieOk m d || (decide (0 < k) && (match ds[k - 1]? with | some e => pairLe d e | none => false))
  | none => true
theorem tieOk_form {m : Int} {d : PyData} (h : tieOk m d = true) : ∃ a b t k : Int, d = .tuple [.int a, .int b, .int t, .int k] ∧ 0 ≤ a ∧ a < b ∧ b < m ∧ 0 ≤ t ∧ t < 1000000 ∧ 0 ≤ k ∧ k < 1000000 := by
  unfold tieOk at h
  split at h
  · rename_i a b t k
    simp only [Bool.and_eq_true] at h
    obtain ⟨h1, h2, h3, h4⟩ := h
    cases b <;> simp [isNb, nbOf] at h1 h2
    cases a <;> simp [isNb] at h2
    cases t <;> simp [isNb] at h3
    cases k <;> simp [isNb] at h4
    exact ⟨_, _, _, _, rfl, h2.1, h2.2, h1.2, h3.1, h3.2, h4.1, h4.2⟩
  · cases h
section
variable {P : Program} {w : World} {K : PySem.W.Frag} {mg : Str → Option Value} {base : Heap}
theorem rd_sl2 {H : Hp} {Q : VK} {a : Addr} {x y z u : V} (h : SqT K H a [x, y, z, u]) (q : ∀ p, H p = none → Q (.ref p) (upd H p (.tup [x, y]))) : rSlA K (.ref a) none (some 2) H Q :=
  ⟨a, _, rfl, h, fun e => absurd e.2 (show ¬ (HT.sIx 4 4 (some 2) = 4) by decide), fun _ p hp => q p hp⟩
theorem rd_le2 {H : Hp} {Q : VK} {s t : Addr} {a b c d : Int} (h1 : SqT K H s [.int a, .int b]) (h2 : SqT K H t [.int c, .int d]) (q : Q (.bl (le2 a b c d)) H) : rLeT K (.ref s) (.ref t) H Q := by
  refine ⟨s, t, [a, b], [c, d], rfl, rfl, h1, h2, ?_⟩
  have e : Ob.lexAt (fun j => decide ([a, b].getD j 0 = [c, d].getD j 0)) (fun j => decide ([a, b].getD j 0 ≤ [c, d].getD j 0)) (decide ([a, b].length ≤ [c, d].length)) 0 (min [a, b].length [c, d].length) = le2 a b c d := by
    show (if decide (a = c) = true then (if decide (b = d) = true then true else decide (b ≤ d)) else decide (a ≤ c)) = le2 a b c d
    unfold le2
    by_cases h : a = c
    · simp only [h, decide_true, if_true]
      by_cases g : b = d
      · simp [g]
      · simp [g]
    · simp [h]
  rw [e]
  exact q
local macro_rules | `(tactic| walk_at "rd") => `(tactic| (repeat (first
  | ((with_reducible refine' rd_var ?h0 ?_); (case h0 => rfl))
  | with_reducible refine rd_c ?_
  | with_reducible refine rd_op ?_
  | with_reducible refine rd_nil ?_
  | with_reducible refine rd_cons ?_
  | with_reducible refine rd_tup ?_
  | with_reducible refine rd_lst ?_
  | with_reducible refine rd_ifs ?_
  | with_reducible refine rd_seq ?_
  | with_reducible refine rd_next ?_
  | with_reducible refine rd_ret ?_
  | with_reducible refine rd_asg ?_
  | with_reducible refine rd_gname ?_
  | with_reducible refine rd_drop ?_
  | with_reducible refine rd_test ?_
  | with_reducible refine rd_B ?_
  | with_reducible refine rd_bl ?_
  | with_reducible refine rd_blP ?_
  | with_reducible refine rd_andV ?_
  | with_reducible refine rd_orV ?_
  | with_reducible refine rd_notV ?_
  | with_reducible refine rd_and ?_
  | with_reducible refine rd_or ?_
  | with_reducible refine rd_not ?_
  | with_reducible refine rd_cb ?_
  | with_reducible refine rd_call ?_
  | with_reducible refine rd_un ?_
  | with_reducible refine rd_sl ?_
  | with_reducible refine rd_nopart ?_
  | with_reducible refine rd_part ?_
  | with_reducible refine rd_intP ?_
  | with_reducible refine rd_rU ?_
  | with_reducible refine rd_fld ?_
  | with_reducible refine rd_eqI ?_
  | with_reducible refine rd_neI ?_
  | with_reducible refine rd_mko ?_
  | with_reducible refine rd_i0 ?_)))
theorem ok_is_tie (T : Tx K mg) (B : Bk K mg T) : FnOk P w K mg base CX0 4 B.is_tie.f B.is_tie.fd ["many", "thing"] (spJ2 T.c_Web tieOk) := by
  have G_is_number_below := ok_is_number_below (P := P) (w := w) (base := base) T B
  have G_is_tuple_of := ok_is_tuple_of (P := P) (w := w) (base := base) T B
  refine B.is_tie.F.ok sc_is_tie (fun vs H Q E h => ?_) (fun cdv A outer s H vs Q E hr h => ?_)
  · obtain ⟨p, i, d, x, rfl, _⟩ := h
    rfl
  · obtain ⟨p, m, d, x, rfl, hd, q⟩ := h
    refine ⟨_, (pss_cons (ps_if (pt_not (pt_val (pe_call G_is_tuple_of (hr.mono (by decide)) rfl B.is_tuple_of.m B.is_tuple_of.F.kp B.is_tuple_of.b .nil pass0 (pa_cons pe_int (pa_cons (pv 1) pa_nil))))) (pss_one (ps_ret pe_bl)) pss_nil)
      (pss_cons (ps_asg (pv 1) (pg_tup (by rfl) (pgs_cons (pg_name (i := 2) sc_is_tie.nd rfl (Or.inl rfl)) (pgs_cons (pg_name (i := 3) sc_is_tie.nd rfl (Or.inl rfl)) (pgs_cons (pg_name (i := 4) sc_is_tie.nd rfl (Or.inl rfl)) (pgs_cons (pg_name (i := 5) sc_is_tie.nd rfl (Or.inl rfl)) pgs_nil))))))
      (pss_one (ps_ret (pe_and (pe_call G_is_number_below (hr.mono (by decide)) rfl B.is_number_below.m B.is_number_below.F.kp B.is_number_below.b .nil pass0 (pa_cons (pv 0) (pa_cons (pv 3) pa_nil))) (pe_and (pe_call G_is_number_below (hr.mono (by decide)) rfl B.is_number_below.m B.is_number_below.F.kp B.is_number_below.b .nil pass0 (pa_cons (pv 3) (pa_cons (pv 2) pa_nil))) (pe_and (pe_call G_is_number_below (hr.mono (by decide)) rfl B.is_number_below.m B.is_number_below.F.kp B.is_number_below.b .nil pass0 (pa_cons (pe_glob (v := .int 1000000) (by rfl) T.g_LETS_LIMIT ⟨_, rfl⟩) (pa_cons (pv 4) pa_nil))) (pe_one (pe_call G_is_number_below (hr.mono (by decide)) rfl B.is_number_below.m B.is_number_below.F.kp B.is_number_below.b .nil pass0 (pa_cons (pe_glob (v := .int 1000000) (by rfl) T.g_LETS_LIMIT ⟨_, rfl⟩) (pa_cons (pv 5) pa_nil))))))))))), ?_⟩
    have no : tieOk m d = false → Q (.bl false) H := fun e => by
      rw [e] at q
      exact q
    walk_at "rd"
    refine ⟨p, 4, d, x, rfl, hd, ?_⟩
    walk_at "rd"
    refine rd_ite (fun h1 => ?_) (fun h0 => ?_)
    · walk_at "rd"
      refine no ?_
      have h1' : isTupN 4 d = false := by simpa using h1
      unfold tieOk
      split
      · simp [isTupN] at h1'
      · rfl
    · cases d with
      | tuple ds =>
        obtain ⟨a, xs, rfl, ha, hx⟩ := tp_tup' hd
        · have h4 : ds.length = 4 := by
            have h0' : isTupN 4 (.tuple ds) = true := by simpa using h0
            have := of_decide_eq_true h0'
            omega
          obtain ⟨d1, d2, d3, d4, rfl⟩ : ∃ a b c d, ds = [a, b, c, d] := by
            match ds, h4 with
            | [a, b, c, d], _ => exact ⟨a, b, c, d, rfl⟩
          obtain ⟨x1, x2, x3, x4, rfl, t1, t2, t3, t4⟩ := tpAll4 hx
          walk_at "rd"
          refine ⟨a, _, rfl, SqT.of ha.2, rfl, _, _, rfl, _, _, rfl, _, _, rfl, _, _, rfl, rfl, ?_⟩
          walk_at "rd"
          refine ⟨p, m, d2, x2, rfl, t2, ?_⟩
          walk_at "rd"
          have e : tieOk m (.tuple [d1, d2, d3, d4]) = (isNb m d2 && (nbOf d2 d1 && (isNb 1000000 d3 && isNb 1000000 d4))) := rfl
          rw [e] at q
          refine rd_ite (fun h1 => ?_) (fun h0 => ?_)
          · rw [h1] at q
            cases d2 with
            | int j =>
              cases tp_int' t2
              walk_at "rd"
              refine ⟨p, j, d1, x1, rfl, t1, ?_⟩
              walk_at "rd"
              refine rd_ite (fun h2 => ?_) (fun h2 => ?_)
              · walk_at "rd"
                refine ⟨p, _, d3, x3, rfl, t3, ?_⟩
                walk_at "rd"
                have e2 : nbOf (.int j) d1 = true := h2
                simp only [e2] at q
                refine rd_ite (fun h3 => ?_) (fun h3 => ?_)
                · walk_at "rd"
                  refine ⟨p, _, d4, x4, rfl, t4, ?_⟩
                  simp only [h3] at q
                  exact q
                · simp only [h3] at q
                  exact q
              · have e2 : nbOf (.int j) d1 = false := h2
                simp only [e2] at q
                exact q
            | _ => cases h1
          · rw [h0] at q
            exact q
      | _ => cases h0
end
end Mw

/-! M4 -/
namespace Mw
open PySem L2
theorem Raised.mono {C : Addr} {part : V} {H H1 : Hp} {E : XK} (s : Same H H1) (h : Raised C part H E) : Raised C part H1 E := fun e H' n s' x => h e H' (s.free n) (s.trans s') x
/-- the first tie that is bad, -1 for no tuple -/
def tiesBad (m : Int) : PyData → Option Int
  | .tuple ds => ((List.range ds.length).find? (badAt m ds)).map fun k => ((k : Nat) : Int)
  | _ => some (-1)
theorem find_range {n : Nat} {f : Nat → Bool} {k : Nat} (hk : k < n) (h1 : f k = true) (h0 : ∀ j, j < k → f j = false) : (List.range n).find? f = some k := by
  rw [List.find?_eq_some_iff_getElem]
  refine ⟨h1, k, by simpa using hk, by simp, fun j hj => ?_⟩
  simp [h0 j hj]
theorem find_range_none {n : Nat} {f : Nat → Bool} (h0 : ∀ j, j < n → f j = false) : (List.range n).find? f = none := by
  rw [List.find?_eq_none]
  intro j hj
  rw [h0 j (by simpa using hj)]
  decide
/-- a judge of an integer and a thing that may raise an own error with a part -/
def spCk2 (C CB : Addr) (g : Int → PyData → Option Int) : Sp := fun vs H Q E => ∃ p m d x, vs = [.int m, x] ∧ Tp C p H d x ∧ (g m d = none → ∀ H', Same H H' → Q .non H') ∧ (∀ k, g m d = some k → Raised CB (.int k) H E)
section
variable {P : Program} {w : World} {K : PySem.W.Frag} {mg : Str → Option Value} {base : Heap}
local macro_rules | `(tactic| walk_at "rd") => `(tactic| (repeat (first
  | ((with_reducible refine' rd_var ?h0 ?_); (case h0 => rfl))
  | with_reducible refine rd_c ?_
  | with_reducible refine rd_op ?_
  | with_reducible refine rd_nil ?_
  | with_reducible refine rd_cons ?_
  | with_reducible refine rd_tup ?_
  | with_reducible refine rd_lst ?_
  | with_reducible refine rd_ifs ?_
  | with_reducible refine rd_seq ?_
  | with_reducible refine rd_next ?_
  | with_reducible refine rd_ret ?_
  | with_reducible refine rd_asg ?_
  | with_reducible refine rd_gname ?_
  | with_reducible refine rd_drop ?_
  | with_reducible refine rd_test ?_
  | with_reducible refine rd_B ?_
  | with_reducible refine rd_bl ?_
  | with_reducible refine rd_blP ?_
  | with_reducible refine rd_andV ?_
  | with_reducible refine rd_orV ?_
  | with_reducible refine rd_notV ?_
  | with_reducible refine rd_and ?_
  | with_reducible refine rd_or ?_
  | with_reducible refine rd_not ?_
  | with_reducible refine rd_cb ?_
  | with_reducible refine rd_call ?_
  | with_reducible refine rd_un ?_
  | with_reducible refine rd_sl ?_
  | with_reducible refine rd_nopart ?_
  | with_reducible refine rd_part ?_
  | with_reducible refine rd_intP ?_
  | with_reducible refine rd_rU ?_
  | with_reducible refine rd_fld ?_
  | with_reducible refine rd_eqI ?_
  | with_reducible refine rd_neI ?_
  | with_reducible refine rd_mko ?_
  | with_reducible refine rd_i0 ?_)))
theorem ok_check_ties (T : Tx K mg) (B : Bk K mg T) : FnOk P w K mg base (L2.CX P w) 6 B.check_ties.f B.check_ties.fd ["many", "ties"] (spCk2 T.c_Web T.c_BadWeb tiesBad) := by
  have G_is_tie := ok_is_tie (P := P) (w := w) (base := base) T B
  have G_BadWeb_init := ok_bad_init (P := P) (w := w) (base := base) T B
  refine B.check_ties.F.okX sc_check_ties (fun vs H Q E h => ?_) (fun cdv A outer s H vs Q E hr h => ?_)
  · obtain ⟨p, m, d, x, rfl, _⟩ := h
    rfl
  · obtain ⟨p, m, d, x, rfl, hd, q1, q0⟩ := h
    refine ⟨_, (pss_cons (ps_if (pt_not (pt_val (pe_callB call_isi (by rfl) T.b_isinstance (by decide +kernel) (pa_cons (pv 1) (pa_cons (pe_bltn (v := .ty "tuple") (by rfl) T.b_tuple (by decide +kernel) rfl) pa_nil))))) (pss_one (ps_raise rfl (takes_of rfl rfl rfl rfl) (pmk_oex T.x_BadWeb B.BadWeb_init.a B.BadWeb_init.t G_BadWeb_init (hr.mono (by decide)) B.BadWeb_init.b .nil pass0 rfl T.g_BadWeb (pa_cons (pe_un un_neg pe_int) pa_nil)))) pss_nil)
      (pss_one (ps_for (passes_of rfl) rfl (pi_enumT (by rfl) T.b_enumerate (pa_cons (pv 1) pa_nil)) (pg_tup (by rfl) (pgs_cons (pg_name (i := 2) sc_check_ties.nd rfl (Or.inl rfl)) (pgs_cons (pg_name (i := 3) sc_check_ties.nd rfl (Or.inl rfl)) pgs_nil))) (pss_one (ps_if (PW.pt (pw_or (pt_not (pt_val (pe_call G_is_tie (hr.mono (by decide)) rfl B.is_tie.m B.is_tie.F.kp B.is_tie.b .nil pass0 (pa_cons (pv 0) (pa_cons (pv 3) pa_nil))))) (pw_or1 (PW.pt (pw_and (pt_cmpR op_gt (pv 2) pe_int (nomark _)) (pw_and1 (pt_cmpR (op_leT hr.units0) (pe_slice sl_tupA (pv 3) po_none (po_some pe_int)) (pe_slice sl_tupA (pe_ix ix_tup (pv 1) (pe_op op_sub (pv 2) pe_int) (fun _ _ => rfl)) po_none (po_some pe_int)) (nomark _)))))))) (pss_one (ps_raise rfl (takes_of rfl rfl rfl rfl) (pmk_oex T.x_BadWeb B.BadWeb_init.a B.BadWeb_init.t G_BadWeb_init (hr.mono (by decide)) B.BadWeb_init.b .nil pass0 rfl T.g_BadWeb (pa_cons (pv 2) pa_nil)))) pss_nil))))), ?_⟩
    walk_at "rd"
    refine tp_isT T.W hd ?_
    walk_at "rd"
    refine rd_ite (fun h1 => ?_) (fun h0 => ?_)
    · walk_at "rd"
      refine bad_made (q0 (-1) ?_)
      cases d <;> simp_all [isT, tiesBad]
    · cases d with
      | tuple ds =>
        obtain ⟨a, xs, rfl, ha, hx⟩ := tp_tup' hd
        walk_at "rd"
        have hl := hx.len
        refine ⟨_, rfl, a, xs, rfl, SqT.of ha.2, for_enumT (K := K) (a := a) (xs := xs) (fun i σ H' => Same H H' ∧ (∀ j, j < i → badAt m ds j = false) ∧ ∃ v u, σ = [some (.int m), some (.ref a), v, u]) ⟨Same.refl H, fun j hj => absurd hj (Nat.not_lt_zero j), _, _, rfl⟩ ?_ ?_ ?_⟩
        · rintro i σ H' ⟨hs, _⟩
          exact SqT.of (hs _ _ ha.2)
        · rintro i y U σ H' hi ⟨hs, hb, v, u, rfl⟩ hU
          obtain ⟨d1, hd1, ht1⟩ := hx.get' hi
          have hs2 : Same H (upd H' U (.tup [.int (i : Nat), y])) := hs.trans (fun b o e => (upd_ne (ne_of_none e hU)).trans e)
          have ht2 := Tp.keep (Keep.same hs2) _ _ ht1
          refine ⟨U, _, rfl, SqT.of upd_same, rfl, _, _, rfl, _, _, rfl, rfl, ?_⟩
          walk_at "rd"
          refine ⟨p, m, d1, y, rfl, ht2, ?_⟩
          walk_at "rd"
          have hlt : i < ds.length := (List.getElem?_eq_some_iff.mp hd1).1
          have go : badAt m ds i = false → Same H (upd H' U (.tup [.int (i : Nat), y])) → ∀ j, j < i + 1 → badAt m ds j = false := fun e _ j hj => by
            rcases Nat.lt_succ_iff_lt_or_eq.mp hj with z | z
            · exact hb j z
            · rw [z]
              exact e
          have bad : ∀ H2, Same H H2 → badAt m ds i = true → Raised T.c_BadWeb (.int (i : Nat)) H2 E := fun H2 s2 e => by
            refine Raised.mono s2 (q0 _ ?_)
            show ((List.range ds.length).find? (badAt m ds)).map _ = _
            rw [find_range hlt e hb]
            rfl
          refine rd_ite (fun h1 => ?_) (fun h0 => ?_)
          · refine rd_ite (fun _ => ?_) (fun z => by cases z)
            walk_at "rd"
            refine bad_made (bad _ hs2 ?_)
            unfold badAt
            rw [hd1]
            simp only [h1, Bool.true_or]
          · have ok1 : tieOk m d1 = true := by simpa using h0
            walk_at "rd"
            refine rd_ite (fun h2 => ?_) (fun h2 => ?_)
            · have hpos : 0 < i := by
                have z : (0 : Int) < (i : Int) := by simpa using h2
                omega
              obtain ⟨j, rfl⟩ : ∃ j, i = j + 1 := ⟨i - 1, by omega⟩
              have hbj : badAt m ds j = false := hb j (Nat.lt_succ_self j)
              have hj : j < ds.length := by omega
              have hdj : ds[j]? = some ds[j] := by simp [hj]
              obtain ⟨yj, hyj, htj⟩ := hx.get hdj
              have okj : tieOk m ds[j] = true := by
                unfold badAt at hbj
                rw [hdj] at hbj
                simp only [Bool.or_eq_false_iff] at hbj
                simpa using hbj.1
              obtain ⟨a1, b1, t1, k1, e1, _⟩ := tieOk_form ok1
              obtain ⟨a2, b2, t2, k2, e2, _⟩ := tieOk_form okj
              subst e1
              rw [e2] at htj
              obtain ⟨c1, z1, rfl, hc1, hz1⟩ := tp_tup' ht2
              obtain ⟨c2, z2, rfl, hc2, hz2⟩ := tp_tup' (Tp.keep (Keep.same hs2) _ _ htj)
              obtain ⟨_, _, _, _, rfl, f1, f2, f3, f4⟩ := tpAll4 hz1
              obtain ⟨_, _, _, _, rfl, g1, g2, g3, g4⟩ := tpAll4 hz2
              cases tp_int' f1
              cases tp_int' f2
              cases tp_int' g1
              cases tp_int' g2
              walk_at "rd"
              refine rd_sl2 (SqT.of hc1.2) (fun p1 hp1 => ?_)
              walk_at "rd"
              have s3 := same_new (o := HO.tup [V.int a1, V.int b1]) hp1
              refine ⟨a, xs, _, .ref c2, rfl, rfl, SqT.of (s3 _ _ (hs2 _ _ ha.2)), at_of (j := j) (by omega) hyj, ?_⟩
              walk_at "rd"
              refine rd_sl2 (SqT.of (s3 _ _ hc2.2)) (fun p2 hp2 => ?_)
              have n12 : p1 ≠ p2 := ne_of_none upd_same hp2
              refine rd_le2 (SqT.of ((upd_ne n12).trans upd_same)) (SqT.of upd_same) ?_
              walk_at "rd"
              have s4 := s3.trans (same_new (o := HO.tup [V.int a2, V.int b2]) hp2)
              have hs4 := hs2.trans s4
              have eb : badAt m ds (j + 1) = le2 a1 b1 a2 b2 := by
                unfold badAt
                rw [hd1]
                simp only [ok1, Nat.add_sub_cancel, hdj, e2]
                simp [pairLe]
              refine rd_ite (fun h3 => ?_) (fun h3 => ?_)
              · walk_at "rd"
                exact bad_made (bad _ hs4 (by rw [eb]; exact h3))
              · refine ⟨hs4, go (by rw [eb]; exact h3) hs2, _, _, rfl⟩
            · have hz : i = 0 := by
                have z : ¬ ((0 : Int) < (i : Int)) := by simpa using h2
                omega
              refine ⟨hs2, go ?_ hs2, _, _, rfl⟩
              unfold badAt
              rw [hd1]
              simp [ok1, hz]
        · rintro σ H' ⟨hs, hb, v, u, rfl⟩
          refine q1 ?_ H' hs
          show ((List.range ds.length).find? (badAt m ds)).map _ = none
          rw [find_range_none (fun j hj => hb j (by omega))]
          rfl
      | _ => cases h0
end
end Mw

/-! M5 -/
namespace Mw
open PySem L2
def wf4 (v1 v2 v3 v4 : V) : List (Str × V) := [("many", v1), ("ties", v2), ("spring", v3), ("mouth", v4)]
theorem wf_put (v1 v2 v3 v4 : V) : putF "mouth" v4 (putF "spring" v3 (putF "ties" v2 (putF "many" v1 []))) = wf4 v1 v2 v3 v4 := by
  have a1 : ¬ (("many" : Str) = "ties") := by decide +kernel
  have a2 : ¬ (("many" : Str) = "spring") := by decide +kernel
  have a3 : ¬ (("many" : Str) = "mouth") := by decide +kernel
  have a4 : ¬ (("ties" : Str) = "spring") := by decide +kernel
  have a5 : ¬ (("ties" : Str) = "mouth") := by decide +kernel
  have a6 : ¬ (("spring" : Str) = "mouth") := by decide +kernel
  simp only [putF, a1, a2, a3, a4, a5, a6, if_false, wf4]
def wf5 (v1 v2 v3 v4 v5 : V) : List (Str × V) := [("many", v1), ("ties", v2), ("spring", v3), ("mouth", v4), ("through", v5)]
def wf (v1 v2 v3 v4 v5 v6 : V) : List (Str × V) := [("many", v1), ("ties", v2), ("spring", v3), ("mouth", v4), ("through", v5), ("around", v6)]
theorem wf_put5 (v1 v2 v3 v4 v5 : V) : putF "through" v5 (wf4 v1 v2 v3 v4) = wf5 v1 v2 v3 v4 v5 := by
  have a1 : ¬ (("many" : Str) = "through") := by decide +kernel
  have a2 : ¬ (("ties" : Str) = "through") := by decide +kernel
  have a3 : ¬ (("spring" : Str) = "through") := by decide +kernel
  have a4 : ¬ (("mouth" : Str) = "through") := by decide +kernel
  simp only [putF, a1, a2, a3, a4, if_false, wf4, wf5]
theorem wf_put6 (v1 v2 v3 v4 v5 v6 : V) : putF "around" v6 (wf5 v1 v2 v3 v4 v5) = wf v1 v2 v3 v4 v5 v6 := by
  have a1 : ¬ (("many" : Str) = "around") := by decide +kernel
  have a2 : ¬ (("ties" : Str) = "around") := by decide +kernel
  have a3 : ¬ (("spring" : Str) = "around") := by decide +kernel
  have a4 : ¬ (("mouth" : Str) = "around") := by decide +kernel
  have a5 : ¬ (("through" : Str) = "around") := by decide +kernel
  simp only [putF, a1, a2, a3, a4, a5, if_false, wf5, wf]
section
variable (v1 v2 v3 v4 v5 v6 : V)
theorem wf5_through : (wf5 v1 v2 v3 v4 v5).lookup ("through" : Str) = some v5 := rfl
theorem wf_many : (wf v1 v2 v3 v4 v5 v6).lookup ("many" : Str) = some v1 := rfl
theorem wf_ties : (wf v1 v2 v3 v4 v5 v6).lookup ("ties" : Str) = some v2 := rfl
theorem wf_spring : (wf v1 v2 v3 v4 v5 v6).lookup ("spring" : Str) = some v3 := rfl
theorem wf_mouth : (wf v1 v2 v3 v4 v5 v6).lookup ("mouth" : Str) = some v4 := rfl
theorem wf_through : (wf v1 v2 v3 v4 v5 v6).lookup ("through" : Str) = some v5 := rfl
theorem wf_around : (wf v1 v2 v3 v4 v5 v6).lookup ("around" : Str) = some v6 := rfl
end
theorem putF_le (f : Str) (v : V) : ∀ l : List (Str × V), (putF f v l).length ≤ l.length + 1
  | [] => Nat.le_refl 1
  | (g, x) :: r => by
    show (if g = f then (g, v) :: r else (g, x) :: putF f v r).length ≤ _
    by_cases h : g = f
    · rw [if_pos h]
      simp
    · rw [if_neg h]
      have := putF_le f v r
      simp only [List.length_cons]
      omega
theorem putF_2 (f g : Str) (v u : V) : (putF f v (putF g u [])).length < 1000 := by
  have h1 := putF_le f v (putF g u [])
  have h2 := putF_le g u []
  simp only [List.length_nil] at h2
  omega
theorem putF_3 (f g k : Str) (v u x : V) : (putF f v (putF g u (putF k x []))).length < 1000 := by
  have h1 := putF_le f v (putF g u (putF k x []))
  have h2 := putF_le g u (putF k x [])
  have h3 := putF_le k x []
  simp only [List.length_nil] at h3
  omega
def sameI : PyData → PyData → Bool | .int a, .int b => decide (a = b) | _, _ => false
/-- the part that is wrong first -/
def webBad (s t sp mo : PyData) : Option V := match s with
  | .int m => if inI 2 10 s = true then (match tiesBad m t with
    | some k => some (.int k)
    | none => if isNb m sp = true then (if isNb m mo = true then (if sameI mo sp = true then some (.str "mouth") else none) else some (.str "mouth")) else some (.str "spring")) else some (.str "many")
  | _ => some (.str "many")
end Mw

/-! M6 -/
namespace Mw
open PySem L2
abbrev Tie := Int × Int × Int × Int
def tieD (q : Tie) : PyData := .tuple [.int q.1, .int q.2.1, .int q.2.2.1, .int q.2.2.2]
/-- a right web by its parts -/
def Right (m : Int) (L : List Tie) (sp mo : Int) : Prop := webBad (.int m) (.tuple (L.map tieD)) (.int sp) (.int mo) = none
def TieIn (m : Int) (q : Tie) : Prop := 0 ≤ q.1 ∧ q.1 < q.2.1 ∧ q.2.1 < m ∧ 0 ≤ q.2.2.1 ∧ q.2.2.1 < 1000000 ∧ 0 ≤ q.2.2.2 ∧ q.2.2.2 < 1000000
theorem tieD_in {m : Int} {q : Tie} : tieOk m (tieD q) = true ↔ TieIn m q := by
  obtain ⟨a, b, t, k⟩ := q
  simp only [tieD, tieOk, isNb, nbOf, TieIn, Bool.and_eq_true, decide_eq_true_eq]
  omega
theorem tieOk_D {m : Int} {d : PyData} (h : tieOk m d = true) : ∃ q, d = tieD q ∧ TieIn m q := by
  obtain ⟨a, b, t, k, rfl, hh⟩ := tieOk_form h
  exact ⟨(a, b, t, k), rfl, by
    simp only [TieIn]
    omega⟩
theorem all_tieD {m : Int} : ∀ ds : List PyData, (∀ d ∈ ds, tieOk m d = true) → ∃ L : List Tie, ds = L.map tieD ∧ ∀ q ∈ L, TieIn m q
  | [], _ => ⟨[], rfl, by simp⟩
  | d :: ds, h => by
    obtain ⟨q, rfl, hq⟩ := tieOk_D (h d (by simp))
    obtain ⟨L, rfl, hL⟩ := all_tieD ds (fun e he => h e (by simp [he]))
    exact ⟨q :: L, rfl, fun r hr => by
      rcases List.mem_cons.mp hr with z | z
      · rw [z]
        exact hq
      · exact hL r z⟩
theorem tiesBad_none {m : Int} {ds : List PyData} : tiesBad m (.tuple ds) = none ↔ ∀ j, j < ds.length → badAt m ds j = false := by
  show ((List.range ds.length).find? (badAt m ds)).map _ = none ↔ _
  rw [Option.map_eq_none_iff, List.find?_eq_none]
  constructor
  · intro h j hj
    have := h j (by simpa using hj)
    simpa using this
  · intro h j hj
    rw [h j (by simpa using hj)]
    decide
theorem badAt_ok {m : Int} {ds : List PyData} {j : Nat} {d : PyData} (h : badAt m ds j = false) (e : ds[j]? = some d) : tieOk m d = true := by
  unfold badAt at h
  rw [e] at h
  simp only [Bool.or_eq_false_iff] at h
  simpa using h.1
theorem webBad_none {s t sp mo : PyData} (h : webBad s t sp mo = none) : ∃ m L a b, s = .int m ∧ t = .tuple (L.map tieD) ∧ sp = .int a ∧ mo = .int b ∧ Right m L a b ∧ 2 ≤ m ∧ m ≤ 10 ∧ (∀ q ∈ L, TieIn m q) ∧ 0 ≤ a ∧ a < m ∧ 0 ≤ b ∧ b < m ∧ b ≠ a := by
  have h0 := h
  unfold webBad at h
  cases s with
  | int m =>
    simp only at h
    split at h
    · rename_i hm
      split at h
      · cases h
      · rename_i ht
        split at h
        · rename_i h3
          split at h
          · rename_i h4
            split at h
            · cases h
            · rename_i h5
              cases t with
              | tuple ds =>
                cases sp with
                | int a =>
                  cases mo with
                  | int b =>
                    obtain ⟨L, rfl, hL⟩ := all_tieD ds (fun d hd => by
                      obtain ⟨j, hj, e⟩ := List.getElem_of_mem hd
                      exact badAt_ok (tiesBad_none.mp ht j hj) (by rw [List.getElem?_eq_getElem hj, e]))
                    simp [inI] at hm
                    simp [isNb] at h3 h4
                    simp [sameI] at h5
                    exact ⟨m, L, a, b, rfl, rfl, rfl, rfl, h0, hm.1, hm.2, hL, h3.1, h3.2, h4.1, h4.2, h5⟩
                  | _ => cases h4
                | _ => cases h3
              | _ => cases ht
          · cases h
        · cases h
    · cases h
  | _ => cases h
theorem Right.parts {m : Int} {L : List Tie} {a b : Int} (h : Right m L a b) : 2 ≤ m ∧ m ≤ 10 ∧ (∀ q ∈ L, TieIn m q) ∧ 0 ≤ a ∧ a < m ∧ 0 ≤ b ∧ b < m ∧ b ≠ a := by
  obtain ⟨m', L', a', b', e1, e2, e3, e4, _, r⟩ := webBad_none h
  cases e1
  cases e3
  cases e4
  obtain ⟨r1, r2, r3, r4⟩ := r
  refine ⟨r1, r2, fun q hq => ?_, r4⟩
  have e : L.map tieD = L'.map tieD := PyData.tuple.inj e2
  obtain ⟨q', hq', eq⟩ := List.mem_map.mp (show tieD q ∈ L'.map tieD by rw [← e]; exact List.mem_map_of_mem hq)
  obtain ⟨a1, b1, c1, d1⟩ := q
  obtain ⟨a2, b2, c2, d2⟩ := q'
  simp only [tieD, PyData.tuple.injEq, List.cons.injEq, PyData.int.injEq, and_true] at eq
  obtain ⟨rfl, rfl, rfl, rfl⟩ := eq
  exact r3 _ hq'
/-- the codes rise, so there are few ties -/
theorem Right.ties {m : Int} {L : List Tie} {a b : Int} (h : Right m L a b) : tiesBad m (.tuple (L.map tieD)) = none := by
  unfold Right webBad at h
  simp only at h
  split at h
  · split at h
    · cases h
    · assumption
  · cases h
theorem Right.len {m : Int} {L : List Tie} {a b : Int} (h : Right m L a b) : L.length ≤ 100 := by
  obtain ⟨h1, h2, h3, _⟩ := h.parts
  have nb := tiesBad_none.mp h.ties
  have key : ∀ (j : Nat) (q : Tie), L[j]? = some q → (j : Int) ≤ q.1 * 10 + q.2.1 := by
    intro j
    induction j with
    | zero =>
      intro q hq
      have := h3 q (List.mem_of_getElem? hq)
      simp only [TieIn] at this
      omega
    | succ j ih =>
      intro q hq
      have hj : j < L.length := by
        have := (List.getElem?_eq_some_iff.mp hq).1
        omega
      have e := nb (j + 1) (by
        have := (List.getElem?_eq_some_iff.mp hq).1
        simpa using this)
      have hr : L[j]? = some L[j] := by simp [hj]
      have i1 := ih _ hr
      unfold badAt at e
      rw [List.getElem?_map, hq] at e
      simp only [Option.map_some, Nat.add_sub_cancel, List.getElem?_map, hr, Bool.or_eq_false_iff, Bool.and_eq_false_iff, decide_eq_false_iff_not] at e
      have e2 := e.2.resolve_left (by omega)
      have b1 := h3 q (List.mem_of_getElem? hq)
      have b2 := h3 L[j] (List.mem_of_getElem? hr)
      obtain ⟨a1, b1', c1, d1⟩ := q
      generalize hL : L[j] = r at *
      obtain ⟨a2, b2', c2, d2⟩ := r
      simp only [TieIn] at b1 b2
      simp only [tieD, pairLe, le2] at e2
      simp only at i1
      show ((j + 1 : Nat) : Int) ≤ a1 * 10 + b1'
      split at e2
      · simp only [decide_eq_false_iff_not] at e2
        omega
      · simp only [decide_eq_false_iff_not] at e2
        omega
  rcases Nat.lt_or_ge 100 L.length with z | z
  · have e : L[100]? = some L[100] := by simp [z]
    have k := key 100 _ e
    have b1 := h3 _ (List.mem_of_getElem? e)
    generalize L[100] = r at *
    obtain ⟨a2, b2', c2, d2⟩ := r
    simp only [TieIn] at b1
    simp only at k
    omega
  · exact z
end Mw

/-! Y1 -/
namespace Mw
open PySem L2
def aboveOf (L : List Tie) (h : Int) : List Int := (L.filter fun q => decide (q.1 = h)).map fun q => q.2.1
def belowOf (L : List Tie) (h : Int) : List Int := (L.filter fun q => decide (q.2.1 = h)).map fun q => q.1
def letsOf (L : List Tie) (i j : Int) : Option Int := (L.find? fun q => (q.1 == i && q.2.1 == j) || (q.1 == j && q.2.1 == i)).map fun q => if (q.1 == i && q.2.1 == j) = true then q.2.2.1 else q.2.2.2
def codeQ (q : Tie) : Int := q.1 * 10 + q.2.1
theorem Right.rise1 {m : Int} {L : List Tie} {a b : Int} (h : Right m L a b) {j : Nat} {q r : Tie} (hr : L[j]? = some r) (hq : L[j + 1]? = some q) : codeQ r < codeQ q := by
  obtain ⟨h1, h2, h3, _⟩ := h.parts
  have nb := tiesBad_none.mp h.ties
  have e := nb (j + 1) (by
    have := (List.getElem?_eq_some_iff.mp hq).1
    simpa using this)
  unfold badAt at e
  rw [List.getElem?_map, hq] at e
  simp only [Option.map_some, Nat.add_sub_cancel, List.getElem?_map, hr, Bool.or_eq_false_iff, Bool.and_eq_false_iff, decide_eq_false_iff_not] at e
  have e2 := e.2.resolve_left (by omega)
  have b1 := h3 q (List.mem_of_getElem? hq)
  have b2 := h3 r (List.mem_of_getElem? hr)
  obtain ⟨a1, b1', c1, d1⟩ := q
  obtain ⟨a2, b2', c2, d2⟩ := r
  simp only [TieIn] at b1 b2
  simp only [tieD, pairLe, le2] at e2
  show a2 * 10 + b2' < a1 * 10 + b1'
  split at e2
  · simp only [decide_eq_false_iff_not] at e2
    omega
  · simp only [decide_eq_false_iff_not] at e2
    omega
theorem Right.rise {m : Int} {L : List Tie} {a b : Int} (h : Right m L a b) {j : Nat} {r : Tie} (hr : L[j]? = some r) : ∀ (d : Nat) {q : Tie}, L[j + d + 1]? = some q → codeQ r < codeQ q
  | 0, q, hq => h.rise1 hr hq
  | d + 1, q, hq => by
    have hl : j + d + 1 < L.length := by
      have := (List.getElem?_eq_some_iff.mp hq).1
      omega
    have e : L[j + d + 1]? = some L[j + d + 1] := by simp [hl]
    have i1 := h.rise hr d e
    have i2 := h.rise1 e hq
    omega
theorem Right.one {m : Int} {L : List Tie} {a b : Int} (h : Right m L a b) {j k : Nat} {q r : Tie} (hr : L[j]? = some r) (hq : L[k]? = some q) (e1 : r.1 = q.1) (e2 : r.2.1 = q.2.1) : j = k := by
  have ec : codeQ r = codeQ q := by
    unfold codeQ
    rw [e1, e2]
  rcases Nat.lt_trichotomy j k with z | z | z
  · have w := h.rise hr (k - j - 1) (q := q) (by rw [show j + (k - j - 1) + 1 = k by omega]; exact hq)
    omega
  · exact z
  · have w := h.rise hq (j - k - 1) (q := r) (by rw [show k + (j - k - 1) + 1 = j by omega]; exact hr)
    omega
def keyP (a b : Int) : List Key := [.inl a, .inl b]
theorem keyP_inj {a b c d : Int} (h : keyP a b = keyP c d) : a = c ∧ b = d := by
  unfold keyP at h
  cases h
  exact ⟨rfl, rfl⟩
/-- the pairs of tied houses, both ways, in the order of the ties -/
def prsOf : List Tie → List (Int × Int)
  | [] => []
  | q :: L => (q.1, q.2.1) :: (q.2.1, q.1) :: prsOf L
theorem prsOf_app : ∀ (a b : List Tie), prsOf (a ++ b) = prsOf a ++ prsOf b
  | [], b => rfl
  | q :: a, b => by
    show (q.1, q.2.1) :: (q.2.1, q.1) :: prsOf (a ++ b) = _
    rw [prsOf_app a b]
    rfl
theorem prsOf_len : ∀ L : List Tie, (prsOf L).length = 2 * L.length
  | [] => rfl
  | q :: L => by
    show (prsOf L).length + 1 + 1 = 2 * (L.length + 1)
    rw [prsOf_len L]
    omega
theorem prsOf_mem : ∀ {L : List Tie} {x : Int × Int}, x ∈ prsOf L ↔ ∃ q ∈ L, (x = (q.1, q.2.1) ∨ x = (q.2.1, q.1))
  | [], x => by simp [prsOf]
  | q :: L, x => by
    show x ∈ (q.1, q.2.1) :: (q.2.1, q.1) :: prsOf L ↔ _
    rw [List.mem_cons, List.mem_cons, prsOf_mem (L := L)]
    constructor
    · rintro (h | h | ⟨r, hr, h⟩)
      · exact ⟨q, by simp, .inl h⟩
      · exact ⟨q, by simp, .inr h⟩
      · exact ⟨r, by simp [hr], h⟩
    · rintro ⟨r, hr, h⟩
      rcases List.mem_cons.mp hr with e | e
      · rw [e] at h
        rcases h with h | h
        · exact .inl h
        · exact .inr (.inl h)
      · exact .inr (.inr ⟨r, e, h⟩)
/-- what the dict of ways has told of the first i ties -/
def Thr (L : List Tie) (i : Nat) (kvs : List (List Key × V)) : Prop := kvs.map (·.1) = (prsOf (L.take i)).map (fun x => keyP x.1 x.2) ∧ ∀ (j : Nat) q, j < i → L[j]? = some q → valV kvs (keyP q.1 q.2.1) = some (.int q.2.2.1) ∧ valV kvs (keyP q.2.1 q.1) = some (.int q.2.2.2)
theorem Thr.len {L : List Tie} {i : Nat} {kvs : List (List Key × V)} (h : Thr L i kvs) : kvs.length ≤ 2 * i := by
  have := congrArg List.length h.1
  rw [List.length_map, List.length_map, prsOf_len, List.length_take] at this
  omega
theorem not_key {kvs : List (List Key × V)} {k : List Key} (h : k ∉ kvs.map (·.1)) : valV kvs k = none := by
  cases z : valV kvs k with
  | none => rfl
  | some v =>
    have e := valV_any k kvs
    rw [z] at e
    obtain ⟨x, hx, ex⟩ := List.any_eq_true.mp e
    exact absurd (List.mem_map.mpr ⟨x, hx, of_decide_eq_true ex⟩) h
theorem Thr.no {m : Int} {L : List Tie} {sp mo : Int} {i : Nat} {kvs : List (List Key × V)} {q : Tie} (hR : Right m L sp mo) (hq : L[i]? = some q) (h : Thr L i kvs) : valV kvs (keyP q.1 q.2.1) = none ∧ valV kvs (keyP q.2.1 q.1) = none := by
  have hin : ∀ r ∈ L, TieIn m r := hR.parts.2.2.1
  have bq := hin q (List.mem_of_getElem? hq)
  have key : ∀ x : Int × Int, (x = (q.1, q.2.1) ∨ x = (q.2.1, q.1)) → keyP x.1 x.2 ∉ kvs.map (·.1) := fun x hx hm => by
    rw [h.1] at hm
    obtain ⟨y, hy, ey⟩ := List.mem_map.mp hm
    obtain ⟨e1, e2⟩ := keyP_inj ey
    obtain ⟨r, hr, hxr⟩ := prsOf_mem.mp hy
    obtain ⟨j, hj⟩ := List.mem_iff_getElem?.mp hr
    rw [List.getElem?_take] at hj
    split at hj
    · rename_i hji
      have br := hin r (List.mem_of_getElem? hj)
      simp only [TieIn] at bq br
      have : r.1 = q.1 ∧ r.2.1 = q.2.1 := by
        rcases hx with rfl | rfl <;> rcases hxr with rfl | rfl <;> simp only at e1 e2 <;> omega
      have := hR.one hj hq this.1 this.2
      omega
    · cases hj
  exact ⟨not_key (key (q.1, q.2.1) (.inl rfl)), not_key (key (q.2.1, q.1) (.inr rfl))⟩
theorem Thr.step {m : Int} {L : List Tie} {sp mo : Int} {i : Nat} {kvs : List (List Key × V)} {q : Tie} (hR : Right m L sp mo) (hq : L[i]? = some q) (h : Thr L i kvs) :
    Thr L (i + 1) (putK (putK kvs (keyP q.1 q.2.1) (.int q.2.2.1)) (keyP q.2.1 q.1) (.int q.2.2.2)) := by
  obtain ⟨n1, n2⟩ := h.no hR hq
  have hin : ∀ r ∈ L, TieIn m r := hR.parts.2.2.1
  have bq := hin q (List.mem_of_getElem? hq)
  have ne : ¬ keyP q.2.1 q.1 = keyP q.1 q.2.1 := fun e => by
    have := keyP_inj e
    simp only [TieIn] at bq
    omega
  have n3 : valV (kvs ++ [(keyP q.1 q.2.1, V.int q.2.2.1)]) (keyP q.2.1 q.1) = none := by rw [valV_snoc _ _ _ _ n1, if_neg ne, n2]
  rw [putK_new _ n1, putK_new _ n3]
  refine ⟨?_, fun j r hj hr => ?_⟩
  · rw [List.map_append, List.map_append, h.1, List.take_add_one, hq, prsOf_app, List.map_append, List.append_assoc]
    rfl
  · rw [valV_snoc _ _ _ _ n3, valV_snoc _ _ _ _ n3, valV_snoc _ _ _ _ n1, valV_snoc _ _ _ _ n1]
    rcases Nat.lt_succ_iff_lt_or_eq.mp hj with z | z
    · obtain ⟨g1, g2⟩ := h.2 j r z hr
      have m1 : ∀ x, valV kvs x = none → ∀ v y, valV kvs y = some v → ¬ y = x := fun x hx v y hy e => by
        rw [e, hx] at hy
        cases hy
      rw [if_neg (m1 _ n2 _ _ g1), if_neg (m1 _ n1 _ _ g1), if_neg (m1 _ n2 _ _ g2), if_neg (m1 _ n1 _ _ g2)]
      exact ⟨g1, g2⟩
    · subst z
      rw [hq] at hr
      cases hr
      rw [if_neg (fun e => ne e.symm), if_pos rfl, if_pos rfl]
      exact ⟨rfl, rfl⟩
theorem Thr.lets {L : List Tie} {kvs : List (List Key × V)} (h : Thr L L.length kvs) (hlt : ∀ q ∈ L, q.1 < q.2.1) (i j : Int) : valV kvs (keyP i j) = (letsOf L i j).map V.int := by
  unfold letsOf
  cases z : L.find? fun q => (q.1 == i && q.2.1 == j) || (q.1 == j && q.2.1 == i) with
  | none =>
    refine not_key fun hm => ?_
    rw [h.1, List.take_length] at hm
    obtain ⟨y, hy, ey⟩ := List.mem_map.mp hm
    obtain ⟨e1, e2⟩ := keyP_inj ey
    obtain ⟨r, hr, hx⟩ := prsOf_mem.mp hy
    have := List.find?_eq_none.mp z r hr
    rcases hx with rfl | rfl <;> simp only at e1 e2 <;> subst e1 <;> subst e2 <;> simp at this
  | some q =>
    have hq := List.mem_of_find?_eq_some z
    have hp := List.find?_some z
    obtain ⟨k, hk⟩ := List.mem_iff_getElem?.mp hq
    obtain ⟨g1, g2⟩ := h.2 k q (List.getElem?_eq_some_iff.mp hk).1 hk
    have := hlt q hq
    simp only [Bool.or_eq_true, Bool.and_eq_true, beq_iff_eq] at hp
    rcases hp with ⟨e1, e2⟩ | ⟨e1, e2⟩
    · subst e1 e2
      rw [g1]
      simp
    · subst e1 e2
      rw [g2]
      have n : ¬ (q.1 == q.2.1 && q.2.1 == q.1) = true := by
        simp only [Bool.and_eq_true, beq_iff_eq]
        omega
      simp only [Option.map_some]
      rw [if_neg n]
/-- the houses that are tied to a house, in the order of the ties -/
def arOf (ps : List (Int × Int)) (h : Int) : List Int := (ps.filter fun x => decide (x.1 = h)).map (·.2)
theorem ar_perm {h : Int} : ∀ {L : List Tie}, (∀ q ∈ L, q.1 < q.2.1) → (arOf (prsOf L) h).Perm (belowOf L h ++ aboveOf L h)
  | [], _ => .refl _
  | q :: L, hl => by
    have hq := hl q (by simp)
    have ih := ar_perm (h := h) (L := L) fun r hr => hl r (List.mem_cons_of_mem _ hr)
    unfold arOf belowOf aboveOf at ih ⊢
    show (List.map (·.2) (List.filter (fun x => decide (x.1 = h)) ((q.1, q.2.1) :: (q.2.1, q.1) :: prsOf L))).Perm _
    by_cases c1 : q.1 = h
    · have c2 : ¬ q.2.1 = h := by omega
      rw [List.filter_cons_of_pos (by simpa using c1), List.filter_cons_of_neg (by simpa using c2), List.filter_cons_of_neg (by simpa using c2), List.filter_cons_of_pos (by simpa using c1), List.map_cons, List.map_cons]
      exact (List.Perm.cons _ ih).trans List.perm_middle.symm
    · by_cases c2 : q.2.1 = h
      · rw [List.filter_cons_of_neg (by simpa using c1), List.filter_cons_of_pos (by simpa using c2), List.filter_cons_of_pos (by simpa using c2), List.filter_cons_of_neg (by simpa using c1), List.map_cons, List.map_cons]
        exact List.Perm.cons _ ih
      · rw [List.filter_cons_of_neg (by simpa using c1), List.filter_cons_of_neg (by simpa using c2), List.filter_cons_of_neg (by simpa using c2), List.filter_cons_of_neg (by simpa using c1)]
        exact ih
theorem putK_len {kvs : List (List Key × V)} {k : List Key} {v : V} : (putK kvs k v).length ≤ kvs.length + 1 := by
  unfold putK
  split
  · rw [List.length_map]
    omega
  · rw [List.length_append]
    simp
/-- tuples stay -/
def KT (H H' : Hp) : Prop := ∀ a xs, H a = some (.tup xs) → H' a = some (.tup xs)
theorem KT.refl {H : Hp} : KT H H := fun _ _ e => e
theorem KT.trans {H H1 H2 : Hp} (x : KT H H1) (y : KT H1 H2) : KT H H2 := fun a xs e => y a xs (x a xs e)
theorem KT.same {H H' : Hp} (s : Same H H') : KT H H' := fun a xs e => s _ _ e
mutual
def plainD : PyData → Bool
  | .none | .bool _ | .int _ | .str _ => true
  | .tuple ds => plainAll ds
  | .list _ | .dict _ => false
def plainAll : List PyData → Bool
  | [] => true
  | d :: ds => plainD d && plainAll ds
end
section
variable {C p : Addr} {H H' : Hp}
mutual
theorem Tp.keepT (k : KT H H') : ∀ (d : PyData) (v : V), plainD d = true → Tp C p H d v → Tp C p H' d v
  | .none, v, _, h => by simpa only [Tp] using h
  | .bool b, v, _, h => by simpa only [Tp] using h
  | .int i, v, _, h => by simpa only [Tp] using h
  | .str s, v, _, h => by simpa only [Tp] using h
  | .list ds, v, c, _ => by simp only [plainD] at c; cases c
  | .dict _, v, c, _ => by simp only [plainD] at c; cases c
  | .tuple ds, v, c, h => by
    simp only [Tp] at h ⊢
    obtain ⟨a, xs, e, n, ha, r⟩ := h
    exact ⟨a, xs, e, n, k a _ ha, TpAll.keepT k ds xs (by simpa only [plainD] using c) r⟩
theorem TpAll.keepT (k : KT H H') : ∀ (ds : List PyData) (xs : List V), plainAll ds = true → TpAll C p H ds xs → TpAll C p H' ds xs
  | [], xs, _, h => by simpa only [TpAll] using h
  | d :: ds, xs, c, h => by
    simp only [TpAll] at h ⊢
    simp only [plainAll, Bool.and_eq_true] at c
    obtain ⟨x, r, e, h1, h2⟩ := h
    exact ⟨x, r, e, Tp.keepT k d x c.1 h1, TpAll.keepT k ds r c.2 h2⟩
end
end
theorem plain_tiesL : ∀ L : List Tie, plainAll (L.map tieD) = true
  | [] => rfl
  | q :: L => by
    show (true && plainAll (L.map tieD)) = true
    rw [plain_tiesL L]
    rfl
/-- what a web keeps beside its parts: the ways of its ties, and who is tied to whom -/
def Ways (H : Hp) (v5 v6 : V) (m : Int) (L : List Tie) (ok : Addr → Prop) : Prop := ∃ (th ar : Addr) (kvs : List (List Key × V)) (rs : List Addr), v5 = .ref th ∧ v6 = .ref ar ∧ H th = some (.dT kvs) ∧ Thr L L.length kvs ∧ H ar = some (.tup (rs.map V.ref)) ∧ rs.length = m.toNat ∧ ok th ∧ ok ar ∧
  ∀ (j : Nat) r, rs[j]? = some r → ok r ∧ ∃ ns : List Int, H r = some (.tup (ns.map V.int)) ∧ ns.Perm (belowOf L j ++ aboveOf L j) ∧ ns.Pairwise (· ≤ ·)
theorem Ways.mono {H : Hp} {v5 v6 : V} {m : Int} {L : List Tie} {ok ok' : Addr → Prop} (h : Ways H v5 v6 m L ok) (f : ∀ b, ok b → ok' b) : Ways H v5 v6 m L ok' := by
  obtain ⟨th, ar, kvs, rs, e1, e2, h1, h2, h3, h4, h5, h6, h7⟩ := h
  exact ⟨th, ar, kvs, rs, e1, e2, h1, h2, h3, h4, f _ h5, f _ h6, fun j r hj => ⟨f _ (h7 j r hj).1, (h7 j r hj).2⟩⟩
end Mw

/-! MR4 -/
/-! list(zip(s, t)) of two tuples: a new list of new pairs. -/
namespace L2
open PySem PySem.Spec PyProof.Rows RZ
theorem lz_len : typeLookup (.type "zip") "__len__" = pure none := am_miss_of_fast (by decide +kernel)
theorem lz_hint : typeLookup (.type "zip") "__length_hint__" = pure none := am_miss_of_fast (by decide +kernel)
section
variable {prog : Program} {w : World} {A : Around} {E : Value → Shared → Prop} {s : Shared}
variable {z TI TO T i1 i2 l1 l2 : Addr} {f : Bool} {oT : Obj} {k1 k2 : Nat} {xs ys : Array Value}
/-- the next pair while the last one is still there -/
theorem lz_item {x y : Value} {Q : Option Value → Shared → Prop} (D : ZipApart z TI TO i1 i2 l1 l2)
    (hz : IsZipHeld s.heap z TI TO T f)
    (hT : s.heap.get? T = some oT)
    (hTI : IsPair s.heap TI (.ref i1) (.ref i2)) (h1 : s.heap.IsTupleIter i1 l1 k1)
    (h2 : s.heap.IsTupleIter i2 l2 k2) (hl1 : s.heap.IsTuple l1 xs)
    (hl2 : s.heap.IsTuple l2 ys) (hx : xs[k1]? = some x)
    (hy : ys[k2]? = some y)
    (q : ∀ h', IsZipHeld h' z TI TO T true → h'.IsTupleIter i1 l1 (k1 + 1) → h'.IsTupleIter i2 l2 (k2 + 1) → IsPair h' s.heap.objs.size x y → h'.objs.size = s.heap.objs.size + 1 → (∀ c o, c ≠ z → c ≠ i1 → c ≠ i2 → s.heap.get? c = some o → h'.get? c = some o) → Q (some (.ref s.heap.objs.size)) { s with heap := h' }) :
    wpAny (model prog w) A (pyNext (.ref z)) Q E s := by
  have ty : s.TypeIs (.ref z) "zip" := ⟨_, hz, rfl⟩
  unfold pyNext
  refine wpAny_bind (wpAny_attempt (wpAny_callSpecial?_slot (name := Str.ofString "__next__") ty F.slot_zip_next (wpAny_call_entry F.slot_zip_next ty F.entry_zip_next ?_ (F.args_zip_next_1 _))))
  show wpAny _ _ (field (.ref z) 2 >>= _) _ _ _
  refine wpAny_bind (wpAny_field hz rfl (x := .bool false) rfl ?_)
  show wpAny _ _ (field (.ref z) 3 >>= _) _ _ _
  refine wpAny_bind (wpAny_field hz rfl (x := .ref TI) rfl (wpAny_bind (wpAny_seqItems hTI rfl ?_)))
  show wpAny _ _ (Builtin.SmallTypes.ownedTupleIsFree (.ref z) >>= _) _ _ _
  refine wpAny_bind (wpAny_tupleHeld_zip hz hT fun g1 z1 b1 => ?_)
  simp only [Bool.false_eq_true, if_false]
  refine wpAny_bind ?_
  rw [← Array.forIn_toList]
  simp only [List.forIn_cons, List.forIn_nil]
  refine wpAny_bind (wpAny_bind (wpAny_holding ?_))
  show wpAny _ _ (Builtin.SmallTypes.nextOf (.ref i1) >>= _) _ _ _
  refine wpAny_bind (nextOf_tuple_item (s := { s with heap := g1 }) (h1.extBut b1.extBut D.i1z) (hl1.extBut b1.extBut D.l1z) hx fun g2 i2' b2 => wpAny_pure (wpAny_pure ?_))
  refine wpAny_bind (wpAny_bind (wpAny_holding ?_))
  show wpAny _ _ (Builtin.SmallTypes.nextOf (.ref i2) >>= _) _ _ _
  refine wpAny_bind (nextOf_tuple_item (s := { s with heap := g2 }) ((h2.extBut b1.extBut D.i2z).extBut b2.extBut D.i12.symm) ((hl2.extBut b1.extBut D.l2z).extBut b2.extBut D.l2i1) hy fun g3 i3' b3 => wpAny_pure ?_)
  refine wpAny_pure (wpAny_pure ?_)
  show wpAny _ _ (newTuple [x, y] >>= _) _ _ _
  refine wpAny_bind (wpAny_newTuple ?_)
  have sz : g3.objs.size = s.heap.objs.size := by rw [b3.1, b2.1, b1.1]
  have z3 : IsZipHeld g3 z TI TO T true := b3.extBut _ _ D.i2z.symm (b2.extBut _ _ D.i1z.symm z1)
  have kp : ∀ c o, c ≠ z → c ≠ i1 → c ≠ i2 → s.heap.get? c = some o → g3.get? c = some o := fun c o c1 c2 c3 e => b3.extBut _ _ c3 (b2.extBut _ _ c2 (b1.extBut _ _ c1 e))
  have j1 : g3.IsTupleIter i1 l1 (k1 + 1) := i2'.extBut b3.extBut D.i12
  refine wpAny_pure ⟨_, rfl, wpAny_pure ?_⟩
  show Q (some (.ref g3.objs.size)) _
  have pr : IsPair (g3.push { cls := .type "tuple", data := .seq #[x, y] }) g3.objs.size x y := Heap.get?_push_size _ rfl
  have sz4 : (g3.push { cls := .type "tuple", data := .seq #[x, y] }).objs.size = g3.objs.size + 1 := Heap.size_push ..
  rw [sz] at pr sz4 ⊢
  exact q _ (Heap.get?_push_of_some _ z3) (j1.at fun o e => Heap.get?_push_of_some _ e) (i3'.at fun o e => Heap.get?_push_of_some _ e) pr sz4 fun c o c1 c2 c3 e => Heap.get?_push_of_some _ (kp c o c1 c2 c3 e)
/-- no next pair while the last one is still there -/
theorem lz_end {Q : Option Value → Shared → Prop} (hh : A.handled = none) (D : ZipApart z TI TO i1 i2 l1 l2)
    (hz : IsZipHeld s.heap z TI TO T f)
    (hT : s.heap.get? T = some oT)
    (hTI : IsPair s.heap TI (.ref i1) (.ref i2)) (h1 : s.heap.IsTupleIter i1 l1 k1)
    (h2 : s.heap.IsTupleIter i2 l2 k2) (hl1 : s.heap.IsTuple l1 xs)
    (hl2 : s.heap.IsTuple l2 ys) (he : xs[k1]? = none ∨ ys[k2]? = none)
    (q : ∀ h', (∀ c o, c ≠ z → c ≠ i1 → c ≠ i2 → s.heap.get? c = some o → h'.get? c = some o) → Q none { s with heap := h' }) :
    wpAny (model prog w) A (pyNext (.ref z)) Q E s := by
  have ty : s.TypeIs (.ref z) "zip" := ⟨_, hz, rfl⟩
  unfold pyNext
  refine wpAny_bind (wpAny_attempt (wpAny_callSpecial?_slot (name := Str.ofString "__next__") ty F.slot_zip_next (wpAny_call_entry F.slot_zip_next ty F.entry_zip_next ?_ (F.args_zip_next_1 _))))
  show wpAny _ _ (field (.ref z) 2 >>= _) _ _ _
  refine wpAny_bind (wpAny_field hz rfl (x := .bool false) rfl ?_)
  show wpAny _ _ (field (.ref z) 3 >>= _) _ _ _
  refine wpAny_bind (wpAny_field hz rfl (x := .ref TI) rfl (wpAny_bind (wpAny_seqItems hTI rfl ?_)))
  show wpAny _ _ (Builtin.SmallTypes.ownedTupleIsFree (.ref z) >>= _) _ _ _
  refine wpAny_bind (wpAny_tupleHeld_zip hz hT fun g1 z1 b1 => ?_)
  simp only [Bool.false_eq_true, if_false]
  refine wpAny_bind ?_
  rw [← Array.forIn_toList]
  simp only [List.forIn_cons, List.forIn_nil]
  refine wpAny_bind (wpAny_bind (wpAny_holding ?_))
  show wpAny _ _ (Builtin.SmallTypes.nextOf (.ref i1) >>= _) _ _ _
  cases hx : xs[k1]? with
  | none =>
    refine wpAny_bind (nextOf_tuple_end (s := { s with heap := g1 }) hh (h1.extBut b1.extBut D.i1z) (hl1.extBut b1.extBut D.l1z) hx fun g2 e b2 ho => ?_)
    obtain ⟨o, ho, hc⟩ := ho
    refine wpAny_bind (wpAny_isInstance (T := "StopIteration") (b := true) ⟨o, ho, hc⟩ isSubtype_stop ?_)
    exact wpAny_pure (q _ fun c o c1 c2 _ x => b2 _ _ c2 (b1.extBut _ _ c1 x))
  | some x =>
    have hy : ys[k2]? = none := by
      rcases he with h | h
      · rw [hx] at h
        cases h
      · exact h
    refine wpAny_bind (nextOf_tuple_item (s := { s with heap := g1 }) (h1.extBut b1.extBut D.i1z) (hl1.extBut b1.extBut D.l1z) hx fun g2 i2' b2 => wpAny_pure (wpAny_pure ?_))
    refine wpAny_bind (wpAny_bind (wpAny_holding ?_))
    show wpAny _ _ (Builtin.SmallTypes.nextOf (.ref i2) >>= _) _ _ _
    refine wpAny_bind (nextOf_tuple_end (s := { s with heap := g2 }) hh ((h2.extBut b1.extBut D.i2z).extBut b2.extBut D.i12.symm) ((hl2.extBut b1.extBut D.l2z).extBut b2.extBut D.l2i1) hy fun g3 e b3 ho => ?_)
    obtain ⟨o, ho, hc⟩ := ho
    refine wpAny_bind (wpAny_isInstance (T := "StopIteration") (b := true) ⟨o, ho, hc⟩ isSubtype_stop ?_)
    exact wpAny_pure (q _ fun c o c1 c2 c3 x => b3 _ _ c3 (b2.extBut _ _ c2 (b1.extBut _ _ c1 x)))
end
/-! ### the loop -/
section
variable {X : Cx} {pins : List (Addr × Obj)} {σ : L2.St} {l1 l2 z TI TO i1 i2 D : Addr} {xs ys : List V} {H1 : Hp}
/-- behind i turns: ts the pairs that stand in the list at D -/
structure LzInv (X : Cx) (pins : List (Addr × Obj)) (σ : L2.St) (l1 l2 z TI TO i1 i2 D : Addr) (xs ys : List V) (H1 : Hp) (ts : List Addr) (s : Shared) (H : Hp) : Prop where
  I : Inv X pins σ H s
  same : Same H1 H
  fp : ∀ c ∈ [z, TI, TO, i1, i2], FpOk X pins H c
  zip : (ts = [] ∧ IsZip s.heap z TI TO .none ∧ ∃ a b, IsPair s.heap TO a b) ∨ ∃ T f oT, IsZipHeld s.heap z TI TO T f ∧ T ≠ z ∧ T ≠ TI ∧ T ≠ TO ∧ T ≠ i1 ∧ T ≠ i2 ∧ T ≠ D ∧ s.heap.get? T = some oT
  pTI : IsPair s.heap TI (.ref i1) (.ref i2)
  t1 : s.heap.IsTupleIter i1 l1 ts.length
  t2 : s.heap.IsTupleIter i2 l2 ts.length
  lst : H D = some (.lst (ts.map V.ref))
  lt : ∀ c ∈ [z, TI, TO, i1, i2], c < s.heap.objs.size
  few : ts.length ≤ xs.length ∧ ts.length ≤ ys.length
  prs : ∀ (j : Nat) (t : Addr) (x y : V), ts[j]? = some t → xs[j]? = some x → ys[j]? = some y → H t = some (.tup [x, y])
theorem lz_loop {A : Around} {R : Result → Shared → Prop} {res : Value} (hh : A.in1.handled = none) (Dz : ZipApart z TI TO i1 i2 l1 l2) (h1 : H1 l1 = some (.tup xs)) (h2 : H1 l2 = some (.tup ys)) (nD : H1 D = none)
    (hR : ∀ (ts : List Addr) (s' : Shared) (H' : Hp), Inv X pins σ H' s' → Same H1 H' → H' D = some (.lst (ts.map V.ref)) → ts.length = min xs.length ys.length → (∀ (j : Nat) (t : Addr) (x y : V), ts[j]? = some t → xs[j]? = some x → ys[j]? = some y → H' t = some (.tup [x, y])) → R (.ok (.ret res)) s') :
    ∀ (k : Nat) (ts : List Addr) (s : Shared) (H : Hp), min xs.length ys.length - ts.length = k → LzInv X pins σ l1 l2 z TI TO i1 i2 D xs ys H1 ts s H → codeAny (model X.prog X.w) A (.builtin "list.extend.loop" ⟨[.ref D, .ref z, res], []⟩) R s := by
  intro k
  induction k with
  | zero =>
    intro ts s H hk J
    refine codeAny_builtin F.entry_extend_loop ?_
    rw [Around.under_plainId F.plain_extend_loop _]
    show wpAny _ A.in1 (pyNext (.ref z) >>= _) _ _ s
    have f := J.few
    have hn : ts.length = min xs.length ys.length := by omega
    obtain ⟨its, rv, p, _⟩ := J.I.tuple (SqT.of (J.same _ _ h1))
    obtain ⟨its2, rv2, p2, _⟩ := J.I.tuple (SqT.of (J.same _ _ h2))
    have e1 := rv.length
    have e2 := rv2.length
    have he : its.toArray[ts.length]? = none ∨ its2.toArray[ts.length]? = none := by
      by_cases c : xs.length ≤ ys.length
      · exact .inl (by simp; omega)
      · exact .inr (by simp; omega)
    have fin : ∀ h', (∀ c o, c ≠ z → c ≠ TO → c ≠ i1 → c ≠ i2 → s.heap.get? c = some o → h'.get? c = some o) → R (.ok (.ret res)) { s with heap := h' } := fun h' kp =>
      hR ts _ H (J.I.turnedL (t' := s.toks) (ch := [z, TI, TO, i1, i2]) (fun c o hb q => kp c o (fun e => hb (by simp [e])) (fun e => hb (by simp [e])) (fun e => hb (by simp [e])) (fun e => hb (by simp [e])) q) J.fp) J.same J.lst hn J.prs
    rcases J.zip with ⟨_, hz, a, b, hTO⟩ | ⟨T, f, oT, hz, _, _, _, _, _, _, hT⟩
    · exact wpAny_bind (pyNext_zipT_end hh Dz hz J.pTI hTO J.t1 J.t2 p p2 he fun h' kp => wpAny_pure (fin h' kp))
    · exact wpAny_bind (lz_end hh Dz hz hT J.pTI J.t1 J.t2 p p2 he fun h' kp => wpAny_pure (fin h' fun c o c1 _ c3 c4 e => kp c o c1 c3 c4 e))
  | succ k ih =>
    intro ts s H hk J
    refine codeAny_builtin F.entry_extend_loop ?_
    rw [Around.under_plainId F.plain_extend_loop _]
    show wpAny _ A.in1 (pyNext (.ref z) >>= _) _ _ s
    obtain ⟨its, rv, p, _⟩ := J.I.tuple (SqT.of (J.same _ _ h1))
    obtain ⟨its2, rv2, p2, _⟩ := J.I.tuple (SqT.of (J.same _ _ h2))
    have hx : xs[ts.length]? = some (xs[ts.length]'(by omega)) := by simp
    have hy : ys[ts.length]? = some (ys[ts.length]'(by omega)) := by simp
    generalize xs[ts.length]'(by omega) = x at hx
    generalize ys[ts.length]'(by omega) = y at hy
    obtain ⟨u, hu, ru⟩ := rv.get hx
    obtain ⟨u2, hu2, ru2⟩ := rv2.get hy
    have push : ∀ h', (IsZipHeld h' z TI TO s.heap.objs.size false ∨ IsZipHeld h' z TI TO s.heap.objs.size true ∨ ∃ T f oT, IsZipHeld h' z TI TO T f ∧ T ≠ z ∧ T ≠ TI ∧ T ≠ TO ∧ T ≠ i1 ∧ T ≠ i2 ∧ T ≠ D ∧ h'.get? T = some oT) → h'.IsTupleIter i1 l1 (ts.length + 1) → h'.IsTupleIter i2 l2 (ts.length + 1) → IsPair h' s.heap.objs.size u u2 →
        (∀ c o, c ≠ z → c ≠ TO → c ≠ i1 → c ≠ i2 → s.heap.get? c = some o → h'.get? c = some o) →
        wpAny (model X.prog X.w) A.in1 (updateSeq D (·.push (.ref s.heap.objs.size)) >>= fun _ => again (.builtin "list.extend.loop" ⟨[.ref D, .ref z, res], []⟩))
          (fun fin s' => match fin with | .done f => R (.ok f) s' | .again c' => c'.quiet = true ∧ codeAny (model X.prog X.w) A c' R s') (fun e s' => R (.error e) s') { s with heap := h' } := by
      intro h' hzip a3 a4 a5 kp
      have nf : H s.heap.objs.size = none := J.I.hok.fresh (Nat.le_refl _)
      have new : ObjOk X.prog X.w (upd H s.heap.objs.size (.tup [x, y])) h' s.heap.objs.size (.tup [x, y]) := ⟨by show 2 ≤ sizeLine; decide, [u, u2], .cons ru (.cons ru2 .nil), ⟨_, a5, rfl, _, rfl⟩⟩
      have I1 : Inv X pins σ (upd H s.heap.objs.size (.tup [x, y])) { s with heap := h' } :=
        J.I.turnedNew (t' := s.toks) (ch := [z, TI, TO, i1, i2]) (fun c o hb q => kp c o (fun e => hb (by simp [e])) (fun e => hb (by simp [e])) (fun e => hb (by simp [e])) (fun e => hb (by simp [e])) q) J.fp (Nat.le_refl _) new
      have nTD : s.heap.objs.size ≠ D := (ne_of_none J.lst nf).symm
      have hD1 : (upd H s.heap.objs.size (.tup [x, y])) D = some (.lst (ts.map V.ref)) := (upd_ne nTD.symm).trans J.lst
      obtain ⟨hz, its3, n3, r3, l3, e3⟩ := I1.lstM hD1
      have len : (ts.map V.ref).length = ts.length := List.length_map _
      have zx : xs.length ≤ sizeLine := by
        obtain ⟨_, _, _, q⟩ := J.I.tuple (SqT.of (J.same _ _ h1))
        exact q
      have small : ts.length + 1 ≤ sizeLine := by omega
      have nc : ∀ c ∈ [z, TI, TO, i1, i2], c ≠ D := fun c hc => (ne_of_none J.lst (J.fp c hc).1).symm
      have oth : ∀ b o, b ≠ D → h'.get? b = some o → (h'.update D (Obj.mapSeq (·.push (.ref s.heap.objs.size)))).get? b = some o := fun b o hb e => (Heap.get?_update_other _ _ hb.symm).trans e
      have szT : s.heap.objs.size < h'.objs.size := Heap.lt_size a5
      refine wpAny_bind (wpAny_updateSeq e3 rfl ?_ (by rw [List.size_toArray, ← l3, len]; omega) (by show (its3.toArray.push _).size ≤ sizeLine + 1; rw [Array.size_push, List.size_toArray, ← l3, len]; omega))
      refine wpAny_pure ⟨plainId_quiet F.plain_extend_loop _, ih (ts ++ [s.heap.objs.size]) _ (upd (upd H s.heap.objs.size (.tup [x, y])) D (.lst ((ts ++ [s.heap.objs.size]).map V.ref))) (by rw [List.length_append]; simp; omega) ?_⟩
      have rT : Vals ((ts ++ [s.heap.objs.size]).map V.ref) (its3 ++ [Value.ref s.heap.objs.size]) := by
        rw [List.map_append]
        exact r3.append (.cons rfl .nil)
      refine {
        I := I1.lset (t' := s.toks) (its' := its3 ++ [Value.ref s.heap.objs.size]) hD1 e3 (by simp) rT (by rw [List.length_map, List.length_append]; simpa using small)
        same := fun b o e => ?_
        fp := fun c hc => ?_
        zip := .inr ?_
        pTI := oth _ _ (nc TI (by simp)) (kp _ _ Dz.TIz Dz.TITO Dz.TIi1 Dz.TIi2 J.pTI)
        t1 := ?_
        t2 := ?_
        lst := upd_same
        lt := fun c hc => ?_
        few := by rw [List.length_append]; simp; omega
        prs := fun j t x' y' ht hx' hy' => ?_ }
      · have e1 := J.same b o e
        rw [upd_ne (ne_of_none e nD), upd_ne (ne_of_none e1 nf)]
        exact e1
      · have q := J.fp c hc
        refine ⟨?_, q.2⟩
        rw [upd_ne (nc c hc), upd_ne (Nat.ne_of_lt (J.lt c hc))]
        exact q.1
      · have ht : (h'.update D (Obj.mapSeq (·.push (.ref s.heap.objs.size)))).get? s.heap.objs.size = some _ := oth _ _ nTD a5
        have ne : ∀ c ∈ [z, TI, TO, i1, i2], s.heap.objs.size ≠ c := fun c hc => (Nat.ne_of_lt (J.lt c hc)).symm
        rcases hzip with q | q | ⟨T, f, oT, q, n1, n2, n3, n4, n5, n6, hT⟩
        · exact ⟨_, _, _, oth _ _ (nc z (by simp)) q, ne z (by simp), ne TI (by simp), ne TO (by simp), ne i1 (by simp), ne i2 (by simp), nTD, ht⟩
        · exact ⟨_, _, _, oth _ _ (nc z (by simp)) q, ne z (by simp), ne TI (by simp), ne TO (by simp), ne i1 (by simp), ne i2 (by simp), nTD, ht⟩
        · exact ⟨T, f, oT, oth _ _ (nc z (by simp)) q, n1, n2, n3, n4, n5, n6, oth _ _ n6 hT⟩
      · rw [List.length_append]
        exact a3.at fun o e => oth _ o (nc i1 (by simp)) e
      · rw [List.length_append]
        exact a4.at fun o e => oth _ o (nc i2 (by simp)) e
      · have q := J.lt c hc
        show c < (h'.update D (Obj.mapSeq (·.push (.ref s.heap.objs.size)))).objs.size
        rw [Heap.size_update]
        exact Nat.lt_trans q szT
      · rw [List.getElem?_append] at ht
        by_cases hj : j < ts.length
        · rw [if_pos hj] at ht
          have q := J.prs j t x' y' ht hx' hy'
          rw [upd_ne (ne_of J.lst q (by intro z; cases z)).symm, upd_ne (ne_of_none q nf)]
          exact q
        · rw [if_neg hj] at ht
          have hj0 : j = ts.length := by
            have := (List.getElem?_eq_some_iff.mp ht).1
            simp at this
            omega
          subst hj0
          rw [hx] at hx'
          rw [hy] at hy'
          cases hx'
          cases hy'
          simp at ht
          subst ht
          rw [upd_ne nTD]
          exact upd_same
    rcases J.zip with ⟨_, hz, a, b, hTO⟩ | ⟨T, f, oT, hz, n1, n2, n3, n4, n5, n6, hT⟩
    · refine wpAny_bind (pyNext_zipT_item Dz hz J.pTI hTO J.t1 J.t2 p p2 (x := u) (y := u2) (by simpa using hu) (by simpa using hu2) fun h' a1 _ a3 a4 a5 _ kp => ?_)
      exact push h' (.inl a1) a3 a4 a5 kp
    · refine wpAny_bind (lz_item Dz hz hT J.pTI J.t1 J.t2 p p2 (x := u) (y := u2) (by simpa using hu) (by simpa using hu2) fun h' a1 a3 a4 a5 _ kp => ?_)
      exact push h' (.inr (.inr ⟨T, true, oT, a1, n1, n2, n3, n4, n5, n6, kp _ _ n1 n4 n5 hT⟩)) a3 a4 a5 fun c o c1 _ c3 c4 e => kp c o c1 c3 c4 e
end
/-! ### the whole expression -/
section
variable {X : Cx} {pins : List (Addr × Obj)} {σ : L2.St}
/-- a zip of the tuples at a and b, not begun -/
structure LzMade (X : Cx) (pins : List (Addr × Obj)) (σ : L2.St) (a b z TI TO i1 i2 : Addr) (H1 : Hp) (s : Shared) : Prop where
  I : Inv X pins σ H1 s
  ap : ZipApart z TI TO i1 i2 a b
  fp : ∀ c ∈ [z, TI, TO, i1, i2], FpOk X pins H1 c
  lt : ∀ c ∈ [z, TI, TO, i1, i2], c < s.heap.objs.size
  zip : IsZip s.heap z TI TO .none
  pTI : IsPair s.heap TI (.ref i1) (.ref i2)
  pTO : IsPair s.heap TO .none .none
  t1 : s.heap.IsTupleIter i1 a 0
  t2 : s.heap.IsTupleIter i2 b 0
def tListZip (ta : TA) : TE := fun σ H Q => ta σ H fun vs H1 => ∃ a b xs ys, vs = [.ref a, .ref b] ∧ H1 a = some (.tup xs) ∧ H1 b = some (.tup ys) ∧ ∀ (D : Addr) (ts : List Addr) (H' : Hp), Same H1 H' → H1 D = none → H' D = some (.lst (ts.map V.ref)) → ts.length = min xs.length ys.length →
  (∀ (j : Nat) (t : Addr) (x y : V), ts[j]? = some t → xs[j]? = some x → ys[j]? = some y → H' t = some (.tup [x, y])) → Q (.ref D) H'
theorem lz_zip {e e2 : Expr} {ta : TA} {p pos : Pos} {s : Shared} {H : Hp} {Q : List V → Hp → Prop} (hg : Gl X "zip") (hm : X.mg "zip" = none) (ha : PA X [e, e2] ta) (I : Inv X pins σ H s)
    (hs : starEach [e, e2] X.env = (false, eval e X.env) :: starEach [e2] X.env) (hpl : (backTo pos (starEach [e2] X.env)).any (·.1) = false)
    (hQ : ∀ vs H1, Q vs H1 → ∃ a b xs ys, vs = [.ref a, .ref b] ∧ H1 a = some (.tup xs) ∧ H1 b = some (.tup ys))
    (h : ta σ H Q) :
    wpAny (model X.prog X.w) X.A (eval (.Call (.Name "zip" p) [e, e2] [] pos) X.env) (fun v s' => ∃ a b z TI TO i1 i2 H1, v = .ref z ∧ LzMade X pins σ a b z TI TO i1 i2 H1 s' ∧ Q [.ref a, .ref b] H1) X.xe s := by
  refine Call_ (ld_blt I hg hm PyProof.Rows.boot_zip (PyProof.Rows.callWith_type1 (thn (ha.run pos pins s σ H _ I h) fun us s1 ⟨vs, H1, I1, r1, q⟩ => ?_) hs hpl))
  obtain ⟨a, b, xs, ys, ev, h1, h2⟩ := hQ vs H1 q
  subst ev
  cases r1 with
  | cons r rr =>
    cases rr with
    | cons r' rr =>
      cases rr
      cases r
      cases r'
      obtain ⟨its, _, p1, _⟩ := I1.tuple (SqT.of h1)
      obtain ⟨its2, _, p2, _⟩ := I1.tuple (SqT.of h2)
      obtain ⟨o1, ho1, _⟩ := id p1
      obtain ⟨o2, ho2, _⟩ := id p2
      refine call_zipT (show s1.heap.IsTuple a its.toArray from p1) (show s1.heap.IsTuple b its2.toArray from p2) fun h' hz hTI hTO t1 t2 hsz hk => ?_
      have ge : ∀ c ∈ [s1.heap.objs.size + 4, s1.heap.objs.size + 2, s1.heap.objs.size + 3, s1.heap.objs.size, s1.heap.objs.size + 1], s1.heap.objs.size ≤ c ∧ c < s1.heap.objs.size + 5 := fun c hc => by
        simp only [List.mem_cons, List.not_mem_nil, or_false] at hc
        rcases hc with q | q | q | q | q <;> rw [q] <;> exact ⟨by simp, by simp⟩
      refine ⟨a, b, s1.heap.objs.size + 4, s1.heap.objs.size + 2, s1.heap.objs.size + 3, s1.heap.objs.size, s1.heap.objs.size + 1, H1, rfl, ⟨I1.kept (t' := s1.toks) hk, PySem.W.ktu_apart s1.heap.objs.size a b (Heap.lt_size ho1) (Heap.lt_size ho2), fun c hc => ?_, fun c hc => ?_, hz, hTI, hTO, t1, t2⟩, q⟩
      · exact I1.fpOk (ge c hc).1 (I1.hok.fresh (ge c hc).1)
      · show c < h'.objs.size
        rw [hsz]
        exact (ge c hc).2
theorem lz_list {A : Around} {E : Value → Shared → Prop} {Q : Value → Shared → Prop} {a b z TI TO i1 i2 : Addr} {xs ys : List V} {H1 : Hp} {s : Shared} (hh : A.handled = none) (M : LzMade X pins σ a b z TI TO i1 i2 H1 s) (h1 : H1 a = some (.tup xs)) (h2 : H1 b = some (.tup ys))
    (hR : ∀ (D : Addr) (ts : List Addr) (s' : Shared) (H' : Hp), Inv X pins σ H' s' → Same H1 H' → H1 D = none → H' D = some (.lst (ts.map V.ref)) → ts.length = min xs.length ys.length → (∀ (j : Nat) (t : Addr) (x y : V), ts[j]? = some t → xs[j]? = some x → ys[j]? = some y → H' t = some (.tup [x, y])) → Q (.ref D) s') :
    wpAny (model X.prog X.w) A (call (.type "list") [.ref z]) Q E s := by
  have nDz : s.heap.objs.size ≠ z := (Nat.ne_of_lt (M.lt z (by simp))).symm
  refine callType_codes (Q₁ := fun obj s₁ => obj = .ref s.heap.objs.size ∧ s₁ = { s with heap := s.heap.push { cls := .type "list", data := .seq #[] } }) F.called_list (F.typeCall_list_1 _) F.entry_list_init (code_list_new _ ⟨rfl, rfl⟩) fun obj s₁ h₁ => ?_
  obtain ⟨rfl, rfl⟩ := h₁
  have d1 : (s.heap.push { cls := .type "list", data := .seq #[] }).get? s.heap.objs.size = some { cls := .type "list", data := .seq #[] } := Heap.get?_push_size _ rfl
  refine ⟨⟨_, d1, rfl⟩, F.args_list_init_2 _ _, ?_⟩
  show wpAny _ A.in1.in1 (Builtin.List.listItems (.ref s.heap.objs.size) >>= _) _ _ _
  refine wpAny_bind ?_
  unfold Builtin.List.listItems
  refine wpAny_bind (wpAny_seqItems d1 rfl (wpAny_pure ?_))
  show wpAny _ A.in1.in1 (updateSeq s.heap.objs.size (fun _ => #[]) >>= _) _ _ _
  refine wpAny_bind (wpAny_updateSeq d1 rfl ?_)
  have d2 := Heap.get?_update_self (Obj.mapSeq (fun _ => (#[] : Array Value))) d1 rfl
  refine wpAny_bind (wpAny_letGo ?_)
  unfold Builtin.List.listExtendWith
  have up : ∀ (g : Heap) (f : Obj → Obj), (∀ c o, s.heap.get? c = some o → g.get? c = some o) → ∀ c o, s.heap.get? c = some o → (g.update s.heap.objs.size f).get? c = some o := fun g f q c o e => (Heap.get?_update_other _ _ (Ne.symm (Nat.ne_of_lt (Heap.lt_size e)))).trans (q c o e)
  have u1 : ∀ c o, s.heap.get? c = some o → (s.heap.push { cls := .type "list", data := .seq #[] }).get? c = some o := fun c o e => Heap.get?_push_of_some _ e
  have u2 := up _ (Obj.mapSeq (fun _ => (#[] : Array Value))) u1
  have zt : ∀ {g : Heap}, (∀ c o, s.heap.get? c = some o → g.get? c = some o) → ({ s with heap := g } : Shared).TypeIs (.ref z) "zip" := fun {g} q => ⟨_, q _ _ M.zip, rfl⟩
  refine wpAny_bind (wpAny_typeOf (zt u2) ?_)
  have c1 : Builtin.List.listSameRef (.ref s.heap.objs.size) (.ref z) = false := by simp [Builtin.List.listSameRef, nDz]
  have c2 : (Value.type "zip" == Value.type "list") = false := by decide
  have c3 : (Value.type "zip" == Value.type "tuple") = false := by decide
  simp only [c1, c2, c3, Bool.or_false, Bool.false_eq_true, if_false]
  refine wpAny_bind (wpAny_pyIter_zip (u2 _ _ M.zip) ?_)
  refine wpAny_bind (wpAny_holding ?_)
  unfold Builtin.List.listLengthHint
  refine wpAny_bind (wpAny_specialOf (zt u2) lz_len ?_)
  show wpAny _ A.in1.in1 (specialOf (Value.ref z) (Str.ofString "__length_hint__") >>= _) _ _ _
  refine wpAny_bind (wpAny_specialOf (zt u2) lz_hint ?_)
  refine wpAny_pure ?_
  show wpAny _ A.in1.in1 (rule "list.extend.makes-room" >>= _) _ _ _
  refine wpAny_bind (wpAny_rule (wpAny_bind ?_))
  show wpAny _ A.in1.in1 (updateSeq s.heap.objs.size (·.push .none) >>= _) _ _ _
  refine wpAny_bind (wpAny_updateSeq d2 rfl ?_)
  have d3 := Heap.get?_update_self (Obj.mapSeq (·.push Value.none)) d2 rfl
  refine wpAny_updateSeq (hz := by seq_fits) d3 rfl ?_
  have d4 := Heap.get?_update_self (Obj.mapSeq (·.pop)) d3 rfl
  have u4 := up _ (Obj.mapSeq (·.pop)) (up _ (Obj.mapSeq (·.push Value.none)) u2)
  refine wpAny_pure ⟨plainId_quiet F.plain_extend_loop _, ?_⟩
  have nf : H1 s.heap.objs.size = none := M.I.hok.fresh (Nat.le_refl _)
  have szz : s.heap.objs.size < (((((s.heap.push { cls := .type "list", data := .seq #[] }).update s.heap.objs.size (Obj.mapSeq (fun _ => (#[] : Array Value)))).update s.heap.objs.size (Obj.mapSeq (·.push Value.none))).update s.heap.objs.size (Obj.mapSeq (·.pop)))).objs.size := Heap.lt_size d4
  refine lz_loop (A := A.in1) (H1 := H1) (xs := xs) (ys := ys) (l1 := a) (l2 := b) (TI := TI) (TO := TO) (i1 := i1) (i2 := i2) hh M.ap h1 h2 nf (fun ts s' H' I' sm hl hn hp => ⟨rfl, hR _ ts s' H' I' sm nf hl hn hp⟩) _ [] _ (upd H1 s.heap.objs.size (.lst [])) rfl {
    I := M.I.laid (t' := s.toks) u4 (Nat.le_refl _) ⟨Nat.zero_le _, [], _, .nil, d4⟩
    same := fun c o e => (upd_ne (ne_of_none e nf)).trans e
    fp := fun c hc => ⟨(upd_ne (Nat.ne_of_lt (M.lt c hc))).trans (M.fp c hc).1, (M.fp c hc).2⟩
    zip := .inl ⟨rfl, u4 _ _ M.zip, _, _, u4 _ _ M.pTO⟩
    pTI := u4 _ _ M.pTI
    t1 := M.t1.at fun o e => u4 _ o e
    t2 := M.t2.at fun o e => u4 _ o e
    lst := upd_same
    lt := fun c hc => Nat.lt_trans (M.lt c hc) szz
    few := ⟨Nat.zero_le _, Nat.zero_le _⟩
    prs := fun j t x y h => by simp at h }
theorem pe_listZip {X : Cx} {e e2 : Expr} {ta : TA} {p pos p2 pos2 : Pos} (hc : X.calm = true) (hg : Gl X "list") (hm : X.mg "list" = none) (hg2 : Gl X "zip") (hm2 : X.mg "zip" = none) (ha : PA X [e, e2] ta)
    (na : starEach [Expr.Call (.Name "zip" p2) [e, e2] [] pos2] X.env = (false, eval (.Call (.Name "zip" p2) [e, e2] [] pos2) X.env) :: starEach [] X.env := by rfl)
    (hs : starEach [e, e2] X.env = (false, eval e X.env) :: starEach [e2] X.env := by rfl) (hpl : (backTo pos2 (starEach [e2] X.env)).any (·.1) = false := by rfl) :
    PE X (.Call (.Name "list" p) [.Call (.Name "zip" p2) [e, e2] [] pos2] [] pos) (tListZip ta) := by
  refine ⟨fun pins s σ H Q I h => ?_⟩
  refine Call_ (ld_blt I hg hm boot_list (PyProof.Rows.callWith_type1 (args_cons (thn (lz_zip hg2 hm2 ha I hs hpl (fun vs H1 ⟨a, b, xs, ys, ev, h1, h2, _⟩ => ⟨a, b, xs, ys, ev, h1, h2⟩) h) fun v s1 ⟨a, b, z, TI, TO, i1, i2, H1, ev, M, q⟩ => args_nil ?_) na) na))
  subst ev
  obtain ⟨a', b', xs, ys, ev, h1, h2, q⟩ := q
  cases ev
  exact lz_list (I.ok.hd hc) M h1 h2 fun D ts s' H' I' sm nD hl hn hp => ⟨.ref D, H', I', rfl, q D ts H' sm nD hl hn hp⟩
end
end L2

/-! Y2 -/
namespace Mw
open PySem L2
def spThrough (C : Addr) : Sp := fun vs H Q _ => ∃ p m L sp mo v2, vs = [v2] ∧ Tp C p H (.tuple (L.map tieD)) v2 ∧ Right m L sp mo ∧ ∀ r kvs H', Same H H' → H r = none → H' r = some (.dT kvs) → Thr L L.length kvs → Q (.ref r) H'
def spAround : Sp := fun vs H Q _ => ∃ (th : Addr) (h : Int) (kvs : List (List Key × V)) (L : List Tie), vs = [.ref th, .int h] ∧ H th = some (.dT kvs) ∧ Thr L L.length kvs ∧ L.length ≤ 100 ∧ (∀ q ∈ L, q.1 < q.2.1) ∧
  ∀ (r : Addr) (ns : List Int) (H' : Hp), Same H H' → H r = none → H' r = some (.tup (ns.map V.int)) → ns.Perm (belowOf L h ++ aboveOf L h) → ns.Pairwise (· ≤ ·) → Q (.ref r) H'
theorem rd_dput {td ty tv : TE} {D : Ends} {σ : L2.St} {H : Hp} (h : tv σ H fun v H1 => td σ H1 fun x H2 => ty σ H2 fun y H3 => ∃ a H4, x = V.ref a ∧ DPut H3 a y v H4 ∧ D.nx σ H4) : sDPut td ty tv D σ H := h
theorem rd_dget {td ty : TE} {σ : L2.St} {H : Hp} {Q : VK} (h : td σ H fun x H1 => ty σ H1 fun y H2 => ∃ a v, x = V.ref a ∧ DGet H2 a y (some v) ∧ Q v H2) : tDGet td ty σ H Q := h
theorem rd_dnotin {td ty : TE} {σ : L2.St} {H : Hp} {Q : VK} (h : ty σ H fun y H1 => td σ H1 fun x H2 => ∃ a o, x = .ref a ∧ DGet H2 a y o ∧ Q (.bl (!o.isSome)) H2) : tDNotIn ty td σ H Q := h
theorem rd_din {td ty : TE} {σ : L2.St} {H : Hp} {Q : VK} (h : ty σ H fun y H1 => td σ H1 fun x H2 => ∃ a o, x = .ref a ∧ DGet H2 a y o ∧ Q (.bl o.isSome) H2) : tDIn ty td σ H Q := h
theorem ties_get {C p : Addr} {H : Hp} {L : List Tie} {xs : List V} (hx : TpAll C p H (L.map tieD) xs) {i : Nat} {y : V} (hi : xs[i]? = some y) : ∃ q ci, L[i]? = some q ∧ y = .ref ci ∧ At p H ci (.tup [.int q.1, .int q.2.1, .int q.2.2.1, .int q.2.2.2]) := by
  obtain ⟨d, hd, td⟩ := hx.get' hi
  rw [List.getElem?_map] at hd
  cases e : L[i]? with
  | none =>
    rw [e] at hd
    cases hd
  | some q =>
    rw [e] at hd
    obtain rfl : tieD q = d := Option.some.inj hd
    obtain ⟨c, ys, rfl, hc, hy⟩ := tp_tup' td
    obtain ⟨x1, x2, x3, x4, rfl, f1, f2, f3, f4⟩ := tpAll4 hy
    cases tp_int' f1
    cases tp_int' f2
    cases tp_int' f3
    cases tp_int' f4
    exact ⟨q, c, rfl, rfl, hc⟩
theorem take_snoc {α : Type} {L : List α} {i : Nat} {q : α} (h : L[i]? = some q) : L.take (i + 1) = L.take i ++ [q] := by
  rw [List.take_add_one, h]
  rfl
section
variable {P : Program} {w : World} {K : PySem.W.Frag} {mg : Str → Option Value} {base : Heap}
local macro_rules | `(tactic| walk_at "rd") => `(tactic| (repeat (first
  | ((with_reducible refine' rd_var ?h0 ?_); (case h0 => rfl))
  | with_reducible refine rd_c ?_
  | with_reducible refine rd_op ?_
  | with_reducible refine rd_nil ?_
  | with_reducible refine rd_cons ?_
  | with_reducible refine rd_tup ?_
  | with_reducible refine rd_lst ?_
  | with_reducible refine rd_ifs ?_
  | with_reducible refine rd_seq ?_
  | with_reducible refine rd_next ?_
  | with_reducible refine rd_ret ?_
  | with_reducible refine rd_asg ?_
  | ((with_reducible refine' rd_gset ?hs ?_); (case hs => ((simp only [L2.start, List.map_cons, List.map_nil, List.length_cons, List.length_nil, List.cons_append, List.nil_append, List.set_cons_zero, List.set_cons_succ, Nat.reduceAdd, Nat.reduceSub, Nat.zero_add, List.reduceReplicate]); rfl)))
  | with_reducible refine rd_drop ?_
  | with_reducible refine rd_test ?_
  | with_reducible refine rd_B ?_
  | with_reducible refine rd_bl ?_
  | with_reducible refine rd_blP ?_
  | with_reducible refine rd_andV ?_
  | with_reducible refine rd_orV ?_
  | with_reducible refine rd_notV ?_
  | with_reducible refine rd_and ?_
  | with_reducible refine rd_or ?_
  | with_reducible refine rd_not ?_
  | with_reducible refine rd_chain ?_
  | with_reducible refine rd_dput ?_
  | with_reducible refine rd_dget ?_
  | with_reducible refine rd_cb ?_
  | with_reducible refine rd_call ?_
  | with_reducible refine rd_un ?_
  | with_reducible refine rd_sl ?_
  | with_reducible refine rd_nopart ?_
  | with_reducible refine rd_part ?_
  | with_reducible refine rd_intP ?_
  | with_reducible refine rd_rU ?_
  | with_reducible refine rd_fld ?_
  | with_reducible refine rd_eqI ?_
  | with_reducible refine rd_neI ?_
  | with_reducible refine rd_mko ?_
  | with_reducible refine rd_bm ?_
  | with_reducible refine rd_gsub ?_
  | with_reducible refine rd_i0 ?_)))
theorem ok_through (T : Tx K mg) (B : Bk K mg T) : FnOk P w K mg base CX0 1 B.through.f B.through.fd ["ties"] (spThrough T.c_Web) := by
  refine B.through.F.ok sc_through (fun vs H Q E h => ?_) (fun cdv A outer s H vs Q E hr h => ?_)
  · obtain ⟨p, m, L, sp, mo, v2, rfl, _⟩ := h
    rfl
  · obtain ⟨p, m, L, sp, mo, v2, rfl, t2, hR, k⟩ := h
    refine ⟨_, (pss_cons (ps_set (i := 1) sc_through.nd rfl (Or.inl rfl) pe_dnewT)
      (pss_cons (ps_for PassesOwn.never rfl (pi_tup (pv 0)) (pg_tup (by rfl) (pgs_cons (pg_name (i := 2) sc_through.nd rfl (Or.inl rfl)) (pgs_cons (pg_name (i := 3) sc_through.nd rfl (Or.inl rfl)) (pgs_cons (pg_name (i := 4) sc_through.nd rfl (Or.inl rfl)) (pgs_cons (pg_name (i := 5) sc_through.nd rfl (Or.inl rfl)) pgs_nil))))) (pss_cons (ps_dput (hu_of hr) (pv 1) (pe_tup (pa_cons (pv 2) (pa_cons (pv 3) pa_nil))) (pv 4) rfl)
      (pss_one (ps_dput (hu_of hr) (pv 1) (pe_tup (pa_cons (pv 3) (pa_cons (pv 2) pa_nil))) (pv 5) rfl))))
      (pss_one (ps_ret (pv 1))))), ?_⟩
    have hL := hR.len
    obtain ⟨ct, xs, rfl, hct, hx⟩ := tp_tup' t2
    have hlen : xs.length = L.length := by
      have := hx.len
      simpa using this.symm
    walk_at "rd"
    intro D nD
    walk_at "rd"
    have s0 := same_new (o := .dT []) nD
    refine ⟨_, rfl, ct, rfl, ⟨xs, SqT.of (s0 _ _ hct.2)⟩, for_tup (K := K) (a := ct) (xs := xs) (fun i σ H1 => Same H H1 ∧ (∃ kvs, H1 D = some (.dT kvs) ∧ Thr L i kvs) ∧ ∃ u1 u2 u3 u4, σ = [some (.ref ct), some (.ref D), u1, u2, u3, u4])
      ⟨s0, ⟨[], upd_same, by rfl, fun j q hj => absurd hj (Nat.not_lt_zero _)⟩, _, _, _, _, rfl⟩ (fun i σ H1 _ hh => SqT.of (hh.1 _ _ hct.2)) ?_ ?_⟩
    · rintro i y σ H1 hi ⟨hs, ⟨kvs, hk, ht⟩, u1, u2, u3, u4, rfl⟩
      obtain ⟨q, ci, hq, rfl, hci⟩ := ties_get hx hi
      have hil : i < L.length := (List.getElem?_eq_some_iff.mp hq).1
      have hkl := ht.len
      refine ⟨ci, _, rfl, SqT.of (hs _ _ hci.2), rfl, _, _, rfl, _, _, rfl, _, _, rfl, _, _, rfl, rfl, ?_⟩
      walk_at "rd"
      refine rd_disp rfl fun n1 hn1 => ?_
      have hk2 : upd H1 n1 (.tup [.int q.1, .int q.2.1]) D = some (.dT kvs) := (upd_ne (ne_of_none hk hn1)).trans hk
      have s2 := hs.trans (same_new (o := .tup [.int q.1, .int q.2.1]) hn1)
      refine ⟨D, _, rfl, DPut.t (k := keyP q.1 q.2.1) hk2 upd_same (Nat.lt_of_le_of_lt (show kvs.length ≤ 300 by omega) (by decide)), ?_⟩
      have s3 : Same H (upd (upd H1 n1 (.tup [.int q.1, .int q.2.1])) D (.dT (putK kvs (keyP q.1 q.2.1) (.int q.2.2.1)))) := fun b o e => (upd_ne (ne_of_none e nD)).trans (s2 b o e)
      walk_at "rd"
      refine rd_disp rfl fun n2 hn2 => ?_
      have hk3 : upd (upd (upd H1 n1 (.tup [.int q.1, .int q.2.1])) D (.dT (putK kvs (keyP q.1 q.2.1) (.int q.2.2.1)))) n2 (.tup [.int q.2.1, .int q.1]) D = some (.dT (putK kvs (keyP q.1 q.2.1) (.int q.2.2.1))) := (upd_ne (ne_of_none upd_same hn2)).trans upd_same
      have s4 := s3.trans (same_new (o := .tup [.int q.2.1, .int q.1]) hn2)
      refine ⟨D, _, rfl, DPut.t (k := keyP q.2.1 q.1) hk3 upd_same (Nat.lt_of_le_of_lt (show (putK kvs (keyP q.1 q.2.1) (V.int q.2.2.1)).length ≤ 300 by have := putK_len (kvs := kvs) (k := keyP q.1 q.2.1) (v := .int q.2.2.1); omega) (by decide)), ?_⟩
      exact ⟨fun b o e => (upd_ne (ne_of_none e nD)).trans (s4 b o e), ⟨_, upd_same, ht.step hR hq⟩, _, _, _, _, rfl⟩
    · rintro σ H1 ⟨hs, ⟨kvs, hk, ht⟩, u1, u2, u3, u4, rfl⟩
      walk_at "rd"
      rw [hlen] at ht
      exact k D kvs H1 hs nD hk ht
theorem ok_around (T : Tx K mg) (B : Bk K mg T) : FnOk P w K mg base CX0 1 B.around.f B.around.fd ["through", "house"] spAround := by
  refine B.around.F.ok sc_around (fun vs H Q E h => ?_) (fun cdv A outer s H vs Q E hr h => ?_)
  · obtain ⟨th, h, kvs, L, rfl, _⟩ := h
    rfl
  · obtain ⟨th, h, kvs, L, rfl, hth, hT, hL, hlt, q⟩ := h
    refine ⟨_, (pss_one (ps_ret (pe_callTy call_tuple_of (by rfl) T.b_tuple (by decide +kernel) (pa_cons (pe_callB cr_sortedI (by rfl) T.b_sorted (by decide +kernel) (pa_cons (pe_lock (pe_lc (own := [("one", 2), ("other", 3)]) (g := (gTup K 2 (gCons (gName 2) (gCons (gName 3) gNil)))) rfl sc_around.nd (pi_keys (pv 0)) (blkOk_by (own := [("one", 2), ("other", 3)]) (N := ["through", "house", "one", "other"]) (sc := defScope s_around) (by decide +kernel)) (fun _ _ _ _ _ => (pg_tup (by rfl) (pgs_cons (pg_name (i := 2) sc_around.nd rfl (Or.inl rfl)) (pgs_cons (pg_name (i := 3) sc_around.nd rfl (Or.inl rfl)) pgs_nil)))) (fun _ _ _ _ _ => (pts_one (pt_cmpR op_eq (pv 2) (pv 1) (nomark _)))) (fun _ _ _ _ _ => (pv 3)))) pa_nil)) pa_nil)))), ?_⟩
    walk_at "rd"
    refine ⟨th, _, hth, trivial, fun od => ?_⟩
    have hkl := hT.len
    refine ⟨_, rfl, th, od, rfl, .inr ⟨kvs, upd_same, fun D nD => lc_it walk_keysT
      (fun i H1 => Same (upd H th (.frz od (.dT kvs))) H1 ∧ H1 D = some (.lst ((arOf ((prsOf L).take i) h).map V.int))) ⟨same_new nD, upd_same⟩ (fun i H1 _ hh => hh.1 _ _ upd_same) ?_ ?_⟩⟩
    · rintro i x H1 H2 hi ⟨hs, hacc⟩ ⟨rfl, k, v, t, hk, rfl, ht⟩
      have hkk : (kvs.map (·.1))[i]? = some k := by rw [List.getElem?_map, hk]; rfl
      rw [hT.1, List.take_length, List.getElem?_map] at hkk
      cases ex : (prsOf L)[i]? with
      | none =>
        rw [ex] at hkk
        cases hkk
      | some x =>
        rw [ex] at hkk
        obtain rfl : keyP x.1 x.2 = k := Option.some.inj hkk
        have ht2 : H2 t = some (.tup [.int x.1, .int x.2]) := ht
        refine ⟨t, _, rfl, SqT.of ht2, rfl, _, _, rfl, _, _, rfl, rfl, ?_⟩
        refine ⟨rfl, ?_⟩
        walk_at "rd"
        have es : arOf ((prsOf L).take (i + 1)) h = arOf ((prsOf L).take i) h ++ (if x.1 = h then [x.2] else []) := by
          rw [take_snoc ex]
          unfold arOf
          rw [List.filter_append, List.map_append]
          congr 1
          by_cases c : x.1 = h
          · rw [List.filter_cons_of_pos (by simpa using c), if_pos c]
            rfl
          · rw [List.filter_cons_of_neg (by simpa using c), if_neg c]
            rfl
        refine rd_ite (fun h1 => ?_) (fun h1 => ?_)
        · have h1' : x.1 = h := of_decide_eq_true h1
          walk_at "rd"
          refine ⟨_, hacc, ?_, fun b o e => ?_, ?_⟩
          · refine Nat.lt_of_le_of_lt (?_ : _ ≤ 300) (by decide)
            rw [List.length_map]
            unfold arOf
            rw [List.length_map]
            have := List.length_filter_le (fun y : Int × Int => decide (y.1 = h)) ((prsOf L).take i)
            have := List.length_take_le' i (prsOf L)
            have := prsOf_len L
            omega
          · rw [upd_ne (ne_of_none e nD)]
            exact hs b o e
          · rw [upd_same, es, if_pos h1', List.map_append]
            rfl
        · have h1' : ¬ x.1 = h := of_decide_eq_false h1
          refine ⟨hs, ?_⟩
          rw [es, if_neg h1', List.append_nil]
          exact hacc
    · rintro H1 ⟨hs, hacc⟩
      refine ⟨hs _ _ upd_same, ?_⟩
      have hkn : kvs.length = (prsOf L).length := by
        have := congrArg List.length hT.1
        rw [List.length_map, List.length_map, List.take_length] at this
        exact this
      rw [hkn, List.take_length] at hacc
      have nDt : D ≠ th := fun z => by
        rw [z, upd_same] at nD
        cases nD
      have sG : Same H (upd H1 th (.dT kvs)) := fun b o e => by
        by_cases c : b = th
        · rw [c, upd_same, ← hth, ← c, e]
        · rw [upd_ne c]
          exact hs _ _ ((upd_ne c).trans e)
      have hD' : (upd H1 th (.dT kvs)) D = some (.lst ((arOf (prsOf L) h).map V.int)) := (upd_ne nDt).trans hacc
      generalize upd H1 th (.dT kvs) = G at *
      walk_at "rd"
      refine ⟨D, _, rfl, SqL.of hD', fun ns' l hpm hpw nl => ?_⟩
      walk_at "rd"
      refine ⟨l, _, rfl, .inl ⟨SqL.of upd_same, fun t nt => ?_⟩⟩
      have s2 := sG.trans (same_new (o := .lst (ns'.map V.int)) nl)
      exact q t ns' _ (s2.trans (same_new nt)) (s2.free nt) upd_same (hpm.trans (ar_perm hlt)) hpw
end
end Mw

/-! Y3 -/
namespace Mw
open PySem L2
theorem rd_rng1 {ta : TA} {σ : L2.St} {H : Hp} {R : It → Hp → Prop} (h : ta σ H fun vs H1 => ∃ j : Int, vs = [.int j] ∧ -(2 ^ 62) ≤ j ∧ j < 2 ^ 62 ∧ R (Itr 0 j.toNat) H1) : iRng1 ta σ H R := h
theorem rd_sfld {K : PySem.W.Frag} {ta tv : TE} {f : Str} {D : Ends} {σ : L2.St} {H : Hp} (h : tv σ H fun y H1 => ta σ H1 fun x H2 => ∃ a C dx fs, x = .ref a ∧ H2 a = some (.ins C dx fs) ∧ Cls K C ∧ NoAttr K C f ∧ fs.length < 1000 ∧ D.nx σ (upd H2 a (.ins C dx (putF f y fs)))) : sFld K ta tv f D σ H := h
theorem rd_tyesI {σ : L2.St} {H : Hp} {Q : Bool → Hp → Prop} (q : Q true H) : tYes σ H Q := q
theorem ties_inj : ∀ {A B : List Tie}, A.map tieD = B.map tieD → A = B
  | [], [], _ => rfl
  | [], b :: B, h => by cases h
  | a :: A, [], h => by cases h
  | (a1, a2, a3, a4) :: A, (b1, b2, b3, b4) :: B, h => by
    simp only [List.map_cons, List.cons.injEq, tieD, PyData.tuple.injEq, PyData.int.injEq, and_true] at h
    obtain ⟨⟨h1, h2, h3, h4⟩, h5⟩ := h
    rw [h1, h2, h3, h4, ties_inj h5]
def spWebInit (C CB : Addr) : Sp := fun vs H Q E => ∃ p a dx v1 v2 v3 v4 s t sp mo, vs = [.ref a, v1, v2, v3, v4] ∧ H a = some (.ins C dx []) ∧ Tp C p H s v1 ∧ Tp C p H t v2 ∧ Tp C p H sp v3 ∧ Tp C p H mo v4 ∧
  (webBad s t sp mo = none → ∀ H' dx' v5 v6, H' a = some (.ins C dx' (wf v1 v2 v3 v4 v5 v6)) → (∀ b o, b ≠ a → H b = some o → H' b = some o) → (∀ m L, s = .int m → t = .tuple (L.map tieD) → Ways H' v5 v6 m L (fun b => H b = none)) → Q .non H') ∧ (∀ part, webBad s t sp mo = some part → Raised CB part H E)
section
variable {P : Program} {w : World} {K : PySem.W.Frag} {mg : Str → Option Value} {base : Heap}
local macro_rules | `(tactic| walk_at "rd") => `(tactic| (repeat (first
  | ((with_reducible refine' rd_var ?h0 ?_); (case h0 => rfl))
  | with_reducible refine rd_c ?_
  | with_reducible refine rd_op ?_
  | with_reducible refine rd_nil ?_
  | with_reducible refine rd_cons ?_
  | with_reducible refine rd_tup ?_
  | with_reducible refine rd_lst ?_
  | with_reducible refine rd_ifs ?_
  | with_reducible refine rd_seq ?_
  | with_reducible refine rd_next ?_
  | with_reducible refine rd_ret ?_
  | with_reducible refine rd_asg ?_
  | with_reducible refine rd_gname ?_
  | with_reducible refine rd_drop ?_
  | with_reducible refine rd_test ?_
  | with_reducible refine rd_B ?_
  | with_reducible refine rd_bl ?_
  | with_reducible refine rd_blP ?_
  | with_reducible refine rd_andV ?_
  | with_reducible refine rd_orV ?_
  | with_reducible refine rd_notV ?_
  | with_reducible refine rd_and ?_
  | with_reducible refine rd_or ?_
  | with_reducible refine rd_not ?_
  | with_reducible refine rd_cb ?_
  | with_reducible refine rd_call ?_
  | with_reducible refine rd_un ?_
  | with_reducible refine rd_sl ?_
  | with_reducible refine rd_nopart ?_
  | with_reducible refine rd_part ?_
  | with_reducible refine rd_intP ?_
  | with_reducible refine rd_rU ?_
  | with_reducible refine rd_fld ?_
  | with_reducible refine rd_eqI ?_
  | with_reducible refine rd_neI ?_
  | with_reducible refine rd_mko ?_
  | with_reducible refine rd_i0 ?_)))
theorem ok_Web_init (T : Tx K mg) (B : Bk K mg T) : FnOk P w K mg base (L2.CX P w) 7 B.Web_init.f B.Web_init.fd ["self", "many", "ties", "spring", "mouth"] (spWebInit T.c_Web T.c_BadWeb) := by
  have G_is_number_below := ok_is_number_below (P := P) (w := w) (base := base) T B
  have G_check_many := ok_check_many (P := P) (w := w) (base := base) T B
  have G_check_ties := ok_check_ties (P := P) (w := w) (base := base) T B
  have G_through := ok_through (P := P) (w := w) (base := base) T B
  have G_around := ok_around (P := P) (w := w) (base := base) T B
  have G_BadWeb_init := ok_bad_init (P := P) (w := w) (base := base) T B
  refine B.Web_init.F.okX sc_Web_init (fun vs H Q E h => ?_) (fun cdv A outer s H vs Q E hr h => ?_)
  · obtain ⟨p, a, dx, v1, v2, v3, v4, s, t, sp, mo, rfl, _⟩ := h
    rfl
  · obtain ⟨p, a, dx, v1, v2, v3, v4, s, t, sp, mo, rfl, ha, t1, t2, t3, t4, q1, q0⟩ := h
    refine ⟨_, (pss_cons (ps_expr (pe_call G_check_many (hr.mono (by decide)) rfl B.check_many.m B.check_many.F.kp B.check_many.b .nil (passes_call (takes_of rfl rfl rfl rfl) (fun _ _ _ _ h => h)) (pa_cons (pv 1) pa_nil)))
      (pss_cons (ps_expr (pe_call G_check_ties (hr.mono (by decide)) rfl B.check_ties.m B.check_ties.F.kp B.check_ties.b .nil (passes_call (takes_of rfl rfl rfl rfl) (fun _ _ _ _ h => h)) (pa_cons (pv 1) (pa_cons (pv 2) pa_nil))))
      (pss_cons (ps_if (pt_not (pt_val (pe_call G_is_number_below (hr.mono (by decide)) rfl B.is_number_below.m B.is_number_below.F.kp B.is_number_below.b .nil pass0 (pa_cons (pv 1) (pa_cons (pv 3) pa_nil))))) (pss_one (ps_raise rfl (takes_of rfl rfl rfl rfl) (pmk_oex T.x_BadWeb B.BadWeb_init.a B.BadWeb_init.t G_BadWeb_init (hr.mono (by decide)) B.BadWeb_init.b .nil pass0 rfl T.g_BadWeb (pa_cons pe_str pa_nil)))) pss_nil)
      (pss_cons (ps_if (PW.pt (pw_or (pt_not (pt_val (pe_call G_is_number_below (hr.mono (by decide)) rfl B.is_number_below.m B.is_number_below.F.kp B.is_number_below.b .nil pass0 (pa_cons (pv 1) (pa_cons (pv 4) pa_nil))))) (pw_or1 (pt_cmpR op_eq (pv 4) (pv 3) (nomark _))))) (pss_one (ps_raise rfl (takes_of rfl rfl rfl rfl) (pmk_oex T.x_BadWeb B.BadWeb_init.a B.BadWeb_init.t G_BadWeb_init (hr.mono (by decide)) B.BadWeb_init.b .nil pass0 rfl T.g_BadWeb (pa_cons pe_str pa_nil)))) pss_nil)
      (pss_cons (ps_fld (pv 0) (pv 1) rfl)
      (pss_cons (ps_fld (pv 0) (pv 2) rfl)
      (pss_cons (ps_fld (pv 0) (pv 3) rfl)
      (pss_cons (ps_fld (pv 0) (pv 4) rfl)
      (pss_cons (ps_fld (pv 0) (pe_call G_through (hr.mono (by decide)) rfl B.through.m B.through.F.kp B.through.b .nil pass0 (pa_cons (pv 2) pa_nil)) rfl)
      (pss_one (ps_fld (pv 0) (pe_callTy call_tuple_of (by rfl) T.b_tuple (by decide +kernel) (pa_cons (pe_lc (own := [("house", 5)]) (g := gName 5) rfl sc_Web_init.nd (pi_range1 (by rfl) T.b_range (pa_cons (pv 1) pa_nil)) (blkOk_by (own := [("house", 5)]) (N := ["self", "many", "ties", "spring", "mouth", "house"]) (sc := defScope s_Web_init) (by decide +kernel)) (fun _ _ _ _ _ => pg_name (i := 5) sc_Web_init.nd rfl (Or.inl rfl)) (fun _ _ _ _ _ => pts_nil) (fun _ _ _ _ _ => (pe_call G_around (hr.mono (by decide)) rfl B.around.m B.around.F.kp B.around.b .nil pass0 (pa_cons (show PE _ _ (tFld K (tVar 0) "through") from pe_fld (pv 0) rfl) (pa_cons (pv 5) pa_nil))))) pa_nil)) rfl))))))))))), ?_⟩
    walk_at "rd"
    refine ⟨p, s, v1, rfl, t1, fun h1 => ?_, fun h0 => q0 _ ?_⟩
    · cases s with
      | int m =>
        cases tp_int' t1
        walk_at "rd"
        refine ⟨p, m, t, v2, rfl, t2, fun h2 H1 s1 => ?_, fun k h2 => q0 _ ?_⟩
        · have k1 : Keep p H H1 := Keep.same s1
          walk_at "rd"
          refine ⟨p, m, sp, v3, rfl, Tp.keep k1 _ _ t3, ?_⟩
          walk_at "rd"
          refine rd_ite (fun h3 => ?_) (fun h3 => ?_)
          · walk_at "rd"
            refine bad_made (Raised.mono s1 (q0 _ ?_))
            have e3 : isNb m sp = false := by simpa using h3
            unfold webBad
            simp [h1, h2, e3]
          · have e3 : isNb m sp = true := by simpa using h3
            walk_at "rd"
            refine ⟨p, m, mo, v4, rfl, Tp.keep k1 _ _ t4, ?_⟩
            walk_at "rd"
            refine rd_ite (fun h4 => ?_) (fun h4 => ?_)
            · refine rd_ite (fun _ => ?_) (fun z => by cases z)
              walk_at "rd"
              refine bad_made (Raised.mono s1 (q0 _ ?_))
              have e4 : isNb m mo = false := by simpa using h4
              unfold webBad
              simp [h1, h2, e3, e4]
            · have e4 : isNb m mo = true := by simpa using h4
              cases mo with
              | int mi =>
                cases sp with
                | int si =>
                  cases tp_int' t4
                  cases tp_int' t3
                  walk_at "rd"
                  refine rd_ite (fun h5 => ?_) (fun h5 => ?_)
                  · walk_at "rd"
                    refine bad_made (Raised.mono s1 (q0 _ ?_))
                    have e5 : sameI (.int mi) (.int si) = true := h5
                    unfold webBad
                    simp [h1, h2, e3, e4, e5]
                  · have e5 : sameI (.int mi) (.int si) = false := h5
                    walk_at "rd"
                    refine ⟨_, rfl, .ref a, rfl, a, T.c_Web, dx, [], rfl, s1 _ _ ha, T.W.cl, T.na_many, (by show 0 < 1000; decide), ?_⟩
                    refine ⟨_, rfl, .ref a, rfl, a, T.c_Web, dx, _, rfl, upd_same, T.W.cl, T.na_ties, (by show 1 < 1000; decide), ?_⟩
                    refine ⟨_, rfl, .ref a, rfl, a, T.c_Web, dx, _, rfl, upd_same, T.W.cl, T.na_spring, putF_2 _ _ _ _, ?_⟩
                    refine ⟨_, rfl, .ref a, rfl, a, T.c_Web, dx, _, rfl, upd_same, T.W.cl, T.na_mouth, putF_3 _ _ _ _ _ _, ?_⟩
                    have hbad : webBad (.int m) t (.int si) (.int mi) = none := by
                      unfold webBad
                      simp [h1, h2, e3, e4, e5]
                    obtain ⟨m', L, a', b', em, rfl, ea, eb, hR, hm2, hm10, hin, _⟩ := webBad_none hbad
                    cases em
                    cases ea
                    cases eb
                    rw [wf_put]
                    have hX : ∀ b o, b ≠ a → H1 b = some o → (upd (upd (upd (upd H1 a (.ins T.c_Web dx (putF "many" (V.int m) []))) a (.ins T.c_Web dx (putF "ties" v2 (putF "many" (V.int m) [])))) a (.ins T.c_Web dx (putF "spring" (V.int si) (putF "ties" v2 (putF "many" (V.int m) []))))) a (.ins T.c_Web dx (wf4 (.int m) v2 (.int si) (.int mi)))) b = some o := fun b o n e => by
                      rw [upd_ne n, upd_ne n, upd_ne n, upd_ne n]
                      exact e
                    have hXa := upd_same (H := upd (upd (upd H1 a (.ins T.c_Web dx (putF "many" (V.int m) []))) a (.ins T.c_Web dx (putF "ties" v2 (putF "many" (V.int m) [])))) a (.ins T.c_Web dx (putF "spring" (V.int si) (putF "ties" v2 (putF "many" (V.int m) []))))) (a := a) (o := .ins T.c_Web dx (wf4 (.int m) v2 (.int si) (.int mi)))
                    generalize upd (upd (upd (upd H1 a (.ins T.c_Web dx (putF "many" (V.int m) []))) a (.ins T.c_Web dx (putF "ties" v2 (putF "many" (V.int m) [])))) a (.ins T.c_Web dx (putF "spring" (V.int si) (putF "ties" v2 (putF "many" (V.int m) []))))) a (.ins T.c_Web dx (wf4 (.int m) v2 (.int si) (.int mi))) = X at *
                    have ktX : KT H X := fun b ys e => hX b _ (fun z => by
                      rw [z, ha] at e
                      cases e) (s1 _ _ e)
                    have tX : Tp T.c_Web p X (.tuple (L.map tieD)) v2 := Tp.keepT ktX _ _ (plain_tiesL L) t2
                    dsimp only
                    walk_at "rd"
                    refine rd_sfld ?_
                    walk_at "rd"
                    refine ⟨p, m, L, si, mi, v2, rfl, tX, hR, fun th kvs H5 s5 nth hth hT => ?_⟩
                    walk_at "rd"
                    refine ⟨a, T.c_Web, dx, _, rfl, s5 _ _ hXa, T.W.cl, T.na_through, (by show 4 < 1000; decide), ?_⟩
                    rw [wf_put5]
                    have nat : th ≠ a := (ne_of_none hXa nth).symm
                    have hY : ∀ b o, b ≠ a → H5 b = some o → (upd H5 a (.ins T.c_Web dx (wf5 (.int m) v2 (.int si) (.int mi) (.ref th)))) b = some o := fun b o n e => (upd_ne n).trans e
                    have hYa := upd_same (H := H5) (a := a) (o := .ins T.c_Web dx (wf5 (.int m) v2 (.int si) (.int mi) (.ref th)))
                    have hYt := hY _ _ nat hth
                    generalize upd H5 a (.ins T.c_Web dx (wf5 (.int m) v2 (.int si) (.int mi) (.ref th))) = Y at *
                    dsimp only
                    walk_at "rd"
                    refine rd_sfld ?_
                    walk_at "rd"
                    show iRng1 _ _ _ _
                    refine rd_rng1 ?_
                    walk_at "rd"
                    refine ⟨m, rfl, by omega, by omega, fun D nD => lc_range (lo := 0) (n := m.toNat) (fun i H6 => Same Y H6 ∧ ∃ rs : List Addr, H6 D = some (.lst (rs.map V.ref)) ∧ rs.length = i ∧ ∀ (j : Nat) r, rs[j]? = some r → Y r = none ∧ ∃ ns : List Int, H6 r = some (.tup (ns.map V.int)) ∧ ns.Perm (belowOf L j ++ aboveOf L j) ∧ ns.Pairwise (· ≤ ·))
                      ⟨same_new nD, [], upd_same, rfl, fun j r h => by simp at h⟩ ?_ ?_⟩
                    · rintro i H6 hi ⟨hs, rs, hacc, hl, hrs⟩
                      refine ⟨rfl, ?_⟩
                      refine rd_tyesI ?_
                      refine iteT ?_
                      walk_at "rd"
                      refine ⟨a, T.c_Web, dx, _, _, rfl, hs _ _ hYa, T.W.cl, T.na_through, wf5_through _ _ _ _ _, ?_⟩
                      walk_at "rd"
                      refine ⟨th, 0 + (i : Nat), kvs, L, rfl, hs _ _ hYt, hT, hR.len, fun q hq => (hin q hq).2.1, fun r ns H7 s7 nr hr hpm hpw => ?_⟩
                      rw [Int.zero_add] at hpm
                      have hacc7 := s7 _ _ hacc
                      refine ⟨_, hacc7, Nat.lt_of_le_of_lt (show _ ≤ 10 by rw [List.length_map]; omega) (by decide), fun b o e => ?_, rs ++ [r], ?_, by simp [hl], fun j r' hj => ?_⟩
                      · rw [upd_ne (ne_of_none e nD)]
                        exact s7 _ _ (hs b o e)
                      · rw [upd_same, List.map_append]
                        rfl
                      · by_cases c : j < i
                        · rw [List.getElem?_append_left (by omega)] at hj
                          obtain ⟨g1, ns', g2, g3, g4⟩ := hrs j r' hj
                          refine ⟨g1, ns', ?_, g3, g4⟩
                          rw [upd_ne (ne_of g2 hacc (by intro z; cases z))]
                          exact s7 _ _ g2
                        · have hji : j = i := by
                            have := (List.getElem?_eq_some_iff.mp hj).1
                            rw [List.length_append] at this
                            simp at this
                            omega
                          subst hji
                          rw [List.getElem?_append_right (by omega), hl] at hj
                          simp at hj
                          subst hj
                          refine ⟨hs.free nr, ns, ?_, hpm, hpw⟩
                          rw [upd_ne (ne_of hr hacc7 (by intro z; cases z))]
                          exact hr
                    · rintro H6 ⟨hs, rs, hacc, hl, hrs⟩
                      walk_at "rd"
                      refine ⟨D, _, rfl, .inl ⟨SqL.of hacc, fun ar nar => ?_⟩⟩
                      have s8 := same_new (o := .tup (rs.map V.ref)) nar
                      walk_at "rd"
                      trace_state
                      refine ⟨a, T.c_Web, dx, _, rfl, s8 _ _ (hs _ _ hYa), T.W.cl, T.na_around, (by show 5 < 1000; decide), ?_⟩
                      rw [wf_put6]
                      have fr : ∀ b, Y b = none → H b = none := fun b nb => by
                        cases z : H b with
                        | none => rfl
                        | some o =>
                          exfalso
                          by_cases c : b = a
                          · rw [c, hYa] at nb
                            cases nb
                          · rw [hY b o c (s5 _ _ (hX b o c (s1 _ _ z)))] at nb
                            cases nb
                      have nara : ar ≠ a := (ne_of_none (hs _ _ hYa) nar).symm
                      refine q1 hbad _ dx _ _ upd_same (fun b o n e => ?_) (fun m' L' em eL => ?_)
                      · rw [upd_ne n]
                        exact s8 _ _ (hs _ _ (hY b o n (s5 _ _ (hX b o n (s1 _ _ e)))))
                      · cases em
                        have eLL : L' = L := ties_inj (by simpa using eL.symm)
                        subst eLL
                        have up : ∀ b o, H6 b = some o → b ≠ a → (upd (upd H6 ar (.tup (rs.map V.ref))) a (.ins T.c_Web dx (wf (.int m) v2 (.int si) (.int mi) (.ref th) (.ref ar)))) b = some o := fun b o e n => (upd_ne n).trans (s8 _ _ e)
                        have nth0 : H th = none := by
                          cases z : H th with
                          | none => rfl
                          | some o =>
                            rw [hX th o nat (s1 _ _ z)] at nth
                            cases nth
                        refine ⟨th, ar, kvs, rs, rfl, rfl, up _ _ (hs _ _ hYt) nat, hT, (upd_ne nara).trans upd_same, hl, nth0, fr _ (hs.free nar), fun j r hj => ?_⟩
                        obtain ⟨g1, ns, g2, g3, g4⟩ := hrs j r hj
                        exact ⟨fr _ g1, ns, up _ _ g2 (ne_of g2 (hs _ _ hYa) (by intro z; cases z)), g3, g4⟩
                | _ => cases e3
              | _ => cases e4
        · unfold webBad
          simp [h1, h2]
      | _ => cases h1
    · unfold webBad
      cases s <;> simp [h0]
end
end Mw

/-! M7 -/
namespace Mw
open PySem L2
section
variable {C p : Addr} {H H' : Hp} {K : PySem.W.Frag}
/-- a right web's object -/
def WebAt (C p : Addr) (H : Hp) (a : Addr) (m : Int) (L : List Tie) (sp mo : Int) : Prop := ∃ dx v2 v5 v6, At p H a (.ins C dx (wf (.int m) v2 (.int sp) (.int mo) v5 v6)) ∧ Tp C p H (.tuple (L.map tieD)) v2 ∧ Ways H v5 v6 m L (fun b => b ≠ p) ∧ ∀ q ∈ L, q.1 < q.2.1
theorem Ways.keep {v5 v6 : V} {m : Int} {L : List Tie} (k : Keep p H H') (h : Ways H v5 v6 m L (fun b => b ≠ p)) : Ways H' v5 v6 m L (fun b => b ≠ p) := by
  obtain ⟨th, ar, kvs, rs, e1, e2, h1, h2, h3, h4, h5, h6, h7⟩ := h
  refine ⟨th, ar, kvs, rs, e1, e2, k _ _ h5 h1, h2, k _ _ h6 h3, h4, h5, h6, fun j r hj => ?_⟩
  obtain ⟨g1, ns, g2, g3⟩ := h7 j r hj
  exact ⟨g1, ns, k _ _ g1 g2, g3⟩
theorem WebAt.keep {a : Addr} {m : Int} {L : List Tie} {sp mo : Int} (k : Keep p H H') (h : WebAt C p H a m L sp mo) : WebAt C p H' a m L sp mo := by
  obtain ⟨dx, v2, v5, v6, ha, t, hwy, hlt⟩ := h
  exact ⟨dx, v2, v5, v6, ha.keep k, Tp.keep k _ _ t, hwy.keep k, hlt⟩
mutual
theorem tp_dp : ∀ (d : PyData) (v : V), d.canLay0 = true → Tp C p H d v → Dp K H v d
  | .none, v, _, h => by
    simp only [Tp] at h
    subst h
    exact .non
  | .bool b, v, _, h => by
    simp only [Tp] at h
    subst h
    exact .bl b
  | .int i, v, _, h => by
    simp only [Tp] at h
    subst h
    exact .int i
  | .str s, v, _, h => by
    simp only [Tp] at h
    subst h
    exact .str s
  | .list ds, v, c, h => by
    simp only [Tp] at h
    obtain ⟨a, xs, rfl, _, ha, r⟩ := h
    exact .lst (SqL.of ha) (tp_dpAll ds xs (by simpa only [PyData.canLay0] using c) r)
  | .tuple ds, v, c, h => by
    simp only [Tp] at h
    obtain ⟨a, xs, rfl, _, ha, r⟩ := h
    exact .tup (SqT.of ha) (tp_dpAll ds xs (by simpa only [PyData.canLay0] using c) r)
  | .dict _, v, c, _ => by simp only [PyData.canLay0] at c; cases c
theorem tp_dpAll : ∀ (ds : List PyData) (xs : List V), PyData.canLayAll0 ds = true → TpAll C p H ds xs → DpAll K H xs ds
  | [], xs, _, h => by
    simp only [TpAll] at h
    subst h
    exact .nil
  | d :: ds, xs, c, h => by
    simp only [TpAll] at h
    obtain ⟨x, r, rfl, h1, h2⟩ := h
    simp only [PyData.canLayAll0, Bool.and_eq_true] at c
    exact .cons (tp_dp d x c.1 h1) (tp_dpAll ds r c.2 h2)
end
theorem lay_ties : ∀ L : List Tie, PyData.canLayAll0 (L.map tieD) = true
  | [] => rfl
  | q :: L => by
    show (PyData.canLay0 (tieD q) && PyData.canLayAll0 (L.map tieD)) = true
    rw [lay_ties L]
    rfl
theorem depth_ties : ∀ L : List Tie, PyData.depthAll (L.map tieD) ≤ 1
  | [] => Nat.zero_le _
  | q :: L => by
    show max (PyData.depth (tieD q)) (PyData.depthAll (L.map tieD)) ≤ 1
    have h := depth_ties L
    have e : PyData.depth (tieD q) = 1 := rfl
    omega
theorem shaped_ties (L : List Tie) : SeqAt.shaped (.tuple (L.map tieD)) = true := by
  show (PyData.canLay0 (.tuple (L.map tieD)) && decide (PyData.depth (.tuple (L.map tieD)) ≤ 64)) = true
  have h := depth_ties L
  have e : PyData.depth (.tuple (L.map tieD)) = PyData.depthAll (L.map tieD) + 1 := rfl
  rw [e, show PyData.canLay0 (.tuple (L.map tieD)) = true from lay_ties L]
  simp
  omega
end
/-- whether two right webs are equal -/
def webEq (m : Int) (L : List Tie) (sp mo m' : Int) (L' : List Tie) (sp' mo' : Int) : Bool := decide (m = m') && (PyData.eqv (.tuple (L.map tieD)) (.tuple (L'.map tieD)) && (decide (sp = sp') && decide (mo = mo')))
def REq (C : Addr) (a : Addr) (y : V) (H : Hp) (r : Bool) : Prop := ∃ p m L sp mo, WebAt C p H a m L sp mo ∧ ((∃ b m' L' sp' mo', y = .ref b ∧ WebAt C p H b m' L' sp' mo' ∧ r = webEq m L sp mo m' L' sp' mo') ∨ ∃ b ys, y = .ref b ∧ H b = some (.tup ys) ∧ r = false)
def spCkHouse (C CN : Addr) : Sp := fun vs H Q E => ∃ p a m L sp mo d x, vs = [.ref a, x] ∧ WebAt C p H a m L sp mo ∧ Tp C p H d x ∧ (isNb m d = true → Q .non H) ∧ (isNb m d = false → E (.ref CN) none H)
def spNeigh (C CN : Addr) : Sp := fun vs H Q E => ∃ p a m L sp mo d x, vs = [.ref a, x] ∧ WebAt C p H a m L sp mo ∧ L.length ≤ 100 ∧ Tp C p H d x ∧ (isNb m d = false → E (.ref CN) none H) ∧
  (∀ h, d = .int h → isNb m d = true → ∀ (r : Addr) (ns : List Int) (H' : Hp), r ≠ p → Same H H' → H' r = some (.tup (ns.map V.int)) → ns.Perm (belowOf L h ++ aboveOf L h) → ns.Pairwise (· ≤ ·) → Q (.ref r) H')
def spLets (C CN CT : Addr) : Sp := fun vs H Q E => ∃ p a m L sp mo d e x y, vs = [.ref a, x, y] ∧ WebAt C p H a m L sp mo ∧ Tp C p H d x ∧ Tp C p H e y ∧ (isNb m d = false → E (.ref CN) none H) ∧ (isNb m d = true → isNb m e = false → E (.ref CN) none H) ∧
  (∀ i j, d = .int i → e = .int j → isNb m d = true → isNb m e = true → ∀ H', Same H H' → (∀ v, letsOf L i j = some v → Q (.int v) H') ∧ (letsOf L i j = none → E (.ref CT) none H'))
section
variable {P : Program} {w : World} {K : PySem.W.Frag} {mg : Str → Option Value} {base : Heap}
theorem rd_ixT {H : Hp} {Q : VK} {a : Addr} {xs : List V} {i : Int} {v : V} (h : H a = some (.tup xs)) (e : atI xs i = some v) (q : Q v H) : rIxT K (.ref a) (.int i) H Q := ⟨a, xs, i, v, rfl, rfl, SqT.of h, e, q⟩
theorem rd_ixL {H : Hp} {Q : VK} {a : Addr} {xs : List V} {i : Int} {v : V} (h : H a = some (.lst xs)) (e : atI xs i = some v) (q : Q v H) : rIxL K (.ref a) (.int i) H Q := ⟨a, xs, i, v, rfl, rfl, SqL.of h, e, q⟩
local macro_rules | `(tactic| walk_at "rd") => `(tactic| (repeat (first
  | ((with_reducible refine' rd_var ?h0 ?_); (case h0 => rfl))
  | with_reducible refine rd_c ?_
  | with_reducible refine rd_op ?_
  | with_reducible refine rd_nil ?_
  | with_reducible refine rd_cons ?_
  | with_reducible refine rd_tup ?_
  | with_reducible refine rd_lst ?_
  | with_reducible refine rd_ifs ?_
  | with_reducible refine rd_seq ?_
  | with_reducible refine rd_next ?_
  | with_reducible refine rd_ret ?_
  | with_reducible refine rd_asg ?_
  | with_reducible refine rd_gname ?_
  | with_reducible refine rd_drop ?_
  | with_reducible refine rd_test ?_
  | with_reducible refine rd_B ?_
  | with_reducible refine rd_bl ?_
  | with_reducible refine rd_blP ?_
  | with_reducible refine rd_andV ?_
  | with_reducible refine rd_orV ?_
  | with_reducible refine rd_notV ?_
  | with_reducible refine rd_and ?_
  | with_reducible refine rd_or ?_
  | with_reducible refine rd_not ?_
  | with_reducible refine rd_cb ?_
  | with_reducible refine rd_call ?_
  | with_reducible refine rd_un ?_
  | with_reducible refine rd_sl ?_
  | with_reducible refine rd_nopart ?_
  | with_reducible refine rd_part ?_
  | with_reducible refine rd_intP ?_
  | with_reducible refine rd_rU ?_
  | with_reducible refine rd_fld ?_
  | with_reducible refine rd_eqI ?_
  | with_reducible refine rd_neI ?_
  | with_reducible refine rd_mko ?_
  | with_reducible refine rd_i0 ?_)))
theorem ok_Web_eq (T : Tx K mg) (B : Bk K mg T) : FnOk P w K mg base CX0 1 B.Web_eq.f B.Web_eq.fd ["self", "other"] (spEq2 (REq T.c_Web)) := by
  refine B.Web_eq.F.ok sc_Web_eq (fun vs H Q E h => ?_) (fun cdv A outer s H vs Q E hr h => ?_)
  · obtain ⟨a, y, r, rfl, _⟩ := h
    rfl
  · obtain ⟨a, y, r, rfl, ⟨p, m, L, sp, mo, ⟨dx, v2, v5, v6, ha, t2, hwy, hlt⟩, hy⟩, q⟩ := h
    refine ⟨_, (pss_one (ps_ret (pe_and (pe_callB call_isi (by rfl) T.b_isinstance (by decide +kernel) (pa_cons (pv 1) (pa_cons (pe_glob (v := .ref T.c_Web) (by rfl) T.g_Web rfl) pa_nil))) (pe_and (pe_cmpR op_eq (pe_fld (pv 0) rfl) (pe_fld (pv 1) rfl) (nomark _)) (pe_and (pe_cmpR (op_eqD hr.units) (pe_fld (pv 0) rfl) (pe_fld (pv 1) rfl) (nomark _)) (pe_and (pe_cmpR op_eq (pe_fld (pv 0) rfl) (pe_fld (pv 1) rfl) (nomark _)) (pe_one (pe_cmpR op_eq (pe_fld (pv 0) rfl) (pe_fld (pv 1) rfl) (nomark _))))))))), ?_⟩
    have kWW : PySem.W.kitOne K (.ref T.c_Web) (.ref T.c_Web) = some true := by
      unfold PySem.W.kitOne
      rw [if_pos (by simp)]
    rcases hy with ⟨b, m', L', sp', mo', rfl, ⟨dy, u2, u5, u6, hb, t2', hwy', hlt'⟩, er⟩ | ⟨b, ys, rfl, hb, er⟩
    · walk_at "rd"
      refine ⟨_, _, _, _, _, rfl, .own _, .base (.ins hb.2 T.W.cl T.W.ca T.W.cg T.W.ct T.W.co), kWW, ?_⟩
      walk_at "rd"
      refine iteT ?_
      walk_at "rd"
      refine ⟨a, T.c_Web, dx, _, _, rfl, ha.2, T.W.cl, T.na_many, wf_many _ _ _ _ _ _, ?_⟩
      walk_at "rd"
      refine ⟨b, T.c_Web, dy, _, _, rfl, hb.2, T.W.cl, T.na_many, wf_many _ _ _ _ _ _, ?_⟩
      walk_at "rd"
      unfold webEq at er
      refine rd_ite (fun h1 => ?_) (fun h1 => ?_)
      · rw [h1, Bool.true_and] at er
        walk_at "rd"
        refine ⟨a, T.c_Web, dx, _, _, rfl, ha.2, T.W.cl, T.na_ties, wf_ties _ _ _ _ _ _, ?_⟩
        walk_at "rd"
        refine ⟨b, T.c_Web, dy, _, _, rfl, hb.2, T.W.cl, T.na_ties, wf_ties _ _ _ _ _ _, ?_⟩
        refine ⟨_, _, tp_dp (.tuple (L.map tieD)) _ (lay_ties L) t2, tp_dp (.tuple (L'.map tieD)) _ (lay_ties L') t2', shaped_ties L, shaped_ties L', ?_⟩
        walk_at "rd"
        refine rd_ite (fun h2 => ?_) (fun h2 => ?_)
        · rw [h2, Bool.true_and] at er
          walk_at "rd"
          refine ⟨a, T.c_Web, dx, _, _, rfl, ha.2, T.W.cl, T.na_spring, wf_spring _ _ _ _ _ _, ?_⟩
          walk_at "rd"
          refine ⟨b, T.c_Web, dy, _, _, rfl, hb.2, T.W.cl, T.na_spring, wf_spring _ _ _ _ _ _, ?_⟩
          walk_at "rd"
          refine rd_ite (fun h3 => ?_) (fun h3 => ?_)
          · rw [h3, Bool.true_and] at er
            walk_at "rd"
            refine ⟨a, T.c_Web, dx, _, _, rfl, ha.2, T.W.cl, T.na_mouth, wf_mouth _ _ _ _ _ _, ?_⟩
            walk_at "rd"
            refine ⟨b, T.c_Web, dy, _, _, rfl, hb.2, T.W.cl, T.na_mouth, wf_mouth _ _ _ _ _ _, ?_⟩
            walk_at "rd"
            rw [er] at q
            exact q
          · rw [h3, Bool.false_and] at er
            rw [er] at q
            exact q
        · rw [h2, Bool.false_and] at er
          rw [er] at q
          exact q
      · rw [h1, Bool.false_and] at er
        rw [er] at q
        exact q
    · walk_at "rd"
      refine ⟨_, _, _, _, _, rfl, .own _, .base (.tup hb), T.kTW, ?_⟩
      walk_at "rd"
      rw [er] at q
      exact iteF q
end
end Mw

/-! M8 -/
namespace Mw
open PySem L2
/-- an eq of two pairs of numbers -/
theorem rd_eq2 {K : PySem.W.Frag} {H : Hp} {Q : VK} {s t : Addr} {a b c d : Int} (h1 : H s = some (.tup [.int a, .int b])) (h2 : H t = some (.tup [.int c, .int d])) (q : Q (.bl (a == c && b == d)) H) : rEqD K (.ref s) (.ref t) H Q := by
  refine ⟨.tuple [.int a, .int b], .tuple [.int c, .int d], .tup (SqT.of h1) (.cons (.int a) (.cons (.int b) .nil)), .tup (SqT.of h2) (.cons (.int c) (.cons (.int d) .nil)), rfl, rfl, ?_⟩
  have e : PyData.eqv (.tuple [.int a, .int b]) (.tuple [.int c, .int d]) = (a == c && b == d) := by
    show (a == c && (b == d && true)) = _
    simp
  rw [e]
  exact q
section
variable {P : Program} {w : World} {K : PySem.W.Frag} {mg : Str → Option Value} {base : Heap}
local macro_rules | `(tactic| walk_at "rd") => `(tactic| (repeat (first
  | ((with_reducible refine' rd_var ?h0 ?_); (case h0 => rfl))
  | with_reducible refine rd_c ?_
  | with_reducible refine rd_op ?_
  | with_reducible refine rd_nil ?_
  | with_reducible refine rd_cons ?_
  | with_reducible refine rd_tup ?_
  | with_reducible refine rd_lst ?_
  | with_reducible refine rd_ifs ?_
  | with_reducible refine rd_seq ?_
  | with_reducible refine rd_next ?_
  | with_reducible refine rd_ret ?_
  | with_reducible refine rd_asg ?_
  | with_reducible refine rd_gname ?_
  | with_reducible refine rd_drop ?_
  | with_reducible refine rd_test ?_
  | with_reducible refine rd_B ?_
  | with_reducible refine rd_bl ?_
  | with_reducible refine rd_blP ?_
  | with_reducible refine rd_andV ?_
  | with_reducible refine rd_orV ?_
  | with_reducible refine rd_notV ?_
  | with_reducible refine rd_and ?_
  | with_reducible refine rd_or ?_
  | with_reducible refine rd_not ?_
  | with_reducible refine rd_cb ?_
  | with_reducible refine rd_call ?_
  | with_reducible refine rd_un ?_
  | with_reducible refine rd_sl ?_
  | with_reducible refine rd_nopart ?_
  | with_reducible refine rd_part ?_
  | with_reducible refine rd_intP ?_
  | with_reducible refine rd_rU ?_
  | with_reducible refine rd_fld ?_
  | with_reducible refine rd_eqI ?_
  | with_reducible refine rd_neI ?_
  | with_reducible refine rd_mko ?_
  | with_reducible refine rd_i0 ?_)))
end
end Mw

/-! M9 -/
namespace Mw
open PySem L2
def letsP (i j : Int) (q : Tie) : Bool := (q.1 == i && q.2.1 == j) || (q.1 == j && q.2.1 == i)
theorem find_first {α : Type} {L : List α} {f : α → Bool} {k : Nat} {q : α} (hq : L[k]? = some q) (h1 : f q = true) (h0 : ∀ j r, j < k → L[j]? = some r → f r = false) : L.find? f = some q := by
  rw [List.find?_eq_some_iff_getElem]
  obtain ⟨hk, e⟩ := List.getElem?_eq_some_iff.mp hq
  refine ⟨h1, k, hk, e, fun j hj => ?_⟩
  have hjl : j < L.length := Nat.lt_trans hj hk
  rw [h0 j L[j] hj (by simp [hjl])]
  rfl
theorem find_nothing {α : Type} {L : List α} {f : α → Bool} (h0 : ∀ (j : Nat) r, j < L.length → L[j]? = some r → f r = false) : L.find? f = none := by
  rw [List.find?_eq_none]
  intro r hr
  obtain ⟨j, hj, e⟩ := List.getElem_of_mem hr
  rw [h0 j r hj (by rw [List.getElem?_eq_getElem hj, e])]
  decide
section
variable {P : Program} {w : World} {K : PySem.W.Frag} {mg : Str → Option Value} {base : Heap}
local macro_rules | `(tactic| walk_at "rd") => `(tactic| (repeat (first
  | ((with_reducible refine' rd_var ?h0 ?_); (case h0 => rfl))
  | with_reducible refine rd_c ?_
  | with_reducible refine rd_op ?_
  | with_reducible refine rd_nil ?_
  | with_reducible refine rd_cons ?_
  | with_reducible refine rd_tup ?_
  | with_reducible refine rd_lst ?_
  | with_reducible refine rd_ifs ?_
  | with_reducible refine rd_seq ?_
  | with_reducible refine rd_next ?_
  | with_reducible refine rd_ret ?_
  | with_reducible refine rd_asg ?_
  | ((with_reducible refine' rd_gset ?hs ?_); (case hs => ((simp only [L2.start, List.map_cons, List.map_nil, List.length_cons, List.length_nil, List.cons_append, List.nil_append, List.set_cons_zero, List.set_cons_succ, Nat.reduceAdd, Nat.reduceSub, Nat.zero_add, List.reduceReplicate]); rfl)))
  | with_reducible refine rd_drop ?_
  | with_reducible refine rd_test ?_
  | with_reducible refine rd_B ?_
  | with_reducible refine rd_bl ?_
  | with_reducible refine rd_blP ?_
  | with_reducible refine rd_andV ?_
  | with_reducible refine rd_orV ?_
  | with_reducible refine rd_notV ?_
  | with_reducible refine rd_and ?_
  | with_reducible refine rd_or ?_
  | with_reducible refine rd_not ?_
  | with_reducible refine rd_chain ?_
  | with_reducible refine rd_dput ?_
  | with_reducible refine rd_dget ?_
  | with_reducible refine rd_cb ?_
  | with_reducible refine rd_call ?_
  | with_reducible refine rd_un ?_
  | with_reducible refine rd_sl ?_
  | with_reducible refine rd_nopart ?_
  | with_reducible refine rd_part ?_
  | with_reducible refine rd_intP ?_
  | with_reducible refine rd_rU ?_
  | with_reducible refine rd_fld ?_
  | with_reducible refine rd_eqI ?_
  | with_reducible refine rd_neI ?_
  | with_reducible refine rd_mko ?_
  | with_reducible refine rd_bm ?_
  | with_reducible refine rd_gsub ?_
  | with_reducible refine rd_i0 ?_)))
end
end Mw

/-! M10 -/
namespace Mw
open PySem L2
/-- the hand: the script's ints, how many are taken, what is left of a great one (from 0 on), the seed, a count -/
def HandAt (p l : Addr) (H : Hp) : Prop := ∃ (ns : List Int) (i : Nat) (c z t : Int), H p = some (.lst [.ref l, .int (i : Nat), .int c, .int z, .int t]) ∧ l ≠ p ∧ H l = some (.lst (ns.map V.int)) ∧ 0 ≤ c ∧ 0 ≤ z ∧ z < 2147483647
theorem HandAt.keep {p l : Addr} {H H' : Hp} (s : Same H H') (h : HandAt p l H) : HandAt p l H' := by
  obtain ⟨ns, i, c, z, t, h1, h2, h3, r⟩ := h
  exact ⟨ns, i, c, z, t, s _ _ h1, h2, s _ _ h3, r⟩
theorem HandAt.there {p l : Addr} {H : Hp} (h : HandAt p l H) : ∃ u, H p = some u := by
  obtain ⟨ns, i, c, z, t, h1, _⟩ := h
  exact ⟨_, h1⟩
theorem HandAt.there2 {p l : Addr} {H : Hp} (h : HandAt p l H) : ∃ u, H l = some u := by
  obtain ⟨ns, i, c, z, t, h1, h2, h3, _⟩ := h
  exact ⟨_, h3⟩
def spHand (K : PySem.W.Frag) : Sp := fun vs H Q _ => ∃ (a : Addr) (ns : List Int), vs = [.ref a] ∧ SqL K H a (ns.map V.int) ∧ ∀ p l H', H p = none → HandAt p l H' → Same H H' → Q (.ref p) H'
def spTake : Sp := fun vs H Q _ => ∃ (p l : Addr) (m : Int), vs = [.ref p, .int m] ∧ 1 ≤ m ∧ m < 1073741824 ∧ HandAt p l H ∧ ∀ r H', 0 ≤ r → r < m → HandAt p l H' → Keep p H H' → Q (.int r) H'
section
variable {P : Program} {w : World} {K : PySem.W.Frag} {mg : Str → Option Value} {base : Heap}
theorem rd_gsub {to ti : TE} {t : TSet} {v : V} {σ : L2.St} {H : Hp} {Q : L2.St → Hp → Prop} (h : to σ H fun o H1 => ti σ H1 fun i H2 => t o i v H2 fun H3 => Q σ H3) : gSub to ti t v σ H Q := h
theorem rd_setL {a : Addr} {xs : List V} {i : Int} {j : Nat} {v : V} {H : Hp} {Q : Hp → Prop} (h : H a = some (.lst xs)) (e : ixN xs.length i = some j) (q : Q (upd H a (.lst (xs.set j v)))) : rSetL (.ref a) (.int i) v H Q := ⟨a, xs, i, j, rfl, rfl, h, e, q⟩
local macro_rules | `(tactic| walk_at "rd") => `(tactic| (repeat (first
  | ((with_reducible refine' rd_var ?h0 ?_); (case h0 => rfl))
  | with_reducible refine rd_c ?_
  | with_reducible refine rd_op ?_
  | with_reducible refine rd_nil ?_
  | with_reducible refine rd_cons ?_
  | with_reducible refine rd_tup ?_
  | with_reducible refine rd_lst ?_
  | with_reducible refine rd_ifs ?_
  | with_reducible refine rd_seq ?_
  | with_reducible refine rd_next ?_
  | with_reducible refine rd_ret ?_
  | with_reducible refine rd_asg ?_
  | with_reducible refine rd_gname ?_
  | with_reducible refine rd_drop ?_
  | with_reducible refine rd_test ?_
  | with_reducible refine rd_B ?_
  | with_reducible refine rd_bl ?_
  | with_reducible refine rd_blP ?_
  | with_reducible refine rd_andV ?_
  | with_reducible refine rd_orV ?_
  | with_reducible refine rd_notV ?_
  | with_reducible refine rd_and ?_
  | with_reducible refine rd_or ?_
  | with_reducible refine rd_not ?_
  | with_reducible refine rd_cb ?_
  | with_reducible refine rd_call ?_
  | with_reducible refine rd_un ?_
  | with_reducible refine rd_sl ?_
  | with_reducible refine rd_nopart ?_
  | with_reducible refine rd_part ?_
  | with_reducible refine rd_intP ?_
  | with_reducible refine rd_rU ?_
  | with_reducible refine rd_fld ?_
  | with_reducible refine rd_eqI ?_
  | with_reducible refine rd_neI ?_
  | with_reducible refine rd_mko ?_
  | with_reducible refine rd_i0 ?_)))
theorem ok_law_hand (T : Tx K mg) (B : Bk K mg T) : FnOk P w K mg base CX0 1 B.law_hand.f B.law_hand.fd ["script"] (spHand K) := by
  refine B.law_hand.F.ok sc_law_hand (fun vs H Q E h => ?_) (fun cdv A outer s H vs Q E hr h => ?_)
  · obtain ⟨a, ns, rfl, _⟩ := h
    rfl
  · obtain ⟨a, ns, rfl, ha, q⟩ := h
    refine ⟨_, (pss_one (ps_ret (pe_lst (pa_cons (pe_callTy call_list_of (by rfl) T.b_list (by decide +kernel) (pa_cons (pv 0) pa_nil)) (pa_cons pe_int (pa_cons pe_int (pa_cons pe_int (pa_cons pe_int pa_nil)))))))), ?_⟩
    walk_at "rd"
    refine ⟨a, _, rfl, .inl ha, fun l hl => ?_⟩
    walk_at "rd"
    refine rd_disp rfl fun p hp => ?_
    have n1 : l ≠ p := ne_of_none upd_same hp
    have s1 := (same_new (o := .lst (ns.map V.int)) hl).trans (same_new (o := .lst [.ref l, .int 0, .int 0, .int 1, .int 0]) hp)
    exact q p l _ ((same_new (o := .lst (ns.map V.int)) hl).free hp) ⟨ns, 0, 0, 1, 0, upd_same, n1, (upd_ne n1).trans upd_same, Int.le_refl 0, by decide, by decide⟩ s1
theorem ok_law_take (T : Tx K mg) (B : Bk K mg T) : FnOk P w K mg base CX0 1 B.law_take.f B.law_take.fd ["hand", "many"] spTake := by
  refine B.law_take.F.ok sc_law_take (fun vs H Q E h => ?_) (fun cdv A outer s H vs Q E hr h => ?_)
  · obtain ⟨p, l, m, rfl, _⟩ := h
    rfl
  · obtain ⟨p, l, m, rfl, h1, h2, ⟨ns, i, c, z, t, hp, hlp, hl, hc, hz0, hz1⟩, q⟩ := h
    refine ⟨_, (pss_cons (ps_asg (pe_op op_add (pe_ix ix_list (pv 0) pe_int (fun _ _ => rfl)) pe_int) (pg_sub (pv 0) pe_int set_list))
      (C8.pss_cut (ps_if (PW.pt (pw_and (pt_cmpR op_eq (pe_ix ix_list (pv 0) pe_int (fun _ _ => rfl)) pe_int (nomark _)) (pw_and1 (pt_cmpR op_lt (pe_ix ix_list (pv 0) pe_int (fun _ _ => rfl)) (pe_callB call_len_seq (by rfl) T.b_len (by decide +kernel) (pa_cons (pe_ix ix_list (pv 0) pe_int (fun _ _ => rfl)) pa_nil)) (nomark _))))) (pss_cons (ps_set (i := 2) sc_law_take.nd rfl (Or.inl rfl) (pe_callTy call_int1 (by rfl) T.b_int (by decide +kernel) (pa_cons (pe_ix ix_list (pe_ix ix_list (pv 0) pe_int (fun _ _ => rfl)) (pe_ix ix_list (pv 0) pe_int (fun _ _ => rfl)) (fun _ _ => rfl)) pa_nil)))
      (pss_cons (ps_asg (pe_op op_add (pe_ix ix_list (pv 0) pe_int (fun _ _ => rfl)) pe_int) (pg_sub (pv 0) pe_int set_list))
      (pss_one (ps_if (pt_cmpR op_ge (pv 2) (pe_op op_pow pe_int pe_int) (nomark _)) (pss_one (ps_asg (pv 2) (pg_sub (pv 0) pe_int set_list))) (pss_one (ps_asg (pe_op op_mod (pe_callTy call_int1 (by rfl) T.b_int (by decide +kernel) (pa_cons (pe_op op_add (pe_op op_add (pe_op op_mul (pe_ix ix_list (pv 0) pe_int (fun _ _ => rfl)) pe_int) (pe_op op_mod (pe_callTy call_int1 (by rfl) T.b_int (by decide +kernel) (pa_cons (pv 2) pa_nil)) pe_int)) pe_int) pa_nil)) pe_int) (pg_sub (pv 0) pe_int set_list))))))) pss_nil)
      (C8.pss_cut (ps_if (pt_cmpR op_gt (pe_ix ix_list (pv 0) pe_int (fun _ _ => rfl)) pe_int (nomark _)) (pss_cons (ps_set (i := 3) sc_law_take.nd rfl (Or.inl rfl) (pe_op op_modN (pe_callTy call_int1 (by rfl) T.b_int (by decide +kernel) (pa_cons (pe_ix ix_list (pv 0) pe_int (fun _ _ => rfl)) pa_nil)) (pv 1)))
      (pss_cons (ps_asg (pe_op op_fdivN (pe_callTy call_int1 (by rfl) T.b_int (by decide +kernel) (pa_cons (pe_ix ix_list (pv 0) pe_int (fun _ _ => rfl)) pa_nil)) (pv 1)) (pg_sub (pv 0) pe_int set_list))
      (pss_one (ps_ret (pv 3))))) pss_nil)
      (pss_cons (ps_asg (pe_op op_mod (pe_callTy call_int1 (by rfl) T.b_int (by decide +kernel) (pa_cons (pe_op op_add (pe_op op_mul (pe_ix ix_list (pv 0) pe_int (fun _ _ => rfl)) pe_int) (pe_op op_mul pe_int (pe_ix ix_list (pv 0) pe_int (fun _ _ => rfl)))) pa_nil)) pe_int) (pg_sub (pv 0) pe_int set_list))
      (pss_cons (ps_set (i := 4) sc_law_take.nd rfl (Or.inl rfl) (pe_op op_mod (pe_callTy call_int1 (by rfl) T.b_int (by decide +kernel) (pa_cons (pe_op op_mul (pe_ix ix_list (pv 0) pe_int (fun _ _ => rfl)) (pe_op op_add (pe_op op_fdiv (pe_ix ix_list (pv 0) pe_int (fun _ _ => rfl)) pe_int) pe_int)) pa_nil)) pe_int))
      (pss_cons (ps_set (i := 4) sc_law_take.nd rfl (Or.inl rfl) (pe_op op_mod (pe_callTy call_int1 (by rfl) T.b_int (by decide +kernel) (pa_cons (pe_op op_mul (pv 4) (pe_op op_add (pe_op op_fdiv (pv 4) pe_int) pe_int)) pa_nil)) pe_int))
      (pss_one (ps_ret (pe_op op_modN (pe_callTy call_int1 (by rfl) T.b_int (by decide +kernel) (pa_cons (pe_op op_fdiv (pv 4) pe_int) pa_nil)) (pv 1)))))))))), ?_⟩
    walk_at "rd"
    refine rd_ixL hp rfl ?_
    walk_at "rd"
    refine rd_gsub ?_
    walk_at "rd"
    refine rd_setL hp rfl ?_
    have nat1 : ∀ k : Nat, (k : Int) + 1 = ((k + 1 : Nat) : Int) := fun k => by omega
    have l1 : (upd H p (.lst [.ref l, .int (i : Nat), .int c, .int z, .int (t + 1)])) l = some (.lst (ns.map V.int)) := (upd_ne hlp).trans hl
    -- behind the first if: the hand, whatever was taken
    refine ⟨fun σ1 H1 => ∃ (i1 : Nat) (c1 z1 : Int) (u : Option V), σ1 = [some (.ref p), some (.int m), u, none, none] ∧ H1 p = some (.lst [.ref l, .int (i1 : Nat), .int c1, .int z1, .int (t + 1)]) ∧ H1 l = some (.lst (ns.map V.int)) ∧ 0 ≤ c1 ∧ 0 ≤ z1 ∧ z1 < 2147483647 ∧ Keep p H H1, ?_, ?_⟩
    · walk_at "rd"
      refine rd_ixL upd_same rfl ?_
      walk_at "rd"
      refine rd_ite (fun h3 => ?_) (fun h3 => ?_)
      · walk_at "rd"
        refine rd_ixL upd_same rfl ?_
        walk_at "rd"
        refine rd_ixL upd_same rfl ?_
        refine ⟨l, _, rfl, .inl (SqL.of l1), ?_⟩
        walk_at "rd"
        refine rd_ite (fun h4 => ?_) (fun h4 => ?_)
        · have hi : i < ns.length := by
            simp only [decide_eq_true_eq, List.length_map] at h4
            omega
          walk_at "rd"
          refine rd_ixL upd_same rfl ?_
          walk_at "rd"
          refine rd_ixL upd_same rfl ?_
          walk_at "rd"
          refine rd_ixL (v := .int ns[i]) l1 (atI_nat (by simp [hi])) ?_
          refine .inl ⟨_, rfl, ?_⟩
          walk_at "rd"
          refine rd_ixL upd_same rfl ?_
          walk_at "rd"
          refine rd_gsub ?_
          walk_at "rd"
          refine rd_setL upd_same rfl ?_
          walk_at "rd"
          refine rd_iC ⟨by decide, by decide, by decide⟩ ?_
          walk_at "rd"
          refine rd_ite (fun h5 => ?_) (fun h5 => ?_)
          · walk_at "rd"
            refine rd_gsub ?_
            walk_at "rd"
            refine rd_setL upd_same rfl ?_
            refine ⟨i + 1, ns[i], z, _, rfl, by rw [upd_same, ← nat1]; rfl, ?_, ?_, hz0, hz1, ?_⟩
            · rw [upd_ne hlp, upd_ne hlp]
              exact l1
            · have : (10 : Int) ^ (18 : Int).toNat ≤ ns[i] := by simpa using h5
              have e : (10 : Int) ^ (18 : Int).toNat = 1000000000000000000 := by decide
              omega
            · exact ((Keep.mut.trans Keep.mut).trans Keep.mut)
          · walk_at "rd"
            refine rd_ixL upd_same rfl ?_
            walk_at "rd"
            refine rd_iC (.inl ⟨by omega, by omega⟩) ?_
            walk_at "rd"
            refine .inl ⟨_, rfl, ?_⟩
            walk_at "rd"
            refine rd_iC (show (0 : Int) < 2147483647 by decide) ?_
            walk_at "rd"
            refine .inl ⟨_, rfl, ?_⟩
            walk_at "rd"
            refine rd_iC (show (0 : Int) < 2147483647 by decide) ?_
            walk_at "rd"
            refine rd_gsub ?_
            walk_at "rd"
            refine rd_setL upd_same rfl ?_
            refine ⟨i + 1, c, _, _, rfl, by rw [upd_same, ← nat1]; rfl, ?_, hc, ?_, ?_, ((Keep.mut.trans Keep.mut).trans Keep.mut)⟩
            · rw [upd_ne hlp, upd_ne hlp]
              exact l1
            · exact Int.emod_nonneg _ (by decide)
            · exact Int.emod_lt_of_pos _ (by decide)
        · exact ⟨i, c, z, _, rfl, upd_same, l1, hc, hz0, hz1, Keep.mut⟩
      · exact ⟨i, c, z, _, rfl, upd_same, l1, hc, hz0, hz1, Keep.mut⟩
    · rintro σ1 H1 ⟨i1, c1, z1, u, rfl, hp1, hl1, hc1, hz1', hz1'', k1⟩
      refine ⟨fun σ2 H2 => σ2 = [some (.ref p), some (.int m), u, none, none] ∧ H2 = H1, ?_, ?_⟩
      · walk_at "rd"
        refine rd_ixL hp1 rfl ?_
        walk_at "rd"
        refine rd_ite (fun h3 => ?_) (fun h3 => ?_)
        · walk_at "rd"
          refine rd_ixL hp1 rfl ?_
          refine .inl ⟨_, rfl, ?_⟩
          walk_at "rd"
          refine rd_iC (show m ≠ 0 by omega) ?_
          walk_at "rd"
          refine rd_ixL hp1 rfl ?_
          refine .inl ⟨_, rfl, ?_⟩
          walk_at "rd"
          refine rd_iC (show m ≠ 0 ∧ m.natAbs < 1073741824 by omega) ?_
          walk_at "rd"
          refine rd_gsub ?_
          walk_at "rd"
          refine rd_setL hp1 rfl ?_
          walk_at "rd"
          refine q _ _ ?_ ?_ ⟨ns, i1, _, z1, _, upd_same, hlp, (upd_ne hlp).trans hl1, ?_, hz1', hz1''⟩ (k1.trans Keep.mut)
          · rw [Int.fmod_eq_emod_of_nonneg _ (by omega)]
            exact Int.emod_nonneg _ (by omega)
          · rw [Int.fmod_eq_emod_of_nonneg _ (by omega)]
            exact Int.emod_lt_of_pos _ (by omega)
          · rw [Int.fdiv_eq_ediv_of_nonneg _ (by omega)]
            exact Int.ediv_nonneg hc1 (by omega)
        · exact ⟨rfl, rfl⟩
      · rintro σ2 H2 ⟨rfl, rfl⟩
        walk_at "rd"
        refine rd_ixL hp1 rfl ?_
        walk_at "rd"
        refine rd_iC (.inl ⟨by omega, by omega⟩) ?_
        walk_at "rd"
        refine rd_ixL hp1 rfl ?_
        walk_at "rd"
        refine rd_iC (.inl ⟨by omega, by omega⟩) ?_
        walk_at "rd"
        refine .inl ⟨_, rfl, ?_⟩
        walk_at "rd"
        refine rd_iC (show (0 : Int) < 2147483647 by decide) ?_
        walk_at "rd"
        refine rd_gsub ?_
        walk_at "rd"
        refine rd_setL hp1 rfl ?_
        generalize hz : (z1 * 69621 + 7919 * (t + 1)) % 2147483647 = z2
        have b1 : 0 ≤ z2 := hz ▸ Int.emod_nonneg _ (by decide)
        have b2 : z2 < 2147483647 := hz ▸ Int.emod_lt_of_pos _ (by decide)
        walk_at "rd"
        refine rd_ixL upd_same rfl ?_
        walk_at "rd"
        refine rd_ixL upd_same rfl ?_
        walk_at "rd"
        refine rd_iC (show (0 : Int) < 1009 ∧ (1009 : Int) < 1073741824 by decide) ?_
        walk_at "rd"
        refine rd_iC (.inl ⟨by omega, by omega⟩) ?_
        walk_at "rd"
        refine .inl ⟨_, rfl, ?_⟩
        walk_at "rd"
        refine rd_iC (show (0 : Int) < 2147483647 by decide) ?_
        generalize hn : (z2 * (z2 / 1009 + 69621)) % 2147483647 = n1
        have b3 : 0 ≤ n1 := hn ▸ Int.emod_nonneg _ (by decide)
        have b4 : n1 < 2147483647 := hn ▸ Int.emod_lt_of_pos _ (by decide)
        walk_at "rd"
        refine rd_iC (show (0 : Int) < 2003 ∧ (2003 : Int) < 1073741824 by decide) ?_
        walk_at "rd"
        refine rd_iC (.inl ⟨by omega, by omega⟩) ?_
        walk_at "rd"
        refine .inl ⟨_, rfl, ?_⟩
        walk_at "rd"
        refine rd_iC (show (0 : Int) < 2147483399 by decide) ?_
        walk_at "rd"
        refine rd_iC (show (0 : Int) < 16 ∧ (16 : Int) < 1073741824 by decide) ?_
        refine .inl ⟨_, rfl, ?_⟩
        walk_at "rd"
        refine rd_iC (show m ≠ 0 by omega) ?_
        refine q _ _ ?_ ?_ ⟨ns, i1, c1, z2, _, upd_same, hlp, (upd_ne hlp).trans hl1, hc1, b1, b2⟩ (k1.trans Keep.mut)
        · rw [Int.fmod_eq_emod_of_nonneg _ (by omega)]
          exact Int.emod_nonneg _ (by omega)
        · rw [Int.fmod_eq_emod_of_nonneg _ (by omega)]
          exact Int.emod_lt_of_pos _ (by omega)
end
end Mw

/-! M11 -/
namespace Mw
open PySem L2
def spPick : Sp := fun vs H Q _ => ∃ (p l0 a : Addr) (xs : List V), vs = [.ref p, .ref a] ∧ At p H a (.lst xs) ∧ 1 ≤ xs.length ∧ xs.length ≤ 1000 ∧ HandAt p l0 H ∧ ∀ (j : Nat) x H', xs[j]? = some x → HandAt p l0 H' → Keep p H H' → Q x H'
def spJ3 (C : Addr) : Sp := fun vs H Q _ => ∃ p d x lo hi, vs = [x, .int lo, .int hi] ∧ Tp C p H d x ∧ Q (.bl (inI lo hi d)) H
def pairD : PyData → Bool | .tuple [_, _] => true | _ => false
def smallD : PyData → Bool | .tuple ds => decide (ds.length ≤ 1000) && ds.all (fun d => !pairD d) | _ => true
def spOdd (C : Addr) : Sp := fun vs H Q _ => ∃ p l0, vs = [.ref p] ∧ HandAt p l0 H ∧ ∀ d x H', smallD d = true → Tp C p H' d x → HandAt p l0 H' → Keep p H H' → Q x H'
def spUnits : Sp := fun vs H Q _ => ∃ (p l0 : Addr) (m : Int), vs = [.ref p, .int m] ∧ 0 ≤ m ∧ m < 1000000 ∧ HandAt p l0 H ∧ ∀ r H', 0 ≤ r → r ≤ m → HandAt p l0 H' → Keep p H H' → Q (.int r) H'
def spSizes : Sp := fun vs H Q _ => ∃ (p l0 : Addr), vs = [.ref p] ∧ HandAt p l0 H ∧ ∀ r H', 2 ≤ r → r ≤ 10 → HandAt p l0 H' → Keep p H H' → Q (.int r) H'
section
variable {P : Program} {w : World} {K : PySem.W.Frag} {mg : Str → Option Value} {base : Heap}
local macro_rules | `(tactic| walk_at "rd") => `(tactic| (repeat (first
  | ((with_reducible refine' rd_var ?h0 ?_); (case h0 => rfl))
  | with_reducible refine rd_c ?_
  | with_reducible refine rd_op ?_
  | with_reducible refine rd_nil ?_
  | with_reducible refine rd_cons ?_
  | with_reducible refine rd_tup ?_
  | with_reducible refine rd_lst ?_
  | with_reducible refine rd_ifs ?_
  | with_reducible refine rd_seq ?_
  | with_reducible refine rd_next ?_
  | with_reducible refine rd_ret ?_
  | with_reducible refine rd_asg ?_
  | with_reducible refine rd_gname ?_
  | with_reducible refine rd_drop ?_
  | with_reducible refine rd_test ?_
  | with_reducible refine rd_B ?_
  | with_reducible refine rd_bl ?_
  | with_reducible refine rd_blP ?_
  | with_reducible refine rd_andV ?_
  | with_reducible refine rd_orV ?_
  | with_reducible refine rd_notV ?_
  | with_reducible refine rd_and ?_
  | with_reducible refine rd_or ?_
  | with_reducible refine rd_not ?_
  | with_reducible refine rd_cb ?_
  | with_reducible refine rd_call ?_
  | with_reducible refine rd_un ?_
  | with_reducible refine rd_sl ?_
  | with_reducible refine rd_nopart ?_
  | with_reducible refine rd_part ?_
  | with_reducible refine rd_intP ?_
  | with_reducible refine rd_rU ?_
  | with_reducible refine rd_fld ?_
  | with_reducible refine rd_eqI ?_
  | with_reducible refine rd_neI ?_
  | with_reducible refine rd_mko ?_
  | with_reducible refine rd_i0 ?_)))
theorem ok_law_pick (T : Tx K mg) (B : Bk K mg T) : FnOk P w K mg base CX0 2 B.law_pick.f B.law_pick.fd ["hand", "things"] spPick := by
  have G_law_take := ok_law_take (P := P) (w := w) (base := base) T B
  refine B.law_pick.F.ok sc_law_pick (fun vs H Q E h => ?_) (fun cdv A outer s H vs Q E hr h => ?_)
  · obtain ⟨p, l0, a, xs, rfl, _⟩ := h
    rfl
  · obtain ⟨p, l0, a, xs, rfl, ha, l1, l2, hh, q⟩ := h
    refine ⟨_, (pss_one (ps_ret (pe_ix ix_list (pv 1) (pe_call G_law_take (hr.mono (by decide)) rfl B.law_take.m B.law_take.F.kp B.law_take.b .nil pass0 (pa_cons (pv 0) (pa_cons (pe_callB call_len_seq (by rfl) T.b_len (by decide +kernel) (pa_cons (pv 1) pa_nil)) pa_nil))) (fun _ _ => rfl)))), ?_⟩
    walk_at "rd"
    refine ⟨a, xs, rfl, .inl (SqL.of ha.2), ?_⟩
    walk_at "rd"
    refine ⟨p, l0, _, rfl, by omega, by omega, hh, fun r H' h1 h2 h3 k => ?_⟩
    obtain ⟨j, rfl⟩ : ∃ j : Nat, r = (j : Int) := ⟨r.toNat, by omega⟩
    have hj : j < xs.length := by omega
    have e : xs[j]? = some xs[j] := by simp [hj]
    exact rd_ixL (ha.keep k).2 (atI_nat e) (q j _ H' e h3 k)
theorem ok_law_is_integer (T : Tx K mg) (B : Bk K mg T) : FnOk P w K mg base CX0 1 B.law_is_integer.f B.law_is_integer.fd ["thing"] (spJ T.c_Web isInt) := by
  refine B.law_is_integer.F.ok sc_law_is_integer (fun vs H Q E h => ?_) (fun cdv A outer s H vs Q E hr h => ?_)
  · obtain ⟨p, d, x, rfl, _⟩ := h
    rfl
  · obtain ⟨p, d, x, rfl, hd, q⟩ := h
    refine ⟨_, (pss_one (ps_ret (pe_and (pe_callB call_isi (by rfl) T.b_isinstance (by decide +kernel) (pa_cons (pv 0) (pa_cons (pe_bltn (v := .ty "int") (by rfl) T.b_int (by decide +kernel) rfl) pa_nil))) (pe_one (pe_not (pe_callB call_isi (by rfl) T.b_isinstance (by decide +kernel) (pa_cons (pv 0) (pa_cons (pe_bltn (v := .ty "bool") (by rfl) T.b_bool (by decide +kernel) rfl) pa_nil)))))))), ?_⟩
    walk_at "rd"
    refine tp_isI T.W hd ?_
    walk_at "rd"
    refine rd_ite (fun h1 => ?_) (fun h0 => ?_)
    · walk_at "rd"
      refine tp_isB T.W hd ?_
      walk_at "rd"
      have e : isInt d = !isB d := by cases d <;> simp_all [isI, isB, isInt]
      rw [e] at q
      exact q
    · have e : isInt d = false := by cases d <;> simp_all [isI, isB, isInt]
      rw [e] at q
      exact q
theorem ok_law_is_within (T : Tx K mg) (B : Bk K mg T) : FnOk P w K mg base CX0 2 B.law_is_within.f B.law_is_within.fd ["thing", "least", "top"] (spJ3 T.c_Web) := by
  have G_law_is_integer := ok_law_is_integer (P := P) (w := w) (base := base) T B
  refine B.law_is_within.F.ok sc_law_is_within (fun vs H Q E h => ?_) (fun cdv A outer s H vs Q E hr h => ?_)
  · obtain ⟨p, d, x, lo, hi, rfl, _⟩ := h
    rfl
  · obtain ⟨p, d, x, lo, hi, rfl, hd, q⟩ := h
    refine ⟨_, (pss_one (ps_ret (pe_and (pe_call G_law_is_integer (hr.mono (by decide)) rfl B.law_is_integer.m B.law_is_integer.F.kp B.law_is_integer.b .nil pass0 (pa_cons (pv 0) pa_nil)) (pe_and (pe_cmpR op_le (pv 1) (pv 0) (nomark _)) (pe_one (pe_cmpR op_le (pv 0) (pv 2) (nomark _))))))), ?_⟩
    walk_at "rd"
    refine ⟨p, d, x, rfl, hd, ?_⟩
    walk_at "rd"
    refine rd_ite (fun h1 => ?_) (fun h0 => ?_)
    · cases d with
      | int i =>
        cases tp_int' hd
        have e : inI lo hi (.int i) = (decide (lo ≤ i) && decide (i ≤ hi)) := rfl
        rw [e] at q
        walk_at "rd"
        refine rd_ite (fun h2 => ?_) (fun h2 => ?_)
        · rw [h2, Bool.true_and] at q
          walk_at "rd"
          exact q
        · rw [h2, Bool.false_and] at q
          exact q
      | _ => cases h1
    · have e : inI lo hi d = false := by cases d <;> simp_all [isInt, inI]
      rw [e] at q
      exact q
theorem ok_law_units (T : Tx K mg) (B : Bk K mg T) : FnOk P w K mg base CX0 3 B.law_units.f B.law_units.fd ["hand", "span"] spUnits := by
  have G_law_take := ok_law_take (P := P) (w := w) (base := base) T B
  have G_law_pick := ok_law_pick (P := P) (w := w) (base := base) T B
  refine B.law_units.F.ok sc_law_units (fun vs H Q E h => ?_) (fun cdv A outer s H vs Q E hr h => ?_)
  · obtain ⟨p, l0, m, rfl, _⟩ := h
    rfl
  · obtain ⟨p, l0, m, rfl, h1, h2, hh, q⟩ := h
    refine ⟨_, (pss_one (ps_ret (pe_call G_law_pick (hr.mono (by decide)) rfl B.law_pick.m B.law_pick.F.kp B.law_pick.b .nil pass0 (pa_cons (pv 0) (pa_cons (pe_lst (pa_cons pe_int (pa_cons (pe_call G_law_take (hr.mono (by decide)) rfl B.law_take.m B.law_take.F.kp B.law_take.b .nil pass0 (pa_cons (pv 0) (pa_cons (pe_op op_add (pv 1) pe_int) pa_nil))) (pa_cons (pe_call G_law_take (hr.mono (by decide)) rfl B.law_take.m B.law_take.F.kp B.law_take.b .nil pass0 (pa_cons (pv 0) (pa_cons (pe_op op_add (pv 1) pe_int) pa_nil))) (pa_cons (pv 1) pa_nil))))) pa_nil))))), ?_⟩
    walk_at "rd"
    refine ⟨p, l0, _, rfl, by omega, by omega, hh, fun r1 H1 a1 a2 hh1 k1 => ?_⟩
    walk_at "rd"
    refine ⟨p, l0, _, rfl, by omega, by omega, hh1, fun r2 H2 b1 b2 hh2 k2 => ?_⟩
    walk_at "rd"
    refine rd_disp rfl fun a ha => ?_
    have np : a ≠ p := by
      obtain ⟨u, hu⟩ := hh2.there
      exact (ne_of_none hu ha).symm
    have s3 := same_new (o := .lst [.int 0, .int r1, .int r2, .int m]) ha
    refine ⟨p, l0, a, _, rfl, ⟨np, upd_same⟩, Nat.le_of_ble_eq_true rfl, Nat.le_of_ble_eq_true rfl, hh2.keep s3, fun j x H4 hj hh4 k4 => ?_⟩
    have kk := ((k1.trans k2).trans (Keep.same s3)).trans k4
    match j, hj with
    | 0, hj =>
      cases hj
      exact q _ _ (Int.le_refl 0) h1 hh4 kk
    | 1, hj =>
      cases hj
      exact q _ _ a1 (by omega) hh4 kk
    | 2, hj =>
      cases hj
      exact q _ _ b1 (by omega) hh4 kk
    | 3, hj =>
      cases hj
      exact q _ _ h1 (Int.le_refl m) hh4 kk
    | j + 4, hj => simp at hj
theorem ok_law_sizes (T : Tx K mg) (B : Bk K mg T) : FnOk P w K mg base CX0 3 B.law_sizes.f B.law_sizes.fd ["hand"] spSizes := by
  have G_law_pick := ok_law_pick (P := P) (w := w) (base := base) T B
  refine B.law_sizes.F.ok sc_law_sizes (fun vs H Q E h => ?_) (fun cdv A outer s H vs Q E hr h => ?_)
  · obtain ⟨p, l0, rfl, _⟩ := h
    rfl
  · obtain ⟨p, l0, rfl, hh, q⟩ := h
    refine ⟨_, (pss_one (ps_ret (pe_call G_law_pick (hr.mono (by decide)) rfl B.law_pick.m B.law_pick.F.kp B.law_pick.b .nil pass0 (pa_cons (pv 0) (pa_cons (pe_lst (pa_cons pe_int (pa_cons pe_int (pa_cons pe_int (pa_cons pe_int (pa_cons pe_int (pa_cons pe_int (pa_cons pe_int pa_nil)))))))) pa_nil))))), ?_⟩
    walk_at "rd"
    refine rd_disp rfl fun a ha => ?_
    have np : a ≠ p := by
      obtain ⟨u, hu⟩ := hh.there
      exact (ne_of_none hu ha).symm
    have s3 := same_new (o := .lst [.int 2, .int 3, .int 4, .int 5, .int 6, .int 6, .int 10]) ha
    refine ⟨p, l0, a, _, rfl, ⟨np, upd_same⟩, by decide, by decide, hh.keep s3, fun j x H4 hj hh4 k4 => ?_⟩
    have kk := (Keep.same s3).trans k4
    match j, hj with
    | 0, hj | 1, hj | 2, hj | 3, hj | 4, hj | 5, hj | 6, hj =>
      cases hj
      exact q _ _ (by decide) (by decide) hh4 kk
    | j + 7, hj => simp at hj
end
end Mw

/-! M12 -/
namespace Mw
open PySem L2
theorem HandAt.ne {p l0 q : Addr} {H : Hp} (h : HandAt p l0 H) (n : H q = none) : q ≠ p := by
  obtain ⟨u, hu⟩ := h.there
  exact (ne_of_none hu n).symm
section
variable {P : Program} {w : World} {K : PySem.W.Frag} {mg : Str → Option Value} {base : Heap}
theorem rd_menu {C p : Addr} {H : Hp} {Q : VK} {a : Addr} {xs : List V} {ds : List PyData} {i : Int} (h : H a = some (.lst xs)) (ht : TpAll C p H ds xs) (h0 : 0 ≤ i) (h1 : i < (ds.length : Int)) (hs : ds.all smallD = true) (q : ∀ d x, smallD d = true → Tp C p H d x → Q x H) : rIxL K (.ref a) (.int i) H Q := by
  obtain ⟨j, rfl⟩ : ∃ j : Nat, i = (j : Int) := ⟨i.toNat, by omega⟩
  have hj : j < ds.length := by omega
  obtain ⟨x, hx, t⟩ := ht.get (show ds[j]? = some ds[j] by simp [hj])
  exact rd_ixL h (atI_nat hx) (q _ x (List.all_eq_true.mp hs _ (List.getElem_mem hj)) t)
local macro_rules | `(tactic| walk_at "rd") => `(tactic| (repeat (first
  | ((with_reducible refine' rd_var ?h0 ?_); (case h0 => rfl))
  | with_reducible refine rd_c ?_
  | with_reducible refine rd_op ?_
  | with_reducible refine rd_nil ?_
  | with_reducible refine rd_cons ?_
  | with_reducible refine rd_tup ?_
  | with_reducible refine rd_lst ?_
  | with_reducible refine rd_ifs ?_
  | with_reducible refine rd_seq ?_
  | with_reducible refine rd_next ?_
  | with_reducible refine rd_ret ?_
  | with_reducible refine rd_asg ?_
  | with_reducible refine rd_gname ?_
  | with_reducible refine rd_drop ?_
  | with_reducible refine rd_test ?_
  | with_reducible refine rd_B ?_
  | with_reducible refine rd_bl ?_
  | with_reducible refine rd_blP ?_
  | with_reducible refine rd_andV ?_
  | with_reducible refine rd_orV ?_
  | with_reducible refine rd_notV ?_
  | with_reducible refine rd_and ?_
  | with_reducible refine rd_or ?_
  | with_reducible refine rd_not ?_
  | with_reducible refine rd_cb ?_
  | with_reducible refine rd_call ?_
  | with_reducible refine rd_un ?_
  | with_reducible refine rd_sl ?_
  | with_reducible refine rd_nopart ?_
  | with_reducible refine rd_part ?_
  | with_reducible refine rd_intP ?_
  | with_reducible refine rd_rU ?_
  | with_reducible refine rd_fld ?_
  | with_reducible refine rd_eqI ?_
  | with_reducible refine rd_neI ?_
  | with_reducible refine rd_mko ?_
  | with_reducible refine rd_i0 ?_)))
theorem ok_law_odd (T : Tx K mg) (B : Bk K mg T) : FnOk P w K mg base CX0 9 B.law_odd.f B.law_odd.fd ["hand"] (spOdd T.c_Web) := by
  have G_law_take := ok_law_take (P := P) (w := w) (base := base) T B
  have G_Web_init := ok_Web_init (P := P) (w := w) (base := base) T B
  refine B.law_odd.F.ok sc_law_odd (fun vs H Q E h => ?_) (fun cdv A outer s H vs Q E hr h => ?_)
  · obtain ⟨p, l0, rfl, _⟩ := h
    rfl
  · obtain ⟨p, l0, rfl, hh, q⟩ := h
    refine ⟨_, (pss_cons (ps_set (i := 1) sc_law_odd.nd rfl (Or.inl rfl) (pe_call G_law_take (hr.mono (by decide)) rfl B.law_take.m B.law_take.F.kp B.law_take.b .nil pass0 (pa_cons (pv 0) (pa_cons pe_int pa_nil))))
      (pss_cons (ps_if (pt_cmpR op_lt (pv 1) pe_int (nomark _)) (pss_one (ps_ret (pe_ix ix_list (pe_lst (pa_cons pe_non (pa_cons pe_bl (pa_cons pe_bl (pa_cons pe_str (pa_cons pe_str (pa_cons pe_str pa_nil))))))) (pv 1) (fun _ _ => rfl)))) pss_nil)
      (pss_cons (ps_if (pt_cmpR op_lt (pv 1) pe_int (nomark _)) (pss_one (ps_ret (pe_ix ix_list (pe_lst (pa_cons (pe_tup pa_nil) (pa_cons (pe_lst pa_nil) (pa_cons pe_dnewK (pa_cons (pe_tup (pa_cons pe_int pa_nil)) (pa_cons (pe_lst (pa_cons pe_int (pa_cons pe_int pa_nil))) (pa_cons (pe_tup (pa_cons (pe_tup pa_nil) pa_nil)) pa_nil))))))) (pe_op op_sub (pv 1) pe_int) (fun _ _ => rfl)))) pss_nil)
      (pss_cons (ps_if (pt_cmpR op_eq (pv 1) pe_int (nomark _)) (pss_one (ps_ret (pe_make (mk_of_dm T B.Web_init) G_Web_init (hr.mono (by decide)) rfl T.g_Web B.Web_init.b .nil passL (pa_cons pe_int (pa_cons (pe_tup pa_nil) (pa_cons pe_int (pa_cons pe_int pa_nil))))))) pss_nil)
      (pss_one (ps_ret (pe_ix ix_list (pe_lst (pa_cons (pe_un un_neg pe_int) (pa_cons pe_int (pa_cons (pe_op op_sub (pe_op op_pow pe_int pe_int) pe_int) (pa_cons (pe_tup (pa_cons pe_int (pa_cons pe_int pa_nil))) (pa_cons (pe_tup (pa_cons pe_str pa_nil)) (pa_cons (pe_tup (pa_cons pe_int (pa_cons pe_int (pa_cons pe_int (pa_cons pe_int pa_nil))))) pa_nil))))))) (pe_op op_sub (pv 1) pe_int) (fun _ _ => rfl)))))))), ?_⟩
    walk_at "rd"
    refine ⟨p, l0, _, rfl, by decide, by decide, hh, fun r H1 a1 a2 hh1 k1 => ?_⟩
    walk_at "rd"
    refine rd_ite (fun h1 => ?_) (fun h1 => ?_)
    · have h6 : r < 6 := by simpa using h1
      walk_at "rd"
      refine rd_disp rfl fun a ha => ?_
      walk_at "rd"
      have s1 := same_new (o := .lst [.non, .bl true, .bl false, .str "", .str "push", .str "0"]) ha
      refine rd_menu (C := T.c_Web) (p := p) upd_same (tpAll_cons tp_non (tpAll_cons tp_bl (tpAll_cons tp_bl (tpAll_cons tp_str (tpAll_cons tp_str (tpAll_cons tp_str tpAll_nil)))))) a1 h6 rfl fun d x sm t => ?_
      exact q d x _ sm t (hh1.keep s1) (k1.trans (Keep.same s1))
    · have h6 : 6 ≤ r := by simpa using h1
      walk_at "rd"
      refine rd_ite (fun h2 => ?_) (fun h2 => ?_)
      · have h12 : r < 12 := by simpa using h2
        walk_at "rd"
        refine rd_disp rfl fun p1 n1 => ?_
        walk_at "rd"
        refine rd_disp rfl fun p2 n2 => ?_
        walk_at "rd"
        intro p3 n3
        walk_at "rd"
        refine rd_disp rfl fun p4 n4 => ?_
        walk_at "rd"
        refine rd_disp rfl fun p5 n5 => ?_
        walk_at "rd"
        refine rd_disp rfl fun p6 n6 => ?_
        walk_at "rd"
        refine rd_disp rfl fun p7 n7 => ?_
        walk_at "rd"
        refine rd_disp rfl fun p8 n8 => ?_
        walk_at "rd"
        have t1 := same_new (o := .tup []) n1
        have t2 := same_new (o := .lst []) n2
        have t3 := same_new (o := .dK []) n3
        have t4 := same_new (o := .tup [.int 0]) n4
        have t5 := same_new (o := .lst [.int 0, .int 0]) n5
        have t6 := same_new (o := .tup []) n6
        have t7 := same_new (o := .tup [.ref p6]) n7
        have t8 := same_new (o := .lst [.ref p1, .ref p2, .ref p3, .ref p4, .ref p5, .ref p7]) n8
        have hh2 := hh1.keep t1
        have hh3 := hh2.keep t2
        have hh4 := hh3.keep t3
        have hh5 := hh4.keep t4
        have hh6 := hh5.keep t5
        have hh7 := hh6.keep t6
        have hh8 := hh7.keep t7
        have hh9 := hh8.keep t8
        have u8 := t8
        have u7 := t7.trans u8
        have u6 := t6.trans u7
        have u5 := t5.trans u6
        have u4 := t4.trans u5
        have u3 := t3.trans u4
        have u2 := t2.trans u3
        have u1 := t1.trans u2
        have e1 := u2 _ _ (upd_same (H := H1) (a := p1) (o := .tup []))
        refine rd_menu (C := T.c_Web) (p := p) upd_same (ds := [.tuple [], .list [], .dict [], .tuple [.int 0], .list [.int 0, .int 0], .tuple [.tuple []]])
          (tpAll_cons (tp_tup ⟨hh1.ne n1, u2 _ _ upd_same⟩ tpAll_nil)
          (tpAll_cons (tp_lst ⟨hh2.ne n2, u3 _ _ upd_same⟩ tpAll_nil)
          (tpAll_cons (by simp only [Tp]; exact ⟨p3, rfl, hh3.ne n3, .inl ⟨_, u4 _ _ upd_same⟩⟩)
          (tpAll_cons (tp_tup ⟨hh4.ne n4, u5 _ _ upd_same⟩ (tpAll_cons tp_int tpAll_nil))
          (tpAll_cons (tp_lst ⟨hh5.ne n5, u6 _ _ upd_same⟩ (tpAll_cons tp_int (tpAll_cons tp_int tpAll_nil)))
          (tpAll_cons (tp_tup ⟨hh7.ne n7, u8 _ _ upd_same⟩ (tpAll_cons (tp_tup ⟨hh6.ne n6, u7 _ _ upd_same⟩ tpAll_nil) tpAll_nil)) tpAll_nil))))))
          (by omega) (by show r - 6 < 6; omega) rfl fun d x sm t => ?_
        exact q d x _ sm t hh9 (k1.trans (Keep.same u1))
      · have h12 : 12 ≤ r := by simpa using h2
        walk_at "rd"
        refine rd_ite (fun h3 => ?_) (fun h3 => ?_)
        · walk_at "rd"
          refine rd_disp rfl fun p1 n1 => ?_
          walk_at "rd"
          intro x dx nx ndx ne
          have t1 := same_new (o := .tup []) n1
          have hh2 := hh1.keep t1
          have npx := hh2.ne nx
          have npd := hh2.ne ndx
          have t2 := same_new (o := .own x) ndx
          have t3 := t2.trans (same_new (o := .ins T.c_Web dx []) (H := upd (upd H1 p1 (.tup [])) dx (.own x)) (by rw [upd_ne ne.symm]; exact nx))
          refine ⟨p, x, dx, _, _, _, _, .int 2, .tuple [], .int 0, .int 1, rfl, upd_same, tp_int, tp_tup ⟨hh1.ne n1, t3 _ _ upd_same⟩ tpAll_nil, tp_int, tp_int, fun _ H2 dx' v5 v6 hx k2 _ => ⟨rfl, ?_⟩, fun part hp => ?_⟩
          · have s4 : Same (upd H1 p1 (.tup [])) H2 := fun b o e => k2 b o (ne_of_none e nx) (t3 b o e)
            refine q (.dict []) _ _ rfl ?_ ((hh1.keep t1).keep s4) ((k1.trans (Keep.same t1)).trans (Keep.same s4))
            simp only [Tp]
            exact ⟨x, rfl, npx, .inr ⟨dx', _, hx⟩⟩
          · have e : webBad (.int 2) (.tuple []) (.int 0) (.int 1) = none := by decide +kernel
            rw [e] at hp
            cases hp
        · have h18 : r < 18 := by
            simp only [decide_eq_false_iff_not] at h3
            omega
          walk_at "rd"
          refine rd_iC ⟨by decide, by decide, by decide⟩ ?_
          walk_at "rd"
          refine rd_disp rfl fun p1 n1 => ?_
          walk_at "rd"
          refine rd_disp rfl fun p2 n2 => ?_
          walk_at "rd"
          refine rd_disp rfl fun p3 n3 => ?_
          walk_at "rd"
          refine rd_disp rfl fun p4 n4 => ?_
          walk_at "rd"
          have t1 := same_new (o := .tup [.int 0, .int 1]) n1
          have t2 := same_new (o := .tup [.str "yes"]) n2
          have t3 := same_new (o := .tup [.int 0, .int 1, .int 5, .int 5]) n3
          have t4 := same_new (o := .lst [.int (-1), .int 11, .int (10 ^ (20 : Int).toNat - 1), .ref p1, .ref p2, .ref p3]) n4
          have hh2 := hh1.keep t1
          have hh3 := hh2.keep t2
          have hh4 := hh3.keep t3
          have hh5 := hh4.keep t4
          have u3 := t3.trans t4
          have u2 := t2.trans u3
          have u1 := t1.trans u2
          refine rd_menu (C := T.c_Web) (p := p) upd_same (ds := [.int (-1), .int 11, .int (10 ^ (20 : Int).toNat - 1), .tuple [.int 0, .int 1], .tuple [.str "yes"], .tuple [.int 0, .int 1, .int 5, .int 5]])
            (tpAll_cons tp_int (tpAll_cons tp_int (tpAll_cons tp_int
            (tpAll_cons (tp_tup ⟨hh1.ne n1, u2 _ _ upd_same⟩ (tpAll_cons tp_int (tpAll_cons tp_int tpAll_nil)))
            (tpAll_cons (tp_tup ⟨hh2.ne n2, u3 _ _ upd_same⟩ (tpAll_cons tp_str tpAll_nil))
            (tpAll_cons (tp_tup ⟨hh3.ne n3, t4 _ _ upd_same⟩ (tpAll_cons tp_int (tpAll_cons tp_int (tpAll_cons tp_int (tpAll_cons tp_int tpAll_nil))))) tpAll_nil))))))
            (by omega) (by show r - 12 < 6; omega) rfl fun d x sm t => ?_
          exact q d x _ sm t hh5 (k1.trans (Keep.same u1))
end
end Mw

/-! M13 -/
namespace Mw
open PySem L2
section
variable {σ : L2.St} {H : Hp} {Q : VK} {K : PySem.W.Frag}
theorem rd_bm {n : String} {r : V → List V → Hp → VK → Prop} {to : TE} {t : TA} (h : to σ H fun x H1 => tyV K n x H1 ∧ t σ H1 fun xs H2 => r x xs H2 Q) : tBM K n r to t σ H Q := h
theorem rd_append {l : Addr} {xs : List V} {y : V} (h : H l = some (.lst xs)) (hl : xs.length < sizeLine) (q : Q .non (upd H l (.lst (xs ++ [y])))) : rAppend (.ref l) [y] H Q := ⟨l, xs, y, rfl, rfl, h, hl, q⟩
end
/-- all but two objects is as it was -/
def Stay (p l : Addr) (H H' : Hp) : Prop := ∀ a o, a ≠ p → a ≠ l → H a = some o → H' a = some o
theorem Stay.keep {p l : Addr} {H H' : Hp} (h : Keep p H H') : Stay p l H H' := fun a o n _ e => h a o n e
theorem Stay.mut {p l : Addr} {H : Hp} {o : HO} : Stay p l H (upd H l o) := fun a u _ n e => (upd_ne n).trans e
theorem Stay.trans {p l : Addr} {H H1 H2 : Hp} (x : Stay p l H H1) (y : Stay p l H1 H2) : Stay p l H H2 := fun a o n m e => y a o n m (x a o n m e)
/-- from an older heap that does not know l -/
theorem Keep.stay {p l : Addr} {H0 H H' : Hp} (k : Keep p H0 H) (n : H0 l = none) (s : Stay p l H H') : Keep p H0 H' := fun a o m e => s a o m (ne_of_none e n) (k a o m e)
/-- tuples at the addresses ks, of the numbers told -/
def TupsAt (p : Addr) (H : Hp) (ks : List (Addr × List Int)) : Prop := ∀ q ∈ ks, At p H q.1 (.tup (q.2.map V.int))
theorem TupsAt.keep {p : Addr} {H H' : Hp} {ks : List (Addr × List Int)} (k : Keep p H H') (h : TupsAt p H ks) : TupsAt p H' ks := fun q hq => (h q hq).keep k
theorem TupsAt.stay {p l : Addr} {H H' : Hp} {xs : List V} {ks : List (Addr × List Int)} (s : Stay p l H H') (hl : H l = some (.lst xs)) (h : TupsAt p H ks) : TupsAt p H' ks := fun q hq =>
  ⟨(h q hq).1, s _ _ (h q hq).1 (ne_of (h q hq).2 hl (by intro z; cases z)) (h q hq).2⟩
theorem TupsAt.snoc {p : Addr} {H : Hp} {ks : List (Addr × List Int)} {a : Addr} {ns : List Int} (h : TupsAt p H ks) (n : At p H a (.tup (ns.map V.int))) : TupsAt p H (ks ++ [(a, ns)]) := fun q hq => by
  rcases List.mem_append.mp hq with z | z
  · exact h q z
  · have e := List.mem_singleton.mp z
    subst e
    exact n
/-- pairs of houses -/
def PairsOk (m : Int) (ks : List (Addr × List Int)) : Prop := ∀ q ∈ ks, ∃ a b, q.2 = [a, b] ∧ 0 ≤ a ∧ a < b ∧ b < m
theorem PairsOk.snoc {m : Int} {ks : List (Addr × List Int)} {c : Addr} {a b : Int} (h : PairsOk m ks) (h0 : 0 ≤ a) (h1 : a < b) (h2 : b < m) : PairsOk m (ks ++ [(c, [a, b])]) := fun q hq => by
  rcases List.mem_append.mp hq with z | z
  · exact h q z
  · have e := List.mem_singleton.mp z
    subst e
    exact ⟨a, b, rfl, h0, h1, h2⟩
theorem HandAt.put {p l0 l : Addr} {H : Hp} {o : HO} (h : HandAt p l0 H) (n1 : l ≠ p) (n2 : l ≠ l0) : HandAt p l0 (upd H l o) := by
  obtain ⟨ns, i, c, z, t, h1, h2, h3, r⟩ := h
  exact ⟨ns, i, c, z, t, (upd_ne n1.symm).trans h1, h2, (upd_ne n2.symm).trans h3, r⟩
/-- the list of pairs at l, of the def's own; H the heap at its entry -/
def PairInv (p l0 l : Addr) (m : Int) (H : Hp) (n : Nat) (H2 : Hp) : Prop := ∃ ks : List (Addr × List Int), H2 l = some (.lst (ks.map fun q => V.ref q.1)) ∧ TupsAt p H2 ks ∧ PairsOk m ks ∧ ks.length ≤ n ∧ HandAt p l0 H2 ∧ Keep p H H2
theorem PairInv.keep {p l0 l : Addr} {m : Int} {H H2 H3 : Hp} {n : Nat} (h : PairInv p l0 l m H n H2) (hlp : l ≠ p) (k : Keep p H2 H3) (hh : HandAt p l0 H3) : PairInv p l0 l m H n H3 := by
  obtain ⟨ks, h1, h2, h3, h4, h5, h6⟩ := h
  exact ⟨ks, k _ _ hlp h1, h2.keep k, h3, h4, hh, h6.trans k⟩
theorem PairInv.mono {p l0 l : Addr} {m : Int} {H H2 : Hp} {n n' : Nat} (h : PairInv p l0 l m H n H2) (hn : n ≤ n') : PairInv p l0 l m H n' H2 := by
  obtain ⟨ks, h1, h2, h3, h4, h5, h6⟩ := h
  exact ⟨ks, h1, h2, h3, Nat.le_trans h4 hn, h5, h6⟩
theorem PairInv.hand {p l0 l : Addr} {m : Int} {H H2 : Hp} {n : Nat} (h : PairInv p l0 l m H n H2) : HandAt p l0 H2 := by
  obtain ⟨ks, h1, h2, h3, h4, h5, h6⟩ := h
  exact h5
theorem PairInv.add {p l0 l c : Addr} {m a b : Int} {H H2 : Hp} {n : Nat} (h : PairInv p l0 l m H n H2) (nl : H l = none) (hlp : l ≠ p) (hl0 : l ≠ l0) (hc : H2 c = none) (h0 : 0 ≤ a) (h1 : a < b) (h2 : b < m) :
    ∃ xs, (upd H2 c (.tup [.int a, .int b])) l = some (.lst xs) ∧ xs.length ≤ n ∧ PairInv p l0 l m H (n + 1) (upd (upd H2 c (.tup [.int a, .int b])) l (.lst (xs ++ [.ref c]))) := by
  obtain ⟨ks, g1, g2, g3, g4, g5, g6⟩ := h
  have hcp := g5.ne hc
  have hcl : c ≠ l := (ne_of_none g1 hc).symm
  have s1 := same_new (o := .tup [.int a, .int b]) hc
  refine ⟨_, s1 _ _ g1, by rw [List.length_map]; exact g4, ks ++ [(c, [a, b])], ?_, ?_, g3.snoc h0 h1 h2, ?_, (g5.keep s1).put hlp hl0, ?_⟩
  · rw [upd_same, List.map_append]
    rfl
  · have t1 : TupsAt p (upd H2 c (.tup [.int a, .int b])) (ks ++ [(c, [a, b])]) := (g2.keep (Keep.same s1)).snoc ⟨hcp, upd_same⟩
    exact t1.stay (l := l) Stay.mut (s1 _ _ g1)
  · rw [List.length_append]
    simp only [List.length_cons, List.length_nil]
    omega
  · exact (g6.trans (Keep.same s1)).stay nl Stay.mut
theorem right_mk {m : Int} {L : List Tie} {sp mo : Int} (h1 : 2 ≤ m) (h2 : m ≤ 10) (h3 : ∀ q ∈ L, TieIn m q) (h4 : ∀ (j : Nat) q r, L[j]? = some q → L[j + 1]? = some r → le2 r.1 r.2.1 q.1 q.2.1 = false) (a0 : 0 ≤ sp) (a1 : sp < m) (b0 : 0 ≤ mo) (b1 : mo < m) (ne : mo ≠ sp) : Right m L sp mo := by
  have ht : tiesBad m (.tuple (L.map tieD)) = none := by
    rw [tiesBad_none]
    intro j hj
    rw [List.length_map] at hj
    have hq : L[j]? = some L[j] := by simp [hj]
    have ok := tieD_in.mpr (h3 L[j] (List.mem_of_getElem? hq))
    unfold badAt
    rw [List.getElem?_map, hq]
    simp only [Option.map_some, ok, Bool.not_true, Bool.false_or, Bool.and_eq_false_iff, decide_eq_false_iff_not]
    cases j with
    | zero => exact .inl (by omega)
    | succ j =>
      refine .inr ?_
      have hj' : j < L.length := by omega
      have hr : L[j]? = some L[j] := by simp [hj']
      rw [Nat.add_sub_cancel, List.getElem?_map, hr]
      exact h4 j _ _ hr hq
  unfold Right webBad
  simp [inI, h1, h2, ht, isNb, a0, a1, b0, b1, sameI, ne]
def planD (m : Int) (L : List Tie) (sp mo : Int) : PyData := .tuple [.int m, .tuple (L.map tieD), .int sp, .int mo]
def spPlan (C : Addr) : Sp := fun vs H Q _ => ∃ (p l0 : Addr) (m : Int), vs = [.ref p, .int m] ∧ 2 ≤ m ∧ m ≤ 10 ∧ HandAt p l0 H ∧ ∀ L sp mo v H', Right m L sp mo → Tp C p H' (planD m L sp mo) v → HandAt p l0 H' → Keep p H H' → Q v H'
theorem mod_other {m sp r : Int} (h2 : 2 ≤ m) (a0 : 0 ≤ sp) (a1 : sp < m) (r0 : 0 ≤ r) (r1 : r < m - 1) : 0 ≤ (sp + 1 + r).fmod m ∧ (sp + 1 + r).fmod m < m ∧ (sp + 1 + r).fmod m ≠ sp := by
  rw [Int.fmod_eq_emod_of_nonneg _ (by omega)]
  refine ⟨Int.emod_nonneg _ (by omega), Int.emod_lt_of_pos _ (by omega), ?_⟩
  rcases Int.lt_or_le (sp + 1 + r) m with z | z
  · rw [Int.emod_eq_of_lt (by omega) z]
    omega
  · have e : sp + 1 + r = (sp + 1 + r - m) + m * 1 := by omega
    rw [e, Int.add_mul_emod_self_left, Int.emod_eq_of_lt (by omega) (by omega)]
    omega
theorem Keep.free {p q : Addr} {H H' : Hp} (k : Keep p H H') (n : H' q = none) (hq : q ≠ p) : H q = none := by
  cases e : H q with
  | none => rfl
  | some o =>
    rw [k q o hq e] at n
    cases n
theorem rd_ilist {K : PySem.W.Frag} {te : TE} {σ : L2.St} {H : Hp} {R : It → Hp → Prop} (h : te σ H fun x H1 => ∃ a, x = .ref a ∧ (∃ xs, SqL K H1 a xs) ∧ R (Itl K a) H1) : iList K te σ H R := h
def tupTie : List Int → Tie
  | [a, b, t, k] => (a, b, t, k)
  | _ => (0, 0, 0, 0)
/-- tuples of two houses and what goes either way -/
def FoursOk (ts : List (Addr × List Int)) : Prop := ∀ q ∈ ts, ∃ a b t k, q.2 = [a, b, t, k] ∧ 0 ≤ t ∧ t < 1000000 ∧ 0 ≤ k ∧ k < 1000000
theorem tp_ties {C p : Addr} {H : Hp} : ∀ ts : List (Addr × List Int), TupsAt p H ts → FoursOk ts → TpAll C p H ((ts.map fun q => tupTie q.2).map tieD) (ts.map fun q => V.ref q.1)
  | [], _, _ => tpAll_nil
  | q :: ts, h, h4 => by
    obtain ⟨a, b, t, k, e, _⟩ := h4 q (by simp)
    have hq := h q (by simp)
    obtain ⟨c, ns⟩ := q
    simp only at e
    subst e
    exact tpAll_cons (tp_tup hq (tpAll_cons tp_int (tpAll_cons tp_int (tpAll_cons tp_int (tpAll_cons tp_int tpAll_nil))))) (tp_ties ts (fun r hr => h r (by simp [hr])) (fun r hr => h4 r (by simp [hr])))
theorem fours_at {ts L' : List (Addr × List Int)} (h : ts.map (fun q => q.2.take 2) = L'.map (·.2)) {j : Nat} {x : Addr × List Int} (hx : ts[j]? = some x) : ∃ y, L'[j]? = some y ∧ y.2 = x.2.take 2 := by
  have e := congrArg (fun l : List (List Int) => l[j]?) h
  simp only [List.getElem?_map, hx, Option.map_some] at e
  cases hy : L'[j]? with
  | none =>
    rw [hy] at e
    cases e
  | some y =>
    rw [hy] at e
    exact ⟨y, rfl, (Option.some.inj e).symm⟩
theorem fours_right {m : Int} {ts L' : List (Addr × List Int)} (h2 : m ≤ 10) (h : ts.map (fun q => q.2.take 2) = L'.map (·.2)) (h4 : FoursOk ts) (hp : PairsOk m L') (hn : (L'.map (·.2)).Nodup) (hpw : L'.Pairwise (fun q r => TS.code 10 q.2 ≤ TS.code 10 r.2)) :
    (∀ q ∈ ts.map (fun q => tupTie q.2), TieIn m q) ∧ ∀ (j : Nat) q r, (ts.map (fun q => tupTie q.2))[j]? = some q → (ts.map (fun q => tupTie q.2))[j + 1]? = some r → le2 r.1 r.2.1 q.1 q.2.1 = false := by
  constructor
  · intro q hq
    obtain ⟨x, hx, rfl⟩ := List.mem_map.mp hq
    obtain ⟨a, b, t, k, e, c1, c2, c3, c4⟩ := h4 x hx
    obtain ⟨j, hj, ej⟩ := List.getElem_of_mem hx
    obtain ⟨y, hy, ey⟩ := fours_at h (show ts[j]? = some x by rw [List.getElem?_eq_getElem hj, ej])
    obtain ⟨a', b', e', d1, d2, d3⟩ := hp y (List.mem_of_getElem? hy)
    rw [e', e] at ey
    simp at ey
    obtain ⟨rfl, rfl⟩ := ey
    rw [e]
    exact ⟨d1, d2, d3, c1, c2, c3, c4⟩
  · intro j q r hq hr
    rw [List.getElem?_map] at hq hr
    cases hx : ts[j]? with
    | none =>
      rw [hx] at hq
      cases hq
    | some x =>
      cases hy : ts[j + 1]? with
      | none =>
        rw [hy] at hr
        cases hr
      | some y =>
        rw [hx] at hq
        rw [hy] at hr
        cases hq
        cases hr
        obtain ⟨a, b, t, k, e1, _⟩ := h4 x (List.mem_of_getElem? hx)
        obtain ⟨c, d, t', k', e2, _⟩ := h4 y (List.mem_of_getElem? hy)
        obtain ⟨x', hx', ex'⟩ := fours_at h hx
        obtain ⟨y', hy', ey'⟩ := fours_at h hy
        obtain ⟨a', b', f1, g1, g2, g3⟩ := hp x' (List.mem_of_getElem? hx')
        obtain ⟨c', d', f2, g4, g5, g6⟩ := hp y' (List.mem_of_getElem? hy')
        rw [f1, e1] at ex'
        rw [f2, e2] at ey'
        simp at ex' ey'
        obtain ⟨rfl, rfl⟩ := ex'
        obtain ⟨rfl, rfl⟩ := ey'
        obtain ⟨hj1, e3⟩ := List.getElem?_eq_some_iff.mp hx'
        obtain ⟨hj2, e4⟩ := List.getElem?_eq_some_iff.mp hy'
        have p1 := List.pairwise_iff_getElem.mp hpw j (j + 1) hj1 hj2 (Nat.lt_succ_self j)
        rw [e3, e4, f1, f2] at p1
        have p2 := List.pairwise_iff_getElem.mp hn j (j + 1) (by simpa using hj1) (by simpa using hj2) (Nat.lt_succ_self j)
        simp only [List.getElem_map, e3, e4, f1, f2] at p2
        have p1' : a' * 10 + b' ≤ c' * 10 + d' := by
          have z : ∀ u v : Int, TS.code 10 [u, v] = u * 10 + v := fun u v => by
            show u * 10 ^ 1 + (v * 10 ^ 0 + 0) = _
            omega
          rw [z, z] at p1
          exact p1
        show le2 (tupTie y.2).1 (tupTie y.2).2.1 (tupTie x.2).1 (tupTie x.2).2.1 = false
        rw [e1, e2]
        show le2 c' d' a' b' = false
        unfold le2
        split
        · rename_i z
          subst z
          have : b' ≠ d' := fun z => p2 (by rw [z])
          simp only [decide_eq_false_iff_not]
          omega
        · simp only [decide_eq_false_iff_not]
          omega
section
variable {P : Program} {w : World} {K : PySem.W.Frag} {mg : Str → Option Value} {base : Heap}
local macro_rules | `(tactic| walk_at "rd") => `(tactic| (repeat (first
  | ((with_reducible refine' rd_var ?h0 ?_); (case h0 => rfl))
  | with_reducible refine rd_c ?_
  | with_reducible refine rd_op ?_
  | with_reducible refine rd_nil ?_
  | with_reducible refine rd_cons ?_
  | with_reducible refine rd_tup ?_
  | with_reducible refine rd_lst ?_
  | with_reducible refine rd_ifs ?_
  | with_reducible refine rd_seq ?_
  | with_reducible refine rd_next ?_
  | with_reducible refine rd_ret ?_
  | with_reducible refine rd_asg ?_
  | with_reducible refine rd_gname ?_
  | with_reducible refine rd_drop ?_
  | with_reducible refine rd_test ?_
  | with_reducible refine rd_B ?_
  | with_reducible refine rd_bl ?_
  | with_reducible refine rd_blP ?_
  | with_reducible refine rd_andV ?_
  | with_reducible refine rd_orV ?_
  | with_reducible refine rd_notV ?_
  | with_reducible refine rd_and ?_
  | with_reducible refine rd_or ?_
  | with_reducible refine rd_not ?_
  | with_reducible refine rd_cb ?_
  | with_reducible refine rd_call ?_
  | with_reducible refine rd_un ?_
  | with_reducible refine rd_sl ?_
  | with_reducible refine rd_nopart ?_
  | with_reducible refine rd_part ?_
  | with_reducible refine rd_intP ?_
  | with_reducible refine rd_rU ?_
  | with_reducible refine rd_fld ?_
  | with_reducible refine rd_eqI ?_
  | with_reducible refine rd_neI ?_
  | with_reducible refine rd_mko ?_
  | with_reducible refine rd_bm ?_
  | with_reducible refine rd_gsub ?_
  | with_reducible refine rd_i0 ?_)))
theorem ok_law_web (T : Tx K mg) (B : Bk K mg T) : FnOk P w K mg base CX0 4 B.law_web.f B.law_web.fd ["hand", "size"] (spPlan T.c_Web) := by
  have G_law_take := ok_law_take (P := P) (w := w) (base := base) T B
  have G_law_pick := ok_law_pick (P := P) (w := w) (base := base) T B
  have G_law_units := ok_law_units (P := P) (w := w) (base := base) T B
  refine B.law_web.F.ok sc_law_web (fun vs H Q E h => ?_) (fun cdv A outer s H vs Q E hr h => ?_)
  · obtain ⟨p, l0, m, rfl, _⟩ := h
    rfl
  · obtain ⟨p, l0, m, rfl, hm1, hm2, hh, q⟩ := h
    refine ⟨_, (pss_cons (ps_set (i := 2) sc_law_web.nd rfl (Or.inl rfl) (pe_lst pa_nil))
      (pss_cons (ps_set (i := 3) sc_law_web.nd rfl (Or.inl rfl) (pe_call G_law_take (hr.mono (by decide)) rfl B.law_take.m B.law_take.F.kp B.law_take.b .nil pass0 (pa_cons (pv 0) (pa_cons pe_int pa_nil))))
      (pss_cons (ps_for PassesOwn.never rfl (pi_range2 (by rfl) T.b_range (pa_cons pe_int (pa_cons (pv 1) pa_nil))) (pg_name (i := 4) sc_law_web.nd rfl (Or.inl rfl)) (pss_cons (ps_set (i := 5) sc_law_web.nd rfl (Or.inl rfl) (pe_call G_law_take (hr.mono (by decide)) rfl B.law_take.m B.law_take.F.kp B.law_take.b .nil pass0 (pa_cons (pv 0) (pa_cons (pv 4) pa_nil))))
      (C8.pss_cut (ps_if (pt_cmpR op_eq (pv 3) pe_int (nomark _)) (pss_one (ps_set (i := 5) sc_law_web.nd rfl (Or.inl rfl) (pe_op op_sub (pv 4) pe_int))) pss_nil)
      (pss_one (ps_if (PW.pt (pw_or (pt_cmpR op_ne (pv 3) pe_int (nomark _)) (pw_or1 (pt_cmpR op_gt (pe_call G_law_take (hr.mono (by decide)) rfl B.law_take.m B.law_take.F.kp B.law_take.b .nil pass0 (pa_cons (pv 0) (pa_cons pe_int pa_nil))) pe_int (nomark _))))) (pss_one (ps_expr (pe_bm PySem.F.plainAttrs_list PySem.F.slot_list_append PySem.F.type_list_append mt_append (pv 2) (pa_cons (pe_tup (pa_cons (pv 5) (pa_cons (pv 4) pa_nil))) pa_nil)))) pss_nil)))))
      (pss_cons (ps_for PassesOwn.never rfl (pi_range1 (by rfl) T.b_range (pa_cons (pe_call G_law_take (hr.mono (by decide)) rfl B.law_take.m B.law_take.F.kp B.law_take.b .nil pass0 (pa_cons (pv 0) (pa_cons (pe_op op_add (pe_op op_mul (pv 1) pe_int) pe_int) pa_nil))) pa_nil)) (pg_name (i := 6) sc_law_web.nd rfl (Or.inl rfl)) (pss_cons (ps_set (i := 7) sc_law_web.nd rfl (Or.inl rfl) (pe_call G_law_take (hr.mono (by decide)) rfl B.law_take.m B.law_take.F.kp B.law_take.b .nil pass0 (pa_cons (pv 0) (pa_cons (pv 1) pa_nil))))
      (pss_cons (ps_set (i := 8) sc_law_web.nd rfl (Or.inl rfl) (pe_call G_law_take (hr.mono (by decide)) rfl B.law_take.m B.law_take.F.kp B.law_take.b .nil pass0 (pa_cons (pv 0) (pa_cons (pv 1) pa_nil))))
      (pss_one (ps_if (pt_cmpR op_lt (pv 7) (pv 8) (nomark _)) (pss_one (ps_expr (pe_bm PySem.F.plainAttrs_list PySem.F.slot_list_append PySem.F.type_list_append mt_append (pv 2) (pa_cons (pe_tup (pa_cons (pv 7) (pa_cons (pv 8) pa_nil))) pa_nil)))) pss_nil)))))
      (pss_cons (ps_set (i := 9) sc_law_web.nd rfl (Or.inl rfl) (pe_call G_law_pick (hr.mono (by decide)) rfl B.law_pick.m B.law_pick.F.kp B.law_pick.b .nil pass0 (pa_cons (pv 0) (pa_cons (pe_lst (pa_cons pe_int (pa_cons pe_int (pa_cons pe_int (pa_cons pe_int pa_nil))))) pa_nil))))
      (pss_cons (ps_set (i := 10) sc_law_web.nd rfl (Or.inl rfl) (pe_lst pa_nil))
      (pss_cons (ps_for PassesOwn.never rfl (pi_list (pe_callB (cr_sortedT rfl) (by rfl) T.b_sorted (by decide +kernel) (pa_cons (pe_callTy (cr_setOfT rfl hr.units) (by rfl) T.b_set (by decide +kernel) (pa_cons (pv 2) pa_nil)) pa_nil))) (pg_name (i := 11) sc_law_web.nd rfl (Or.inl rfl)) (pss_one (ps_expr (pe_bm PySem.F.plainAttrs_list PySem.F.slot_list_append PySem.F.type_list_append mt_append (pv 10) (pa_cons (pe_op op_catT (pv 11) (pe_tup (pa_cons (pe_call G_law_units (hr.mono (by decide)) rfl B.law_units.m B.law_units.F.kp B.law_units.b .nil pass0 (pa_cons (pv 0) (pa_cons (pv 9) pa_nil))) (pa_cons (pe_call G_law_units (hr.mono (by decide)) rfl B.law_units.m B.law_units.F.kp B.law_units.b .nil pass0 (pa_cons (pv 0) (pa_cons (pv 9) pa_nil))) pa_nil)))) pa_nil)))))
      (pss_cons (ps_set (i := 12) sc_law_web.nd rfl (Or.inl rfl) (pe_call G_law_take (hr.mono (by decide)) rfl B.law_take.m B.law_take.F.kp B.law_take.b .nil pass0 (pa_cons (pv 0) (pa_cons (pv 1) pa_nil))))
      (pss_cons (ps_set (i := 13) sc_law_web.nd rfl (Or.inl rfl) (pe_op op_modN (pe_callTy call_int1 (by rfl) T.b_int (by decide +kernel) (pa_cons (pe_op op_add (pe_op op_add (pv 12) pe_int) (pe_call G_law_take (hr.mono (by decide)) rfl B.law_take.m B.law_take.F.kp B.law_take.b .nil pass0 (pa_cons (pv 0) (pa_cons (pe_op op_sub (pv 1) pe_int) pa_nil)))) pa_nil)) (pv 1)))
      (pss_one (ps_ret (pe_tup (pa_cons (pv 1) (pa_cons (pe_callTy call_tuple_of (by rfl) T.b_tuple (by decide +kernel) (pa_cons (pv 10) pa_nil)) (pa_cons (pv 12) (pa_cons (pv 13) pa_nil)))))))))))))))), ?_⟩
    walk_at "rd"
    refine rd_disp rfl fun l nl => ?_
    have hlp := hh.ne nl
    have hl0 : l ≠ l0 := by
      obtain ⟨u, hu⟩ := hh.there2
      exact (ne_of_none hu nl).symm
    walk_at "rd"
    refine ⟨p, l0, _, rfl, by decide, by decide, hh.keep (same_new nl), fun shape H1 c0 c1 hh1 k1 => ?_⟩
    walk_at "rd"
    refine ⟨_, rfl, 1, m, rfl, ⟨by decide, by decide, by omega, by omega⟩, for_range (lo := 1) (n := (m - 1).toNat)
      (fun i σ H2 => ∃ (s1 s2 : Option V), σ = [some (.ref p), some (.int m), some (.ref l), some (.int shape), s1, s2, none, none, none, none, none, none, none, none] ∧ PairInv p l0 l m H i H2) ?_ ?_ ?_⟩
    · have h1l : H1 l = some (.lst []) := k1 _ _ hlp upd_same
      exact ⟨none, none, rfl, [], h1l, fun q hq => by simp at hq, fun q hq => by simp at hq, Nat.le_refl 0, hh1, (Keep.same (same_new nl)).trans k1⟩
    · rintro i σ H2 hi ⟨s1, s2, rfl, pv⟩
      have hi2 : (1 : Int) + (i : Int) < m := by omega
      walk_at "rd"
      refine ⟨p, l0, _, rfl, by omega, by omega, pv.hand, fun ot H3 d0 d1 hh3 k3 => ?_⟩
      have pv3 := pv.keep hlp k3 hh3
      walk_at "rd"
      refine ⟨fun σ4 H4 => ∃ o4 : Int, σ4 = [some (.ref p), some (.int m), some (.ref l), some (.int shape), some (.int (1 + (i : Int))), some (.int o4), none, none, none, none, none, none, none, none] ∧ 0 ≤ o4 ∧ o4 < 1 + (i : Int) ∧ H3 = H4, ?_, ?_⟩
      · walk_at "rd"
        refine rd_ite (fun _ => ?_) (fun _ => ?_)
        · walk_at "rd"
          exact ⟨_, rfl, by omega, by omega, rfl⟩
        · exact ⟨_, rfl, d0, d1, rfl⟩
      · rintro σ4 H4 ⟨o4, rfl, e0, e1, rfl⟩
        have fin : ∀ H5, PairInv p l0 l m H i H5 → ∀ c, H5 c = none → ∃ xs, (upd H5 c (.tup [.int o4, .int (1 + (i : Int))])) l = some (.lst xs) ∧ xs.length ≤ i ∧ PairInv p l0 l m H (i + 1) (upd (upd H5 c (.tup [.int o4, .int (1 + (i : Int))])) l (.lst (xs ++ [.ref c]))) :=
          fun H5 pv5 c hc => pv5.add nl hlp hl0 hc e0 e1 hi2
        walk_at "rd"
        refine rd_ite (fun _ => ?_) (fun _ => ?_)
        · refine rd_ite (fun _ => ?_) (fun z => by cases z)
          walk_at "rd"
          obtain ⟨ks, g1, _⟩ := id pv3
          refine ⟨.inl ⟨rfl, _, SqL.of g1⟩, ?_⟩
          walk_at "rd"
          refine rd_disp rfl fun c hc => ?_
          obtain ⟨xs, x1, x2, x3⟩ := fin _ pv3 c hc
          walk_at "rd"
          exact rd_append x1 (small1000 (by omega)) ⟨_, _, rfl, x3⟩
        · walk_at "rd"
          refine ⟨p, l0, _, rfl, by decide, by decide, hh3, fun o5 H5 b0 b1 hh5 k5 => ?_⟩
          have pv5 := pv3.keep hlp k5 hh5
          walk_at "rd"
          refine rd_ite (fun _ => ?_) (fun _ => ?_)
          · walk_at "rd"
            obtain ⟨ks, g1, _⟩ := id pv5
            refine ⟨.inl ⟨rfl, _, SqL.of g1⟩, ?_⟩
            walk_at "rd"
            refine rd_disp rfl fun c hc => ?_
            obtain ⟨xs, x1, x2, x3⟩ := fin _ pv5 c hc
            walk_at "rd"
            exact rd_append x1 (small1000 (by omega)) ⟨_, _, rfl, x3⟩
          · exact ⟨_, _, rfl, pv5.mono (Nat.le_succ i)⟩
    · rintro σ H2 ⟨s1, s2, rfl, pv⟩
      have pv9 := pv.mono (n' := 9 + 0) (by omega)
      walk_at "rd"
      show iRng1 _ _ _ _
      refine rd_rng1 ?_
      walk_at "rd"
      refine rd_iC (.inl ⟨by omega, by omega⟩) ?_
      walk_at "rd"
      refine ⟨p, l0, _, rfl, by omega, by omega, pv.hand, fun rr H3 b0 b1 hh3 k3 => ?_⟩
      have pv3 := pv9.keep hlp k3 hh3
      walk_at "rd"
      refine ⟨rr, rfl, by omega, by omega, for_range (lo := 0) (n := rr.toNat)
        (fun i σ H4 => ∃ (s1 s2 s3 s4 s5 : Option V), σ = [some (.ref p), some (.int m), some (.ref l), some (.int shape), s1, s2, s3, s4, s5, none, none, none, none, none] ∧ PairInv p l0 l m H (9 + i) H4) ⟨s1, s2, none, none, none, rfl, pv3⟩ ?_ ?_⟩
      · rintro i σ H4 hi ⟨s1, s2, s3, s4, s5, rfl, pv4⟩
        walk_at "rd"
        refine ⟨p, l0, _, rfl, by omega, by omega, pv4.hand, fun a H5 a0 a1 hh5 k5 => ?_⟩
        have pv5 := pv4.keep hlp k5 hh5
        walk_at "rd"
        refine ⟨p, l0, _, rfl, by omega, by omega, hh5, fun b H6 b0 b1 hh6 k6 => ?_⟩
        have pv6 := pv5.keep hlp k6 hh6
        walk_at "rd"
        refine rd_ite (fun hab => ?_) (fun _ => ?_)
        · walk_at "rd"
          obtain ⟨ks, g1, _⟩ := id pv6
          refine ⟨.inl ⟨rfl, _, SqL.of g1⟩, ?_⟩
          walk_at "rd"
          refine rd_disp rfl fun c hc => ?_
          obtain ⟨xs, x1, x2, x3⟩ := pv6.add nl hlp hl0 hc a0 (by simpa using hab) b1
          walk_at "rd"
          exact rd_append x1 (small1000 (by omega)) ⟨_, _, _, _, _, rfl, x3⟩
        · exact ⟨_, _, _, _, _, rfl, pv6.mono (by omega)⟩
      · rintro σ H4 ⟨s1, s2, s3, s4, s5, rfl, pv4⟩
        walk_at "rd"
        refine rd_disp rfl fun lm nm => ?_
        have hh4 := pv4.hand
        have sm := same_new (o := .lst [.int 1, .int 3, .int 9, .int 999999]) nm
        refine ⟨p, l0, lm, _, rfl, ⟨hh4.ne nm, upd_same⟩, Nat.le_of_ble_eq_true rfl, Nat.le_of_ble_eq_true rfl, hh4.keep sm, fun j sp0 H5 hj hh5 k5 => ?_⟩
        obtain ⟨span, rfl, sp1, sp2⟩ : ∃ span : Int, sp0 = .int span ∧ 0 ≤ span ∧ span < 1000000 := by
          match j, hj with
          | 0, hj | 1, hj | 2, hj | 3, hj =>
            cases hj
            exact ⟨_, rfl, by decide, by decide⟩
          | j + 4, hj => simp at hj
        have pv5 := (pv4.keep hlp (Keep.same sm) (hh4.keep sm)).keep hlp k5 hh5
        walk_at "rd"
        refine rd_disp rfl fun lt nt => ?_
        have st := same_new (o := .lst []) nt
        have pv6 := pv5.keep hlp (Keep.same st) (hh5.keep st)
        have htp := hh5.ne nt
        have ht0 : lt ≠ l0 := by
          obtain ⟨u, hu⟩ := hh5.there2
          exact (ne_of_none hu nt).symm
        obtain ⟨ks, g1, g2, g3, g4, g5, g6⟩ := id pv6
        have hlt0 : H lt = none := by
          obtain ⟨_, _, _, _, _, _, k⟩ := id pv5
          exact k.free nt htp
        walk_at "rd"
        show iList _ _ _ _ _
        refine rd_ilist ?_
        walk_at "rd"
        refine ⟨l, ks, rfl, SqL.of g1, fun r hr => SqT.of (g2 r hr).2, by omega, fun sa L nsa hsub hall => ?_⟩
        have ss := same_new (o := SetTO P w sa L) nsa
        walk_at "rd"
        refine ⟨sa, L, 2, 10, rfl, upd_same, fun r hr => SqT.of (ss _ _ (g2 r (hsub r hr)).2), by decide, fun r hr => ?_, fun L' pl hperm hnd hl64 hpw npl => ?_⟩
        · obtain ⟨a, b, e, c0, c1, c2⟩ := g3 r (hsub r hr)
          rw [e]
          refine ⟨rfl, fun x hx => ?_⟩
          simp at hx
          rcases hx with rfl | rfl
          · omega
          · omega
        · have sp := ss.trans (same_new (o := .lst (L'.map fun q => V.ref q.1)) npl)
          have hL' : TupsAt p (upd (upd (upd H5 lt (.lst [])) sa (SetTO P w sa L)) pl (.lst (L'.map fun q => V.ref q.1))) L' := fun r hr => (g2 r (hsub r (hperm.mem_iff.mp hr))).keep (Keep.same sp)
          have hLok : PairsOk m L' := fun r hr => g3 r (hsub r (hperm.mem_iff.mp hr))
          have npt : pl ≠ lt := (ne_of_none ((same_new (o := SetTO P w sa L) nsa) _ _ upd_same) npl).symm
          have hplp : pl ≠ p := (g5.keep ss).ne npl
          refine ⟨pl, rfl, ⟨_, SqL.of upd_same⟩, for_list (K := K) (a := pl) (xs := L'.map fun q => V.ref q.1)
            (fun i σ H7 => ∃ (ts : List (Addr × List Int)) (s1 s2 s3 s4 s5 s6 : Option V), σ = [some (.ref p), some (.int m), some (.ref l), some (.int shape), s1, s2, s3, s4, s5, some (.int span), some (.ref lt), s6, none, none] ∧
              H7 lt = some (.lst (ts.map fun q => V.ref q.1)) ∧ TupsAt p H7 ts ∧ ts.map (fun q => q.2.take 2) = (L'.take i).map (·.2) ∧ FoursOk ts ∧ HandAt p l0 H7 ∧ Keep p H H7 ∧ H7 pl = some (.lst (L'.map fun q => V.ref q.1)) ∧ TupsAt p H7 L')
            ⟨[], s1, s2, s3, s4, s5, none, rfl, sp _ _ upd_same, fun q hq => by simp at hq, rfl, fun q hq => by simp at hq, g5.keep sp, g6.trans (Keep.same sp), upd_same, hL'⟩ (fun i σ H7 _ hh => by
              obtain ⟨_, _, _, _, _, _, _, _, _, _, _, _, _, _, e, _⟩ := hh
              exact SqL.of e) ?_ ?_⟩
          · rintro i x σ H7 hi ⟨ts, s1, s2, s3, s4, s5, s6, rfl, t1, t2, t3, t4, t5, t6, t7, t8⟩
            rw [List.getElem?_map] at hi
            cases hr : L'[i]? with
            | none =>
              rw [hr] at hi
              cases hi
            | some r =>
              rw [hr] at hi
              cases hi
              obtain ⟨a, b, e, c0, c1, c2⟩ := hLok r (List.mem_of_getElem? hr)
              have hilt : i < L'.length := (List.getElem?_eq_some_iff.mp hr).1
              have hlen : ts.length = i := by
                have z := congrArg List.length t3
                simp only [List.length_map, List.length_take] at z
                omega
              walk_at "rd"
              refine ⟨.inl ⟨rfl, _, SqL.of t1⟩, ?_⟩
              walk_at "rd"
              refine ⟨p, l0, span, rfl, sp1, sp2, t5, fun u1 H8 v0 v1 hh8 k8 => ?_⟩
              walk_at "rd"
              refine ⟨p, l0, span, rfl, sp1, sp2, hh8, fun u2 H9 w0 w1 hh9 k9 => ?_⟩
              walk_at "rd"
              refine rd_disp rfl fun c1' nc1 => ?_
              have kk := k8.trans k9
              have hc1 := hh9.ne nc1
              have sc := same_new (o := .tup [.int u1, .int u2]) nc1
              have hr9 := (t8 r (List.mem_of_getElem? hr)).keep (kk.trans (Keep.same sc))
              rw [e] at hr9
              refine ⟨r.1, c1', _, _, rfl, rfl, SqT.of hr9.2, SqT.of upd_same, by simp, by show 4 ≤ sizeLine; decide, (fun z => by cases z), fun _ c2' nc2 => ?_⟩
              have hh10 := hh9.keep sc
              have hc2 := hh10.ne nc2
              have sd := sc.trans (same_new (o := .tup [.int a, .int b, .int u1, .int u2]) nc2)
              have kf := kk.trans (Keep.same sd)
              have t1f := kf _ _ htp t1
              walk_at "rd"
              refine rd_append t1f (by rw [List.length_map, hlen]; exact small1000 (by omega)) ?_
              have e1 : TupsAt p (upd (upd H9 c1' (.tup [.int u1, .int u2])) c2' (.tup [.int a, .int b, .int u1, .int u2])) (ts ++ [(c2', [a, b, u1, u2])]) := (t2.keep kf).snoc ⟨hc2, upd_same⟩
              refine ⟨ts ++ [(c2', [a, b, u1, u2])], _, _, _, _, _, _, rfl, ?_, e1.stay Stay.mut t1f, ?_, ?_, (hh9.keep sd).put htp ht0, ?_, ?_, (t8.keep kf).stay Stay.mut t1f⟩
              · rw [upd_same, List.map_append]
                rfl
              · rw [List.map_append, t3, take_snoc hr, List.map_append]
                show _ ++ [[a, b]] = _ ++ [r.2]
                rw [e]
              · intro q hq
                rcases List.mem_append.mp hq with z | z
                · exact t4 q z
                · have e := List.mem_singleton.mp z
                  subst e
                  exact ⟨a, b, u1, u2, rfl, by omega, by omega, by omega, by omega⟩
              · exact (t6.trans kf).stay hlt0 Stay.mut
              · exact (upd_ne npt).trans (kf _ _ hplp t7)
          · rintro σ H7 ⟨ts, s1, s2, s3, s4, s5, s6, rfl, t1, t2, t3, t4, t5, t6, t7, t8⟩
            rw [List.length_map, List.take_length] at t3
            obtain ⟨r1, r2⟩ := fours_right hm2 t3 t4 hLok hnd hpw
            walk_at "rd"
            refine ⟨p, l0, _, rfl, by omega, by omega, t5, fun sp H8 a0 a1 hh8 k8 => ?_⟩
            walk_at "rd"
            refine ⟨p, l0, _, rfl, by omega, by omega, hh8, fun r0 H9 b0 b1 hh9 k9 => ?_⟩
            walk_at "rd"
            refine .inl ⟨_, rfl, ?_⟩
            walk_at "rd"
            refine rd_iC (show m ≠ 0 by omega) ?_
            obtain ⟨m0, m1, m2⟩ := mod_other hm1 a0 a1 b0 b1
            have kk := k8.trans k9
            walk_at "rd"
            refine ⟨lt, _, rfl, .inl ⟨SqL.of (kk _ _ htp t1), fun tt ntt => ?_⟩⟩
            walk_at "rd"
            refine rd_disp rfl fun pt npt2 => ?_
            have st1 := same_new (o := .tup (ts.map fun q => V.ref q.1)) ntt
            have hh10 := hh9.keep st1
            have st2 := st1.trans (same_new (o := .tup [.int m, .ref tt, .int sp, .int ((sp + 1 + r0).fmod m)]) npt2)
            have kf := kk.trans (Keep.same st2)
            refine q _ _ _ _ _ (right_mk hm1 hm2 r1 r2 a0 a1 m0 m1 m2) ?_ (hh9.keep st2) (t6.trans kf)
            refine tp_tup ⟨hh10.ne npt2, upd_same⟩ (tpAll_cons tp_int (tpAll_cons (tp_tup ⟨hh9.ne ntt, (upd_ne (ne_of_none upd_same npt2)).trans upd_same⟩ ?_) (tpAll_cons tp_int (tpAll_cons tp_int tpAll_nil))))
            exact TpAll.keep kf _ _ (tp_ties ts t2 t4)
end
end Mw

/-! M14 -/
namespace Mw
open PySem L2
def spWebOf (C CB : Addr) : Sp := fun vs H Q E => ∃ p v s t sp mo, vs = [v] ∧ Tp C p H (.tuple [s, t, sp, mo]) v ∧ (∃ u, H p = some u) ∧
  (∀ m L a b, s = .int m → t = .tuple (L.map tieD) → sp = .int a → mo = .int b → Right m L a b → ∀ w H', WebAt C p H' w m L a b → H w = none → Same H H' → Q (.ref w) H') ∧ (∀ part, webBad s t sp mo = some part → Raised CB part H E)
def spNear (C : Addr) : Sp := fun vs H Q _ => ∃ p v m L sp mo h, vs = [v, .int h] ∧ Tp C p H (planD m L sp mo) v ∧ L.length ≤ 100 ∧ ∀ (r : Addr) (ns : List Int) (H' : Hp), H r = none → Same H H' → H' r = some (.lst (ns.map V.int)) → ns.Perm (aboveOf L h ++ belowOf L h) → ns.Pairwise (· ≤ ·) → Q (.ref r) H'
theorem rd_make {C : Addr} {sp : Sp} {dvs : List V} {E : XK} {t : TA} {σ : L2.St} {H : Hp} {Q : VK} (h : t σ H fun vs H1 => ∀ x dx, H1 x = none → H1 dx = none → dx ≠ x → sp (.ref x :: (vs ++ dvs)) (upd (upd H1 dx (.own x)) x (.ins C dx [])) (fun v H2 => v = .non ∧ Q (.ref x) H2) E) : tMake C sp dvs E t σ H Q := h
section
variable {P : Program} {w : World} {K : PySem.W.Frag} {mg : Str → Option Value} {base : Heap}
local macro_rules | `(tactic| walk_at "rd") => `(tactic| (repeat (first
  | ((with_reducible refine' rd_var ?h0 ?_); (case h0 => rfl))
  | with_reducible refine rd_c ?_
  | with_reducible refine rd_op ?_
  | with_reducible refine rd_nil ?_
  | with_reducible refine rd_cons ?_
  | with_reducible refine rd_tup ?_
  | with_reducible refine rd_lst ?_
  | with_reducible refine rd_ifs ?_
  | with_reducible refine rd_seq ?_
  | with_reducible refine rd_next ?_
  | with_reducible refine rd_ret ?_
  | with_reducible refine rd_asg ?_
  | with_reducible refine rd_gname ?_
  | with_reducible refine rd_drop ?_
  | with_reducible refine rd_test ?_
  | with_reducible refine rd_B ?_
  | with_reducible refine rd_bl ?_
  | with_reducible refine rd_blP ?_
  | with_reducible refine rd_andV ?_
  | with_reducible refine rd_orV ?_
  | with_reducible refine rd_notV ?_
  | with_reducible refine rd_and ?_
  | with_reducible refine rd_or ?_
  | with_reducible refine rd_not ?_
  | with_reducible refine rd_cb ?_
  | with_reducible refine rd_call ?_
  | with_reducible refine rd_un ?_
  | with_reducible refine rd_sl ?_
  | with_reducible refine rd_nopart ?_
  | with_reducible refine rd_part ?_
  | with_reducible refine rd_intP ?_
  | with_reducible refine rd_rU ?_
  | with_reducible refine rd_fld ?_
  | with_reducible refine rd_eqI ?_
  | with_reducible refine rd_neI ?_
  | with_reducible refine rd_mko ?_
  | with_reducible refine rd_bm ?_
  | with_reducible refine rd_gsub ?_
  | with_reducible refine rd_i0 ?_)))
theorem ok_law_web_of (T : Tx K mg) (B : Bk K mg T) : FnOk P w K mg base (L2.CX P w) 9 B.law_web_of.f B.law_web_of.fd ["plan"] (spWebOf T.c_Web T.c_BadWeb) := by
  have G_Web_init := ok_Web_init (P := P) (w := w) (base := base) T B
  refine B.law_web_of.F.okX sc_law_web_of (fun vs H Q E h => ?_) (fun cdv A outer s H vs Q E hr h => ?_)
  · obtain ⟨p, v, s, t, sp, mo, rfl, _⟩ := h
    rfl
  · obtain ⟨p, v, s, t, sp, mo, rfl, hv, ⟨u, hp⟩, q1, q0⟩ := h
    refine ⟨_, (pss_one (ps_ret (pe_make (mk_of_dm T B.Web_init) G_Web_init (hr.mono (by decide)) rfl T.g_Web B.Web_init.b .nil (passes_call (takes_of rfl rfl rfl rfl) (fun _ _ _ _ h => h)) (pa_cons (pe_ix ix_tup (pv 0) pe_int (fun _ _ => rfl)) (pa_cons (pe_ix ix_tup (pv 0) pe_int (fun _ _ => rfl)) (pa_cons (pe_ix ix_tup (pv 0) pe_int (fun _ _ => rfl)) (pa_cons (pe_ix ix_tup (pv 0) pe_int (fun _ _ => rfl)) pa_nil))))))), ?_⟩
    obtain ⟨a, xs, rfl, ha, hx⟩ := tp_tup' hv
    obtain ⟨v1, v2, v3, v4, rfl, t1, t2, t3, t4⟩ := tpAll4 hx
    walk_at "rd"
    refine rd_make ?_
    walk_at "rd"
    refine rd_ixT ha.2 rfl ?_
    walk_at "rd"
    refine rd_ixT ha.2 rfl ?_
    walk_at "rd"
    refine rd_ixT ha.2 rfl ?_
    walk_at "rd"
    refine rd_ixT ha.2 rfl ?_
    walk_at "rd"
    intro x dx nx ndx ne
    have s3 : Same H (upd (upd H dx (.own x)) x (.ins T.c_Web dx [])) := (same_new (o := .own x) ndx).trans (same_new (o := .ins T.c_Web dx []) (by rw [upd_ne ne.symm]; exact nx))
    have k3 : Keep p H (upd (upd H dx (.own x)) x (.ins T.c_Web dx [])) := Keep.same s3
    have npx : x ≠ p := (ne_of_none hp nx).symm
    refine ⟨p, x, dx, v1, v2, v3, v4, s, t, sp, mo, rfl, upd_same, Tp.keep k3 _ _ t1, Tp.keep k3 _ _ t2, Tp.keep k3 _ _ t3, Tp.keep k3 _ _ t4, fun hn H2 dx' v5 v6 hx2 k2 hwy => ⟨rfl, ?_⟩, fun part hb => Raised.mono s3 (q0 part hb)⟩
    have s4 : Same H H2 := fun b o e => k2 b o (ne_of_none e nx) (s3 b o e)
    obtain ⟨m, L, a, b, rfl, rfl, rfl, rfl, hR, _⟩ := webBad_none hn
    cases tp_int' t1
    cases tp_int' t3
    cases tp_int' t4
    have hwy2 : Ways H2 v5 v6 m L (fun b => b ≠ p) := (hwy m L rfl rfl).mono fun b hb z => by
      rw [z, s3 _ _ hp] at hb
      cases hb
    exact q1 m L a b rfl rfl rfl rfl hR x H2 ⟨dx', v2, v5, v6, ⟨npx, hx2⟩, Tp.keep (Keep.same s4) _ _ t2, hwy2, fun q hq => (hR.parts.2.2.1 q hq).2.1⟩ nx s4
theorem ok_law_near (T : Tx K mg) (B : Bk K mg T) : FnOk P w K mg base CX0 1 B.law_near.f B.law_near.fd ["plan", "house"] (spNear T.c_Web) := by
  refine B.law_near.F.ok sc_law_near (fun vs H Q E h => ?_) (fun cdv A outer s H vs Q E hr h => ?_)
  · obtain ⟨p, v, m, L, sp, mo, h, rfl, _⟩ := h
    rfl
  · obtain ⟨p, v, m, L, sp, mo, h, rfl, hv, hL, q⟩ := h
    refine ⟨_, (pss_cons (ps_set (i := 2) sc_law_near.nd rfl (Or.inl rfl) (pe_op op_cat (pe_lc (own := [("tie", 3)]) (g := gName 3) rfl sc_law_near.nd (pi_tup (pe_ix ix_tup (pv 0) pe_int (fun _ _ => rfl))) (blkOk_by (own := [("tie", 3)]) (N := ["plan", "house", "found", "tie"]) (sc := defScope s_law_near) (by decide +kernel)) (fun _ _ _ _ _ => pg_name (i := 3) sc_law_near.nd rfl (Or.inl rfl)) (fun _ _ _ _ _ => (pts_one (pt_cmpR op_eq (pe_ix (r := rIxT K) ix_tup (pv 3) pe_int (fun _ _ => rfl)) (pv 1) (nomark _)))) (fun _ _ _ _ _ => (pe_ix (r := rIxT K) ix_tup (pv 3) pe_int (fun _ _ => rfl)))) (pe_lc (own := [("tie", 3)]) (g := gName 3) rfl sc_law_near.nd (pi_tup (pe_ix ix_tup (pv 0) pe_int (fun _ _ => rfl))) (blkOk_by (own := [("tie", 3)]) (N := ["plan", "house", "found", "tie"]) (sc := defScope s_law_near) (by decide +kernel)) (fun _ _ _ _ _ => pg_name (i := 3) sc_law_near.nd rfl (Or.inl rfl)) (fun _ _ _ _ _ => (pts_one (pt_cmpR op_eq (pe_ix (r := rIxT K) ix_tup (pv 3) pe_int (fun _ _ => rfl)) (pv 1) (nomark _)))) (fun _ _ _ _ _ => (pe_ix (r := rIxT K) ix_tup (pv 3) pe_int (fun _ _ => rfl))))))
      (pss_one (ps_ret (pe_callB cr_sortedI (by rfl) T.b_sorted (by decide +kernel) (pa_cons (pv 2) pa_nil))))), ?_⟩
    obtain ⟨a, xs, rfl, ha, hx⟩ := tp_tup' hv
    obtain ⟨v1, v2, v3, v4, rfl, t1, t2, t3, t4⟩ := tpAll4 hx
    obtain ⟨c, xs, rfl, hc, hx⟩ := tp_tup' t2
    have hlen : xs.length = L.length := by
      have := hx.len
      simpa using this.symm
    walk_at "rd"
    refine ⟨_, rfl, a, _, 1, _, rfl, rfl, SqT.of ha.2, rfl, c, rfl, ⟨xs, SqT.of hc.2⟩, fun D1 hD1 => lc_tup (K := K) (a := c) (xs := xs)
      (fun i H1 => Same H H1 ∧ H1 D1 = some (.lst ((aboveOf (L.take i) h).map V.int))) ⟨same_new hD1, upd_same⟩ (fun i H1 _ hh => SqT.of (hh.1 _ _ hc.2)) ?_ ?_⟩
    · rintro i y H1 hi ⟨hs, hacc⟩
      obtain ⟨q, ci, hq, rfl, hci⟩ := ties_get hx hi
      have hci1 := hs _ _ hci.2
      walk_at "rd"
      refine ⟨rfl, ?_⟩
      walk_at "rd"
      refine rd_ixT hci1 rfl ?_
      walk_at "rd"
      refine rd_ite (fun h2 => ?_) (fun h2 => ?_)
      · walk_at "rd"
        refine rd_ixT hci1 rfl ?_
        refine ⟨_, hacc, ?_, ?_, ?_⟩
        · refine Nat.lt_of_le_of_lt (?_ : _ ≤ 100) (by decide)
          rw [List.length_map, aboveOf, List.length_map]
          exact Nat.le_trans (List.length_filter_le _ _) (Nat.le_trans (List.length_take_le' _ _) hL)
        · intro b o e
          rw [upd_ne (ne_of_none e hD1)]
          exact hs b o e
        · rw [upd_same, take_snoc hq]
          simp only [aboveOf, List.filter_append, List.map_append]
          rw [List.filter_cons_of_pos (by simpa using h2)]
          rfl
      · refine ⟨hs, ?_⟩
        rw [hacc, take_snoc hq]
        simp only [aboveOf, List.filter_append, List.map_append]
        rw [List.filter_cons_of_neg (by simpa using h2)]
        simp
    · rintro H1 ⟨hs1, hab⟩
      rw [hlen, List.take_length] at hab
      walk_at "rd"
      refine ⟨_, rfl, a, _, 1, _, rfl, rfl, SqT.of (hs1 _ _ ha.2), rfl, c, rfl, ⟨xs, SqT.of (hs1 _ _ hc.2)⟩, fun D2 hD2 => lc_tup (K := K) (a := c) (xs := xs)
        (fun i H2 => Same H1 H2 ∧ H2 D2 = some (.lst ((belowOf (L.take i) h).map V.int))) ⟨same_new hD2, upd_same⟩ (fun i H2 _ hh => SqT.of (hh.1 _ _ (hs1 _ _ hc.2))) ?_ ?_⟩
      · rintro i y H2 hi ⟨hs, hacc⟩
        obtain ⟨q, ci, hq, rfl, hci⟩ := ties_get hx hi
        have hci1 := hs _ _ (hs1 _ _ hci.2)
        walk_at "rd"
        refine ⟨rfl, ?_⟩
        walk_at "rd"
        refine rd_ixT hci1 rfl ?_
        walk_at "rd"
        refine rd_ite (fun h2 => ?_) (fun h2 => ?_)
        · walk_at "rd"
          refine rd_ixT hci1 rfl ?_
          refine ⟨_, hacc, ?_, ?_, ?_⟩
          · refine Nat.lt_of_le_of_lt (?_ : _ ≤ 100) (by decide)
            rw [List.length_map, belowOf, List.length_map]
            exact Nat.le_trans (List.length_filter_le _ _) (Nat.le_trans (List.length_take_le' _ _) hL)
          · intro b o e
            rw [upd_ne (ne_of_none e hD2)]
            exact hs b o e
          · rw [upd_same, take_snoc hq]
            simp only [belowOf, List.filter_append, List.map_append]
            rw [List.filter_cons_of_pos (by simpa using h2)]
            rfl
        · refine ⟨hs, ?_⟩
          rw [hacc, take_snoc hq]
          simp only [belowOf, List.filter_append, List.map_append]
          rw [List.filter_cons_of_neg (by simpa using h2)]
          simp
      · rintro H2 ⟨hs2, hbe⟩
        rw [hlen, List.take_length] at hbe
        walk_at "rd"
        refine ⟨D1, D2, _, _, rfl, rfl, hs2 _ _ hab, hbe, ?_, fun p1 hp1 => ?_⟩
        · refine Nat.le_trans (?_ : _ ≤ 200) (by decide)
          have l1 : (aboveOf L h).length ≤ 100 := by
            rw [aboveOf, List.length_map]
            exact Nat.le_trans (List.length_filter_le _ _) hL
          have l2 : (belowOf L h).length ≤ 100 := by
            rw [belowOf, List.length_map]
            exact Nat.le_trans (List.length_filter_le _ _) hL
          simp only [List.length_map]
          omega
        · walk_at "rd"
          refine ⟨p1, aboveOf L h ++ belowOf L h, rfl, SqL.of (by rw [upd_same, List.map_append]), fun ns p2 hperm hpw hp2 => ?_⟩
          have s1 : Same H2 (upd H2 p1 (.lst ((aboveOf L h).map V.int ++ (belowOf L h).map V.int))) := same_new hp1
          have s2 := s1.trans (same_new (o := .lst (ns.map V.int)) hp2)
          exact q p2 ns _ ((hs1.trans (hs2.trans s1)).free hp2) ((hs1.trans hs2).trans s2) upd_same hperm hpw
end
end Mw

/-! M15 -/
namespace Mw
open PySem L2
def atP (i j : Int) (q : Tie) : Bool := q.1 == (if j < i then j else i) && q.2.1 == (if j > i then j else i)
def spAt (C : Addr) : Sp := fun vs H Q _ => ∃ p v m L sp mo i j, vs = [v, .int i, .int j] ∧ Tp C p H (planD m L sp mo) v ∧ L.length ≤ 100 ∧ ∀ H', Same H H' →
  (∀ (k : Nat) q, L[k]? = some q → atP i j q = true → (∀ (k' : Nat) r, k' < k → L[k']? = some r → atP i j r = false) → Q (.int (k : Nat)) H') ∧ ((∀ (k : Nat) r, L[k]? = some r → atP i j r = false) → Q .non H')
def spAtLets (C : Addr) : Sp := fun vs H Q _ => ∃ p v m L sp mo i j q, vs = [v, .int i, .int j] ∧ Tp C p H (planD m L sp mo) v ∧ L.length ≤ 100 ∧ L.find? (atP i j) = some q ∧ ∀ H', Same H H' → Q (.int (if i > j then q.2.2.2 else q.2.2.1)) H'
def spBad (C : Addr) : Sp := fun vs H Q _ => ∃ p s t sp mo v1 v2 v3 v4, vs = [v1, v2, v3, v4] ∧ Tp C p H s v1 ∧ Tp C p H t v2 ∧ Tp C p H sp v3 ∧ Tp C p H mo v4 ∧ (∀ ds, t = .tuple ds → ds.length ≤ 1000) ∧ ∀ H', Same H H' → Q ((webBad s t sp mo).getD .non) H'
section
variable {P : Program} {w : World} {K : PySem.W.Frag} {mg : Str → Option Value} {base : Heap}
local macro_rules | `(tactic| walk_at "rd") => `(tactic| (repeat (first
  | ((with_reducible refine' rd_var ?h0 ?_); (case h0 => rfl))
  | with_reducible refine rd_c ?_
  | with_reducible refine rd_op ?_
  | with_reducible refine rd_nil ?_
  | with_reducible refine rd_cons ?_
  | with_reducible refine rd_tup ?_
  | with_reducible refine rd_lst ?_
  | with_reducible refine rd_ifs ?_
  | with_reducible refine rd_seq ?_
  | with_reducible refine rd_next ?_
  | with_reducible refine rd_ret ?_
  | with_reducible refine rd_asg ?_
  | with_reducible refine rd_gname ?_
  | with_reducible refine rd_drop ?_
  | with_reducible refine rd_test ?_
  | with_reducible refine rd_B ?_
  | with_reducible refine rd_bl ?_
  | with_reducible refine rd_blP ?_
  | with_reducible refine rd_andV ?_
  | with_reducible refine rd_orV ?_
  | with_reducible refine rd_notV ?_
  | with_reducible refine rd_and ?_
  | with_reducible refine rd_or ?_
  | with_reducible refine rd_not ?_
  | with_reducible refine rd_cb ?_
  | with_reducible refine rd_call ?_
  | with_reducible refine rd_un ?_
  | with_reducible refine rd_sl ?_
  | with_reducible refine rd_nopart ?_
  | with_reducible refine rd_part ?_
  | with_reducible refine rd_intP ?_
  | with_reducible refine rd_rU ?_
  | with_reducible refine rd_fld ?_
  | with_reducible refine rd_eqI ?_
  | with_reducible refine rd_neI ?_
  | with_reducible refine rd_mko ?_
  | with_reducible refine rd_bm ?_
  | with_reducible refine rd_gsub ?_
  | with_reducible refine rd_i0 ?_)))
theorem ok_law_at (T : Tx K mg) (B : Bk K mg T) : FnOk P w K mg base CX0 1 B.law_at.f B.law_at.fd ["plan", "one", "other"] (spAt T.c_Web) := by
  refine B.law_at.F.ok sc_law_at (fun vs H Q E h => ?_) (fun cdv A outer s H vs Q E hr h => ?_)
  · obtain ⟨p, v, m, L, sp, mo, i, j, rfl, _⟩ := h
    rfl
  · obtain ⟨p, v, m, L, sp, mo, i, j, rfl, hv, hL, q⟩ := h
    refine ⟨_, (pss_cons (ps_for PassesOwn.never rfl (pi_range1 (by rfl) T.b_range (pa_cons (pe_callB call_len_seq (by rfl) T.b_len (by decide +kernel) (pa_cons (pe_ix ix_tup (pv 0) pe_int (fun _ _ => rfl)) pa_nil)) pa_nil)) (pg_name (i := 3) sc_law_at.nd rfl (Or.inl rfl)) (pss_one (ps_if (pt_cmpR (op_eqD hr.units) (pe_slice sl_tupA (pe_ix ix_tup (pe_ix ix_tup (pv 0) pe_int (fun _ _ => rfl)) (pv 3) (fun _ _ => rfl)) po_none (po_some pe_int)) (pe_tup (pa_cons (pe_callB (call_min2 rfl) (by rfl) T.b_min (by decide +kernel) (pa_cons (pv 1) (pa_cons (pv 2) pa_nil))) (pa_cons (pe_callB (call_max2 rfl) (by rfl) T.b_max (by decide +kernel) (pa_cons (pv 1) (pa_cons (pv 2) pa_nil))) pa_nil))) (nomark _)) (pss_one (ps_ret (pv 3))) pss_nil)))
      (pss_one (ps_ret pe_non))), ?_⟩
    obtain ⟨a, xs, rfl, ha, hx⟩ := tp_tup' hv
    obtain ⟨v1, v2, v3, v4, rfl, t1, t2, t3, t4⟩ := tpAll4 hx
    obtain ⟨c, xs, rfl, hc, hx⟩ := tp_tup' t2
    have hlen : xs.length = L.length := by
      have := hx.len
      simpa using this.symm
    walk_at "rd"
    show iRng1 _ _ _ _
    refine rd_rng1 ?_
    walk_at "rd"
    refine rd_ixT ha.2 rfl ?_
    refine ⟨c, xs, rfl, .inr (SqT.of hc.2), ?_⟩
    walk_at "rd"
    refine ⟨_, rfl, by omega, by omega, for_range (lo := 0) (n := ((xs.length : Nat) : Int).toNat) (fun n σ H1 => Same H H1 ∧ (∀ (k : Nat) r, k < n → L[k]? = some r → atP i j r = false) ∧ ∃ u, σ = [some (.ref a), some (.int i), some (.int j), u])
      ⟨Same.refl H, fun k r hk => absurd hk (Nat.not_lt_zero k), _, rfl⟩ ?_ ?_⟩
    · rintro n σ H1 hn ⟨hs, hf, u, rfl⟩
      have hn2 : n < xs.length := by simpa using hn
      have hy : xs[n]? = some xs[n] := by simp [hn2]
      obtain ⟨q1, ci, hq, e, hci⟩ := ties_get hx hy
      have hci1 := hs _ _ hci.2
      walk_at "rd"
      refine rd_ixT (hs _ _ ha.2) rfl ?_
      walk_at "rd"
      refine rd_ixT (hs _ _ hc.2) (at_of (j := n) (by omega) hy) ?_
      rw [e]
      walk_at "rd"
      refine rd_sl2 (SqT.of hci1) fun p1 hp1 => ?_
      walk_at "rd"
      refine ⟨i, j, rfl, ?_⟩
      walk_at "rd"
      refine ⟨i, j, rfl, ?_⟩
      walk_at "rd"
      refine rd_disp rfl fun p2 hp2 => ?_
      have n12 : p1 ≠ p2 := ne_of_none upd_same hp2
      refine rd_eq2 ((upd_ne n12).trans upd_same) upd_same ?_
      have s2 := (hs.trans (same_new (o := .tup [.int q1.1, .int q1.2.1]) hp1)).trans (same_new (o := .tup [.int (if j < i then j else i), .int (if j > i then j else i)]) hp2)
      walk_at "rd"
      refine rd_ite (fun h3 => ?_) (fun h3 => ?_)
      · walk_at "rd"
        have z := (q _ s2).1 n q1 hq h3 hf
        rw [show (0 : Int) + (n : Int) = (n : Int) by omega]
        exact z
      · refine ⟨s2, fun k r hk hr => ?_, _, rfl⟩
        rcases Nat.lt_succ_iff_lt_or_eq.mp hk with z | z
        · exact hf k r z hr
        · rw [z, hq] at hr
          cases hr
          exact h3
    · rintro σ H1 ⟨hs, hf, u, rfl⟩
      walk_at "rd"
      refine (q _ hs).2 fun k r hr => hf k r ?_ hr
      have := (List.getElem?_eq_some_iff.mp hr).1
      simp
      omega
theorem ok_law_lets (T : Tx K mg) (B : Bk K mg T) : FnOk P w K mg base CX0 2 B.law_lets.f B.law_lets.fd ["plan", "one", "other"] (spAtLets T.c_Web) := by
  have G_law_at := ok_law_at (P := P) (w := w) (base := base) T B
  refine B.law_lets.F.ok sc_law_lets (fun vs H Q E h => ?_) (fun cdv A outer s H vs Q E hr h => ?_)
  · obtain ⟨p, v, m, L, sp, mo, i, j, q1, rfl, _⟩ := h
    rfl
  · obtain ⟨p, v, m, L, sp, mo, i, j, q1, rfl, hv, hL, hf, q⟩ := h
    refine ⟨_, (pss_cons (ps_set (i := 3) sc_law_lets.nd rfl (Or.inl rfl) (pe_ix ix_tup (pe_ix ix_tup (pv 0) pe_int (fun _ _ => rfl)) (pe_call G_law_at (hr.mono (by decide)) rfl B.law_at.m B.law_at.F.kp B.law_at.b .nil pass0 (pa_cons (pv 0) (pa_cons (pv 1) (pa_cons (pv 2) pa_nil)))) (fun _ _ => rfl)))
      (pss_one (ps_ret (pe_ix ix_tup (pv 3) (pe_op op_add pe_int (pe_callTy call_int1 (by rfl) T.b_int (by decide +kernel) (pa_cons (pe_cmpR op_gt (pv 1) (pv 2) (nomark _)) pa_nil))) (fun _ _ => rfl))))), ?_⟩
    obtain ⟨a, xs, rfl, ha, hx⟩ := tp_tup' (id hv)
    obtain ⟨v1, v2, v3, v4, rfl, t1, t2, t3, t4⟩ := tpAll4 hx
    obtain ⟨c, xs, rfl, hc, hx⟩ := tp_tup' t2
    walk_at "rd"
    refine rd_ixT ha.2 rfl ?_
    walk_at "rd"
    refine ⟨p, _, m, L, sp, mo, i, j, rfl, hv, hL, fun H1 hs => ⟨fun k q2 hk hp hbef => ?_, fun hno => ?_⟩⟩
    · have eq : q2 = q1 := by
        have z := find_first hk hp fun k' r hk' hr => hbef k' r hk' hr
        rw [hf] at z
        exact (Option.some.inj z).symm
      subst eq
      obtain ⟨x, hx2, _⟩ := hx.get (show (L.map tieD)[k]? = some (tieD q2) by rw [List.getElem?_map, hk]; rfl)
      obtain ⟨q3, ci, hq3, rfl, hci⟩ := ties_get hx hx2
      rw [hk] at hq3
      cases hq3
      refine rd_ixT (hs _ _ hc.2) (atI_nat hx2) ?_
      walk_at "rd"
      refine .inr ⟨_, rfl, ?_⟩
      walk_at "rd"
      by_cases hij : j < i
      · refine rd_ixT (v := .int q2.2.2.2) (hs _ _ hci.2) (by simp [hij]; rfl) ?_
        have z := q _ hs
        rw [if_pos hij] at z
        exact z
      · refine rd_ixT (v := .int q2.2.2.1) (hs _ _ hci.2) (by simp [hij]; rfl) ?_
        have z := q _ hs
        rw [if_neg hij] at z
        exact z
    · exfalso
      obtain ⟨k, hk⟩ := List.mem_iff_getElem?.mp (List.mem_of_find?_eq_some hf)
      have z := List.find?_some hf
      rw [hno k q1 hk] at z
      cases z
end
theorem inI_nb {m : Int} {d : PyData} : inI 0 (m - 1) d = isNb m d := by
  cases d with
  | int i =>
    show (decide (0 ≤ i) && decide (i ≤ m - 1)) = (decide (0 ≤ i) && decide (i < m))
    rw [show decide (i ≤ m - 1) = decide (i < m) from decide_eq_decide.mpr (by omega)]
  | _ => rfl
end Mw

/-! M17 -/
namespace Mw
open PySem L2
theorem plainAll_get : ∀ {ds : List PyData} {i : Nat} {d : PyData}, plainAll ds = true → ds[i]? = some d → plainD d = true
  | [], i, d, _, e => by simp at e
  | c :: ds, 0, d, h, e => by
    simp only [plainAll, Bool.and_eq_true] at h
    cases e
    exact h.1
  | c :: ds, i + 1, d, h, e => by
    simp only [plainAll, Bool.and_eq_true] at h
    exact plainAll_get h.2 (by simpa using e)
theorem depthAll_get : ∀ {ds : List PyData} {i : Nat} {d : PyData}, ds[i]? = some d → d.depth ≤ PyData.depthAll ds
  | [], i, d, e => by simp at e
  | c :: ds, 0, d, e => by
    cases e
    exact Nat.le_max_left _ _
  | c :: ds, i + 1, d, e => Nat.le_trans (depthAll_get (by simpa using e)) (Nat.le_max_right _ _)
def spSame (C : Addr) (n : Nat) : Sp := fun vs H Q _ => ∃ p d v1 v2, vs = [v1, v2] ∧ plainD d = true ∧ d.depth < n ∧ Tp C p H d v1 ∧ Tp C p H d v2 ∧ ∀ H', Same H H' → Q (.bl true) H'
section
variable {P : Program} {w : World} {K : PySem.W.Frag} {mg : Str → Option Value} {base : Heap}
local macro_rules | `(tactic| walk_at "rd") => `(tactic| (repeat (first
  | ((with_reducible refine' rd_var ?h0 ?_); (case h0 => rfl))
  | with_reducible refine rd_c ?_
  | with_reducible refine rd_op ?_
  | with_reducible refine rd_nil ?_
  | with_reducible refine rd_cons ?_
  | with_reducible refine rd_tup ?_
  | with_reducible refine rd_lst ?_
  | with_reducible refine rd_ifs ?_
  | with_reducible refine rd_seq ?_
  | with_reducible refine rd_next ?_
  | with_reducible refine rd_ret ?_
  | with_reducible refine rd_asg ?_
  | with_reducible refine rd_gname ?_
  | with_reducible refine rd_drop ?_
  | with_reducible refine rd_test ?_
  | with_reducible refine rd_B ?_
  | with_reducible refine rd_bl ?_
  | with_reducible refine rd_blP ?_
  | with_reducible refine rd_andV ?_
  | with_reducible refine rd_orV ?_
  | with_reducible refine rd_notV ?_
  | with_reducible refine rd_and ?_
  | with_reducible refine rd_or ?_
  | with_reducible refine rd_not ?_
  | with_reducible refine rd_cb ?_
  | with_reducible refine rd_call ?_
  | with_reducible refine rd_un ?_
  | with_reducible refine rd_sl ?_
  | with_reducible refine rd_nopart ?_
  | with_reducible refine rd_part ?_
  | with_reducible refine rd_intP ?_
  | with_reducible refine rd_rU ?_
  | with_reducible refine rd_fld ?_
  | with_reducible refine rd_eqI ?_
  | with_reducible refine rd_neI ?_
  | with_reducible refine rd_mko ?_
  | with_reducible refine rd_bm ?_
  | with_reducible refine rd_gsub ?_
  | with_reducible refine rd_i0 ?_)))
theorem same_step (T : Tx K mg) (B : Bk K mg T) {n k : Nat} (hk : 1 ≤ k) (G_law_same : FnOk P w K mg base CX0 k B.law_same.f B.law_same.fd ["actual", "due"] (spSame T.c_Web n)) :
    FnOk P w K mg base CX0 (k + 1) B.law_same.f B.law_same.fd ["actual", "due"] (spSame T.c_Web (n + 1)) := by
  have G_law_is_integer := ok_law_is_integer (P := P) (w := w) (base := base) T B
  refine B.law_same.F.ok sc_law_same (fun vs H Q E h => ?_) (fun cdv A outer s H vs Q E hr h => ?_)
  · obtain ⟨p, d, v1, v2, rfl, _⟩ := h
    rfl
  · obtain ⟨p, d, v1, v2, rfl, hp, hdep, t1, t2, q⟩ := h
    refine ⟨_, (pss_cons (ps_if (pt_cmpR op_isN (pv 1) pe_non (nomark _)) (pss_one (ps_ret (pe_cmpR op_isN (pv 0) pe_non (nomark _)))) pss_nil)
      (pss_cons (ps_if (pt_cmpR (is_flag (b := true)) (pv 1) pe_bl (nomark _)) (pss_one (ps_ret (pe_cmpR (is_flag (b := true)) (pv 0) pe_bl (nomark _)))) pss_nil)
      (pss_cons (ps_if (pt_cmpR (is_flag (b := false)) (pv 1) pe_bl (nomark _)) (pss_one (ps_ret (pe_cmpR (is_flag (b := false)) (pv 0) pe_bl (nomark _)))) pss_nil)
      (pss_cons (ps_if (pt_val (pe_callB call_isi (by rfl) T.b_isinstance (by decide +kernel) (pa_cons (pv 1) (pa_cons (pe_bltn (v := .ty "int") (by rfl) T.b_int (by decide +kernel) rfl) pa_nil)))) (pss_one (ps_ret (pe_and (pe_call G_law_is_integer (hr.mono (by omega)) rfl B.law_is_integer.m B.law_is_integer.F.kp B.law_is_integer.b .nil pass0 (pa_cons (pv 0) pa_nil)) (pe_one (pe_cmpR op_eq (pv 0) (pv 1) (nomark _)))))) pss_nil)
      (pss_cons (ps_if (pt_val (pe_callB call_isi (by rfl) T.b_isinstance (by decide +kernel) (pa_cons (pv 1) (pa_cons (pe_bltn (v := .ty "str") (by rfl) T.b_str (by decide +kernel) rfl) pa_nil)))) (pss_one (ps_ret (pe_and (pe_callB call_isi (by rfl) T.b_isinstance (by decide +kernel) (pa_cons (pv 0) (pa_cons (pe_bltn (v := .ty "str") (by rfl) T.b_str (by decide +kernel) rfl) pa_nil))) (pe_one (pe_cmpR op_eq (pv 0) (pv 1) (nomark _)))))) pss_nil)
      (pss_cons (ps_if (PW.pt (pw_or (pt_cmpR op_ne (pe_callB call_isi (by rfl) T.b_isinstance (by decide +kernel) (pa_cons (pv 1) (pa_cons (pe_bltn (v := .ty "tuple") (by rfl) T.b_tuple (by decide +kernel) rfl) pa_nil))) (pe_callB call_isi (by rfl) T.b_isinstance (by decide +kernel) (pa_cons (pv 0) (pa_cons (pe_bltn (v := .ty "tuple") (by rfl) T.b_tuple (by decide +kernel) rfl) pa_nil))) (nomark _)) (pw_or1 (pt_cmpR op_ne (pe_callB call_isi (by rfl) T.b_isinstance (by decide +kernel) (pa_cons (pv 1) (pa_cons (pe_bltn (v := .ty "list") (by rfl) T.b_list (by decide +kernel) rfl) pa_nil))) (pe_callB call_isi (by rfl) T.b_isinstance (by decide +kernel) (pa_cons (pv 0) (pa_cons (pe_bltn (v := .ty "list") (by rfl) T.b_list (by decide +kernel) rfl) pa_nil))) (nomark _))))) (pss_one (ps_ret pe_bl)) pss_nil)
      (pss_cons (ps_if (pt_cmpR op_ne (pe_callB call_len_seq (by rfl) T.b_len (by decide +kernel) (pa_cons (pv 0) pa_nil)) (pe_callB call_len_seq (by rfl) T.b_len (by decide +kernel) (pa_cons (pv 1) pa_nil)) (nomark _)) (pss_one (ps_ret pe_bl)) pss_nil)
      (pss_cons (ps_for PassesOwn.never rfl (RZ.pi_zipA (by rfl) T.b_zip (pa_cons (pv 0) (pa_cons (pv 1) pa_nil))) (pg_tup (by rfl) (pgs_cons (pg_name (i := 2) sc_law_same.nd rfl (Or.inl rfl)) (pgs_cons (pg_name (i := 3) sc_law_same.nd rfl (Or.inl rfl)) pgs_nil))) (pss_one (ps_if (pt_not (pt_val (pe_call G_law_same (hr.mono (by omega)) rfl B.law_same.m B.law_same.F.kp B.law_same.b .nil pass0 (pa_cons (pv 2) (pa_cons (pv 3) pa_nil))))) (pss_one (ps_ret pe_bl)) pss_nil)))
      (pss_one (ps_ret pe_bl)))))))))), ?_⟩
    have q0 := q H (Same.refl H)
    cases d with
    | none =>
      simp only [Tp] at t1 t2
      subst t1 t2
      walk_at "rd"
      refine ⟨rfl, ?_⟩
      walk_at "rd"
      refine rd_yes rfl ?_
      walk_at "rd"
      exact ⟨rfl, q0⟩
    | bool b =>
      simp only [Tp] at t1 t2
      subst t1 t2
      walk_at "rd"
      refine ⟨rfl, ?_⟩
      walk_at "rd"
      refine rd_no rfl ?_
      walk_at "rd"
      refine ⟨rfl, ?_⟩
      walk_at "rd"
      cases b with
      | true =>
        refine rd_yes rfl ?_
        walk_at "rd"
        exact ⟨rfl, q0⟩
      | false =>
        refine rd_no rfl ?_
        walk_at "rd"
        refine ⟨rfl, ?_⟩
        walk_at "rd"
        refine rd_yes rfl ?_
        walk_at "rd"
        exact ⟨rfl, q0⟩
    | int i =>
      have t1' := t1
      have t2' := t2
      simp only [Tp] at t1' t2'
      subst t1' t2'
      walk_at "rd"
      refine ⟨rfl, ?_⟩
      walk_at "rd"
      refine rd_no rfl ?_
      walk_at "rd"
      refine ⟨rfl, ?_⟩
      walk_at "rd"
      refine rd_no rfl ?_
      walk_at "rd"
      refine ⟨rfl, ?_⟩
      walk_at "rd"
      refine rd_no rfl ?_
      walk_at "rd"
      refine tp_isI T.W t2 ?_
      walk_at "rd"
      refine rd_yes rfl ?_
      walk_at "rd"
      refine ⟨p, _, _, rfl, t1, ?_⟩
      walk_at "rd"
      refine rd_yes rfl ?_
      walk_at "rd"
      simpa using q0
    | str i =>
      have t1' := t1
      have t2' := t2
      simp only [Tp] at t1' t2'
      subst t1' t2'
      walk_at "rd"
      refine ⟨rfl, ?_⟩
      walk_at "rd"
      refine rd_no rfl ?_
      walk_at "rd"
      refine ⟨rfl, ?_⟩
      walk_at "rd"
      refine rd_no rfl ?_
      walk_at "rd"
      refine ⟨rfl, ?_⟩
      walk_at "rd"
      refine rd_no rfl ?_
      walk_at "rd"
      refine tp_isI T.W t2 ?_
      walk_at "rd"
      refine rd_no rfl ?_
      walk_at "rd"
      refine tp_isS T.W t2 ?_
      walk_at "rd"
      refine rd_yes rfl ?_
      walk_at "rd"
      refine tp_isS T.W t1 ?_
      walk_at "rd"
      refine rd_yes rfl ?_
      walk_at "rd"
      refine rd_eq rfl ?_
      simpa using q0
    | tuple ds =>
      obtain ⟨a1, xs1, rfl, ha1, hx1⟩ := tp_tup' (id t1)
      obtain ⟨a2, xs2, rfl, ha2, hx2⟩ := tp_tup' (id t2)
      have hl1 := hx1.len
      have hl2 := hx2.len
      walk_at "rd"
      refine ⟨rfl, ?_⟩
      walk_at "rd"
      refine rd_no rfl ?_
      walk_at "rd"
      refine ⟨rfl, ?_⟩
      walk_at "rd"
      refine rd_no rfl ?_
      walk_at "rd"
      refine ⟨rfl, ?_⟩
      walk_at "rd"
      refine rd_no rfl ?_
      walk_at "rd"
      refine tp_isI T.W t2 ?_
      walk_at "rd"
      refine rd_no rfl ?_
      walk_at "rd"
      refine tp_isS T.W t2 ?_
      walk_at "rd"
      refine rd_no rfl ?_
      walk_at "rd"
      refine tp_isT T.W t2 ?_
      walk_at "rd"
      refine tp_isT T.W t1 ?_
      refine rd_ne rfl ?_
      walk_at "rd"
      refine rd_no rfl ?_
      walk_at "rd"
      refine tp_isL T.W t2 ?_
      walk_at "rd"
      refine tp_isL T.W t1 ?_
      refine rd_ne rfl ?_
      walk_at "rd"
      refine rd_no rfl ?_
      walk_at "rd"
      refine ⟨a1, xs1, rfl, .inr (SqT.of ha1.2), ?_⟩
      walk_at "rd"
      refine ⟨a2, xs2, rfl, .inr (SqT.of ha2.2), ?_⟩
      walk_at "rd"
      refine rd_no (by simp; omega) ?_
      walk_at "rd"
      refine ⟨_, rfl, _, rfl, a1, a2, xs1, xs2, rfl, .inr ⟨SqT.of ha1.2, SqT.of ha2.2, RZ.for_zipT (K := K) (by omega) (fun i σ H1 => Same H H1 ∧ ∃ u1 u2, σ = [some (.ref a1), some (.ref a2), u1, u2]) ⟨Same.refl H, _, _, rfl⟩
        (fun i σ H1 hh => ⟨SqT.of (hh.1 _ _ ha1.2), SqT.of (hh.1 _ _ ha2.2)⟩) ?_ ?_⟩⟩
      · rintro i x y U σ H1 hx hy ⟨hs, u1, u2, rfl⟩ hU
        obtain ⟨d1, e1, f1⟩ := hx1.get' hx
        obtain ⟨d2, e2, f2⟩ := hx2.get' hy
        rw [e1] at e2
        cases e2
        have s1 := hs.trans (same_new (o := .tup [x, y]) hU)
        refine ⟨U, _, rfl, SqT.of upd_same, rfl, _, _, rfl, _, _, rfl, rfl, ?_⟩
        walk_at "rd"
        have hpd : plainD d1 = true := plainAll_get (by simpa only [plainD] using hp) e1
        have hdd : d1.depth < n := by
          have z := depthAll_get e1
          have e : PyData.depth (.tuple ds) = PyData.depthAll ds + 1 := rfl
          omega
        refine ⟨p, d1, x, y, rfl, hpd, hdd, Tp.keep (Keep.same s1) _ _ f1, Tp.keep (Keep.same s1) _ _ f2, fun H2 s2 => ?_⟩
        walk_at "rd"
        refine rd_no rfl ?_
        exact ⟨s1.trans s2, _, _, rfl⟩
      · rintro σ H1 ⟨hs, u1, u2, rfl⟩
        walk_at "rd"
        exact q _ hs
    | list ds => simp only [plainD] at hp; cases hp
    | dict ds => simp only [plainD] at hp; cases hp
theorem ok_law_same (T : Tx K mg) (B : Bk K mg T) : ∀ n, FnOk P w K mg base CX0 (n + 1) B.law_same.f B.law_same.fd ["actual", "due"] (spSame T.c_Web n)
  | 0 => ⟨fun vs H Q E h => by
      obtain ⟨p, d, v1, v2, _, _, hd, _⟩ := h
      exact absurd hd (Nat.not_lt_zero _), fun A outer s H args us vs Q E hr e0 hb r h => by
      obtain ⟨p, d, v1, v2, _, _, hd, _⟩ := h
      exact absurd hd (Nat.not_lt_zero _)⟩
  | n + 1 => same_step T B (by omega) (ok_law_same T B n)
end
end Mw

/-! N0 -/
/-! Comprehensions over zip; streams of units and what they come to. -/
namespace Mw
open PySem L2
theorem lc_zipT {K : PySem.W.Frag} {a b : Addr} {xs ys : List V} {g : TG} {tt : TT} {te : TE} {vs : List Nat} {σ : L2.St} {H1 : Hp} {D : Addr} {Qd : Hp → Prop} (hl : xs.length = ys.length) (Pv : Nat → Hp → Prop) (h0 : Pv 0 (upd H1 D (.lst [])))
    (hq : ∀ i H, Pv i H → SqT K H a xs ∧ SqT K H b ys)
    (hs : ∀ (i : Nat) (x y : V) (t : Addr) (H : Hp), xs[i]? = some x → ys[i]? = some y → Pv i H → H t = none → g (.ref t) (wipe σ vs) (upd H t (.tup [x, y])) fun σ2 H2 => wipe σ2 vs = wipe σ vs ∧
      tt σ2 H2 fun b H3 => if b = true then te σ2 H3 fun y H4 => ∃ acc, H4 D = some (.lst acc) ∧ acc.length < sizeLine ∧ Pv (i + 1) (upd H4 D (.lst (acc ++ [y]))) else Pv (i + 1) H3)
    (hd : ∀ H, Pv xs.length H → Qd H) :
    ∃ W : Nat → Nat → Hp → Prop, (∃ m, W 0 m (upd H1 D (.lst []))) ∧ ∀ i m H, W i m H → (RZ.ItzT K a b).stop i H ∧ Qd H ∨ (RZ.ItzT K a b).go i H ∧ ∃ Nx : Hp → Prop, (∀ H', Nx H' → ∃ m', m' < m ∧ W (i + 1) m' H') ∧
      ∀ x H', (RZ.ItzT K a b).yld i H x H' → g x (wipe σ vs) H' fun σ2 H2 => wipe σ2 vs = wipe σ vs ∧ tt σ2 H2 fun b H3 => if b = true then te σ2 H3 fun y H4 => ∃ acc, H4 D = some (.lst acc) ∧ acc.length < sizeLine ∧ Nx (upd H4 D (.lst (acc ++ [y]))) else Nx H3 := by
  refine ⟨fun i m H => m = xs.length - i ∧ i ≤ xs.length ∧ Pv i H, ⟨_, rfl, Nat.zero_le _, h0⟩, ?_⟩
  rintro i m H ⟨rfl, hi, hP⟩
  obtain ⟨q1, q2⟩ := hq i H hP
  by_cases e : i = xs.length
  · exact .inl ⟨⟨xs, ys, q1, q2, .inl (Nat.le_of_eq e.symm)⟩, hd H (e ▸ hP)⟩
  · have hlt : i < xs.length := by omega
    have hx : xs[i]? = some xs[i] := by simp [hlt]
    have hy : ys[i]? = some (ys[i]'(hl ▸ hlt)) := by simp
    refine .inr ⟨⟨xs, ys, _, _, q1, q2, hx, hy⟩, Pv (i + 1), fun H' h => ⟨xs.length - (i + 1), by omega, rfl, by omega, h⟩, ?_⟩
    rintro v H' ⟨t, x, y, rfl, ht, rfl, ex, ey⟩
    exact hs i x y t H (ex xs q1) (ey ys q2) hP ht
theorem rd_gset {Q : L2.St → Hp → Prop} {σ σ' : L2.St} {i : Nat} {v : V} {H : Hp} (h : List.set σ i (some v) = σ') (q : Q σ' H) : L2.gName i v σ H Q := by
  subst h
  exact q
theorem rd_chain {r r' : R2} {ta tb tc : TE} {σ : L2.St} {H : Hp} {Q : VK} (h : ta σ H fun x H1 => tb σ H1 fun y H2 => r x y H2 fun z H3 => ∃ k, z = V.bl k ∧ if k = true then tc σ H3 fun w' H4 => r' y w' H4 Q else Q (V.bl false) H3) : tChain r r' ta tb tc σ H Q := h
/-- whether a thing is units that a tie lets -/
def fitD (q : Tie) : PyData → Bool | .int u => decide (-q.2.2.2 ≤ u) && decide (u ≤ q.2.2.1) | _ => false
def unitD : PyData → Int | .int u => u | _ => 0
def comes (L : List Tie) (U : List Int) (h : Int) : List Int := ((L.zip U).filter fun x => decide (x.1.2.1 = h)).map (·.2)
def goes (L : List Tie) (U : List Int) (h : Int) : List Int := ((L.zip U).filter fun x => decide (x.1.1 = h)).map (·.2)
/-- what comes to a house less what goes -/
def gainOf (L : List Tie) (U : List Int) (h : Int) : Int := (comes L U h).sum - (goes L U h).sum
def between (m sp mo : Int) : List Int := ((List.range m.toNat).map fun (k : Nat) => (k : Int)).filter fun h => !(decide (h = sp) || decide (h = mo))
/-- whether a thing is a stream of a web -/
def isStr (m : Int) (L : List Tie) (sp mo : Int) : PyData → Bool
  | .tuple ds => decide (ds.length = L.length) && (((L.zip ds).map fun x => fitD x.1 x.2).all id && ((between m sp mo).map fun h => decide (gainOf L (ds.map unitD) h = 0)).all id)
  | _ => false
end Mw

/-! N1 -/
namespace Mw
open PySem L2
def spFits (C : Addr) : Sp := fun vs H Q _ => ∃ p ci q d x, vs = [.ref ci, x] ∧ H ci = some (.tup [.int q.1, .int q.2.1, .int q.2.2.1, .int q.2.2.2]) ∧ Tp C p H d x ∧ Q (.bl (fitD q d)) H
section
variable {P : Program} {w : World} {K : PySem.W.Frag} {mg : Str → Option Value} {base : Heap}
local macro_rules | `(tactic| walk_at "rd") => `(tactic| (repeat (first
  | ((with_reducible refine' rd_var ?h0 ?_); (case h0 => rfl))
  | with_reducible refine rd_c ?_
  | with_reducible refine rd_op ?_
  | with_reducible refine rd_nil ?_
  | with_reducible refine rd_cons ?_
  | with_reducible refine rd_tup ?_
  | with_reducible refine rd_lst ?_
  | with_reducible refine rd_ifs ?_
  | with_reducible refine rd_seq ?_
  | with_reducible refine rd_next ?_
  | with_reducible refine rd_ret ?_
  | with_reducible refine rd_asg ?_
  | ((with_reducible refine' rd_gset ?hs ?_); (case hs => ((simp only [L2.start, List.map_cons, List.map_nil, List.length_cons, List.length_nil, List.cons_append, List.nil_append, List.set_cons_zero, List.set_cons_succ, Nat.reduceAdd, Nat.reduceSub, Nat.zero_add, List.reduceReplicate]); rfl)))
  | with_reducible refine rd_drop ?_
  | with_reducible refine rd_test ?_
  | with_reducible refine rd_B ?_
  | with_reducible refine rd_bl ?_
  | with_reducible refine rd_blP ?_
  | with_reducible refine rd_andV ?_
  | with_reducible refine rd_orV ?_
  | with_reducible refine rd_notV ?_
  | with_reducible refine rd_and ?_
  | with_reducible refine rd_or ?_
  | with_reducible refine rd_not ?_
  | with_reducible refine rd_chain ?_
  | with_reducible refine rd_dput ?_
  | with_reducible refine rd_dget ?_
  | with_reducible refine rd_cb ?_
  | with_reducible refine rd_call ?_
  | with_reducible refine rd_un ?_
  | with_reducible refine rd_sl ?_
  | with_reducible refine rd_nopart ?_
  | with_reducible refine rd_part ?_
  | with_reducible refine rd_intP ?_
  | with_reducible refine rd_rU ?_
  | with_reducible refine rd_fld ?_
  | with_reducible refine rd_eqI ?_
  | with_reducible refine rd_neI ?_
  | with_reducible refine rd_mko ?_
  | with_reducible refine rd_bm ?_
  | with_reducible refine rd_gsub ?_
  | with_reducible refine rd_i0 ?_)))
theorem ok_fits (T : Tx K mg) (B : Bk K mg T) : FnOk P w K mg base CX0 2 B.fits.f B.fits.fd ["tie", "units"] (spFits T.c_Web) := by
  have G_is_int := ok_is_int (P := P) (w := w) (base := base) T B
  refine B.fits.F.ok sc_fits (fun vs H Q E h => ?_) (fun cdv A outer s H vs Q E hr h => ?_)
  · obtain ⟨p, ci, q, d, x, rfl, _⟩ := h
    rfl
  · obtain ⟨p, ci, q, d, x, rfl, hc, hd, k⟩ := h
    refine ⟨_, (pss_one (ps_ret (pe_and (pe_call G_is_int (hr.mono (by decide)) rfl B.is_int.m B.is_int.F.kp B.is_int.b .nil pass0 (pa_cons (pv 1) pa_nil)) (pe_one (pe_chain op_le op_le (pe_un un_neg (pe_ix ix_tup (pv 0) pe_int (fun _ _ => rfl))) (pv 1) (pe_ix ix_tup (pv 0) pe_int (fun _ _ => rfl))))))), ?_⟩
    walk_at "rd"
    refine ⟨p, d, x, rfl, hd, ?_⟩
    walk_at "rd"
    cases d with
    | int u =>
      cases tp_int' hd
      refine rd_yes rfl ?_
      walk_at "rd"
      refine rd_ixT hc rfl ?_
      walk_at "rd"
      refine rd_ite (fun h1 => ?_) (fun h1 => ?_)
      · walk_at "rd"
        refine rd_ixT hc rfl ?_
        walk_at "rd"
        simpa only [fitD, h1, Bool.true_and] using k
      · simpa only [fitD, h1, Bool.false_and] using k
    | _ =>
      refine rd_no rfl ?_
      exact k
/-- a web and units, as many as ties; a house -/
def spGain (C : Addr) : Sp := fun vs H Q _ => ∃ p a m L sp mo c U h, vs = [.ref a, .ref c, .int h] ∧ WebAt C p H a m L sp mo ∧ L.length ≤ 100 ∧ U.length = L.length ∧ H c = some (.tup (U.map V.int)) ∧ ∀ H', Same H H' → Q (.int (gainOf L U h)) H'
theorem mapint_get {U : List Int} {i : Nat} {y : V} (h : (U.map V.int)[i]? = some y) : ∃ u, U[i]? = some u ∧ y = V.int u := by
  rw [List.getElem?_map] at h
  cases e : U[i]? with
  | none =>
    rw [e] at h
    cases h
  | some u =>
    rw [e] at h
    exact ⟨u, rfl, (Option.some.inj h).symm⟩
theorem zip_snoc {α β : Type} {L : List α} {U : List β} {i : Nat} {q : α} {u : β} (h1 : L[i]? = some q) (h2 : U[i]? = some u) : (L.zip U).take (i + 1) = (L.zip U).take i ++ [(q, u)] := by
  have h : (L.zip U)[i]? = some (q, u) := by rw [List.getElem?_zip_eq_some]; exact ⟨h1, h2⟩
  exact take_snoc h
theorem ok_gain (T : Tx K mg) (B : Bk K mg T) : FnOk P w K mg base CX0 1 B.gain.f B.gain.fd ["web", "stream", "house"] (spGain T.c_Web) := by
  refine B.gain.F.ok sc_gain (fun vs H Q E h => ?_) (fun cdv A outer s H vs Q E hr h => ?_)
  · obtain ⟨p, a, m, L, sp, mo, c, U, h, rfl, _⟩ := h
    rfl
  · obtain ⟨p, a, m, L, sp, mo, c, U, h, rfl, hw, hL, hU, hc, k⟩ := h
    refine ⟨_, (pss_cons (ps_set (i := 3) sc_gain.nd rfl (Or.inl rfl) (pe_callB (cr_sum rfl) (by rfl) T.b_sum (by decide +kernel) (pa_cons (pe_lc (own := [("tie", 5), ("units", 6)]) (g := (gTup K 2 (gCons (gName 5) (gCons (gName 6) gNil)))) rfl sc_gain.nd (RZ.pi_zipA (by rfl) T.b_zip (pa_cons (pe_fld (pv 0) rfl) (pa_cons (pv 1) pa_nil))) (blkOk_by (own := [("tie", 5), ("units", 6)]) (N := ["web", "stream", "house", "come", "go", "tie", "units"]) (sc := defScope s_gain) (by decide +kernel)) (fun _ _ _ _ _ => (pg_tup (by rfl) (pgs_cons (pg_name (i := 5) sc_gain.nd rfl (Or.inl rfl)) (pgs_cons (pg_name (i := 6) sc_gain.nd rfl (Or.inl rfl)) pgs_nil)))) (fun _ _ _ _ _ => (pts_one (pt_cmpR op_eq (pe_ix (r := rIxT K) ix_tup (pv 5) pe_int (fun _ _ => rfl)) (pv 2) (nomark _)))) (fun _ _ _ _ _ => (pv 6))) pa_nil)))
      (pss_cons (ps_set (i := 4) sc_gain.nd rfl (Or.inl rfl) (pe_callB (cr_sum rfl) (by rfl) T.b_sum (by decide +kernel) (pa_cons (pe_lc (own := [("tie", 5), ("units", 6)]) (g := (gTup K 2 (gCons (gName 5) (gCons (gName 6) gNil)))) rfl sc_gain.nd (RZ.pi_zipA (by rfl) T.b_zip (pa_cons (pe_fld (pv 0) rfl) (pa_cons (pv 1) pa_nil))) (blkOk_by (own := [("tie", 5), ("units", 6)]) (N := ["web", "stream", "house", "come", "go", "tie", "units"]) (sc := defScope s_gain) (by decide +kernel)) (fun _ _ _ _ _ => (pg_tup (by rfl) (pgs_cons (pg_name (i := 5) sc_gain.nd rfl (Or.inl rfl)) (pgs_cons (pg_name (i := 6) sc_gain.nd rfl (Or.inl rfl)) pgs_nil)))) (fun _ _ _ _ _ => (pts_one (pt_cmpR op_eq (pe_ix (r := rIxT K) ix_tup (pv 5) pe_int (fun _ _ => rfl)) (pv 2) (nomark _)))) (fun _ _ _ _ _ => (pv 6))) pa_nil)))
      (pss_one (ps_ret (pe_op op_sub (pv 3) (pv 4)))))), ?_⟩
    obtain ⟨dx, v2, v5, v6, ha, t2, hwy, hlt⟩ := hw
    obtain ⟨ct, xs, rfl, hct, hx⟩ := tp_tup' t2
    have hlen : xs.length = L.length := by
      have := hx.len
      simpa using this.symm
    walk_at "rd"
    refine ⟨_, rfl, a, T.c_Web, dx, _, _, rfl, ha.2, T.W.cl, T.na_ties, wf_ties _ _ _ _ _ _, _, rfl, ct, c, xs, U.map V.int, rfl, .inr ⟨SqT.of hct.2, SqT.of hc, fun D1 hD1 => lc_zipT (K := K) (a := ct) (b := c) (by rw [hlen, List.length_map, hU])
      (fun i H1 => Same H H1 ∧ H1 D1 = some (.lst (((((L.zip U).take i).filter fun x => decide (x.1.2.1 = h)).map (·.2)).map V.int))) ⟨same_new hD1, upd_same⟩ (fun i H1 hh => ⟨SqT.of (hh.1 _ _ hct.2), SqT.of (hh.1 _ _ hc)⟩) ?_ ?_⟩⟩
    · rintro i x y t H1 hx1 hy1 ⟨hs, hacc⟩ ht
      obtain ⟨q, ci, hq, rfl, hci⟩ := ties_get hx hx1
      obtain ⟨u, hu, rfl⟩ := mapint_get hy1
      have hs2 := hs.trans (same_new (o := .tup [.ref ci, .int u]) ht)
      have hacc2 : (upd H1 t (.tup [.ref ci, .int u])) D1 = some (.lst _) := (upd_ne (ne_of_none hacc ht)).trans hacc
      refine ⟨t, _, rfl, SqT.of upd_same, rfl, _, _, rfl, _, _, rfl, rfl, ?_⟩
      refine ⟨rfl, ?_⟩
      walk_at "rd"
      refine rd_ixT (hs2 _ _ hci.2) rfl ?_
      walk_at "rd"
      rw [zip_snoc hq hu, List.filter_append, List.map_append, List.map_append]
      refine rd_ite (fun h2 => ?_) (fun h2 => ?_)
      · walk_at "rd"
        refine ⟨_, hacc2, ?_, fun b o e => ?_, ?_⟩
        · refine Nat.lt_of_le_of_lt (?_ : _ ≤ 100) (by decide)
          rw [List.length_map, List.length_map]
          exact Nat.le_trans (List.length_filter_le _ _) (Nat.le_trans (List.length_take_le' _ _) (by rw [List.length_zip]; omega))
        · rw [upd_ne (ne_of_none e hD1)]
          exact hs2 b o e
        · rw [upd_same, List.filter_cons_of_pos (by simpa using h2)]
          rfl
      · refine ⟨hs2, ?_⟩
        rw [hacc2, List.filter_cons_of_neg (by simpa using h2)]
        simp
    · rintro H2 ⟨s2, a2⟩
      rw [List.take_of_length_le (by rw [List.length_zip]; omega)] at a2
      walk_at "rd"
      refine ⟨D1, _, rfl, SqL.of a2, ?_⟩
      dsimp only
      walk_at "rd"
      refine ⟨_, rfl, a, T.c_Web, dx, _, _, rfl, s2 _ _ ha.2, T.W.cl, T.na_ties, wf_ties _ _ _ _ _ _, _, rfl, ct, c, xs, U.map V.int, rfl, .inr ⟨SqT.of (s2 _ _ hct.2), SqT.of (s2 _ _ hc), fun D2 hD2 => lc_zipT (K := K) (a := ct) (b := c) (by rw [hlen, List.length_map, hU])
        (fun i H1 => Same H2 H1 ∧ H1 D2 = some (.lst (((((L.zip U).take i).filter fun x => decide (x.1.1 = h)).map (·.2)).map V.int))) ⟨same_new hD2, upd_same⟩ (fun i H1 hh => ⟨SqT.of (hh.1 _ _ (s2 _ _ hct.2)), SqT.of (hh.1 _ _ (s2 _ _ hc))⟩) ?_ ?_⟩⟩
      · rintro i x y t H1 hx1 hy1 ⟨hs, hacc⟩ ht
        obtain ⟨q, ci, hq, rfl, hci⟩ := ties_get hx hx1
        obtain ⟨u, hu, rfl⟩ := mapint_get hy1
        have hs2 := hs.trans (same_new (o := .tup [.ref ci, .int u]) ht)
        have hacc2 : (upd H1 t (.tup [.ref ci, .int u])) D2 = some (.lst _) := (upd_ne (ne_of_none hacc ht)).trans hacc
        refine ⟨t, _, rfl, SqT.of upd_same, rfl, _, _, rfl, _, _, rfl, rfl, ?_⟩
        refine ⟨rfl, ?_⟩
        walk_at "rd"
        refine rd_ixT (hs2 _ _ (s2 _ _ hci.2)) rfl ?_
        walk_at "rd"
        rw [zip_snoc hq hu, List.filter_append, List.map_append, List.map_append]
        refine rd_ite (fun h2 => ?_) (fun h2 => ?_)
        · walk_at "rd"
          refine ⟨_, hacc2, ?_, fun b o e => ?_, ?_⟩
          · refine Nat.lt_of_le_of_lt (?_ : _ ≤ 100) (by decide)
            rw [List.length_map, List.length_map]
            exact Nat.le_trans (List.length_filter_le _ _) (Nat.le_trans (List.length_take_le' _ _) (by rw [List.length_zip]; omega))
          · rw [upd_ne (ne_of_none e hD2)]
            exact hs2 b o e
          · rw [upd_same, List.filter_cons_of_pos (by simpa using h2)]
            rfl
        · refine ⟨hs2, ?_⟩
          rw [hacc2, List.filter_cons_of_neg (by simpa using h2)]
          simp
      · rintro H3 ⟨s3, a3⟩
        rw [List.take_of_length_le (by rw [List.length_zip]; omega)] at a3
        walk_at "rd"
        refine ⟨D2, _, rfl, SqL.of a3, ?_⟩
        dsimp only
        walk_at "rd"
        exact k _ (s2.trans s3)
end
end Mw

/-! N2 -/
namespace Mw
open PySem L2
def spIsStr (C : Addr) : Sp := fun vs H Q _ => ∃ p a m L sp mo d x, vs = [.ref a, x] ∧ WebAt C p H a m L sp mo ∧ L.length ≤ 100 ∧ 0 ≤ m ∧ m ≤ 10 ∧ Tp C p H d x ∧ ∀ H', Same H H' → Q (.bl (isStr m L sp mo d)) H'
theorem inV_two {h sp mo : Int} : (if true = true then !inV (.int h) [.int sp, .int mo] else inV (.int h) [.int sp, .int mo]) = !(decide (h = sp) || decide (h = mo)) := by
  rw [if_pos rfl]
  show (!((sp == h) || ((mo == h) || false))) = _
  rw [Bool.or_false, show (sp == h) = decide (h = sp) from by rw [Bool.eq_iff_iff]; simp; exact eq_comm, show (mo == h) = decide (h = mo) from by rw [Bool.eq_iff_iff]; simp; exact eq_comm]
theorem rd_tyes {σ : L2.St} {H : Hp} {Q : Bool → Hp → Prop} (q : Q true H) : tYes σ H Q := q
theorem fits_units : ∀ {L : List Tie} {ds : List PyData} {C p : Addr} {H : Hp} {ys : List V}, ds.length = L.length → ((L.zip ds).map fun x => fitD x.1 x.2).all id = true → TpAll C p H ds ys → ys = (ds.map unitD).map V.int
  | [], [], C, p, H, ys, _, _, h => by
    have z := h.len
    have e : ys = [] := List.eq_nil_of_length_eq_zero z.symm
    rw [e]
    rfl
  | [], d :: ds, C, p, H, ys, hl, _, _ => by simp at hl
  | q :: L, [], C, p, H, ys, hl, _, _ => by simp at hl
  | q :: L, d :: ds, C, p, H, ys, hl, hf, h => by
    cases ys with
    | nil => have z := h.len; simp at z
    | cons y ys =>
      have h' := h
      simp only [TpAll] at h'
      obtain ⟨y', ys', ey, h1, h2⟩ := h'
      cases ey
      simp only [List.zip_cons_cons, List.map_cons, List.all_cons, Bool.and_eq_true, id_eq] at hf
      have ih := fits_units (by simpa using hl) hf.2 h2
      cases d with
      | int u =>
        cases tp_int' h1
        rw [ih]
        rfl
      | _ => simp [fitD] at hf
section
variable {P : Program} {w : World} {K : PySem.W.Frag} {mg : Str → Option Value} {base : Heap}
local macro_rules | `(tactic| walk_at "rd") => `(tactic| (repeat (first
  | ((with_reducible refine' rd_var ?h0 ?_); (case h0 => rfl))
  | with_reducible refine rd_c ?_
  | with_reducible refine rd_op ?_
  | with_reducible refine rd_nil ?_
  | with_reducible refine rd_cons ?_
  | with_reducible refine rd_tup ?_
  | with_reducible refine rd_lst ?_
  | with_reducible refine rd_ifs ?_
  | with_reducible refine rd_seq ?_
  | with_reducible refine rd_next ?_
  | with_reducible refine rd_ret ?_
  | with_reducible refine rd_asg ?_
  | ((with_reducible refine' rd_gset ?hs ?_); (case hs => ((simp only [L2.start, List.map_cons, List.map_nil, List.length_cons, List.length_nil, List.cons_append, List.nil_append, List.set_cons_zero, List.set_cons_succ, Nat.reduceAdd, Nat.reduceSub, Nat.zero_add, List.reduceReplicate]); rfl)))
  | with_reducible refine rd_drop ?_
  | with_reducible refine rd_test ?_
  | with_reducible refine rd_B ?_
  | with_reducible refine rd_bl ?_
  | with_reducible refine rd_blP ?_
  | with_reducible refine rd_andV ?_
  | with_reducible refine rd_orV ?_
  | with_reducible refine rd_notV ?_
  | with_reducible refine rd_and ?_
  | with_reducible refine rd_or ?_
  | with_reducible refine rd_not ?_
  | with_reducible refine rd_chain ?_
  | with_reducible refine rd_dput ?_
  | with_reducible refine rd_dget ?_
  | with_reducible refine rd_cb ?_
  | with_reducible refine rd_call ?_
  | with_reducible refine rd_un ?_
  | with_reducible refine rd_sl ?_
  | with_reducible refine rd_nopart ?_
  | with_reducible refine rd_part ?_
  | with_reducible refine rd_intP ?_
  | with_reducible refine rd_rU ?_
  | with_reducible refine rd_fld ?_
  | with_reducible refine rd_eqI ?_
  | with_reducible refine rd_neI ?_
  | with_reducible refine rd_mko ?_
  | with_reducible refine rd_bm ?_
  | with_reducible refine rd_gsub ?_
  | with_reducible refine rd_i0 ?_)))
theorem ok_is_stream (T : Tx K mg) (B : Bk K mg T) : FnOk P w K mg base CX0 3 B.is_stream.f B.is_stream.fd ["web", "thing"] (spIsStr T.c_Web) := by
  have G_fits := ok_fits (P := P) (w := w) (base := base) T B
  have G_is_tuple_of := ok_is_tuple_of (P := P) (w := w) (base := base) T B
  have G_gain := ok_gain (P := P) (w := w) (base := base) T B
  refine B.is_stream.F.ok sc_is_stream (fun vs H Q E h => ?_) (fun cdv A outer s H vs Q E hr h => ?_)
  · obtain ⟨p, a, m, L, sp, mo, d, x, rfl, _⟩ := h
    rfl
  · obtain ⟨p, a, m, L, sp, mo, d, x, rfl, hw, hL, hm0, hm, hd, k⟩ := h
    refine ⟨_, (pss_cons (ps_if (pt_not (pt_val (pe_call G_is_tuple_of (hr.mono (by decide)) rfl B.is_tuple_of.m B.is_tuple_of.F.kp B.is_tuple_of.b .nil pass0 (pa_cons (pe_callB call_len_seq (by rfl) T.b_len (by decide +kernel) (pa_cons (pe_fld (pv 0) rfl) pa_nil)) (pa_cons (pv 1) pa_nil))))) (pss_one (ps_ret pe_bl)) pss_nil)
      (pss_cons (ps_if (pt_not (pt_val (pe_callB (cr_all rfl) (by rfl) T.b_all (by decide +kernel) (pa_cons (pe_lc (own := [("tie", 4), ("units", 5)]) (g := (gTup K 2 (gCons (gName 4) (gCons (gName 5) gNil)))) rfl sc_is_stream.nd (RZ.pi_zipA (by rfl) T.b_zip (pa_cons (pe_fld (pv 0) rfl) (pa_cons (pv 1) pa_nil))) (blkOk_by (own := [("tie", 4), ("units", 5)]) (N := ["web", "thing", "between", "house", "tie", "units"]) (sc := defScope s_is_stream) (by decide +kernel)) (fun _ _ _ _ _ => (pg_tup (by rfl) (pgs_cons (pg_name (i := 4) sc_is_stream.nd rfl (Or.inl rfl)) (pgs_cons (pg_name (i := 5) sc_is_stream.nd rfl (Or.inl rfl)) pgs_nil)))) (fun _ _ _ _ _ => pts_nil) (fun _ _ _ _ _ => (pe_call G_fits (hr.mono (by decide)) rfl B.fits.m B.fits.F.kp B.fits.b .nil pass0 (pa_cons (pv 4) (pa_cons (pv 5) pa_nil))))) pa_nil)))) (pss_one (ps_ret pe_bl)) pss_nil)
      (pss_cons (ps_setLc (i := 2) (own := [("house", 3)]) (g := gName 3) rfl sc_is_stream.nd rfl rfl (sw_true rfl rfl rfl (by decide +kernel)) (pi_range1 (by rfl) T.b_range (pa_cons (pe_fld (pv 0) rfl) pa_nil)) (blkOk_by (own := [("house", 3)]) (N := ["web", "thing", "between", "house", "tie", "units"]) (sc := defScope s_is_stream) (by decide +kernel)) (fun _ _ _ _ _ => pg_name (i := 3) sc_is_stream.nd rfl (Or.inl rfl)) (fun _ _ _ _ _ => (pts_one (pt_cmpR (r := rIn K true) op_notIn_seq (pv 3) (pe_tup (pa_cons (show PE _ _ (tFld K (tVar 0) "spring") from pe_fld (pv 0) rfl) (pa_cons (show PE _ _ (tFld K (tVar 0) "mouth") from pe_fld (pv 0) rfl) pa_nil))) rfl))) (fun _ _ _ _ _ => (pv 3)))
      (pss_one (ps_ret (pe_callB (cr_all rfl) (by rfl) T.b_all (by decide +kernel) (pa_cons (pe_lc (own := [("house", 3)]) (g := gName 3) rfl sc_is_stream.nd (pi_list (pv 2)) (blkOk_by (own := [("house", 3)]) (N := ["web", "thing", "between", "house", "tie", "units"]) (sc := defScope s_is_stream) (by decide +kernel)) (fun _ _ _ _ _ => pg_name (i := 3) sc_is_stream.nd rfl (Or.inl rfl)) (fun _ _ _ _ _ => pts_nil) (fun _ _ _ _ _ => (pe_cmpR op_eq (pe_call G_gain (hr.mono (by decide)) rfl B.gain.m B.gain.F.kp B.gain.b .nil pass0 (pa_cons (pv 0) (pa_cons (pv 1) (pa_cons (pv 3) pa_nil)))) pe_int (nomark _)))) pa_nil))))))), ?_⟩
    obtain ⟨dx, v2, v5, v6, ha, t2, hwy, hlt⟩ := id hw
    obtain ⟨ct, xs, rfl, hct, hx⟩ := tp_tup' t2
    have hlen : xs.length = L.length := by
      have := hx.len
      simpa using this.symm
    have k0 := k H (Same.refl H)
    walk_at "rd"
    refine ⟨a, T.c_Web, dx, _, _, rfl, ha.2, T.W.cl, T.na_ties, wf_ties _ _ _ _ _ _, ?_⟩
    walk_at "rd"
    refine ⟨ct, xs, rfl, .inr (SqT.of hct.2), ?_⟩
    walk_at "rd"
    refine ⟨p, (xs.length : Int), d, x, rfl, hd, ?_⟩
    walk_at "rd"
    cases d with
    | tuple ds =>
      obtain ⟨c, ys, rfl, hc, hy⟩ := tp_tup' hd
      have hly := hy.len
      refine rd_ite (fun h1 => ?_) (fun h1 => ?_)
      · walk_at "rd"
        have e : isStr m L sp mo (.tuple ds) = false := by
          simp only [isStr]
          rw [show decide (ds.length = L.length) = false by simp [isTupN] at h1 ⊢; omega]
          rfl
        rw [e] at k0
        exact k0
      · have hl : ds.length = L.length := by
          simp [isTupN] at h1
          omega
        walk_at "rd"
        refine ⟨_, rfl, a, T.c_Web, dx, _, _, rfl, ha.2, T.W.cl, T.na_ties, wf_ties _ _ _ _ _ _, _, rfl, ct, c, xs, ys, rfl, .inr ⟨SqT.of hct.2, SqT.of hc.2, fun D1 hD1 => lc_zipT (K := K) (a := ct) (b := c) (by omega)
          (fun i H1 => Same H H1 ∧ H1 D1 = some (.lst ((((L.zip ds).take i).map fun x => fitD x.1 x.2).map V.bl))) ⟨same_new hD1, upd_same⟩ (fun i H1 hh => ⟨SqT.of (hh.1 _ _ hct.2), SqT.of (hh.1 _ _ hc.2)⟩) ?_ ?_⟩⟩
        · rintro i x y t H1 hx1 hy1 ⟨hs, hacc⟩ ht
          obtain ⟨q, ci, hq, rfl, hci⟩ := ties_get hx hx1
          obtain ⟨d1, hd1, td1⟩ := hy.get' hy1
          have hs2 := hs.trans (same_new (o := .tup [.ref ci, y]) ht)
          have hacc2 : (upd H1 t (.tup [.ref ci, y])) D1 = some (.lst _) := (upd_ne (ne_of_none hacc ht)).trans hacc
          refine ⟨t, _, rfl, SqT.of upd_same, rfl, _, _, rfl, _, _, rfl, rfl, ?_⟩
          refine ⟨rfl, ?_⟩
          refine rd_tyes ?_
          refine rd_yes rfl ?_
          walk_at "rd"
          refine ⟨p, ci, q, d1, y, rfl, hs2 _ _ hci.2, Tp.keep (Keep.same hs2) _ _ td1, ?_⟩
          refine ⟨_, hacc2, ?_, fun b o e => ?_, ?_⟩
          · refine Nat.lt_of_le_of_lt (?_ : _ ≤ 100) (by decide)
            rw [List.length_map, List.length_map]
            exact Nat.le_trans (List.length_take_le' _ _) (by rw [List.length_zip]; omega)
          · rw [upd_ne (ne_of_none e hD1)]
            exact hs2 b o e
          · rw [upd_same, zip_snoc hq hd1, List.map_append, List.map_append]
            rfl
        · rintro H1 ⟨s1, a1⟩
          rw [List.take_of_length_le (by rw [List.length_zip]; omega)] at a1
          walk_at "rd"
          refine ⟨D1, _, rfl, SqL.of a1, ?_⟩
          walk_at "rd"
          refine rd_ite (fun h2 => ?_) (fun h2 => ?_)
          · have e : isStr m L sp mo (.tuple ds) = false := by
              simp only [isStr]
              rw [show ((L.zip ds).map fun x => fitD x.1 x.2).all id = false by simpa using h2]
              simp
            walk_at "rd"
            have z := k H1 s1
            rw [e] at z
            exact z
          · have hfit : ((L.zip ds).map fun x => fitD x.1 x.2).all id = true := by simpa using h2
            have hys := fits_units hl hfit hy
            have hU : (ds.map unitD).length = L.length := by rw [List.length_map, hl]
            have e : isStr m L sp mo (.tuple ds) = ((between m sp mo).map fun h => decide (gainOf L (ds.map unitD) h = 0)).all id := by
              simp only [isStr]
              rw [hfit, show decide (ds.length = L.length) = true from decide_eq_true hl, Bool.true_and, Bool.true_and]
            rw [e] at k
            subst hys
            walk_at "rd"
            refine ⟨_, rfl, a, T.c_Web, dx, _, _, rfl, s1 _ _ ha.2, T.W.cl, T.na_many, wf_many _ _ _ _ _ _, m, rfl, by omega, by omega, fun D2 hD2 => lc_range (lo := 0) (n := m.toNat)
              (fun i H2 => Same H1 H2 ∧ H2 D2 = some (.lst ((((List.range i).map fun (k : Nat) => (k : Int)).filter fun h => !(decide (h = sp) || decide (h = mo))).map V.int))) ⟨same_new hD2, upd_same⟩ ?_ ?_⟩
            · rintro i H2 hi ⟨hs, hacc⟩
              refine ⟨rfl, ?_⟩
              have ha2 := hs _ _ (s1 _ _ ha.2)
              walk_at "rd"
              refine ⟨a, T.c_Web, dx, _, _, rfl, ha2, T.W.cl, T.na_spring, wf_spring _ _ _ _ _ _, ?_⟩
              walk_at "rd"
              refine ⟨a, T.c_Web, dx, _, _, rfl, ha2, T.W.cl, T.na_mouth, wf_mouth _ _ _ _ _ _, ?_⟩
              refine rd_disp rfl fun t ht => ?_
              refine ⟨t, _, rfl, .inr (SqT.of upd_same), rfl, rfl, ?_⟩
              have hs2 := hs.trans (same_new (o := .tup [.int sp, .int mo]) ht)
              have hacc2 : (upd H2 t (.tup [.int sp, .int mo])) D2 = some (.lst _) := (upd_ne (ne_of_none hacc ht)).trans hacc
              rw [show (0 : Int) + (i : Int) = (i : Int) by omega, inV_two]
              rw [List.range_succ, List.map_append, List.filter_append, List.map_append]
              refine ⟨_, rfl, ?_⟩
              refine rd_ite (fun h3 => ?_) (fun h3 => ?_)
              · walk_at "rd"
                refine ⟨_, hacc2, ?_, fun b o e => ?_, ?_⟩
                · refine Nat.lt_of_le_of_lt (?_ : _ ≤ 100) (by decide)
                  rw [List.length_map]
                  refine Nat.le_trans (List.length_filter_le _ _) ?_
                  rw [List.length_map, List.length_range]
                  omega
                · rw [upd_ne (ne_of_none e hD2)]
                  exact hs2 b o e
                · rw [upd_same, List.map_cons, List.map_nil, List.filter_cons_of_pos (p := fun h => !(decide (h = sp) || decide (h = mo))) h3]
                  rfl
              · refine ⟨hs2, ?_⟩
                rw [hacc2, List.map_cons, List.map_nil, List.filter_cons_of_neg (p := fun h => !(decide (h = sp) || decide (h = mo))) (by rw [h3]; simp)]
                simp
            · rintro H2 ⟨s2, a2⟩
              dsimp only
              walk_at "rd"
              have hbl : (between m sp mo).length ≤ 100 := by
                refine Nat.le_trans (List.length_filter_le _ _) ?_
                rw [List.length_map, List.length_range]
                omega
              have s12 := s1.trans s2
              refine ⟨_, rfl, D2, rfl, ⟨_, SqL.of a2⟩, fun D3 hD3 => lc_list (K := K) (a := D2) (xs := (between m sp mo).map V.int)
                (fun i H3 => Same H2 H3 ∧ H3 D3 = some (.lst ((((between m sp mo).take i).map fun h => decide (gainOf L (ds.map unitD) h = 0)).map V.bl))) ⟨same_new hD3, upd_same⟩ (fun i H3 _ hh => SqL.of (hh.1 _ _ a2)) ?_ ?_⟩
              · rintro i y H3 hi ⟨hs, hacc⟩
                obtain ⟨h, hh, rfl⟩ := mapint_get hi
                refine ⟨rfl, ?_⟩
                refine rd_tyes ?_
                refine rd_yes rfl ?_
                walk_at "rd"
                have s3 := s12.trans hs
                refine ⟨p, a, m, L, sp, mo, c, ds.map unitD, h, rfl, hw.keep (Keep.same s3), hL, hU, s3 _ _ hc.2, fun H4 s4 => ?_⟩
                walk_at "rd"
                have hacc2 := s4 _ _ hacc
                refine ⟨_, hacc2, ?_, fun b o e => ?_, ?_⟩
                · refine Nat.lt_of_le_of_lt (?_ : _ ≤ 100) (by decide)
                  rw [List.length_map, List.length_map]
                  exact Nat.le_trans (List.length_take_le' _ _) hbl
                · rw [upd_ne (ne_of_none e hD3)]
                  exact s4 _ _ (hs b o e)
                · rw [upd_same, take_snoc hh, List.map_append, List.map_append]
                  rfl
              · rintro H3 ⟨s3, a3⟩
                rw [List.length_map, List.take_length] at a3
                dsimp only
                walk_at "rd"
                refine ⟨D3, _, rfl, SqL.of a3, ?_⟩
                exact k _ (s12.trans s3)
    | _ =>
      walk_at "rd"
      refine rd_yes rfl ?_
      walk_at "rd"
      exact k0
end
end Mw

/-! N3 -/
namespace Mw
open PySem L2
/-- what the dict of units has told of the first i ties -/
def Told (L : List Tie) (U : List Int) (i : Nat) (kvs : List (List Key × V)) : Prop := kvs.length ≤ 2 * i ∧ ∀ (j : Nat) q u, j < i → L[j]? = some q → U[j]? = some u → valV kvs (keyP q.1 q.2.1) = some (.int u) ∧ valV kvs (keyP q.2.1 q.1) = some (.int (-u))
theorem Told.step {m : Int} {L : List Tie} {sp mo : Int} {U : List Int} {i : Nat} {kvs : List (List Key × V)} {q : Tie} {u : Int} (hR : Right m L sp mo) (hq : L[i]? = some q) (hu : U[i]? = some u) (h : Told L U i kvs) :
    Told L U (i + 1) (putK (putK kvs (keyP q.1 q.2.1) (.int u)) (keyP q.2.1 q.1) (.int (-u))) := by
  obtain ⟨h1, h2⟩ := h
  have hin : ∀ r ∈ L, TieIn m r := hR.parts.2.2.1
  refine ⟨Nat.le_trans putK_len (by have := putK_len (kvs := kvs) (k := keyP q.1 q.2.1) (v := .int u); omega), fun j r w hj hr hw => ?_⟩
  have bq := hin q (List.mem_of_getElem? hq)
  have br := hin r (List.mem_of_getElem? hr)
  simp only [TieIn] at bq br
  rw [valV_put, valV_put, valV_put, valV_put]
  rcases Nat.lt_succ_iff_lt_or_eq.mp hj with z | z
  · obtain ⟨g1, g2⟩ := h2 j r w z hr hw
    have n1 : ¬ keyP r.1 r.2.1 = keyP q.2.1 q.1 := fun e => by
      have := keyP_inj e
      omega
    have n2 : ¬ keyP r.1 r.2.1 = keyP q.1 q.2.1 := fun e => by
      have e' := keyP_inj e
      have := hR.one hr hq e'.1 e'.2
      omega
    have n3 : ¬ keyP r.2.1 r.1 = keyP q.2.1 q.1 := fun e => by
      have e' := keyP_inj e
      have := hR.one hr hq e'.2 e'.1
      omega
    have n4 : ¬ keyP r.2.1 r.1 = keyP q.1 q.2.1 := fun e => by
      have := keyP_inj e
      omega
    rw [if_neg n1, if_neg n2, if_neg n3, if_neg n4]
    exact ⟨g1, g2⟩
  · subst z
    rw [hq] at hr
    rw [hu] at hw
    cases hr
    cases hw
    have n1 : ¬ keyP q.1 q.2.1 = keyP q.2.1 q.1 := fun e => by
      have := keyP_inj e
      omega
    rw [if_neg n1, if_pos rfl, if_pos rfl]
    exact ⟨rfl, rfl⟩
def spUnitsEach (C : Addr) : Sp := fun vs H Q _ => ∃ p a m L sp mo c U, vs = [.ref a, .ref c] ∧ WebAt C p H a m L sp mo ∧ Right m L sp mo ∧ U.length = L.length ∧ H c = some (.tup (U.map V.int)) ∧ ∀ r kvs H', Same H H' → H r = none → H' r = some (.dT kvs) → Told L U L.length kvs → Q (.ref r) H'
section
variable {P : Program} {w : World} {K : PySem.W.Frag} {mg : Str → Option Value} {base : Heap}
local macro_rules | `(tactic| walk_at "rd") => `(tactic| (repeat (first
  | ((with_reducible refine' rd_var ?h0 ?_); (case h0 => rfl))
  | with_reducible refine rd_c ?_
  | with_reducible refine rd_op ?_
  | with_reducible refine rd_nil ?_
  | with_reducible refine rd_cons ?_
  | with_reducible refine rd_tup ?_
  | with_reducible refine rd_lst ?_
  | with_reducible refine rd_ifs ?_
  | with_reducible refine rd_seq ?_
  | with_reducible refine rd_next ?_
  | with_reducible refine rd_ret ?_
  | with_reducible refine rd_asg ?_
  | ((with_reducible refine' rd_gset ?hs ?_); (case hs => ((simp only [L2.start, List.map_cons, List.map_nil, List.length_cons, List.length_nil, List.cons_append, List.nil_append, List.set_cons_zero, List.set_cons_succ, Nat.reduceAdd, Nat.reduceSub, Nat.zero_add, List.reduceReplicate]); rfl)))
  | with_reducible refine rd_drop ?_
  | with_reducible refine rd_test ?_
  | with_reducible refine rd_B ?_
  | with_reducible refine rd_bl ?_
  | with_reducible refine rd_blP ?_
  | with_reducible refine rd_andV ?_
  | with_reducible refine rd_orV ?_
  | with_reducible refine rd_notV ?_
  | with_reducible refine rd_and ?_
  | with_reducible refine rd_or ?_
  | with_reducible refine rd_not ?_
  | with_reducible refine rd_chain ?_
  | with_reducible refine rd_dput ?_
  | with_reducible refine rd_dget ?_
  | with_reducible refine rd_cb ?_
  | with_reducible refine rd_call ?_
  | with_reducible refine rd_un ?_
  | with_reducible refine rd_sl ?_
  | with_reducible refine rd_nopart ?_
  | with_reducible refine rd_part ?_
  | with_reducible refine rd_intP ?_
  | with_reducible refine rd_rU ?_
  | with_reducible refine rd_fld ?_
  | with_reducible refine rd_eqI ?_
  | with_reducible refine rd_neI ?_
  | with_reducible refine rd_mko ?_
  | with_reducible refine rd_bm ?_
  | with_reducible refine rd_gsub ?_
  | with_reducible refine rd_i0 ?_)))
end
end Mw

/-! N4 -/
namespace Mw
open PySem L2
theorem lets_at : ∀ {L : List Tie} {i j : Int}, (∀ q ∈ L, q.1 < q.2.1) → letsOf L i j = (L.find? (atP i j)).map fun q => if i > j then q.2.2.2 else q.2.2.1
  | [], i, j, _ => rfl
  | q :: L, i, j, h => by
    have hq := h q (by simp)
    have ih := lets_at (L := L) (i := i) (j := j) fun r hr => h r (by simp [hr])
    obtain ⟨x, y, t, k⟩ := q
    simp only at hq
    unfold letsOf at ih ⊢
    rw [List.find?_cons, List.find?_cons]
    have e : atP i j (x, y, t, k) = ((x == i && y == j) || (x == j && y == i)) := by
      unfold atP
      rw [Bool.eq_iff_iff]
      simp
      omega
    rw [e]
    by_cases c : ((x == i && y == j) || (x == j && y == i)) = true
    · simp only [c]
      simp only [Option.map_some]
      simp at c
      by_cases g : i > j
      · rw [if_pos g, if_neg (by simp; omega)]
      · rw [if_neg g, if_pos (by simp; omega)]
    · simp only [Bool.not_eq_true] at c
      simp only [c]
      exact ih

theorem Right.find {m : Int} {L : List Tie} {sp mo : Int} (hR : Right m L sp mo) {k : Nat} {q : Tie} {i j : Int} (hq : L[k]? = some q) (h : atP i j q = true) : L.find? (atP i j) = some q :=
  find_first hq h fun k' r hk hr => by
    cases e : atP i j r with
    | false => rfl
    | true =>
      unfold atP at e h
      simp only [Bool.and_eq_true, beq_iff_eq] at e h
      have := hR.one hr hq (by rw [e.1, h.1]) (by rw [e.2, h.2])
      omega
/-- a thing that is no stream, with n more arguments behind it -/
def BadStr (C CN : Addr) (n : Nat) (vs : List V) (H : Hp) (E : XK) : Prop := ∃ (p a : Addr) (m : Int) (L : List Tie) (sp mo : Int) (d : PyData) (x : V) (rest : List V), vs = .ref a :: x :: rest ∧ rest.length = n ∧ WebAt C p H a m L sp mo ∧ Right m L sp mo ∧ Tp C p H d x ∧ isStr m L sp mo d = false ∧ ∀ H', Same H H' → E (.ref CN) none H'
def spOr (sp : Sp) (C CN : Addr) (n : Nat) : Sp := fun vs H Q E => sp vs H Q E ∨ BadStr C CN n vs H E
theorem BadStr.len {C CN : Addr} {n : Nat} {vs : List V} {H : Hp} {E : XK} (h : BadStr C CN n vs H E) : vs.length = n + 2 := by
  obtain ⟨p, a, m, L, sp, mo, d, x, rest, rfl, hl, _⟩ := h
  simp [hl]
def spCkStr (C : Addr) : Sp := fun vs H Q _ => ∃ p a m L sp mo d x, vs = [.ref a, x] ∧ WebAt C p H a m L sp mo ∧ Right m L sp mo ∧ Tp C p H d x ∧ isStr m L sp mo d = true ∧ ∀ H', Same H H' → Q .non H'
def strD (U : List Int) : PyData := .tuple (U.map PyData.int)
def spWorth (C : Addr) : Sp := fun vs H Q _ => ∃ p a m L sp mo c U, vs = [.ref a, .ref c] ∧ WebAt C p H a m L sp mo ∧ Right m L sp mo ∧ Tp C p H (strD U) (.ref c) ∧ isStr m L sp mo (strD U) = true ∧ ∀ H', Same H H' → Q (.int (gainOf L U mo)) H'
def spRoom (C : Addr) : Sp := fun vs H Q _ => ∃ (p a : Addr) (m : Int) (L : List Tie) (sp mo : Int) (c : Addr) (U : List Int) (k : Nat) (q : Tie) (u i j : Int), vs = [.ref a, .ref c, .int i, .int j] ∧ WebAt C p H a m L sp mo ∧ Right m L sp mo ∧ Tp C p H (strD U) (.ref c) ∧ isStr m L sp mo (strD U) = true ∧ L[k]? = some q ∧ U[k]? = some u ∧
  ((q.1 = i ∧ q.2.1 = j ∧ ∀ H', Same H H' → Q (.int (q.2.2.1 - u)) H') ∨ (q.1 = j ∧ q.2.1 = i ∧ ∀ H', Same H H' → Q (.int (q.2.2.2 - (-u))) H'))
theorem isStr_len {m : Int} {L : List Tie} {sp mo : Int} {U : List Int} (h : isStr m L sp mo (strD U) = true) : U.length = L.length := by
  unfold strD isStr at h
  simp only [Bool.and_eq_true, decide_eq_true_eq, List.length_map] at h
  exact h.1
theorem tp_strD {C p : Addr} {H : Hp} {U : List Int} {c : Addr} (h : Tp C p H (strD U) (.ref c)) : c ≠ p ∧ H c = some (.tup (U.map V.int)) := by
  obtain ⟨a, xs, e, ha, hx⟩ := tp_tup' h
  cases e
  have e2 : xs = U.map V.int := by
    clear ha h
    induction U generalizing xs with
    | nil =>
      have z := hx.len
      exact List.eq_nil_of_length_eq_zero z.symm
    | cons u U ih =>
      rw [List.map_cons] at hx
      simp only [TpAll] at hx
      obtain ⟨y, ys, rfl, h1, h2⟩ := hx
      rw [ih _ h2, tp_int' h1]
      rfl
  rw [e2] at ha
  exact ha
section
variable {P : Program} {w : World} {K : PySem.W.Frag} {mg : Str → Option Value} {base : Heap}
local macro_rules | `(tactic| walk_at "rd") => `(tactic| (repeat (first
  | ((with_reducible refine' rd_var ?h0 ?_); (case h0 => rfl))
  | with_reducible refine rd_c ?_
  | with_reducible refine rd_op ?_
  | with_reducible refine rd_nil ?_
  | with_reducible refine rd_cons ?_
  | with_reducible refine rd_tup ?_
  | with_reducible refine rd_lst ?_
  | with_reducible refine rd_ifs ?_
  | with_reducible refine rd_seq ?_
  | with_reducible refine rd_next ?_
  | with_reducible refine rd_ret ?_
  | with_reducible refine rd_asg ?_
  | ((with_reducible refine' rd_gset ?hs ?_); (case hs => ((simp only [L2.start, List.map_cons, List.map_nil, List.length_cons, List.length_nil, List.cons_append, List.nil_append, List.set_cons_zero, List.set_cons_succ, Nat.reduceAdd, Nat.reduceSub, Nat.zero_add, List.reduceReplicate]); rfl)))
  | with_reducible refine rd_drop ?_
  | with_reducible refine rd_test ?_
  | with_reducible refine rd_B ?_
  | with_reducible refine rd_bl ?_
  | with_reducible refine rd_blP ?_
  | with_reducible refine rd_andV ?_
  | with_reducible refine rd_orV ?_
  | with_reducible refine rd_notV ?_
  | with_reducible refine rd_and ?_
  | with_reducible refine rd_or ?_
  | with_reducible refine rd_not ?_
  | with_reducible refine rd_chain ?_
  | with_reducible refine rd_dput ?_
  | with_reducible refine rd_dget ?_
  | with_reducible refine rd_cb ?_
  | with_reducible refine rd_call ?_
  | with_reducible refine rd_un ?_
  | with_reducible refine rd_sl ?_
  | with_reducible refine rd_nopart ?_
  | with_reducible refine rd_part ?_
  | with_reducible refine rd_intP ?_
  | with_reducible refine rd_rU ?_
  | with_reducible refine rd_fld ?_
  | with_reducible refine rd_eqI ?_
  | with_reducible refine rd_neI ?_
  | with_reducible refine rd_mko ?_
  | with_reducible refine rd_bm ?_
  | with_reducible refine rd_gsub ?_
  | with_reducible refine rd_i0 ?_)))
theorem ok_stream_init (T : Tx K mg) (B : Bk K mg T) : FnOk P w K mg base CX0 1 B.NoStream_init.f B.NoStream_init.fd ["self"] spPass := by
  refine B.NoStream_init.F.ok sc_NoStream_init (fun vs H Q E h => ?_) (fun cdv A outer s H vs Q E hr h => ?_)
  · obtain ⟨a, rfl, _⟩ := h
    rfl
  · obtain ⟨a, rfl, q⟩ := h
    refine ⟨_, (pss_one ps_pass), ?_⟩
    exact q
theorem ok_check_stream (T : Tx K mg) (B : Bk K mg T) : FnOk P w K mg base (L2.CX P w) 4 B.check_stream.f B.check_stream.fd ["web", "stream"] (spOr (spCkStr T.c_Web) T.c_Web T.c_NoStream 0) := by
  have G_is_stream := ok_is_stream (P := P) (w := w) (base := base) T B
  have G_NoStream_init := ok_stream_init (P := P) (w := w) (base := base) T B
  refine B.check_stream.F.okX sc_check_stream (fun vs H Q E h => ?_) (fun cdv A outer s H vs Q E hr h => ?_)
  · rcases h with h | h
    · obtain ⟨p, a, m, L, sp, mo, d, x, rfl, _⟩ := h
      rfl
    · exact h.len
  · rcases h with h | h
    · obtain ⟨p, a, m, L, sp, mo, d, x, rfl, hw, hR, hd, hs, q⟩ := h
      refine ⟨_, (pss_one (ps_if (pt_not (pt_val (pe_call G_is_stream (hr.mono (by decide)) rfl B.is_stream.m B.is_stream.F.kp B.is_stream.b .nil pass0 (pa_cons (pv 0) (pa_cons (pv 1) pa_nil))))) (pss_one (ps_raise rfl (takes_of rfl rfl rfl rfl) (pmk_pass T.x_NoStream B.NoStream_init.a B.NoStream_init.t G_NoStream_init (hr.mono (by decide)) B.NoStream_init.b pass0 rfl T.g_NoStream))) pss_nil)), ?_⟩
      have hm := hR.parts
      walk_at "rd"
      refine ⟨p, a, m, L, sp, mo, d, x, rfl, hw, hR.len, by omega, by omega, hd, fun H1 s1 => ?_⟩
      rw [hs]
      walk_at "rd"
      refine rd_no rfl ?_
      exact q _ s1
    · obtain ⟨p, a, m, L, sp, mo, d, x, rest, rfl, hl, hw, hR, hd, hs, q⟩ := h
      cases List.eq_nil_of_length_eq_zero hl
      refine ⟨_, (pss_one (ps_if (pt_not (pt_val (pe_call G_is_stream (hr.mono (by decide)) rfl B.is_stream.m B.is_stream.F.kp B.is_stream.b .nil pass0 (pa_cons (pv 0) (pa_cons (pv 1) pa_nil))))) (pss_one (ps_raise rfl (takes_of rfl rfl rfl rfl) (pmk_pass T.x_NoStream B.NoStream_init.a B.NoStream_init.t G_NoStream_init (hr.mono (by decide)) B.NoStream_init.b pass0 rfl T.g_NoStream))) pss_nil)), ?_⟩
      have hm := hR.parts
      walk_at "rd"
      refine ⟨p, a, m, L, sp, mo, d, x, rfl, hw, hR.len, by omega, by omega, hd, fun H1 s1 => ?_⟩
      rw [hs]
      walk_at "rd"
      refine rd_yes rfl ?_
      intro e he
      exact ⟨⟨e, rfl, rfl, rfl⟩, q _ s1⟩
theorem ok_worth (T : Tx K mg) (B : Bk K mg T) : FnOk P w K mg base (L2.CX P w) 5 B.worth.f B.worth.fd ["web", "stream"] (spOr (spWorth T.c_Web) T.c_Web T.c_NoStream 0) := by
  have G_check_stream := ok_check_stream (P := P) (w := w) (base := base) T B
  have G_gain := ok_gain (P := P) (w := w) (base := base) T B
  refine B.worth.F.okX sc_worth (fun vs H Q E h => ?_) (fun cdv A outer s H vs Q E hr h => ?_)
  · rcases h with h | h
    · obtain ⟨p, a, m, L, sp, mo, c, U, rfl, _⟩ := h
      rfl
    · exact h.len
  · rcases h with h | h
    rotate_left
    · obtain ⟨p, a, m, L, sp, mo, d, x, rest, rfl, hl, hw, hR, hd, hs, q⟩ := h
      cases List.eq_nil_of_length_eq_zero hl
      refine ⟨_, (pss_cons (ps_expr (pe_call G_check_stream (hr.mono (by decide)) rfl B.check_stream.m B.check_stream.F.kp B.check_stream.b .nil (passes_call (takes_of rfl rfl rfl rfl) (fun _ _ _ _ h => h)) (pa_cons (pv 0) (pa_cons (pv 1) pa_nil))))
      (pss_one (ps_ret (pe_call G_gain (hr.mono (by decide)) rfl B.gain.m B.gain.F.kp B.gain.b .nil pass0 (pa_cons (pv 0) (pa_cons (pv 1) (pa_cons (pe_fld (pv 0) rfl) pa_nil))))))), ?_⟩
      walk_at "rd"
      exact .inr ⟨p, a, m, L, sp, mo, d, x, [], rfl, rfl, hw, hR, hd, hs, q⟩
    obtain ⟨p, a, m, L, sp, mo, c, U, rfl, hw, hR, hd, hs, q⟩ := h
    refine ⟨_, (pss_cons (ps_expr (pe_call G_check_stream (hr.mono (by decide)) rfl B.check_stream.m B.check_stream.F.kp B.check_stream.b .nil (passes_call (takes_of rfl rfl rfl rfl) (fun _ _ _ _ h => h)) (pa_cons (pv 0) (pa_cons (pv 1) pa_nil))))
      (pss_one (ps_ret (pe_call G_gain (hr.mono (by decide)) rfl B.gain.m B.gain.F.kp B.gain.b .nil pass0 (pa_cons (pv 0) (pa_cons (pv 1) (pa_cons (pe_fld (pv 0) rfl) pa_nil))))))), ?_⟩
    walk_at "rd"
    refine .inl ⟨p, a, m, L, sp, mo, strD U, .ref c, rfl, hw, hR, hd, hs, fun H1 s1 => ?_⟩
    have hw1 := hw.keep (Keep.same s1)
    obtain ⟨dx, v2, v5, v6, ha, t2, hwy, hlt⟩ := id hw1
    walk_at "rd"
    refine ⟨a, T.c_Web, dx, _, _, rfl, ha.2, T.W.cl, T.na_mouth, wf_mouth _ _ _ _ _ _, ?_⟩
    walk_at "rd"
    exact ⟨p, a, m, L, sp, mo, c, U, mo, rfl, hw1, hR.len, isStr_len hs, s1 _ _ (tp_strD hd).2, fun H2 s2 => q _ (s1.trans s2)⟩
/-- room of a stream: of two things -/
def spRoomX (C CH CT : Addr) : Sp := fun vs H Q E => ∃ (p a : Addr) (m : Int) (L : List Tie) (sp mo : Int) (c : Addr) (U : List Int) (d e : PyData) (x y : V), vs = [.ref a, .ref c, x, y] ∧ WebAt C p H a m L sp mo ∧ Right m L sp mo ∧ Tp C p H (strD U) (.ref c) ∧ isStr m L sp mo (strD U) = true ∧ Tp C p H d x ∧ Tp C p H e y ∧
  ((isNb m d && isNb m e) = false → ∀ H', Same H H' → E (.ref CH) none H') ∧ (∀ i j, d = .int i → e = .int j → isNb m d = true → isNb m e = true → ∀ H', Same H H' → (letsOf L i j ≠ none → ∀ z : Int, Q (.int z) H') ∧ (letsOf L i j = none → E (.ref CT) none H'))
end
end Mw

/-! N5 -/
namespace Mw
open PySem L2
/-- a tie between i and j stands at k, its units u; r1 if it leads from i to j, else r2 -/
def TieUp (L : List Tie) (U : List Int) (i j : Int) (r : Tie → Int → Int) (r' : Tie → Int → Int) (z : Int) : Prop := ∃ (k : Nat) (q : Tie) (u : Int), L[k]? = some q ∧ U[k]? = some u ∧ ((q.1 = i ∧ q.2.1 = j ∧ z = r q u) ∨ (q.1 = j ∧ q.2.1 = i ∧ z = r' q u))
def spFlow (C : Addr) : Sp := fun vs H Q _ => ∃ (p : Addr) (v : V) (m : Int) (L : List Tie) (sp mo : Int) (c : Addr) (U : List Int) (i j z : Int), vs = [v, .ref c, .int i, .int j] ∧ Tp C p H (planD m L sp mo) v ∧ Right m L sp mo ∧ H c = some (.tup (U.map V.int)) ∧
  TieUp L U i j (fun _ u => u) (fun _ u => -u) z ∧ ∀ H', Same H H' → Q (.int z) H'
def spLRoom (C : Addr) : Sp := fun vs H Q _ => ∃ (p : Addr) (v : V) (m : Int) (L : List Tie) (sp mo : Int) (c : Addr) (U : List Int) (i j z : Int), vs = [v, .ref c, .int i, .int j] ∧ Tp C p H (planD m L sp mo) v ∧ Right m L sp mo ∧ H c = some (.tup (U.map V.int)) ∧
  TieUp L U i j (fun q u => q.2.2.1 - u) (fun q u => q.2.2.2 - (-u)) z ∧ ∀ H', Same H H' → Q (.int z) H'
def spCome (C : Addr) : Sp := fun vs H Q _ => ∃ (p : Addr) (v : V) (m : Int) (L : List Tie) (sp mo : Int) (c : Addr) (U : List Int) (h : Int), vs = [v, .ref c, .int h] ∧ Tp C p H (planD m L sp mo) v ∧ Right m L sp mo ∧ U.length = L.length ∧ H c = some (.tup (U.map V.int)) ∧ ∀ H', Same H H' → Q (.int (gainOf L U h)) H'
theorem perm_sum {l l' : List Int} (h : l.Perm l') : l.sum = l'.sum := by
  induction h with
  | nil => rfl
  | cons x _ ih => rw [List.sum_cons, List.sum_cons, ih]
  | swap x y l => rw [List.sum_cons, List.sum_cons, List.sum_cons, List.sum_cons]; omega
  | trans _ _ h1 h2 => rw [h1, h2]
/-- the flow from other to h, told by the ties -/
def flowTo (L : List Tie) (U : List Int) (h i : Int) : Int := ((L.zip U).find? fun x => atP i h x.1).elim 0 fun x => if i > h then -x.2 else x.2
theorem zip_get {L : List Tie} {U : List Int} {k : Nat} {q : Tie} {u : Int} (h1 : L[k]? = some q) (h2 : U[k]? = some u) : (L.zip U)[k]? = some (q, u) := by rw [List.getElem?_zip_eq_some]; exact ⟨h1, h2⟩
theorem Right.findz {m : Int} {L : List Tie} {sp mo : Int} {U : List Int} (hR : Right m L sp mo) {k : Nat} {q : Tie} {u : Int} {i j : Int} (hq : L[k]? = some q) (hu : U[k]? = some u) (h : atP i j q = true) : (L.zip U).find? (fun x => atP i j x.1) = some (q, u) :=
  find_first (zip_get hq hu) h fun k' r hk hr => by
    rw [List.getElem?_zip_eq_some] at hr
    cases e : atP i j r.1 with
    | false => rfl
    | true =>
      unfold atP at e h
      simp only [Bool.and_eq_true, beq_iff_eq] at e h
      have := hR.one hr.1 hq (by rw [e.1, h.1]) (by rw [e.2, h.2])
      omega
theorem TieUp.at {m : Int} {L : List Tie} {sp mo : Int} {U : List Int} (hR : Right m L sp mo) {i j : Int} {r r' : Tie → Int → Int} {z : Int} (h : TieUp L U i j r r' z) : ∃ (k : Nat) (q : Tie) (u : Int), L[k]? = some q ∧ U[k]? = some u ∧ atP i j q = true ∧ z = if i > j then r' q u else r q u := by
  obtain ⟨k, q, u, hq, hu, h⟩ := h
  have bq := (hR.parts.2.2.1 q (List.mem_of_getElem? hq)).2.1
  refine ⟨k, q, u, hq, hu, ?_, ?_⟩
  · unfold atP
    simp only [Bool.and_eq_true, beq_iff_eq]
    rcases h with ⟨e1, e2, _⟩ | ⟨e1, e2, _⟩ <;> omega
  · rcases h with ⟨e1, e2, e3⟩ | ⟨e1, e2, e3⟩
    · rw [if_neg (by omega)]
      exact e3
    · rw [if_pos (by omega)]
      exact e3
theorem flowTo_up {m : Int} {L : List Tie} {sp mo : Int} {U : List Int} (hR : Right m L sp mo) {h i z : Int} (t : TieUp L U i h (fun _ u => u) (fun _ u => -u) z) : flowTo L U h i = z := by
  obtain ⟨k, q, u, hq, hu, ha, e⟩ := t.at hR
  unfold flowTo
  rw [hR.findz hq hu ha, e]
  rfl
theorem nb_up {L : List Tie} {U : List Int} (hU : U.length = L.length) {h o : Int} (hm : o ∈ aboveOf L h ++ belowOf L h) : ∃ z, TieUp L U o h (fun _ u => u) (fun _ u => -u) z := by
  have up : ∀ q ∈ L, ∃ (k : Nat) (u : Int), L[k]? = some q ∧ U[k]? = some u := fun q hq => by
    obtain ⟨k, hk⟩ := List.mem_iff_getElem?.mp hq
    have hl : k < U.length := by
      have := (List.getElem?_eq_some_iff.mp hk).1
      omega
    exact ⟨k, U[k], hk, by simp [hl]⟩
  rcases List.mem_append.mp hm with x | x
  · obtain ⟨q, hq, rfl⟩ := List.mem_map.mp x
    obtain ⟨hq1, hq2⟩ := List.mem_filter.mp hq
    obtain ⟨k, u, hk, hu⟩ := up q hq1
    exact ⟨_, k, q, u, hk, hu, .inr ⟨by simpa using hq2, rfl, rfl⟩⟩
  · obtain ⟨q, hq, rfl⟩ := List.mem_map.mp x
    obtain ⟨hq1, hq2⟩ := List.mem_filter.mp hq
    obtain ⟨k, u, hk, hu⟩ := up q hq1
    exact ⟨_, k, q, u, hk, hu, .inl ⟨rfl, by simpa using hq2, rfl⟩⟩
/-- all ties of a house: the flows from its neighbours are what it gains -/
theorem come_gain {m : Int} {L : List Tie} {sp mo : Int} {U : List Int} (hR : Right m L sp mo) (hU : U.length = L.length) {h : Int} {ns : List Int} (hp : ns.Perm (aboveOf L h ++ belowOf L h)) : (ns.map (flowTo L U h)).sum = gainOf L U h := by
  rw [perm_sum (hp.map _), List.map_append, List.sum_append]
  have e0 : L = (L.zip U).map (·.1) := by rw [List.map_fst_zip]; omega
  have e1 : (belowOf L h).map (flowTo L U h) = comes L U h := by
    unfold belowOf comes
    rw [show L.filter (fun q => decide (q.2.1 = h)) = ((L.zip U).filter fun x => decide (x.1.2.1 = h)).map (·.1) from by
      conv => lhs; rw [e0]
      rw [List.filter_map]; rfl]
    rw [List.map_map, List.map_map]
    refine List.map_congr_left fun x hx => ?_
    obtain ⟨hx1, hx2⟩ := List.mem_filter.mp hx
    obtain ⟨k, hk⟩ := List.mem_iff_getElem?.mp hx1
    rw [List.getElem?_zip_eq_some] at hk
    exact flowTo_up hR ⟨k, x.1, x.2, hk.1, hk.2, .inl ⟨rfl, by simpa using hx2, rfl⟩⟩
  have e2 : (aboveOf L h).map (flowTo L U h) = (goes L U h).map fun u => -u := by
    unfold aboveOf goes
    rw [show L.filter (fun q => decide (q.1 = h)) = ((L.zip U).filter fun x => decide (x.1.1 = h)).map (·.1) from by
      conv => lhs; rw [e0]
      rw [List.filter_map]; rfl]
    rw [List.map_map, List.map_map, List.map_map]
    refine List.map_congr_left fun x hx => ?_
    obtain ⟨hx1, hx2⟩ := List.mem_filter.mp hx
    obtain ⟨k, hk⟩ := List.mem_iff_getElem?.mp hx1
    rw [List.getElem?_zip_eq_some] at hk
    exact flowTo_up hR ⟨k, x.1, x.2, hk.1, hk.2, .inr ⟨by simpa using hx2, rfl, rfl⟩⟩
  have e3 : ∀ l : List Int, (l.map fun u => -u).sum = -l.sum := fun l => by
    induction l with
    | nil => rfl
    | cons x l ih => rw [List.map_cons, List.sum_cons, List.sum_cons, ih]; omega
  rw [e1, e2, e3]
  unfold gainOf
  omega
section
variable {P : Program} {w : World} {K : PySem.W.Frag} {mg : Str → Option Value} {base : Heap}
local macro_rules | `(tactic| walk_at "rd") => `(tactic| (repeat (first
  | ((with_reducible refine' rd_var ?h0 ?_); (case h0 => rfl))
  | with_reducible refine rd_c ?_
  | with_reducible refine rd_op ?_
  | with_reducible refine rd_nil ?_
  | with_reducible refine rd_cons ?_
  | with_reducible refine rd_tup ?_
  | with_reducible refine rd_lst ?_
  | with_reducible refine rd_ifs ?_
  | with_reducible refine rd_seq ?_
  | with_reducible refine rd_next ?_
  | with_reducible refine rd_ret ?_
  | with_reducible refine rd_asg ?_
  | ((with_reducible refine' rd_gset ?hs ?_); (case hs => ((simp only [L2.start, List.map_cons, List.map_nil, List.length_cons, List.length_nil, List.cons_append, List.nil_append, List.set_cons_zero, List.set_cons_succ, Nat.reduceAdd, Nat.reduceSub, Nat.zero_add, List.reduceReplicate]); rfl)))
  | with_reducible refine rd_drop ?_
  | with_reducible refine rd_test ?_
  | with_reducible refine rd_B ?_
  | with_reducible refine rd_bl ?_
  | with_reducible refine rd_blP ?_
  | with_reducible refine rd_andV ?_
  | with_reducible refine rd_orV ?_
  | with_reducible refine rd_notV ?_
  | with_reducible refine rd_and ?_
  | with_reducible refine rd_or ?_
  | with_reducible refine rd_not ?_
  | with_reducible refine rd_chain ?_
  | with_reducible refine rd_dput ?_
  | with_reducible refine rd_dget ?_
  | with_reducible refine rd_cb ?_
  | with_reducible refine rd_call ?_
  | with_reducible refine rd_un ?_
  | with_reducible refine rd_sl ?_
  | with_reducible refine rd_nopart ?_
  | with_reducible refine rd_part ?_
  | with_reducible refine rd_intP ?_
  | with_reducible refine rd_rU ?_
  | with_reducible refine rd_fld ?_
  | with_reducible refine rd_eqI ?_
  | with_reducible refine rd_neI ?_
  | with_reducible refine rd_mko ?_
  | with_reducible refine rd_bm ?_
  | with_reducible refine rd_gsub ?_
  | with_reducible refine rd_i0 ?_)))
theorem ok_law_flow (T : Tx K mg) (B : Bk K mg T) : FnOk P w K mg base CX0 2 B.law_flow.f B.law_flow.fd ["plan", "stream", "one", "other"] (spFlow T.c_Web) := by
  have G_law_at := ok_law_at (P := P) (w := w) (base := base) T B
  refine B.law_flow.F.ok sc_law_flow (fun vs H Q E h => ?_) (fun cdv A outer s H vs Q E hr h => ?_)
  · obtain ⟨p, v, m, L, sp, mo, c, U, i, j, z, rfl, _⟩ := h
    rfl
  · obtain ⟨p, v, m, L, sp, mo, c, U, i, j, z, rfl, hv, hR, hc, ht, q⟩ := h
    refine ⟨_, (pss_cons (ps_set (i := 4) sc_law_flow.nd rfl (Or.inl rfl) (pe_ix ix_tup (pv 1) (pe_call G_law_at (hr.mono (by decide)) rfl B.law_at.m B.law_at.F.kp B.law_at.b .nil pass0 (pa_cons (pv 0) (pa_cons (pv 2) (pa_cons (pv 3) pa_nil)))) (fun _ _ => rfl)))
      (pss_cons (ps_if (pt_cmpR op_gt (pv 2) (pv 3) (nomark _)) (pss_one (ps_set (i := 4) sc_law_flow.nd rfl (Or.inl rfl) (pe_un un_neg (pv 4)))) pss_nil)
      (pss_one (ps_ret (pv 4))))), ?_⟩
    obtain ⟨k, t, u, hk, hu, ha, ez⟩ := ht.at hR
    walk_at "rd"
    refine ⟨p, v, m, L, sp, mo, i, j, rfl, hv, hR.len, fun H1 s1 => ⟨fun k' t' hk' ha' _ => ?_, fun hno => ?_⟩⟩
    · have e : k' = k := by
        unfold atP at ha ha'
        simp only [Bool.and_eq_true, beq_iff_eq] at ha ha'
        exact hR.one hk' hk (by rw [ha.1, ha'.1]) (by rw [ha.2, ha'.2])
      subst e
      refine rd_ixT (s1 _ _ hc) (atI_nat (by rw [List.getElem?_map, hu]; rfl)) ?_
      walk_at "rd"
      subst ez
      refine rd_ite (fun h1 => ?_) (fun h1 => ?_)
      · walk_at "rd"
        rw [if_pos (by simpa using h1)] at q
        exact q _ s1
      · walk_at "rd"
        rw [if_neg (by simpa using h1)] at q
        exact q _ s1
    · rw [hno k t hk] at ha
      cases ha
theorem ok_law_room (T : Tx K mg) (B : Bk K mg T) : FnOk P w K mg base CX0 3 B.law_room.f B.law_room.fd ["plan", "stream", "one", "other"] (spLRoom T.c_Web) := by
  have G_law_lets := ok_law_lets (P := P) (w := w) (base := base) T B
  have G_law_flow := ok_law_flow (P := P) (w := w) (base := base) T B
  refine B.law_room.F.ok sc_law_room (fun vs H Q E h => ?_) (fun cdv A outer s H vs Q E hr h => ?_)
  · obtain ⟨p, v, m, L, sp, mo, c, U, i, j, z, rfl, _⟩ := h
    rfl
  · obtain ⟨p, v, m, L, sp, mo, c, U, i, j, z, rfl, hv, hR, hc, ht, q⟩ := h
    refine ⟨_, (pss_one (ps_ret (pe_op op_sub (pe_call G_law_lets (hr.mono (by decide)) rfl B.law_lets.m B.law_lets.F.kp B.law_lets.b .nil pass0 (pa_cons (pv 0) (pa_cons (pv 2) (pa_cons (pv 3) pa_nil)))) (pe_call G_law_flow (hr.mono (by decide)) rfl B.law_flow.m B.law_flow.F.kp B.law_flow.b .nil pass0 (pa_cons (pv 0) (pa_cons (pv 1) (pa_cons (pv 2) (pa_cons (pv 3) pa_nil)))))))), ?_⟩
    obtain ⟨k, t, u, hk, hu, ha, ez⟩ := ht.at hR
    obtain ⟨k0, t0, u0, hk0, hu0, h0⟩ := ht
    walk_at "rd"
    refine ⟨p, v, m, L, sp, mo, i, j, t, rfl, hv, hR.len, hR.find hk ha, fun H1 s1 => ?_⟩
    walk_at "rd"
    have e : k0 = k ∧ t0 = t ∧ u0 = u := by
      have bq := (hR.parts.2.2.1 t0 (List.mem_of_getElem? hk0)).2.1
      have ek : k0 = k := by
        unfold atP at ha
        simp only [Bool.and_eq_true, beq_iff_eq] at ha
        refine hR.one hk0 hk ?_ ?_
        · rw [ha.1]
          rcases h0 with ⟨e1, e2, _⟩ | ⟨e1, e2, _⟩ <;> omega
        · rw [ha.2]
          rcases h0 with ⟨e1, e2, _⟩ | ⟨e1, e2, _⟩ <;> omega
      subst ek
      rw [hk] at hk0
      rw [hu] at hu0
      cases hk0
      cases hu0
      exact ⟨rfl, rfl, rfl⟩
    obtain ⟨rfl, rfl, rfl⟩ := e
    refine ⟨p, v, m, L, sp, mo, c, U, i, j, if i > j then -u0 else u0, rfl, Tp.keep (Keep.same s1) _ _ hv, hR, s1 _ _ hc, ⟨k0, t0, u0, hk0, hu0, ?_⟩, fun H2 s2 => ?_⟩
    · have bq := (hR.parts.2.2.1 t0 (List.mem_of_getElem? hk0)).2.1
      rcases h0 with ⟨e1, e2, _⟩ | ⟨e1, e2, _⟩
      · exact .inl ⟨e1, e2, by rw [if_neg (by omega)]⟩
      · exact .inr ⟨e1, e2, by rw [if_pos (by omega)]⟩
    · walk_at "rd"
      have z1 := q _ (s1.trans s2)
      rw [ez] at z1
      by_cases g : i > j
      · rw [if_pos g] at z1
        rw [if_pos g, if_pos g]
        exact z1
      · rw [if_neg g] at z1
        rw [if_neg g, if_neg g]
        exact z1
theorem ok_law_come (T : Tx K mg) (B : Bk K mg T) : FnOk P w K mg base CX0 3 B.law_come.f B.law_come.fd ["plan", "stream", "house"] (spCome T.c_Web) := by
  have G_law_near := ok_law_near (P := P) (w := w) (base := base) T B
  have G_law_flow := ok_law_flow (P := P) (w := w) (base := base) T B
  refine B.law_come.F.ok sc_law_come (fun vs H Q E h => ?_) (fun cdv A outer s H vs Q E hr h => ?_)
  · obtain ⟨p, v, m, L, sp, mo, c, U, h, rfl, _⟩ := h
    rfl
  · obtain ⟨p, v, m, L, sp, mo, c, U, h, rfl, hv, hR, hU, hc, q⟩ := h
    refine ⟨_, (pss_one (ps_ret (pe_callB (cr_sum rfl) (by rfl) T.b_sum (by decide +kernel) (pa_cons (pe_lc (own := [("other", 3)]) (g := gName 3) rfl sc_law_come.nd (pi_list (pe_call G_law_near (hr.mono (by decide)) rfl B.law_near.m B.law_near.F.kp B.law_near.b .nil pass0 (pa_cons (pv 0) (pa_cons (pv 2) pa_nil)))) (blkOk_by (own := [("other", 3)]) (N := ["plan", "stream", "house", "other"]) (sc := defScope s_law_come) (by decide +kernel)) (fun _ _ _ _ _ => pg_name (i := 3) sc_law_come.nd rfl (Or.inl rfl)) (fun _ _ _ _ _ => pts_nil) (fun _ _ _ _ _ => (pe_call G_law_flow (hr.mono (by decide)) rfl B.law_flow.m B.law_flow.F.kp B.law_flow.b .nil pass0 (pa_cons (pv 0) (pa_cons (pv 1) (pa_cons (pv 3) (pa_cons (pv 2) pa_nil))))))) pa_nil)))), ?_⟩
    walk_at "rd"
    refine ⟨_, rfl, _, rfl, p, v, m, L, sp, mo, h, rfl, hv, hR.len, fun r ns H1 hr1 s1 hx hpm hpw => ⟨r, rfl, ⟨_, SqL.of hx⟩, fun D hD => lc_list (K := K) (a := r) (xs := ns.map V.int)
      (fun i H2 => Same H1 H2 ∧ H2 D = some (.lst (((ns.take i).map (flowTo L U h)).map V.int))) ⟨same_new hD, upd_same⟩ (fun i H2 _ hh => SqL.of (hh.1 _ _ hx)) ?_ ?_⟩⟩
    · rintro i y H2 hi ⟨hs, hacc⟩
      obtain ⟨o, ho, rfl⟩ := mapint_get hi
      refine ⟨rfl, ?_⟩
      refine rd_tyes ?_
      refine rd_yes rfl ?_
      have s2 := s1.trans hs
      have hmem : o ∈ aboveOf L h ++ belowOf L h := hpm.mem_iff.mp (List.mem_of_getElem? ho)
      obtain ⟨z, hz⟩ := nb_up hU hmem
      walk_at "rd"
      refine ⟨p, v, m, L, sp, mo, c, U, o, h, z, rfl, Tp.keep (Keep.same s2) _ _ hv, hR, s2 _ _ hc, hz, fun H3 s3 => ?_⟩
      refine ⟨_, s3 _ _ hacc, ?_, fun b u e => ?_, ?_⟩
      · refine Nat.lt_of_le_of_lt (?_ : _ ≤ 200) (by decide)
        rw [List.length_map, List.length_map]
        have hl := hR.len
        refine Nat.le_trans (List.length_take_le' _ _) ?_
        rw [hpm.length_eq, List.length_append, aboveOf, belowOf, List.length_map, List.length_map]
        have h1 := List.length_filter_le (fun q : Tie => decide (q.1 = h)) L
        have h2 := List.length_filter_le (fun q : Tie => decide (q.2.1 = h)) L
        omega
      · rw [upd_ne (ne_of_none e hD)]
        exact s3 _ _ (hs b u e)
      · rw [upd_same, take_snoc ho, List.map_append, List.map_append, ← flowTo_up hR hz]
        rfl
    · rintro H2 ⟨s2, a2⟩
      rw [List.length_map, List.take_length] at a2
      dsimp only
      walk_at "rd"
      refine ⟨D, _, rfl, SqL.of a2, ?_⟩
      rw [come_gain hR hU hpm]
      exact q _ (s1.trans s2)
end
end Mw

/-! N6 -/
namespace Mw
open PySem L2
def spLWorth (C : Addr) : Sp := fun vs H Q _ => ∃ (p : Addr) (v : V) (m : Int) (L : List Tie) (sp mo : Int) (c : Addr) (U : List Int), vs = [v, .ref c] ∧ Tp C p H (planD m L sp mo) v ∧ Right m L sp mo ∧ U.length = L.length ∧ H c = some (.tup (U.map V.int)) ∧ ∀ H', Same H H' → Q (.int (gainOf L U mo)) H'
def spLIsStr (C : Addr) : Sp := fun vs H Q _ => ∃ (p : Addr) (v x : V) (m : Int) (L : List Tie) (sp mo : Int) (d : PyData), vs = [v, x] ∧ Tp C p H (planD m L sp mo) v ∧ Right m L sp mo ∧ Tp C p H d x ∧ ∀ H', Same H H' → Q (.bl (isStr m L sp mo d)) H'
theorem rd_sl2b {K : PySem.W.Frag} {H : Hp} {Q : VK} {a : Addr} {x y z u : V} (h : SqT K H a [x, y, z, u]) (q : ∀ p, H p = none → Q (.ref p) (upd H p (.tup [z, u]))) : rSlA K (.ref a) (some 2) none H Q :=
  ⟨a, _, rfl, h, fun e => absurd e.1 (show ¬ (HT.sIx 4 0 (some 2) = 0) by decide), fun _ p hp => q p hp⟩
theorem inI_fit {q : Tie} {d : PyData} : inI (-q.2.2.2) q.2.2.1 d = fitD q d := by
  cases d <;> rfl
theorem none_left {R : List Int} {c g : Int → Bool} : decide ((R.filter fun h => c h && !g h).length = 0) = ((R.filter c).map g).all id := by
  induction R with
  | nil => rfl
  | cons x R ih =>
    cases hc : c x <;> cases hg : g x <;> simp [hc, hg, List.filter_cons] at ih ⊢ <;> exact ih
section
variable {P : Program} {w : World} {K : PySem.W.Frag} {mg : Str → Option Value} {base : Heap}
local macro_rules | `(tactic| walk_at "rd") => `(tactic| (repeat (first
  | ((with_reducible refine' rd_var ?h0 ?_); (case h0 => rfl))
  | with_reducible refine rd_c ?_
  | with_reducible refine rd_op ?_
  | with_reducible refine rd_nil ?_
  | with_reducible refine rd_cons ?_
  | with_reducible refine rd_tup ?_
  | with_reducible refine rd_lst ?_
  | with_reducible refine rd_ifs ?_
  | with_reducible refine rd_seq ?_
  | with_reducible refine rd_next ?_
  | with_reducible refine rd_ret ?_
  | with_reducible refine rd_asg ?_
  | ((with_reducible refine' rd_gset ?hs ?_); (case hs => ((simp only [L2.start, List.map_cons, List.map_nil, List.length_cons, List.length_nil, List.cons_append, List.nil_append, List.set_cons_zero, List.set_cons_succ, Nat.reduceAdd, Nat.reduceSub, Nat.zero_add, List.reduceReplicate]); rfl)))
  | with_reducible refine rd_drop ?_
  | with_reducible refine rd_test ?_
  | with_reducible refine rd_B ?_
  | with_reducible refine rd_bl ?_
  | with_reducible refine rd_blP ?_
  | with_reducible refine rd_andV ?_
  | with_reducible refine rd_orV ?_
  | with_reducible refine rd_notV ?_
  | with_reducible refine rd_and ?_
  | with_reducible refine rd_or ?_
  | with_reducible refine rd_not ?_
  | with_reducible refine rd_chain ?_
  | with_reducible refine rd_dput ?_
  | with_reducible refine rd_dget ?_
  | with_reducible refine rd_cb ?_
  | with_reducible refine rd_call ?_
  | with_reducible refine rd_un ?_
  | with_reducible refine rd_sl ?_
  | with_reducible refine rd_nopart ?_
  | with_reducible refine rd_part ?_
  | with_reducible refine rd_intP ?_
  | with_reducible refine rd_rU ?_
  | with_reducible refine rd_fld ?_
  | with_reducible refine rd_eqI ?_
  | with_reducible refine rd_neI ?_
  | with_reducible refine rd_mko ?_
  | with_reducible refine rd_bm ?_
  | with_reducible refine rd_gsub ?_
  | with_reducible refine rd_i0 ?_)))
theorem ok_law_worth (T : Tx K mg) (B : Bk K mg T) : FnOk P w K mg base CX0 4 B.law_worth.f B.law_worth.fd ["plan", "stream"] (spLWorth T.c_Web) := by
  have G_law_come := ok_law_come (P := P) (w := w) (base := base) T B
  refine B.law_worth.F.ok sc_law_worth (fun vs H Q E h => ?_) (fun cdv A outer s H vs Q E hr h => ?_)
  · obtain ⟨p, v, m, L, sp, mo, c, U, rfl, _⟩ := h
    rfl
  · obtain ⟨p, v, m, L, sp, mo, c, U, rfl, hv, hR, hU, hc, q⟩ := h
    refine ⟨_, (pss_one (ps_ret (pe_call G_law_come (hr.mono (by decide)) rfl B.law_come.m B.law_come.F.kp B.law_come.b .nil pass0 (pa_cons (pv 0) (pa_cons (pv 1) (pa_cons (pe_ix ix_tup (pv 0) pe_int (fun _ _ => rfl)) pa_nil)))))), ?_⟩
    obtain ⟨a, xs, rfl, ha, hx⟩ := tp_tup' (id hv)
    obtain ⟨v1, v2, v3, v4, rfl, t1, t2, t3, t4⟩ := tpAll4 hx
    cases tp_int' t4
    walk_at "rd"
    refine rd_ixT ha.2 rfl ?_
    exact ⟨p, .ref a, m, L, sp, mo, c, U, mo, rfl, hv, hR, hU, hc, q⟩
end
end Mw

/-! N7 -/
/-! Ways: what they are made of, and what is sent on them. -/
namespace Mw
open PySem L2
/-- a number of distinct houses of a web is at most how many it has -/
theorem few_nat : ∀ (n : Nat) (l : List Nat), l.Nodup → (∀ x ∈ l, x < n) → l.length ≤ n
  | 0, l, _, h => by
    cases l with
    | nil => exact Nat.le_refl _
    | cons x l => exact absurd (h x (by simp)) (Nat.not_lt_zero _)
  | n + 1, l, hd, h => by
    by_cases hm : n ∈ l
    · have h1 := few_nat n (l.erase n) (hd.erase n) fun x hx => by
        have e := (hd.mem_erase_iff).mp hx
        have := h x e.2
        have := e.1
        omega
      rw [List.length_erase_of_mem hm] at h1
      omega
    · have h1 := few_nat n l hd fun x hx => by
        have := h x hx
        have : x ≠ n := fun e => hm (e ▸ hx)
        omega
      omega
theorem few_int {m : Int} {l : List Int} (hd : l.Nodup) (h : ∀ x ∈ l, 0 ≤ x ∧ x < m) : l.length ≤ m.toNat := by
  have e := few_nat m.toNat (l.map Int.toNat) (List.Pairwise.map _ (fun a b hab => hab) (by
    rw [List.Nodup] at hd
    refine hd.imp_of_mem fun {a b} ha hb hab => ?_
    have := h a ha
    have := h b hb
    omega)) fun x hx => by
      obtain ⟨y, hy, rfl⟩ := List.mem_map.mp hx
      have := h y hy
      omega
  rwa [List.length_map] at e
def roomUp (L : List Tie) (U : List Int) (i j z : Int) : Prop := TieUp L U i j (fun q u => q.2.2.1 - u) (fun q u => q.2.2.2 - (-u)) z
def Hop (L : List Tie) (U : List Int) (i j : Int) : Prop := ∃ z, 0 < z ∧ roomUp L U i j z
def roomTo (L : List Tie) (U : List Int) (i j : Int) : Int := ((L.zip U).find? fun x => atP i j x.1).elim 0 fun x => if i > j then x.1.2.2.2 - (-x.2) else x.1.2.2.1 - x.2
theorem roomTo_up {m : Int} {L : List Tie} {sp mo : Int} {U : List Int} (hR : Right m L sp mo) {i j z : Int} (t : roomUp L U i j z) : roomTo L U i j = z := by
  obtain ⟨k, q, u, hq, hu, ha, e⟩ := t.at hR
  unfold roomTo
  rw [hR.findz hq hu ha, e]
  rfl
theorem Hop.to {m : Int} {L : List Tie} {sp mo : Int} {U : List Int} (hR : Right m L sp mo) {i j : Int} (h : Hop L U i j) : 0 < roomTo L U i j ∧ roomUp L U i j (roomTo L U i j) := by
  obtain ⟨z, h0, h⟩ := h
  rw [roomTo_up hR h]
  exact ⟨h0, h⟩
theorem nb_room {L : List Tie} {U : List Int} (hU : U.length = L.length) {h o : Int} (hm : o ∈ aboveOf L h ++ belowOf L h) : ∃ z, roomUp L U h o z := by
  obtain ⟨z, k, q, u, hk, hu, hh⟩ := nb_up hU hm
  rcases hh with ⟨e1, e2, _⟩ | ⟨e1, e2, _⟩
  · exact ⟨_, k, q, u, hk, hu, .inr ⟨e1, e2, rfl⟩⟩
  · exact ⟨_, k, q, u, hk, hu, .inl ⟨e1, e2, rfl⟩⟩
/-- the units of all ties are within what these let -/
def FitU (L : List Tie) (U : List Int) : Prop := ∀ (k : Nat) (q : Tie) (u : Int), L[k]? = some q → U[k]? = some u → -q.2.2.2 ≤ u ∧ u ≤ q.2.2.1
theorem Right.most {m : Int} {L : List Tie} {sp mo : Int} (hR : Right m L sp mo) {k : Nat} {q : Tie} (h : L[k]? = some q) : 0 ≤ q.1 ∧ q.1 < q.2.1 ∧ q.2.1 < m ∧ 0 ≤ q.2.2.1 ∧ q.2.2.1 < 1000000 ∧ 0 ≤ q.2.2.2 ∧ q.2.2.2 < 1000000 := hR.parts.2.2.1 q (List.mem_of_getElem? h)
theorem room_most {m : Int} {L : List Tie} {sp mo : Int} {U : List Int} (hR : Right m L sp mo) (hF : FitU L U) {i j z : Int} (t : roomUp L U i j z) : 0 ≤ z ∧ z < 2000000 := by
  obtain ⟨k, q, u, hq, hu, h⟩ := t
  have b := hR.most hq
  have f := hF k q u hq hu
  rcases h with ⟨_, _, e⟩ | ⟨_, _, e⟩ <;> dsimp only at e <;> omega
/-! ### the tree of houses that are reached -/
def kvsOf (b : Int) (ps : List (Int × Int)) : List (Key × V) := (.inl b, .non) :: ps.map fun x => (.inl x.1, .int x.2)
def lineOf (b : Int) (ps : List (Int × Int)) : List Int := b :: ps.map (·.1)
structure Tree (m : Int) (L : List Tie) (U : List Int) (b : Int) (ps : List (Int × Int)) : Prop where
  nd : (lineOf b ps).Nodup
  rg : ∀ h ∈ lineOf b ps, 0 ≤ h ∧ h < m
  up : ∀ (j : Nat) (x : Int × Int), ps[j]? = some x → (∃ k, k ≤ j ∧ (lineOf b ps)[k]? = some x.2) ∧ Hop L U x.2 x.1
theorem lineOf_snoc {b : Int} {ps : List (Int × Int)} {x : Int × Int} : lineOf b (ps ++ [x]) = lineOf b ps ++ [x.1] := by
  unfold lineOf
  rw [List.map_append]
  rfl
theorem kvsOf_snoc {b : Int} {ps : List (Int × Int)} {x : Int × Int} : kvsOf b (ps ++ [x]) = kvsOf b ps ++ [(.inl x.1, .int x.2)] := by
  unfold kvsOf
  rw [List.map_append]
  rfl
theorem lineOf_len {b : Int} {ps : List (Int × Int)} : (lineOf b ps).length = ps.length + 1 := by
  unfold lineOf
  simp
theorem kvsOf_len {b : Int} {ps : List (Int × Int)} : (kvsOf b ps).length = ps.length + 1 := by
  unfold kvsOf
  simp
theorem Tree.nil {m : Int} {L : List Tie} {U : List Int} {b : Int} (h0 : 0 ≤ b) (h1 : b < m) : Tree m L U b [] := ⟨by simp [lineOf], by simp [lineOf]; omega, fun j x h => by simp at h⟩
theorem Tree.len {m : Int} {L : List Tie} {U : List Int} {b : Int} {ps : List (Int × Int)} (h : Tree m L U b ps) : ps.length + 1 ≤ m.toNat := by
  have e := few_int h.nd h.rg
  rwa [lineOf_len] at e
theorem Tree.snoc {m : Int} {L : List Tie} {U : List Int} {b : Int} {ps : List (Int × Int)} (h : Tree m L U b ps) {o g : Int} {k : Nat} (hn : o ∉ lineOf b ps) (h0 : 0 ≤ o) (h1 : o < m) (hk : (lineOf b ps)[k]? = some g) (hh : Hop L U g o) : Tree m L U b (ps ++ [(o, g)]) := by
  have kl := (List.getElem?_eq_some_iff.mp hk).1
  rw [lineOf_len] at kl
  refine ⟨?_, ?_, ?_⟩
  · rw [lineOf_snoc, List.nodup_append]
    refine ⟨h.nd, by simp, fun a ha c hc => ?_⟩
    have : c = o := by simpa using hc
    intro e
    exact hn (by rw [← this, ← e]; exact ha)
  · intro a ha
    rw [lineOf_snoc] at ha
    rcases List.mem_append.mp ha with z | z
    · exact h.rg a z
    · have : a = o := by simpa using z
      omega
  · intro j x hx
    rw [lineOf_snoc]
    rw [List.getElem?_append] at hx
    by_cases hj : j < ps.length
    · rw [if_pos hj] at hx
      obtain ⟨⟨k', h1', h2'⟩, hu⟩ := h.up j x hx
      refine ⟨⟨k', h1', ?_⟩, hu⟩
      rw [List.getElem?_append, if_pos (List.getElem?_eq_some_iff.mp h2').1]
      exact h2'
    · rw [if_neg hj] at hx
      have hj0 : j - ps.length = 0 := by
        have := (List.getElem?_eq_some_iff.mp hx).1
        simp at this
        omega
      rw [hj0] at hx
      simp at hx
      subst hx
      refine ⟨⟨k, by omega, ?_⟩, hh⟩
      rw [List.getElem?_append, if_pos (by rw [lineOf_len]; exact kl)]
      exact hk
theorem kvs_none {b : Int} {ps : List (Int × Int)} {o : Int} (h : valV (kvsOf b ps) (.inl o) = none) : o ∉ lineOf b ps := by
  have e := valV_any (κ := Key) (.inl o) (kvsOf b ps)
  rw [h] at e
  simp only [kvsOf, Option.isSome_none, List.any_cons, Bool.or_eq_false_iff, decide_eq_false_iff_not, List.any_map, List.any_eq_false] at e
  intro hm
  unfold lineOf at hm
  rcases List.mem_cons.mp hm with z | z
  · exact e.1 (by rw [z])
  · obtain ⟨x, hx, rfl⟩ := List.mem_map.mp z
    exact e.2 x hx (by simp)
theorem map_find {ps : List (Int × Int)} : ∀ {j : Nat} {x : Int × Int}, (ps.map (·.1)).Nodup → ps[j]? = some x → valV (ps.map fun x => ((.inl x.1 : Key), V.int x.2)) (.inl x.1) = some (.int x.2) := by
  induction ps with
  | nil => intro j x _ h; simp at h
  | cons y ps ih =>
    intro j x hd h
    rw [List.map_cons, List.nodup_cons] at hd
    rw [List.map_cons]
    cases j with
    | zero =>
      simp at h
      subst h
      rw [valV_pos rfl]
    | succ j =>
      rw [List.getElem?_cons_succ] at h
      rw [valV_neg (fun e => ?_)]
      · exact ih hd.2 h
      · have e' : y.1 = x.1 := by simpa using e
        exact hd.1 (by rw [e']; exact List.mem_map.mpr ⟨x, List.mem_of_getElem? h, rfl⟩)
theorem Tree.val0 {m : Int} {L : List Tie} {U : List Int} {b : Int} {ps : List (Int × Int)} : valV (kvsOf b ps) (.inl b) = some .non := valV_pos rfl
theorem Tree.val {m : Int} {L : List Tie} {U : List Int} {b : Int} {ps : List (Int × Int)} (h : Tree m L U b ps) {j : Nat} {x : Int × Int} (hx : ps[j]? = some x) : valV (kvsOf b ps) (.inl x.1) = some (.int x.2) := by
  have nd := h.nd
  unfold lineOf at nd
  rw [List.nodup_cons] at nd
  unfold kvsOf
  rw [valV_neg (fun e => ?_)]
  · exact map_find nd.2 hx
  · have e' : b = x.1 := by simpa using e
    exact nd.1 (by rw [e']; exact List.mem_map.mpr ⟨x, List.mem_of_getElem? hx, rfl⟩)
theorem kvs_some {b : Int} {ps : List (Int × Int)} {o : Int} {v : V} (h : valV (kvsOf b ps) (.inl o) = some v) : ∃ k : Nat, (lineOf b ps)[k]? = some o := by
  have e := valV_any (κ := Key) (.inl o) (kvsOf b ps)
  rw [h] at e
  simp only [kvsOf, Option.isSome_some, List.any_cons, Bool.or_eq_true, decide_eq_true_eq, List.any_map, List.any_eq_true] at e
  rcases e with e | ⟨x, hx, e⟩
  · exact ⟨0, by have : b = o := by simpa using e
                 simp [lineOf, this]⟩
  · obtain ⟨j, hj⟩ := List.mem_iff_getElem?.mp hx
    refine ⟨j + 1, ?_⟩
    have : x.1 = o := by simpa using e
    simp [lineOf, hj, this]
/-! ### ways -/
structure Way (L : List Tie) (U : List Int) (b e : Int) (ws : List Int) : Prop where
  hd : ws[0]? = some b
  lst : ws.getLast? = some e
  nd : ws.Nodup
  hop : ∀ (t : Nat) (x y : Int), ws[t]? = some x → ws[t + 1]? = some y → Hop L U x y
/-- no tie is gone by twice -/
def Once (ws : List Int) : Prop := ∀ (s t : Nat) (x y x' y' : Int), s < t → ws[s]? = some x → ws[s + 1]? = some y → ws[t]? = some x' → ws[t + 1]? = some y' → ¬ ((x = x' ∧ y = y') ∨ (x = y' ∧ y = x'))
structure Route (L : List Tie) (U : List Int) (b e : Int) (ws : List Int) : Prop where
  hd : ws[0]? = some b
  lst : ws.getLast? = some e
  hop : ∀ (t : Nat) (x y : Int), ws[t]? = some x → ws[t + 1]? = some y → Hop L U x y
  once : Once ws
  few : ws.length ≤ 11
theorem nodup_at {α : Type} {l : List α} (h : l.Nodup) {i j : Nat} {x : α} (hi : l[i]? = some x) (hj : l[j]? = some x) : i = j := by
  exact (List.getElem?_inj (List.getElem?_eq_some_iff.mp hi).1 h).mp (hi.trans hj.symm)
theorem Way.once {L : List Tie} {U : List Int} {b e : Int} {ws : List Int} (h : Way L U b e ws) : Once ws := by
  intro s t x y x' y' hst h1 h2 h3 h4 hh
  rcases hh with ⟨rfl, rfl⟩ | ⟨rfl, rfl⟩
  · have := nodup_at h.nd h1 h3
    omega
  · have := nodup_at h.nd h1 h4
    omega
theorem Way.route {L : List Tie} {U : List Int} {b e : Int} {ws : List Int} (h : Way L U b e ws) (hf : ws.length ≤ 10) : Route L U b e ws := ⟨h.hd, h.lst, h.hop, h.once, by omega⟩
theorem last_at {ws : List Int} {e : Int} (h : ws.getLast? = some e) : ws[ws.length - 1]? = some e := by rw [← h, List.getLast?_eq_getElem?]
theorem Way.ring {L : List Tie} {U : List Int} {b e : Int} {ws : List Int} (h : Way L U b e ws) (hf : ws.length ≤ 10) (h3 : 3 ≤ ws.length) (hh : Hop L U e b) : Route L U e e (e :: ws) := by
  refine ⟨rfl, ?_, ?_, ?_, by rw [List.length_cons]; omega⟩
  · rw [List.getLast?_cons, h.lst]
    rfl
  · intro t x y hx hy
    cases t with
    | zero =>
      rw [List.getElem?_cons_zero] at hx
      rw [List.getElem?_cons_succ, h.hd] at hy
      cases hx
      cases hy
      exact hh
    | succ t =>
      rw [List.getElem?_cons_succ] at hx hy
      exact h.hop t x y hx hy
  · intro s t x y x' y' hst h1 h2 h3' h4 hh'
    cases t with
    | zero => omega
    | succ t =>
      rw [List.getElem?_cons_succ] at h3' h4
      cases s with
      | succ s =>
        rw [List.getElem?_cons_succ] at h1 h2
        exact h.once s t x y x' y' (by omega) h1 h2 h3' h4 hh'
      | zero =>
        rw [List.getElem?_cons_zero] at h1
        rw [List.getElem?_cons_succ, h.hd] at h2
        cases h1
        cases h2
        have hl := last_at h.lst
        rcases hh' with ⟨rfl, rfl⟩ | ⟨rfl, rfl⟩
        · have := nodup_at h.nd h.hd h4
          omega
        · have z1 := nodup_at h.nd h.hd h3'
          have z2 := nodup_at h.nd hl h4
          omega
/-! ### what is sent -/
theorem comes_set {h : Int} : ∀ {L : List Tie} {U : List Int} {k : Nat} {q : Tie} {v w : Int}, L[k]? = some q → U[k]? = some v → (comes L (U.set k w) h).sum = (comes L U h).sum + if q.2.1 = h then w - v else 0
  | [], _, k, q, v, w, h1, _ => by simp at h1
  | _ :: _, [], k, q, v, w, _, h2 => by simp at h2
  | r :: L, u :: U, 0, q, v, w, h1, h2 => by
    simp at h1 h2
    subst h1 h2
    unfold comes
    rw [List.set_cons_zero, List.zip_cons_cons, List.zip_cons_cons]
    by_cases c : r.2.1 = h
    · rw [List.filter_cons_of_pos (by simpa using c), List.filter_cons_of_pos (by simpa using c), if_pos c]
      simp
      omega
    · rw [List.filter_cons_of_neg (by simpa using c), List.filter_cons_of_neg (by simpa using c), if_neg c]
      simp
  | r :: L, u :: U, k + 1, q, v, w, h1, h2 => by
    rw [List.getElem?_cons_succ] at h1 h2
    have ih := comes_set (h := h) (w := w) h1 h2
    unfold comes at ih ⊢
    rw [List.set_cons_succ, List.zip_cons_cons, List.zip_cons_cons]
    by_cases c : r.2.1 = h
    · rw [List.filter_cons_of_pos (by simpa using c), List.filter_cons_of_pos (by simpa using c)]
      simp only [List.map_cons, List.sum_cons]
      omega
    · rw [List.filter_cons_of_neg (by simpa using c), List.filter_cons_of_neg (by simpa using c)]
      exact ih
theorem goes_set {h : Int} : ∀ {L : List Tie} {U : List Int} {k : Nat} {q : Tie} {v w : Int}, L[k]? = some q → U[k]? = some v → (goes L (U.set k w) h).sum = (goes L U h).sum + if q.1 = h then w - v else 0
  | [], _, k, q, v, w, h1, _ => by simp at h1
  | _ :: _, [], k, q, v, w, _, h2 => by simp at h2
  | r :: L, u :: U, 0, q, v, w, h1, h2 => by
    simp at h1 h2
    subst h1 h2
    unfold goes
    rw [List.set_cons_zero, List.zip_cons_cons, List.zip_cons_cons]
    by_cases c : r.1 = h
    · rw [List.filter_cons_of_pos (by simpa using c), List.filter_cons_of_pos (by simpa using c), if_pos c]
      simp
      omega
    · rw [List.filter_cons_of_neg (by simpa using c), List.filter_cons_of_neg (by simpa using c), if_neg c]
      simp
  | r :: L, u :: U, k + 1, q, v, w, h1, h2 => by
    rw [List.getElem?_cons_succ] at h1 h2
    have ih := goes_set (h := h) (w := w) h1 h2
    unfold goes at ih ⊢
    rw [List.set_cons_succ, List.zip_cons_cons, List.zip_cons_cons]
    by_cases c : r.1 = h
    · rw [List.filter_cons_of_pos (by simpa using c), List.filter_cons_of_pos (by simpa using c)]
      simp only [List.map_cons, List.sum_cons]
      omega
    · rw [List.filter_cons_of_neg (by simpa using c), List.filter_cons_of_neg (by simpa using c)]
      exact ih
/-- u units sent from i to j -/
def Sent1 (L : List Tie) (U : List Int) (i j u : Int) (U' : List Int) : Prop := ∃ (k : Nat) (q : Tie) (v : Int), L[k]? = some q ∧ U[k]? = some v ∧ ((q.1 = i ∧ q.2.1 = j ∧ U' = U.set k (v + u)) ∨ (q.1 = j ∧ q.2.1 = i ∧ U' = U.set k (v - u)))
theorem Sent1.gain {L : List Tie} {U U' : List Int} {i j u : Int} (s : Sent1 L U i j u U') (h : Int) : gainOf L U' h = gainOf L U h + (if j = h then u else 0) - (if i = h then u else 0) := by
  obtain ⟨k, q, v, hq, hv, hh⟩ := s
  unfold gainOf
  rcases hh with ⟨rfl, rfl, rfl⟩ | ⟨rfl, rfl, rfl⟩
  · rw [comes_set hq hv, goes_set hq hv]
    by_cases c1 : q.1 = h <;> by_cases c2 : q.2.1 = h <;> simp only [c1, c2, if_true, if_false] <;> omega
  · rw [comes_set hq hv, goes_set hq hv]
    by_cases c1 : q.1 = h <;> by_cases c2 : q.2.1 = h <;> simp only [c1, c2, if_true, if_false] <;> omega
/-- what stands behind n steps of a route -/
structure SentN (L : List Tie) (U : List Int) (ws : List Int) (u : Int) (n : Nat) (U' : List Int) : Prop where
  len : U'.length = U.length
  gain : ∀ (x y h : Int), ws[0]? = some x → ws[n]? = some y → gainOf L U' h = gainOf L U h + (if y = h then u else 0) - (if x = h then u else 0)
  same : ∀ (k : Nat) (q : Tie), L[k]? = some q → (∀ (t : Nat) (x y : Int), t < n → ws[t]? = some x → ws[t + 1]? = some y → ¬ ((q.1 = x ∧ q.2.1 = y) ∨ (q.1 = y ∧ q.2.1 = x))) → U'[k]? = U[k]?
  fit : FitU L U'
theorem SentN.zero {L : List Tie} {U ws : List Int} {u : Int} (hF : FitU L U) : SentN L U ws u 0 U := ⟨rfl, fun x y h h1 h2 => by
  rw [h1] at h2
  cases h2
  omega, fun _ _ _ _ => rfl, hF⟩
theorem SentN.step {m : Int} {L : List Tie} {sp mo : Int} (hR : Right m L sp mo) {U ws U1 U2 : List Int} {u b e : Int} {n : Nat} {x y : Int} (hU : U.length = L.length) (hW : Route L U b e ws) (h0 : 0 ≤ u) (hu : ∀ (t : Nat) (x y z : Int), ws[t]? = some x → ws[t + 1]? = some y → roomUp L U x y z → u ≤ z)
    (h : SentN L U ws u n U1) (hx : ws[n]? = some x) (hy : ws[n + 1]? = some y) (s : Sent1 L U1 x y u U2) : SentN L U ws u (n + 1) U2 := by
  have hF := h.fit
  have hg := s.gain
  obtain ⟨k, q, v, hq, hv, hh⟩ := s
  have bq := hR.most hq
  have new : U1[k]? = U[k]? := h.same k q hq fun t x' y' ht h1 h2 hc => by
    refine hW.once t n x' y' x y ht h1 h2 hx hy ?_
    rcases hh with ⟨e1, e2, _⟩ | ⟨e1, e2, _⟩ <;> rcases hc with ⟨c1, c2⟩ | ⟨c1, c2⟩
    · exact .inl ⟨by omega, by omega⟩
    · exact .inr ⟨by omega, by omega⟩
    · exact .inr ⟨by omega, by omega⟩
    · exact .inl ⟨by omega, by omega⟩
  have hv0 : U[k]? = some v := by rw [← new]; exact hv
  have len2 : U2.length = U1.length := by rcases hh with ⟨_, _, rfl⟩ | ⟨_, _, rfl⟩ <;> rw [List.length_set]
  have kl := (List.getElem?_eq_some_iff.mp hv).1
  refine ⟨by rw [len2, h.len], fun a c hh' h1 h2 => ?_, fun k' q' hq' hno => ?_, fun k' q' w hq' hw => ?_⟩
  · rw [hy] at h2
    cases h2
    rw [hg, h.gain a x hh' h1 hx]
    omega
  · have ne : k' ≠ k := fun e => by
      subst e
      rw [hq] at hq'
      cases hq'
      refine hno n x y (by omega) hx hy ?_
      rcases hh with ⟨e1, e2, _⟩ | ⟨e1, e2, _⟩
      · exact .inl ⟨e1, e2⟩
      · exact .inr ⟨e1, e2⟩
    rw [← h.same k' q' hq' fun t x' y' ht => hno t x' y' (by omega)]
    rcases hh with ⟨_, _, rfl⟩ | ⟨_, _, rfl⟩ <;> rw [List.getElem?_set, if_neg ne.symm]
  · by_cases ek : k' = k
    · subst ek
      rw [hq] at hq'
      cases hq'
      have f := hF k' q v hq hv
      rcases hh with ⟨e1, e2, rfl⟩ | ⟨e1, e2, rfl⟩
      · rw [List.getElem?_set, if_pos rfl, if_pos kl] at hw
        cases hw
        have := hu n x y _ hx hy ⟨k', q, v, hq, hv0, .inl ⟨e1, e2, rfl⟩⟩
        dsimp only at this
        omega
      · rw [List.getElem?_set, if_pos rfl, if_pos kl] at hw
        cases hw
        have := hu n x y _ hx hy ⟨k', q, v, hq, hv0, .inr ⟨e1, e2, rfl⟩⟩
        dsimp only at this
        omega
    · refine hF k' q' w hq' ?_
      rcases hh with ⟨_, _, rfl⟩ | ⟨_, _, rfl⟩ <;> rw [List.getElem?_set, if_neg (Ne.symm ek)] at hw <;> exact hw
/-- a stream, told by its numbers -/
structure Strm (m : Int) (L : List Tie) (sp mo : Int) (U : List Int) : Prop where
  len : U.length = L.length
  fit : FitU L U
  sum : ∀ h, 0 ≤ h → h < m → h ≠ sp → h ≠ mo → gainOf L U h = 0
theorem Strm.is {m : Int} {L : List Tie} {sp mo : Int} {U : List Int} (h : Strm m L sp mo U) : isStr m L sp mo (strD U) = true := by
  have e : (U.map PyData.int).map unitD = U := by
    rw [List.map_map]
    conv => rhs; rw [← List.map_id U]
    exact List.map_congr_left fun _ _ => rfl
  unfold strD isStr
  simp only [e, Bool.and_eq_true, decide_eq_true_eq, List.length_map, List.all_eq_true, List.mem_map, id_eq]
  refine ⟨h.len, ?_, ?_⟩
  · rintro b ⟨x, hx, rfl⟩
    obtain ⟨k, hk⟩ := List.mem_iff_getElem?.mp hx
    rw [List.getElem?_zip_eq_some, List.getElem?_map] at hk
    obtain ⟨k1, k2⟩ := hk
    cases hu : U[k]? with
    | none =>
      rw [hu] at k2
      cases k2
    | some u =>
      rw [hu] at k2
      have e2 : x.2 = .int u := (Option.some.inj k2).symm
      rw [e2]
      have := h.fit k x.1 u k1 hu
      simp [fitD, this]
  · rintro b ⟨x, hx, rfl⟩
    unfold between at hx
    obtain ⟨h1, h2⟩ := List.mem_filter.mp hx
    obtain ⟨k, hk, rfl⟩ := List.mem_map.mp h1
    have hk' := List.mem_range.mp hk
    simp at h2
    simp
    exact h.sum _ (by omega) (by omega) (by omega) (by omega)
/-- a stream on which a route is sent is one, if it leads from spring or mouth to spring or mouth, or is a ring -/
theorem Strm.send {m : Int} {L : List Tie} {sp mo : Int} {U U' ws : List Int} {u b e : Int} (h : Strm m L sp mo U) (hW : Route L U b e ws) (hs : SentN L U ws u (ws.length - 1) U') (hbe : b = e ∨ ((b = sp ∨ b = mo) ∧ (e = sp ∨ e = mo))) : Strm m L sp mo U' := by
  refine ⟨by rw [hs.len, h.len], hs.fit, fun x x0 x1 n1 n2 => ?_⟩
  rw [hs.gain b e x hW.hd (last_at hW.lst), h.sum x x0 x1 n1 n2]
  rcases hbe with rfl | ⟨h1, h2⟩
  · omega
  · rw [if_neg (by omega), if_neg (by omega)]
    rfl
theorem Strm.zero {m : Int} {L : List Tie} {sp mo : Int} (hR : Right m L sp mo) : Strm m L sp mo (List.replicate L.length 0) := by
  refine ⟨List.length_replicate, fun k q u hq hu => ?_, fun h _ _ _ _ => ?_⟩
  · rw [List.getElem?_replicate] at hu
    split at hu
    · cases hu
      have := hR.most hq
      omega
    · cases hu
  · have z : ∀ l : List (Tie × Int), (∀ x ∈ l, x.2 = 0) → (l.map (·.2)).sum = 0 := fun l hl => by
      induction l with
      | nil => rfl
      | cons x l ih =>
        rw [List.map_cons, List.sum_cons, hl x (by simp), ih fun y hy => hl y (by simp [hy])]
        rfl
    have z2 : ∀ x ∈ L.zip (List.replicate L.length 0), x.2 = (0 : Int) := fun x hx => by
      have := (List.of_mem_zip hx).2
      exact List.eq_of_mem_replicate this
    unfold gainOf comes goes
    rw [z _ fun x hx => z2 x (List.mem_filter.mp hx).1, z _ fun x hx => z2 x (List.mem_filter.mp hx).1]
    rfl
end Mw

/-! MR3 -/
/-! A tuple of items times a number from 0 on. -/
namespace L2
open PySem PySem.Spec PyProof.Rows
theorem tuple_mul0 (l : Addr) (items : Array Value) (n : Nat) (dd : Option Addr) (sl : Array (Option Value)) (x : Int) (u : Tok) (c0 : (decide (x < -(2 ^ 63)) || decide (x ≥ 2 ^ 63)) = false) (c1 : (items.isEmpty || x == 1) = false) (c2 : (decide (x ≤ 0) || items.isEmpty) = true) :
    Meets (Builtin.«tuple.__mul__» ⟨[.ref l, .int x u], []⟩) (fun _ R s => s.heap.get? l = some { cls := .type "tuple", dict := dd, data := .seq items n, slots := sl } ∧
      R (.ok (.ret (Value.ref s.heap.objs.size))) { s with heap := s.heap.push { cls := Value.type "tuple", data := Data.seq #[] }, toks := s.toks }) :=
  .of_wp fun prog w A R s h => by
    obtain ⟨hp, g, d, tk, os⟩ := s
    obtain ⟨hl, h⟩ := h
    have f1 := AutoSeq1.idx_int
    wp_walk using wpAny_loadPart' hl
    repeat (first
      | (refine wpAny_ite_false (decide_eq_false (by rw [c0]; exact Bool.false_ne_true)) ?_; wp_walk using wpAny_loadPart' hl)
      | (refine wpAny_ite_false (decide_eq_false (by rw [c1]; exact Bool.false_ne_true)) ?_; wp_walk using wpAny_loadPart' hl)
      | (refine wpAny_ite_true (decide_eq_true c2) ?_; wp_walk using wpAny_loadPart' hl))
    exact ⟨_, rfl, h⟩
theorem tuple_mul1 (l : Addr) (items : Array Value) (n : Nat) (dd : Option Addr) (sl : Array (Option Value)) (x : Int) (u : Tok) (c0 : (decide (x < -(2 ^ 63)) || decide (x ≥ 2 ^ 63)) = false) (c1 : (items.isEmpty || x == 1) = true) :
    Meets (Builtin.«tuple.__mul__» ⟨[.ref l, .int x u], []⟩) (fun _ R s => s.heap.get? l = some { cls := .type "tuple", dict := dd, data := .seq items n, slots := sl } ∧
      R (.ok (.ret (Value.ref l))) { s with heap := s.heap, toks := s.toks }) :=
  .of_wp fun prog w A R s h => by
    obtain ⟨hp, g, d, tk, os⟩ := s
    obtain ⟨hl, h⟩ := h
    have f1 := AutoSeq1.idx_int
    wp_walk using wpAny_loadPart' hl
    repeat (first
      | (refine wpAny_ite_false (decide_eq_false (by rw [c0]; exact Bool.false_ne_true)) ?_; wp_walk using wpAny_loadPart' hl)
      | (refine wpAny_ite_true (decide_eq_true c1) ?_; wp_walk using wpAny_loadPart' hl))
    exact ⟨_, rfl, h⟩
def rRepN (K : PySem.W.Frag) : R2 := fun x y H Q => ∃ l k xs, x = .ref l ∧ y = .int k ∧ SqT K H l xs ∧ xs ≠ [] ∧ 0 ≤ k ∧ k ≤ 1000 ∧ xs.length ≤ 1000 ∧ (k = 1 → Q (.ref l) H) ∧ (k ≠ 1 → ∀ p, H p = none → Q (.ref p) (upd H p (.tup (List.replicate k.toNat xs).flatten)))
theorem op_repN {X : Cx} : OpR X (binaryOp .Mult) (rRepN X.K) := by
  intro pins s σ H x y v u Q I rx ry h
  obtain ⟨l, k, xs, rfl, rfl, hT, hne, h1, h2, hz, q1, q2⟩ := h
  by_cases k2 : 2 ≤ k
  · exact op_repT pins s σ H _ _ v u Q I rx ry ⟨l, k, xs, rfl, rfl, hT, hne, k2, h2, hz, q2 (by omega)⟩
  · cases rx
    obtain ⟨t, rfl⟩ := ry
    obtain ⟨its, r, ⟨⟨cls, dd, data, sl⟩, ho, hc, n, hd⟩, hs⟩ := I.tuple hT
    simp only at hc hd
    subst hc hd
    have hle : its.length = xs.length := r.length.symm
    have hn : its ≠ [] := fun e => hne (by
      rw [e] at hle
      exact List.eq_nil_of_length_eq_zero hle.symm)
    have hi : its.toArray.isEmpty = false := by
      cases its with
      | nil => exact absurd rfl hn
      | cons a b => rfl
    have c0 : (decide (k < -(2 ^ 63)) || decide (k ≥ 2 ^ 63)) = false := by
      rw [decide_eq_false (by omega), decide_eq_false (by omega)] <;> rfl
    by_cases e1 : k = 1
    · have c1 : (its.toArray.isEmpty || k == 1) = true := by
        rw [hi, Bool.false_or]
        exact beq_iff_eq.mpr e1
      refine wpAny_binaryOp_repeat_ref (T := "tuple") (U := "int") (by decide) ⟨_, ho, rfl⟩ (fun s' => typeIs_int s' k t) noFill_tuple_mul F.fills_int_mul F.slot_int_rmul repeat_tuple F.slot_int_index.lookup
        (call_meets F.slot_int_rmul (typeIs_int s k t) F.entry_int_rmul (F.args_int_rmul_2 _ _) (int_rmul_tuple k t l its.toArray n dd sl)
          ⟨ho, rfl, ⟨_, ho, rfl⟩, call_meets F.slot_tuple_mul ⟨_, ho, rfl⟩ F.entry_tuple_mul (F.args_tuple_mul_2 _ _) (tuple_mul1 l its.toArray n dd sl k t c0 c1) ⟨ho, ?_⟩⟩)
      exact ⟨.ref l, H, I, rfl, q1 e1⟩
    · have e0 : k = 0 := by omega
      have c1 : (its.toArray.isEmpty || k == 1) = false := by
        rw [hi, Bool.false_or]
        exact beq_eq_false_iff_ne.mpr e1
      have c2 : (decide (k ≤ 0) || its.toArray.isEmpty) = true := by
        rw [decide_eq_true (by omega)]
        rfl
      refine wpAny_binaryOp_repeat_ref (T := "tuple") (U := "int") (by decide) ⟨_, ho, rfl⟩ (fun s' => typeIs_int s' k t) noFill_tuple_mul F.fills_int_mul F.slot_int_rmul repeat_tuple F.slot_int_index.lookup
        (call_meets F.slot_int_rmul (typeIs_int s k t) F.entry_int_rmul (F.args_int_rmul_2 _ _) (int_rmul_tuple k t l its.toArray n dd sl)
          ⟨ho, rfl, ⟨_, ho, rfl⟩, call_meets F.slot_tuple_mul ⟨_, ho, rfl⟩ F.entry_tuple_mul (F.args_tuple_mul_2 _ _) (tuple_mul0 l its.toArray n dd sl k t c0 c1 c2) ⟨ho, ?_⟩⟩)
      refine ⟨.ref s.heap.objs.size, _, I.laid (t' := s.toks) (o := .tup (List.replicate k.toNat xs).flatten) (fun b ob q => Heap.get?_push_of_some _ q) (Nat.le_refl _) ?_, rfl, q2 e1 _ (I.hok.fresh (Nat.le_refl _))⟩
      subst e0
      exact ⟨Nat.zero_le _, [], .nil, IsTup.new _ _⟩
end L2

/-! N8 -/
namespace Mw
open PySem L2
def spReach (C : Addr) : Sp := fun vs H Q _ => ∃ (p : Addr) (v : V) (m : Int) (L : List Tie) (sp mo : Int) (c : Addr) (U : List Int) (b : Int), vs = [v, .ref c, .int b] ∧ Tp C p H (planD m L sp mo) v ∧ Right m L sp mo ∧ U.length = L.length ∧ H c = some (.tup (U.map V.int)) ∧ 0 ≤ b ∧ b < m ∧
  ∀ (r : Addr) (ps : List (Int × Int)) (H' : Hp), Same H H' → H' r = some (.dK (kvsOf b ps)) → Tree m L U b ps → Q (.ref r) H'
theorem rd_disp1 {tk tv : TE} {σ : L2.St} {H : Hp} {Q : VK} (h : ∀ p, H p = none → tk σ (upd H p (.dK [])) fun x H1 => tv σ H1 fun y H2 => H2 p = some (.dK []) ∧ ∃ kvs : List (Key × V), [(x, y)] = kvs.map (fun kv => (kV kv.1, kv.2)) ∧ kvs.length ≤ 15 ∧ Q (.ref p) (upd H2 p (.dK (mergeK [] kvs)))) : tDisp [(tk, tv)] σ H Q := h
section
variable {P : Program} {w : World} {K : PySem.W.Frag} {mg : Str → Option Value} {base : Heap}
local macro_rules | `(tactic| walk_at "rd") => `(tactic| (repeat (first
  | ((with_reducible refine' rd_var ?h0 ?_); (case h0 => rfl))
  | with_reducible refine rd_c ?_
  | with_reducible refine rd_op ?_
  | with_reducible refine rd_nil ?_
  | with_reducible refine rd_cons ?_
  | with_reducible refine rd_tup ?_
  | with_reducible refine rd_lst ?_
  | with_reducible refine rd_ifs ?_
  | with_reducible refine rd_seq ?_
  | with_reducible refine rd_next ?_
  | with_reducible refine rd_ret ?_
  | with_reducible refine rd_asg ?_
  | ((with_reducible refine' rd_gset ?hs ?_); (case hs => ((simp only [L2.start, List.map_cons, List.map_nil, List.length_cons, List.length_nil, List.cons_append, List.nil_append, List.set_cons_zero, List.set_cons_succ, Nat.reduceAdd, Nat.reduceSub, Nat.zero_add, List.reduceReplicate]); rfl)))
  | with_reducible refine rd_drop ?_
  | with_reducible refine rd_test ?_
  | with_reducible refine rd_B ?_
  | with_reducible refine rd_bl ?_
  | with_reducible refine rd_blP ?_
  | with_reducible refine rd_andV ?_
  | with_reducible refine rd_orV ?_
  | with_reducible refine rd_notV ?_
  | with_reducible refine rd_and ?_
  | with_reducible refine rd_or ?_
  | with_reducible refine rd_not ?_
  | with_reducible refine rd_chain ?_
  | with_reducible refine rd_dput ?_
  | with_reducible refine rd_dget ?_
  | with_reducible refine rd_cb ?_
  | with_reducible refine rd_call ?_
  | with_reducible refine rd_un ?_
  | with_reducible refine rd_sl ?_
  | with_reducible refine rd_nopart ?_
  | with_reducible refine rd_part ?_
  | with_reducible refine rd_intP ?_
  | with_reducible refine rd_rU ?_
  | with_reducible refine rd_fld ?_
  | with_reducible refine rd_eqI ?_
  | with_reducible refine rd_neI ?_
  | with_reducible refine rd_mko ?_
  | with_reducible refine rd_bm ?_
  | with_reducible refine rd_gsub ?_
  | with_reducible refine rd_i0 ?_)))
theorem ok_law_reach (T : Tx K mg) (B : Bk K mg T) : FnOk P w K mg base CX0 4 B.law_reach.f B.law_reach.fd ["plan", "stream", "begin"] (spReach T.c_Web) := by
  have G_law_near := ok_law_near (P := P) (w := w) (base := base) T B
  have G_law_room := ok_law_room (P := P) (w := w) (base := base) T B
  refine B.law_reach.F.ok sc_law_reach (fun vs H Q E h => ?_) (fun cdv A outer s H vs Q E hr h => ?_)
  · obtain ⟨p, v, m, L, sp, mo, c, U, b, rfl, _⟩ := h
    rfl
  · obtain ⟨p, v, m, L, sp, mo, c, U, b, rfl, hv, hR, hU, hc, b0, b1, q⟩ := h
    refine ⟨_, (pss_cons (ps_set (i := 3) sc_law_reach.nd rfl (Or.inl rfl) (pe_disp (pps_cons (pv 2) pe_non pps_nil) rfl rfl (List.cons_ne_nil _ _) (by decide)))
      (pss_cons (ps_set (i := 4) sc_law_reach.nd rfl (Or.inl rfl) (pe_lst (pa_cons (pv 2) pa_nil)))
      (pss_cons (ps_for PassesOwn.never rfl (pi_range1 (by rfl) T.b_range (pa_cons (pe_ix ix_tup (pv 0) pe_int (fun _ _ => rfl)) pa_nil)) (pg_name (i := 5) sc_law_reach.nd rfl (Or.inl rfl)) (pss_one (ps_if (pt_cmpR op_lt (pv 5) (pe_callB call_len_seq (by rfl) T.b_len (by decide +kernel) (pa_cons (pv 4) pa_nil)) (nomark _)) (pss_one (ps_for PassesOwn.never rfl (pi_list (pe_call G_law_near (hr.mono (by decide)) rfl B.law_near.m B.law_near.F.kp B.law_near.b .nil pass0 (pa_cons (pv 0) (pa_cons (pe_ix ix_list (pv 4) (pv 5) (fun _ _ => rfl)) pa_nil)))) (pg_name (i := 6) sc_law_reach.nd rfl (Or.inl rfl)) (pss_one (ps_if (PW.pt (pw_and (pt_cmp (pc_dnotin (hu_of hr) (pv 6) (pv 3))) (pw_and1 (pt_cmpR op_gt (pe_call G_law_room (hr.mono (by decide)) rfl B.law_room.m B.law_room.F.kp B.law_room.b .nil pass0 (pa_cons (pv 0) (pa_cons (pv 1) (pa_cons (pe_ix ix_list (pv 4) (pv 5) (fun _ _ => rfl)) (pa_cons (pv 6) pa_nil))))) pe_int (nomark _))))) (pss_cons (ps_dput (hu_of hr) (pv 3) (pv 6) (pe_ix ix_list (pv 4) (pv 5) (fun _ _ => rfl)) rfl)
      (pss_one (ps_expr (pe_bm PySem.F.plainAttrs_list PySem.F.slot_list_append PySem.F.type_list_append mt_append (pv 4) (pa_cons (pv 6) pa_nil))))) pss_nil)))) pss_nil)))
      (pss_one (ps_ret (pv 3)))))), ?_⟩
    have hm := hR.parts
    have hL := hR.len
    obtain ⟨a, xs, rfl, ha, hx⟩ := tp_tup' (id hv)
    obtain ⟨v1, v2, v3, v4, rfl, t1, t2, t3, t4⟩ := tpAll4 hx
    cases tp_int' t1
    walk_at "rd"
    refine rd_disp1 fun D nD => ?_
    walk_at "rd"
    refine ⟨upd_same, [(.inl b, .non)], rfl, by simp, ?_⟩
    have sD : Same H (upd (upd H D (.dK [])) D (.dK (kvsOf b []))) := fun x o e => by
      rw [upd_ne (ne_of_none e nD), upd_ne (ne_of_none e nD)]
      exact e
    walk_at "rd"
    refine rd_disp rfl fun l nl => ?_
    have nlH : H l = none := sD.free nl
    have hDl : D ≠ l := ne_of_none (H := upd (upd H D (.dK [])) D (.dK (kvsOf b []))) upd_same nl
    walk_at "rd"
    show iRng1 _ _ _ _
    refine rd_rng1 ?_
    walk_at "rd"
    refine rd_ixT ((sD.trans (same_new nl)) _ _ ha.2) rfl ?_
    refine ⟨_, rfl, by omega, by omega, for_range (lo := 0) (n := m.toNat) (fun n σ H1 => Same H H1 ∧ (∃ ps, H1 D = some (.dK (kvsOf b ps)) ∧ H1 l = some (.lst ((lineOf b ps).map V.int)) ∧ Tree m L U b ps) ∧ ∃ u1 u2, σ = [some (.ref a), some (.ref c), some (.int b), some (.ref D), some (.ref l), u1, u2])
      ⟨sD.trans (same_new nl), ⟨[], ?_, ?_, Tree.nil b0 b1⟩, none, none, rfl⟩ ?_ ?_⟩
    · exact (upd_ne hDl).trans upd_same
    · exact upd_same
    · rintro n σ H1 hn ⟨hs, ⟨ps, hD, hl, hT⟩, u1, u2, rfl⟩
      have hlen := hT.len
      walk_at "rd"
      refine ⟨l, _, rfl, .inl (SqL.of hl), ?_⟩
      walk_at "rd"
      refine rd_ite (fun h1 => ?_) (fun h1 => ?_)
      · have hk : n < (lineOf b ps).length := by
          simp only [decide_eq_true_eq, List.length_map] at h1
          omega
        have eg : (lineOf b ps)[n]? = some (lineOf b ps)[n] := by simp [hk]
        generalize (lineOf b ps)[n] = g at eg
        have egV : ((lineOf b ps).map V.int)[n]? = some (V.int g) := by
          rw [List.getElem?_map, eg]
          rfl
        have bg := hT.rg g (List.mem_of_getElem? eg)
        walk_at "rd"
        show iList _ _ _ _ _
        refine rd_ilist ?_
        walk_at "rd"
        refine rd_ixL hl (at_of (j := n) (by omega) egV) ?_
        walk_at "rd"
        refine ⟨p, .ref a, m, L, sp, mo, g, rfl, Tp.keep (Keep.same hs) _ _ hv, hL, fun r ns H2 hr1 s2 hxr hpm hpw => ?_⟩
        have hDr : D ≠ r := ne_of_none hD hr1
        have hlr : l ≠ r := ne_of_none hl hr1
        have hnl : ns.length ≤ 200 := by
          rw [hpm.length_eq, List.length_append, aboveOf, belowOf, List.length_map, List.length_map]
          have h1 := List.length_filter_le (fun q : Tie => decide (q.1 = g)) L
          have h2 := List.length_filter_le (fun q : Tie => decide (q.2.1 = g)) L
          omega
        refine ⟨r, rfl, ⟨_, SqL.of hxr⟩, for_list (K := K) (a := r) (xs := ns.map V.int)
          (fun i σ H3 => Same H H3 ∧ H3 r = some (.lst (ns.map V.int)) ∧ (∃ ps, H3 D = some (.dK (kvsOf b ps)) ∧ H3 l = some (.lst ((lineOf b ps).map V.int)) ∧ Tree m L U b ps ∧ (lineOf b ps)[n]? = some g) ∧ ∃ u2, σ = [some (.ref a), some (.ref c), some (.int b), some (.ref D), some (.ref l), some (.int (0 + (n : Int))), u2])
          ⟨hs.trans s2, hxr, ⟨ps, s2 _ _ hD, s2 _ _ hl, hT, eg⟩, _, rfl⟩ (fun i σ H3 _ hh => SqL.of hh.2.1) ?_ ?_⟩
        · rintro i y σ H3 hi ⟨hs3, hxr3, ⟨ps3, hD3, hl3, hT3, eg3⟩, u3, rfl⟩
          obtain ⟨o, ho, rfl⟩ := mapint_get hi
          have hmem : o ∈ aboveOf L g ++ belowOf L g := hpm.mem_iff.mp (List.mem_of_getElem? ho)
          obtain ⟨z, hz⟩ := nb_room hU hmem
          have hlen3 := hT3.len
          have egV3 : ((lineOf b ps3).map V.int)[n]? = some (V.int g) := by
            rw [List.getElem?_map, eg3]
            rfl
          walk_at "rd"
          refine rd_dnotin ?_
          walk_at "rd"
          refine ⟨D, _, rfl, DGet.k (k := .inl o) hD3, ?_⟩
          walk_at "rd"
          refine rd_ite (fun h2 => ?_) (fun h2 => ?_)
          · have hnone : valV (kvsOf b ps3) (.inl o) = none := by
              cases e : valV (kvsOf b ps3) (.inl o) with
              | none => rfl
              | some x =>
                rw [e] at h2
                cases h2
            walk_at "rd"
            refine rd_ixL hl3 (at_of (j := n) (by omega) egV3) ?_
            walk_at "rd"
            refine ⟨p, .ref a, m, L, sp, mo, c, U, g, o, z, rfl, Tp.keep (Keep.same hs3) _ _ hv, hR, hs3 _ _ hc, hz, fun H4 s4 => ?_⟩
            walk_at "rd"
            refine rd_ite (fun h3 => ?_) (fun h3 => ?_)
            · have hz0 : 0 < z := by simpa using h3
              obtain ⟨k, q1, u, hq1, hu1, hh⟩ := id hz
              have bq := hR.most hq1
              have bo : 0 ≤ o ∧ o < m := by rcases hh with ⟨e1, e2, _⟩ | ⟨e1, e2, _⟩ <;> omega
              have hT4 := hT3.snoc (o := o) (g := g) (k := n) (kvs_none hnone) bo.1 bo.2 eg3 ⟨z, hz0, hz⟩
              walk_at "rd"
              refine rd_ixL (s4 _ _ hl3) (at_of (j := n) (by omega) egV3) ?_
              walk_at "rd"
              refine ⟨D, _, rfl, DPut.k (k := .inl o) (s4 _ _ hD3) (Nat.lt_of_le_of_lt (show (kvsOf b ps3).length ≤ 200 by rw [kvsOf_len]; omega) (by decide)), ?_⟩
              have eD : putK (kvsOf b ps3) (.inl o) (V.int g) = kvsOf b (ps3 ++ [(o, g)]) := by rw [putK_new _ hnone, kvsOf_snoc]
              rw [eD]
              have sN : Same H (upd H4 D (.dK (kvsOf b (ps3 ++ [(o, g)])))) := fun x o' e => by
                rw [upd_ne (ne_of_none e nD)]
                exact s4 _ _ (hs3 x o' e)
              walk_at "rd"
              have hl5 : (upd H4 D (.dK (kvsOf b (ps3 ++ [(o, g)])))) l = some (.lst ((lineOf b ps3).map V.int)) := (upd_ne hDl.symm).trans (s4 _ _ hl3)
              refine ⟨.inl ⟨rfl, _, SqL.of hl5⟩, ?_⟩
              walk_at "rd"
              refine rd_append hl5 (Nat.lt_of_le_of_lt (show ((lineOf b ps3).map V.int).length ≤ 200 by rw [List.length_map, lineOf_len]; omega) (by decide)) ?_
              refine ⟨fun x o' e => ?_, ?_, ⟨ps3 ++ [(o, g)], ?_, ?_, hT4, ?_⟩, _, rfl⟩
              · rw [upd_ne (ne_of_none e nlH)]
                exact sN x o' e
              · rw [upd_ne hlr.symm, upd_ne hDr.symm]
                exact s4 _ _ hxr3
              · rw [upd_ne hDl]
                exact upd_same
              · rw [upd_same, lineOf_snoc, List.map_append]
                rfl
              · rw [lineOf_snoc, List.getElem?_append, if_pos (List.getElem?_eq_some_iff.mp eg3).1]
                exact eg3
            · exact ⟨hs3.trans s4, s4 _ _ hxr3, ⟨ps3, s4 _ _ hD3, s4 _ _ hl3, hT3, eg3⟩, _, rfl⟩
          · refine rd_no rfl ?_
            exact ⟨hs3, hxr3, ⟨ps3, hD3, hl3, hT3, eg3⟩, _, rfl⟩
        · rintro σ H3 ⟨hs3, hxr3, ⟨ps3, hD3, hl3, hT3, eg3⟩, u3, rfl⟩
          exact ⟨hs3, ⟨ps3, hD3, hl3, hT3⟩, _, _, rfl⟩
      · exact ⟨hs, ⟨ps, hD, hl, hT⟩, _, _, rfl⟩
    · rintro σ H1 ⟨hs, ⟨ps, hD, hl, hT⟩, u1, u2, rfl⟩
      walk_at "rd"
      exact q D ps H1 hs hD hT
end
end Mw

/-! N9 -/
namespace Mw
open PySem L2
structure Up (L : List Tie) (U : List Int) (b e : Int) (ps : List (Int × Int)) (k : Nat) (g : Int) (ws : List Int) : Prop where
  pos : (lineOf b ps)[k]? = some g
  abv : ∀ h ∈ g :: ws, ∃ j, k ≤ j ∧ (lineOf b ps)[j]? = some h
  nd : (g :: ws).Nodup
  lst : (g :: ws).getLast? = some e
  hop : ∀ (t : Nat) (x y : Int), (g :: ws)[t]? = some x → (g :: ws)[t + 1]? = some y → Hop L U x y
theorem Up.first {L : List Tie} {U : List Int} {b e : Int} {ps : List (Int × Int)} {k : Nat} (h : (lineOf b ps)[k]? = some e) : Up L U b e ps k e [] :=
  ⟨h, fun x hx => ⟨k, Nat.le_refl _, by rw [show x = e by simpa using hx]; exact h⟩, by simp, rfl, fun t x y _ hy => by simp at hy⟩
theorem Up.step {m : Int} {L : List Tie} {U : List Int} {b e : Int} {ps : List (Int × Int)} {k : Nat} {g : Int} {ws : List Int} (hT : Tree m L U b ps) (h : Up L U b e ps (k + 1) g ws) : ∃ (x : Int × Int) (k2 : Nat), ps[k]? = some x ∧ x.1 = g ∧ k2 ≤ k ∧ Up L U b e ps k2 x.2 (g :: ws) := by
  have hp := h.pos
  have e1 : (ps[k]?).map (·.1) = some g := by
    have : (lineOf b ps)[k + 1]? = (ps.map (·.1))[k]? := rfl
    rw [← List.getElem?_map, ← this]
    exact hp
  cases ex : ps[k]? with
  | none =>
    rw [ex] at e1
    cases e1
  | some x =>
    rw [ex] at e1
    have eg : x.1 = g := Option.some.inj e1
    obtain ⟨⟨k2, hk2, hl2⟩, hh⟩ := hT.up k x ex
    refine ⟨x, k2, rfl, eg, hk2, hl2, ?_, ?_, ?_, ?_⟩
    · intro y hy
      rcases List.mem_cons.mp hy with z | z
      · exact ⟨k2, Nat.le_refl _, by rw [z]; exact hl2⟩
      · obtain ⟨j, hj, hl⟩ := h.abv y z
        exact ⟨j, by omega, hl⟩
    · refine List.nodup_cons.mpr ⟨fun hm => ?_, h.nd⟩
      obtain ⟨j, hj, hl⟩ := h.abv _ hm
      have := nodup_at hT.nd hl hl2
      omega
    · rw [List.getLast?_cons_cons]
      exact h.lst
    · intro t y z hy hz
      cases t with
      | zero =>
        rw [List.getElem?_cons_zero] at hy
        rw [List.getElem?_cons_succ, List.getElem?_cons_zero] at hz
        cases hy
        cases hz
        rw [← eg]
        exact hh
      | succ t =>
        rw [List.getElem?_cons_succ] at hy hz
        exact h.hop t y z hy hz
theorem Up.few {m : Int} {L : List Tie} {U : List Int} {b e : Int} {ps : List (Int × Int)} {k : Nat} {g : Int} {ws : List Int} (hT : Tree m L U b ps) (h : Up L U b e ps k g ws) : (g :: ws).length ≤ m.toNat :=
  few_int h.nd fun x hx => by
    obtain ⟨j, _, hl⟩ := h.abv x hx
    exact hT.rg x (List.mem_of_getElem? hl)
theorem Up.way {L : List Tie} {U : List Int} {b e : Int} {ps : List (Int × Int)} {g : Int} {ws : List Int} (h : Up L U b e ps 0 g ws) : Way L U b e (g :: ws) := ⟨h.pos.symm, h.lst, h.nd, h.hop⟩
def rLenS (K : PySem.W.Frag) : List V → Hp → VK → Prop := fun xs H Q => ∃ p ys, xs = [V.ref p] ∧ (SqL K H p ys ∨ SqT K H p ys) ∧ Q (V.int (ys.length : Nat)) H
def spWay (C : Addr) : Sp := fun vs H Q _ => ∃ (p : Addr) (v : V) (m : Int) (L : List Tie) (sp mo : Int) (c : Addr) (U : List Int) (b e : Int), vs = [v, .ref c, .int b, .int e] ∧ Tp C p H (planD m L sp mo) v ∧ Right m L sp mo ∧ U.length = L.length ∧ H c = some (.tup (U.map V.int)) ∧ 0 ≤ b ∧ b < m ∧
  (∀ H', Same H H' → Q .non H') ∧ ∀ (r : Addr) (ws : List Int) (H' : Hp), Same H H' → H' r = some (.lst (ws.map V.int)) → Way L U b e ws → ws.length ≤ 10 → Q (.ref r) H'
section
variable {P : Program} {w : World} {K : PySem.W.Frag} {mg : Str → Option Value} {base : Heap}
local macro_rules | `(tactic| walk_at "rd") => `(tactic| (repeat (first
  | ((with_reducible refine' rd_var ?h0 ?_); (case h0 => rfl))
  | with_reducible refine rd_c ?_
  | with_reducible refine rd_op ?_
  | with_reducible refine rd_nil ?_
  | with_reducible refine rd_cons ?_
  | with_reducible refine rd_tup ?_
  | with_reducible refine rd_lst ?_
  | with_reducible refine rd_ifs ?_
  | with_reducible refine rd_seq ?_
  | with_reducible refine rd_next ?_
  | with_reducible refine rd_ret ?_
  | with_reducible refine rd_asg ?_
  | ((with_reducible refine' rd_gset ?hs ?_); (case hs => ((simp only [L2.start, List.map_cons, List.map_nil, List.length_cons, List.length_nil, List.cons_append, List.nil_append, List.set_cons_zero, List.set_cons_succ, Nat.reduceAdd, Nat.reduceSub, Nat.zero_add, List.reduceReplicate]); rfl)))
  | with_reducible refine rd_drop ?_
  | with_reducible refine rd_test ?_
  | with_reducible refine rd_B ?_
  | with_reducible refine rd_bl ?_
  | with_reducible refine rd_blP ?_
  | with_reducible refine rd_andV ?_
  | with_reducible refine rd_orV ?_
  | with_reducible refine rd_notV ?_
  | with_reducible refine rd_and ?_
  | with_reducible refine rd_or ?_
  | with_reducible refine rd_not ?_
  | with_reducible refine rd_chain ?_
  | with_reducible refine rd_dput ?_
  | with_reducible refine rd_dget ?_
  | with_reducible refine rd_cb ?_
  | with_reducible refine rd_call ?_
  | with_reducible refine rd_un ?_
  | with_reducible refine rd_sl ?_
  | with_reducible refine rd_nopart ?_
  | with_reducible refine rd_part ?_
  | with_reducible refine rd_intP ?_
  | with_reducible refine rd_rU ?_
  | with_reducible refine rd_fld ?_
  | with_reducible refine rd_eqI ?_
  | with_reducible refine rd_neI ?_
  | with_reducible refine rd_mko ?_
  | with_reducible refine rd_bm ?_
  | with_reducible refine rd_gsub ?_
  | with_reducible refine rd_i0 ?_)))
theorem ok_law_way (T : Tx K mg) (B : Bk K mg T) : FnOk P w K mg base CX0 5 B.law_way.f B.law_way.fd ["plan", "stream", "begin", "end"] (spWay T.c_Web) := by
  have G_law_reach := ok_law_reach (P := P) (w := w) (base := base) T B
  refine B.law_way.F.ok sc_law_way (fun vs H Q E h => ?_) (fun cdv A outer s H vs Q E hr h => ?_)
  · obtain ⟨p, v, m, L, sp, mo, c, U, b, e, rfl, _⟩ := h
    rfl
  · obtain ⟨p, v, m, L, sp, mo, c, U, b, e, rfl, hv, hR, hU, hc, b0, b1, q0, q1⟩ := h
    refine ⟨_, (pss_cons (ps_set (i := 4) sc_law_way.nd rfl (Or.inl rfl) (pe_call G_law_reach (hr.mono (by decide)) rfl B.law_reach.m B.law_reach.F.kp B.law_reach.b .nil pass0 (pa_cons (pv 0) (pa_cons (pv 1) (pa_cons (pv 2) pa_nil)))))
      (pss_cons (ps_if (pt_cmp (pc_dnotin (hu_of hr) (pv 3) (pv 4))) (pss_one (ps_ret pe_non)) pss_nil)
      (pss_cons (ps_set (i := 5) sc_law_way.nd rfl (Or.inr rfl) (pe_lst (pa_cons (pv 3) pa_nil)))
      (pss_cons (ps_for PassesOwn.never rfl (pi_range1 (by rfl) T.b_range (pa_cons (pe_ix ix_tup (pv 0) pe_int (fun _ _ => rfl)) pa_nil)) (pg_name (i := 6) sc_law_way.nd rfl (Or.inl rfl)) (pss_one (ps_if (pt_cmpR op_notN (pe_dget (hu_of hr) (pv 4) (pe_ix ix_list (pv 5) (pe_un un_neg pe_int) (fun _ _ => rfl)) (fun _ _ => rfl)) pe_non (nomark _)) (pss_one (ps_expr (pe_bm PySem.F.plainAttrs_list PySem.F.slot_list_append PySem.F.type_list_append mt_append (pv 5) (pa_cons (pe_dget (hu_of hr) (pv 4) (pe_ix ix_list (pv 5) (pe_un un_neg pe_int) (fun _ _ => rfl)) (fun _ _ => rfl)) pa_nil)))) pss_nil)))
      (pss_one (ps_ret (pe_lc (own := [("k", 6)]) (g := gName 6) rfl sc_law_way.nd (pi_range1 (by rfl) T.b_range (pa_cons (pe_callB call_len_seq (by rfl) T.b_len (by decide +kernel) (pa_cons (pv 5) pa_nil)) pa_nil)) (blkOk_by (own := [("k", 6)]) (N := ["plan", "stream", "begin", "end", "ahead", "found", "k"]) (sc := defScope s_law_way) (by decide +kernel)) (fun _ _ _ _ _ => pg_name (i := 6) sc_law_way.nd rfl (Or.inl rfl)) (fun _ _ _ _ _ => pts_nil) (fun _ _ _ _ _ => (pe_ix (r := rIxL K) ix_list (pv 5) (pe_op op_sub (pe_op op_sub (pe_callB (id := "len") (r := rLenS K) call_len_seq (by rfl) T.b_len (by decide +kernel) (pa_cons (pv 5) pa_nil)) pe_int) (pv 6)) (fun _ _ => rfl)))))))))), ?_⟩
    have hm := hR.parts
    obtain ⟨a, xs, rfl, ha, hx⟩ := tp_tup' (id hv)
    obtain ⟨v1, v2, v3, v4, rfl, t1, t2, t3, t4⟩ := tpAll4 hx
    cases tp_int' t1
    walk_at "rd"
    refine ⟨p, .ref a, m, L, sp, mo, c, U, b, rfl, hv, hR, hU, hc, b0, b1, fun D ps H1 s1 hD hT => ?_⟩
    have hlen := hT.len
    walk_at "rd"
    refine rd_dnotin ?_
    walk_at "rd"
    refine ⟨D, _, rfl, DGet.k (k := .inl e) hD, ?_⟩
    walk_at "rd"
    refine rd_ite (fun h1 => ?_) (fun h1 => ?_)
    · walk_at "rd"
      exact q0 _ s1
    · obtain ⟨vv, hvv⟩ : ∃ vv, valV (kvsOf b ps) (.inl e) = some vv := by
        cases z : valV (kvsOf b ps) (.inl e) with
        | none =>
          rw [z] at h1
          cases h1
        | some x => exact ⟨x, rfl⟩
      obtain ⟨k0, hk0⟩ := kvs_some hvv
      have hk0l := (List.getElem?_eq_some_iff.mp hk0).1
      rw [lineOf_len] at hk0l
      walk_at "rd"
      refine rd_disp rfl fun l nl => ?_
      have nlH : H l = none := s1.free nl
      have hDl : D ≠ l := ne_of_none hD nl
      walk_at "rd"
      show iRng1 _ _ _ _
      refine rd_rng1 ?_
      walk_at "rd"
      refine rd_ixT ((s1.trans (same_new nl)) _ _ ha.2) rfl ?_
      refine ⟨_, rfl, by omega, by omega, for_range (lo := 0) (n := m.toNat) (fun n σ H2 => Same H H2 ∧ H2 D = some (.dK (kvsOf b ps)) ∧ (∃ k g ws, H2 l = some (.lst (ws.reverse.map V.int ++ [.int g])) ∧ Up L U b e ps k g ws ∧ (k = 0 ∨ k + n ≤ ps.length)) ∧ ∃ u1, σ = [some (.ref a), some (.ref c), some (.int b), some (.int e), some (.ref D), some (.ref l), u1])
        ⟨s1.trans (same_new nl), (upd_ne hDl).trans hD, ⟨k0, e, [], upd_same, Up.first hk0, .inr (by omega)⟩, none, rfl⟩ ?_ ?_⟩
      · rintro n σ H2 hn ⟨hs, hD2, ⟨k, g, ws, hl, hUp, hkn⟩, u1, rfl⟩
        have hfew := hUp.few hT
        rw [List.length_cons] at hfew
        walk_at "rd"
        refine rd_ixL hl (atI_last _ _) ?_
        cases k with
        | zero =>
          have eg : g = b := by
            have := hUp.pos
            simp [lineOf] at this
            exact this.symm
          refine ⟨D, _, rfl, (by rw [eg, ← Tree.val0 (m := m) (L := L) (U := U) (b := b) (ps := ps)]; exact DGet.k (k := .inl b) hD2 : DGet H2 D (.int g) (some .non)), ?_⟩
          walk_at "rd"
          refine ⟨rfl, ?_⟩
          walk_at "rd"
          refine rd_no rfl ?_
          exact ⟨hs, hD2, ⟨0, g, ws, hl, hUp, .inl rfl⟩, _, rfl⟩
        | succ k =>
          obtain ⟨x, k2, ex, eg, hk2, hUp2⟩ := hUp.step hT
          have hg : DGet H2 D (.int g) (some (.int x.2)) := by
            rw [← hT.val ex, ← eg]
            exact DGet.k (k := .inl x.1) hD2
          refine ⟨D, _, rfl, hg, ?_⟩
          walk_at "rd"
          refine ⟨rfl, ?_⟩
          walk_at "rd"
          refine rd_yes rfl ?_
          walk_at "rd"
          refine ⟨.inl ⟨rfl, _, SqL.of hl⟩, ?_⟩
          walk_at "rd"
          refine rd_ixL hl (atI_last _ _) ?_
          refine ⟨D, _, rfl, hg, ?_⟩
          walk_at "rd"
          refine rd_append hl (Nat.lt_of_le_of_lt (show (ws.reverse.map V.int ++ [V.int g]).length ≤ 200 by rw [List.length_append, List.length_map, List.length_reverse]; simp; omega) (by decide)) ?_
          refine ⟨fun y o' e' => ?_, ?_, ⟨k2, x.2, g :: ws, ?_, hUp2, ?_⟩, _, rfl⟩
          · rw [upd_ne (ne_of_none e' nlH)]
            exact hs y o' e'
          · rw [upd_ne hDl]
            exact hD2
          · rw [upd_same, List.reverse_cons, List.map_append]
            rfl
          · rcases hkn with z | z <;> omega
      · rintro σ H2 ⟨hs, hD2, ⟨k, g, ws, hl, hUp, hkn⟩, u1, rfl⟩
        have hfew := hUp.few hT
        have hk : k = 0 := by omega
        subst hk
        have hl2 : H2 l = some (.lst (((g :: ws).map V.int).reverse)) := by
          rw [hl, List.map_cons, List.reverse_cons, List.map_reverse]
        generalize hW : g :: ws = W at *
        have hlW : ((W.map V.int).reverse).length = W.length := by rw [List.length_reverse, List.length_map]
        walk_at "rd"
        show iRng1 _ _ _ _
        refine rd_rng1 ?_
        walk_at "rd"
        refine ⟨l, _, rfl, .inl (SqL.of hl2), ?_⟩
        rw [hlW]
        refine ⟨_, rfl, by omega, by omega, fun D2 hD3 => lc_range (lo := 0) (n := W.length)
          (fun i H3 => Same H2 H3 ∧ H3 D2 = some (.lst ((W.take i).map V.int))) ⟨same_new hD3, upd_same⟩ ?_ ?_⟩
        · rintro i H3 hi ⟨hs3, hacc⟩
          refine ⟨rfl, ?_⟩
          refine rd_tyes ?_
          refine rd_yes rfl ?_
          have ei : W[i]? = some W[i] := by simp [hi]
          generalize W[i] = o at ei
          have er : ((W.map V.int).reverse)[W.length - 1 - i]? = some (V.int o) := by
            rw [List.getElem?_reverse (by rw [List.length_map]; omega), List.length_map, List.getElem?_map, show W.length - 1 - (W.length - 1 - i) = i by omega, ei]
            rfl
          walk_at "rd"
          refine ⟨l, _, rfl, .inl (SqL.of (hs3 _ _ hl2)), ?_⟩
          walk_at "rd"
          refine rd_ixL (hs3 _ _ hl2) (at_of (j := W.length - 1 - i) (by omega) er) ?_
          refine ⟨_, hacc, ?_, fun y o' e' => ?_, ?_⟩
          · refine Nat.lt_of_le_of_lt (?_ : _ ≤ 200) (by decide)
            rw [List.length_map]
            exact Nat.le_trans (List.length_take_le' _ _) (by omega)
          · rw [upd_ne (ne_of_none e' hD3)]
            exact hs3 y o' e'
          · rw [upd_same, take_snoc ei, List.map_append]
            rfl
        · rintro H3 ⟨hs3, hacc⟩
          rw [List.take_length] at hacc
          subst hW
          exact q1 D2 _ H3 (hs.trans hs3) hacc hUp.way (by omega)
end
end Mw

/-! N10 -/
namespace Mw
open PySem L2
section
variable {K : PySem.W.Frag} {a b : Addr} {xs ys : List V}
/-- a loop over zip of two lists, the second one no longer -/
theorem for_zipS {g : TG} {tb : TS} {D : Ends} {σ : L2.St} {H : Hp} (hl : ys.length ≤ xs.length) (Pv : Nat → L2.St → Hp → Prop) (h0 : Pv 0 σ H)
    (hq : ∀ i σ H, Pv i σ H → SqL K H a xs ∧ SqL K H b ys)
    (hs : ∀ (i : Nat) (x y : V) (t : Addr) (σ : L2.St) (H : Hp), xs[i]? = some x → ys[i]? = some y → Pv i σ H → H t = none → g (.ref t) σ (upd H t (.tup [x, y])) (tb { D with nx := Pv (i + 1), ct := Pv (i + 1), bk := D.nx }))
    (hd : ∀ σ H, Pv ys.length σ H → D.nx σ H) :
    ∃ W : Nat → Nat → L2.St → Hp → Prop, (∃ m, W 0 m σ H) ∧ ∀ i m σ H, W i m σ H → (Itz K a b).stop i H ∧ D.nx σ H ∨ (Itz K a b).go i H ∧ ∃ N : L2.St → Hp → Prop, (∀ σ' H', N σ' H' → ∃ m', m' < m ∧ W (i + 1) m' σ' H') ∧
      ∀ v H', (Itz K a b).yld i H v H' → g v σ H' fun σ2 H2 => tb { D with nx := N, ct := N, bk := D.nx } σ2 H2 := by
  refine ⟨fun i m σ H => m = ys.length - i ∧ i ≤ ys.length ∧ Pv i σ H, ⟨_, rfl, Nat.zero_le _, h0⟩, ?_⟩
  rintro i m σ H ⟨rfl, hi, hP⟩
  obtain ⟨q1, q2⟩ := hq i σ H hP
  by_cases e : i = ys.length
  · exact .inl ⟨⟨xs, ys, q1, q2, .inr (Nat.le_of_eq e.symm)⟩, hd σ H (e ▸ hP)⟩
  · have hlt : i < ys.length := by omega
    have hy : ys[i]? = some ys[i] := by simp [hlt]
    have hx : xs[i]? = some (xs[i]'(Nat.lt_of_lt_of_le hlt hl)) := by simp
    refine .inr ⟨⟨xs, ys, _, _, q1, q2, hx, hy⟩, Pv (i + 1), fun σ' H' h => ⟨ys.length - (i + 1), by omega, rfl, by omega, h⟩, ?_⟩
    rintro v H' ⟨t, x, y, rfl, ht, rfl, ex, ey⟩
    exact hs i x y t σ H (ex xs q1) (ey ys q2) hP ht
/-- the same for a comprehension -/
theorem lc_zipS {g : TG} {tt : TT} {te : TE} {vs : List Nat} {σ : L2.St} {H1 : Hp} {D : Addr} {Qd : Hp → Prop} (hl : ys.length ≤ xs.length) (Pv : Nat → Hp → Prop) (h0 : Pv 0 (upd H1 D (.lst [])))
    (hq : ∀ i H, Pv i H → SqL K H a xs ∧ SqL K H b ys)
    (hs : ∀ (i : Nat) (x y : V) (t : Addr) (H : Hp), xs[i]? = some x → ys[i]? = some y → Pv i H → H t = none → g (.ref t) (wipe σ vs) (upd H t (.tup [x, y])) fun σ2 H2 => wipe σ2 vs = wipe σ vs ∧
      tt σ2 H2 fun b H3 => if b = true then te σ2 H3 fun y H4 => ∃ acc, H4 D = some (.lst acc) ∧ acc.length < sizeLine ∧ Pv (i + 1) (upd H4 D (.lst (acc ++ [y]))) else Pv (i + 1) H3)
    (hd : ∀ H, Pv ys.length H → Qd H) :
    ∃ W : Nat → Nat → Hp → Prop, (∃ m, W 0 m (upd H1 D (.lst []))) ∧ ∀ i m H, W i m H → (Itz K a b).stop i H ∧ Qd H ∨ (Itz K a b).go i H ∧ ∃ Nx : Hp → Prop, (∀ H', Nx H' → ∃ m', m' < m ∧ W (i + 1) m' H') ∧
      ∀ x H', (Itz K a b).yld i H x H' → g x (wipe σ vs) H' fun σ2 H2 => wipe σ2 vs = wipe σ vs ∧ tt σ2 H2 fun b H3 => if b = true then te σ2 H3 fun y H4 => ∃ acc, H4 D = some (.lst acc) ∧ acc.length < sizeLine ∧ Nx (upd H4 D (.lst (acc ++ [y]))) else Nx H3 := by
  refine ⟨fun i m H => m = ys.length - i ∧ i ≤ ys.length ∧ Pv i H, ⟨_, rfl, Nat.zero_le _, h0⟩, ?_⟩
  rintro i m H ⟨rfl, hi, hP⟩
  obtain ⟨q1, q2⟩ := hq i H hP
  by_cases e : i = ys.length
  · exact .inl ⟨⟨xs, ys, q1, q2, .inr (Nat.le_of_eq e.symm)⟩, hd H (e ▸ hP)⟩
  · have hlt : i < ys.length := by omega
    have hy : ys[i]? = some ys[i] := by simp [hlt]
    have hx : xs[i]? = some (xs[i]'(Nat.lt_of_lt_of_le hlt hl)) := by simp
    refine .inr ⟨⟨xs, ys, _, _, q1, q2, hx, hy⟩, Pv (i + 1), fun H' h => ⟨ys.length - (i + 1), by omega, rfl, by omega, h⟩, ?_⟩
    rintro v H' ⟨t, x, y, rfl, ht, rfl, ex, ey⟩
    exact hs i x y t H (ex xs q1) (ey ys q2) hP ht
theorem rd_izip {ta : TA} {σ : L2.St} {H : Hp} {R : It → Hp → Prop} (h : ta σ H fun vs H1 => ∃ a b xs ys, vs = [.ref a, .ref b] ∧ ((SqL K H1 a xs ∧ SqL K H1 b ys ∧ R (Itz K a b) H1) ∨ (SqT K H1 a xs ∧ SqT K H1 b ys ∧ R (RZ.ItzT K a b) H1))) : RZ.iZipA K ta σ H R := h
theorem cut_tail : ∀ ws : List V, cutV ws (some 1) none = ws.tail
  | [] => rfl
  | x :: ws => by
    have e1 : HT.sIx (x :: ws).length 0 (some 1) = 1 := by
      show min 1 (ws.length + 1) = 1
      omega
    unfold cutV
    rw [e1, HT.sIx_none]
    simp
theorem rd_slL1 {r : Addr} {ws : List Int} {H : Hp} {Q : VK} (h : H r = some (.lst (ws.map V.int))) (q : ∀ p, H p = none → Q (.ref p) (upd H p (.lst (ws.tail.map V.int)))) : rSlL K (.ref r) (some 1) none H Q :=
  ⟨r, _, rfl, SqL.of h, fun p hp => by
    rw [cut_tail, ← List.map_tail]
    exact q p hp⟩
theorem ixN_nat {n k : Nat} (h : k < n) : ixN n (k : Int) = some k := by
  unfold ixN
  rw [if_pos (by omega), if_pos (by omega)]
  simp
end
def spSent (C : Addr) : Sp := fun vs H Q _ => ∃ (p : Addr) (v : V) (m : Int) (L : List Tie) (sp mo : Int) (c r : Addr) (U ws : List Int) (b e u : Int), vs = [v, .ref c, .ref r, .int u] ∧ Tp C p H (planD m L sp mo) v ∧ Right m L sp mo ∧ U.length = L.length ∧ FitU L U ∧ H c = some (.tup (U.map V.int)) ∧ H r = some (.lst (ws.map V.int)) ∧
  Route L U b e ws ∧ 0 ≤ u ∧ u ≤ 2000000 ∧ (∀ (t : Nat) (x y z : Int), ws[t]? = some x → ws[t + 1]? = some y → roomUp L U x y z → u ≤ z) ∧
  ∀ (c' : Addr) (U' : List Int) (H' : Hp), Same H H' → H c' = none → H' c' = some (.tup (U'.map V.int)) → SentN L U ws u (ws.length - 1) U' → Q (.ref c') H'
def spLeast (C : Addr) : Sp := fun vs H Q _ => ∃ (p : Addr) (v : V) (m : Int) (L : List Tie) (sp mo : Int) (c r : Addr) (U ws : List Int) (b e : Int), vs = [v, .ref c, .ref r] ∧ Tp C p H (planD m L sp mo) v ∧ Right m L sp mo ∧ U.length = L.length ∧ FitU L U ∧ H c = some (.tup (U.map V.int)) ∧ H r = some (.lst (ws.map V.int)) ∧
  Route L U b e ws ∧ 2 ≤ ws.length ∧ ∀ (z : Int) (H' : Hp), Same H H' → 0 < z → z < 2000000 → (∀ (t : Nat) (x y z' : Int), ws[t]? = some x → ws[t + 1]? = some y → roomUp L U x y z' → z ≤ z') → Q (.int z) H'
section
variable {P : Program} {w : World} {K : PySem.W.Frag} {mg : Str → Option Value} {base : Heap}
local macro_rules | `(tactic| walk_at "rd") => `(tactic| (repeat (first
  | ((with_reducible refine' rd_var ?h0 ?_); (case h0 => rfl))
  | with_reducible refine rd_c ?_
  | with_reducible refine rd_op ?_
  | with_reducible refine rd_nil ?_
  | with_reducible refine rd_cons ?_
  | with_reducible refine rd_tup ?_
  | with_reducible refine rd_lst ?_
  | with_reducible refine rd_ifs ?_
  | with_reducible refine rd_seq ?_
  | with_reducible refine rd_next ?_
  | with_reducible refine rd_ret ?_
  | with_reducible refine rd_asg ?_
  | ((with_reducible refine' rd_gset ?hs ?_); (case hs => ((simp only [L2.start, List.map_cons, List.map_nil, List.length_cons, List.length_nil, List.cons_append, List.nil_append, List.set_cons_zero, List.set_cons_succ, Nat.reduceAdd, Nat.reduceSub, Nat.zero_add, List.reduceReplicate]); rfl)))
  | with_reducible refine rd_drop ?_
  | with_reducible refine rd_test ?_
  | with_reducible refine rd_B ?_
  | with_reducible refine rd_bl ?_
  | with_reducible refine rd_blP ?_
  | with_reducible refine rd_andV ?_
  | with_reducible refine rd_orV ?_
  | with_reducible refine rd_notV ?_
  | with_reducible refine rd_and ?_
  | with_reducible refine rd_or ?_
  | with_reducible refine rd_not ?_
  | with_reducible refine rd_chain ?_
  | with_reducible refine rd_dput ?_
  | with_reducible refine rd_dget ?_
  | with_reducible refine rd_cb ?_
  | with_reducible refine rd_call ?_
  | with_reducible refine rd_un ?_
  | with_reducible refine rd_sl ?_
  | with_reducible refine rd_nopart ?_
  | with_reducible refine rd_part ?_
  | with_reducible refine rd_intP ?_
  | with_reducible refine rd_rU ?_
  | with_reducible refine rd_fld ?_
  | with_reducible refine rd_eqI ?_
  | with_reducible refine rd_neI ?_
  | with_reducible refine rd_mko ?_
  | with_reducible refine rd_bm ?_
  | with_reducible refine rd_gsub ?_
  | with_reducible refine rd_i0 ?_)))
theorem ok_law_sent (T : Tx K mg) (B : Bk K mg T) : FnOk P w K mg base CX0 2 B.law_sent.f B.law_sent.fd ["plan", "stream", "houses", "units"] (spSent T.c_Web) := by
  have G_law_at := ok_law_at (P := P) (w := w) (base := base) T B
  refine B.law_sent.F.ok sc_law_sent (fun vs H Q E h => ?_) (fun cdv A outer s H vs Q E hr h => ?_)
  · obtain ⟨p, v, m, L, sp, mo, c, r, U, ws, b, e, u, rfl, _⟩ := h
    rfl
  · obtain ⟨p, v, m, L, sp, mo, c, r, U, ws, b, e, u, rfl, hv, hR, hU, hF, hc, hr1, hW, u0, u1, hz, q⟩ := h
    refine ⟨_, (pss_cons (ps_set (i := 4) sc_law_sent.nd rfl (Or.inl rfl) (pe_callTy call_list_of (by rfl) T.b_list (by decide +kernel) (pa_cons (pv 1) pa_nil)))
      (pss_cons (ps_for PassesOwn.never rfl (RZ.pi_zipA (by rfl) T.b_zip (pa_cons (pv 2) (pa_cons (pe_slice sl_list (pv 2) (po_some pe_int) po_none) pa_nil))) (pg_tup (by rfl) (pgs_cons (pg_name (i := 5) sc_law_sent.nd rfl (Or.inl rfl)) (pgs_cons (pg_name (i := 6) sc_law_sent.nd rfl (Or.inl rfl)) pgs_nil))) (pss_cons (ps_set (i := 7) sc_law_sent.nd rfl (Or.inl rfl) (pe_call G_law_at (hr.mono (by decide)) rfl B.law_at.m B.law_at.F.kp B.law_at.b .nil pass0 (pa_cons (pv 0) (pa_cons (pv 5) (pa_cons (pv 6) pa_nil)))))
      (pss_one (ps_asg (pe_op op_add (pe_ix ix_list (pv 4) (pv 7) (fun _ _ => rfl)) (pe_op op_mul (pv 3) (pe_op op_sub pe_int (pe_op op_mul pe_int (pe_callTy call_int1 (by rfl) T.b_int (by decide +kernel) (pa_cons (pe_cmpR op_gt (pv 5) (pv 6) (nomark _)) pa_nil)))))) (pg_sub (pv 4) (pv 7) set_list)))))
      (pss_one (ps_ret (pe_callTy call_tuple_of (by rfl) T.b_tuple (by decide +kernel) (pa_cons (pv 4) pa_nil)))))), ?_⟩
    have hL := hR.len
    walk_at "rd"
    refine ⟨c, _, rfl, .inr (SqT.of hc), fun f nf => ?_⟩
    walk_at "rd"
    show RZ.iZipA _ _ _ _ _
    refine rd_izip ?_
    have s1 := same_new (o := .lst (U.map V.int)) nf
    walk_at "rd"
    refine rd_slL1 (s1 _ _ hr1) fun t1 nt => ?_
    have nt1 := s1.free nt
    have s2 := s1.trans (same_new (o := .lst (ws.tail.map V.int)) nt)
    have hft : f ≠ t1 := ne_of_none (H := upd H f (.lst (U.map V.int))) upd_same nt
    have hfr : f ≠ r := (ne_of_none hr1 nf).symm
    refine ⟨r, t1, _, _, rfl, .inl ⟨SqL.of (s2 _ _ hr1), SqL.of upd_same, for_zipS (K := K) (a := r) (b := t1) (xs := ws.map V.int) (ys := ws.tail.map V.int) (by simp)
      (fun n σ H1 => Same H H1 ∧ H1 t1 = some (.lst (ws.tail.map V.int)) ∧ (∃ U1, H1 f = some (.lst (U1.map V.int)) ∧ SentN L U ws u n U1) ∧ ∃ x1 x2 x3, σ = [some v, some (.ref c), some (.ref r), some (.int u), some (.ref f), x1, x2, x3])
      ⟨s2, upd_same, ⟨U, (upd_ne hft).trans upd_same, SentN.zero hF⟩, none, none, none, rfl⟩ (fun n σ H1 hh => ⟨SqL.of (hh.1 _ _ hr1), SqL.of hh.2.1⟩) ?_ ?_⟩⟩
    · rintro n x y t σ H1 hx hy ⟨hs, ht1, ⟨U1, hf, hS⟩, x1, x2, x3, rfl⟩ nT
      obtain ⟨i, hi, rfl⟩ := mapint_get hx
      obtain ⟨j, hj, rfl⟩ := mapint_get hy
      rw [List.getElem?_tail] at hj
      have hs3 := hs.trans (same_new (o := .tup [.int i, .int j]) nT)
      have hf3 : (upd H1 t (.tup [.int i, .int j])) f = some (.lst (U1.map V.int)) := (upd_ne (ne_of_none hf nT)).trans hf
      have ht3 : (upd H1 t (.tup [.int i, .int j])) t1 = some (.lst (ws.tail.map V.int)) := (upd_ne (ne_of_none ht1 nT)).trans ht1
      have hh := hW.hop n i j hi hj
      obtain ⟨z, z0, hup⟩ := hh
      obtain ⟨k0, q0, v0, hk0, hv0, hh0⟩ := id hup
      obtain ⟨k, q1, v1, hk, hv1, ha, ez⟩ := hup.at hR
      have ek : k0 = k := by
        have bq := hR.most hk0
        unfold atP at ha
        simp only [Bool.and_eq_true, beq_iff_eq] at ha
        refine hR.one hk0 hk ?_ ?_
        · rw [ha.1]
          rcases hh0 with ⟨e1, e2, _⟩ | ⟨e1, e2, _⟩ <;> omega
        · rw [ha.2]
          rcases hh0 with ⟨e1, e2, _⟩ | ⟨e1, e2, _⟩ <;> omega
      subst ek
      rw [hk] at hk0
      cases hk0
      have hkU1 : k0 < U1.length := by
        rw [hS.len, hU]
        exact (List.getElem?_eq_some_iff.mp hk).1
      have hv2 : U1[k0]? = some U1[k0] := by simp [hkU1]
      generalize U1[k0] = v2 at hv2
      have bq := hR.most hk
      refine ⟨t, _, rfl, SqT.of upd_same, rfl, _, _, rfl, _, _, rfl, rfl, ?_⟩
      walk_at "rd"
      refine ⟨p, v, m, L, sp, mo, i, j, rfl, Tp.keep (Keep.same hs3) _ _ hv, hR.len, fun H2 s4 => ⟨fun k' t' hk' ha' _ => ?_, fun hno => ?_⟩⟩
      · have e : k' = k0 := by
          unfold atP at ha ha'
          simp only [Bool.and_eq_true, beq_iff_eq] at ha ha'
          exact hR.one hk' hk (by rw [ha.1, ha'.1]) (by rw [ha.2, ha'.2])
        subst e
        have hf4 := s4 _ _ hf3
        walk_at "rd"
        refine rd_ixL hf4 (atI_nat (by rw [List.getElem?_map, hv2]; rfl)) ?_
        walk_at "rd"
        refine .inr ⟨_, rfl, ?_⟩
        walk_at "rd"
        refine rd_iC (.inl ⟨by omega, by omega⟩) ?_
        walk_at "rd"
        refine rd_iC (.inl ⟨by omega, by omega⟩) ?_
        walk_at "rd"
        refine rd_setL hf4 (ixN_nat (by rw [List.length_map]; exact hkU1)) ?_
        have hSent : ∃ U2, Sent1 L U1 i j u U2 ∧ (U1.map V.int).set k' (V.int (v2 + u * (1 - 2 * (if decide (j < i) = true then 1 else 0)))) = U2.map V.int := by
          rcases hh0 with ⟨e1, e2, _⟩ | ⟨e1, e2, _⟩
          · refine ⟨U1.set k' (v2 + u), ⟨k', q0, v2, hk, hv2, .inl ⟨e1, e2, rfl⟩⟩, ?_⟩
            rw [if_neg (by simp; omega), List.map_set]
            simp
          · refine ⟨U1.set k' (v2 - u), ⟨k', q0, v2, hk, hv2, .inr ⟨e1, e2, rfl⟩⟩, ?_⟩
            rw [if_pos (by simp; omega), List.map_set, show v2 + u * (1 - 2 * 1) = v2 - u by omega]
        obtain ⟨U2, hS2, eU⟩ := hSent
        rw [eU]
        refine ⟨fun x o' e' => ?_, ?_, ⟨U2, upd_same, hS.step hR hU hW u0 hz hi hj hS2⟩, _, _, _, rfl⟩
        · rw [upd_ne (ne_of_none e' nf)]
          exact s4 _ _ (hs3 x o' e')
        · rw [upd_ne hft.symm]
          exact s4 _ _ ht3
      · rw [hno k0 q0 hk] at ha
        cases ha
    · rintro σ H1 ⟨hs, ht1, ⟨U1, hf, hS⟩, x1, x2, x3, rfl⟩
      rw [List.length_map, List.length_tail] at hS
      walk_at "rd"
      refine ⟨f, _, rfl, .inl ⟨SqL.of hf, fun l hl => ?_⟩⟩
      exact q l U1 _ (hs.trans (same_new hl)) (hs.free hl) upd_same hS
theorem ok_law_least (T : Tx K mg) (B : Bk K mg T) : FnOk P w K mg base CX0 4 B.law_least_room.f B.law_least_room.fd ["plan", "stream", "houses"] (spLeast T.c_Web) := by
  have G_law_room := ok_law_room (P := P) (w := w) (base := base) T B
  refine B.law_least_room.F.ok sc_law_least_room (fun vs H Q E h => ?_) (fun cdv A outer s H vs Q E hr h => ?_)
  · obtain ⟨p, v, m, L, sp, mo, c, r, U, ws, b, e, rfl, _⟩ := h
    rfl
  · obtain ⟨p, v, m, L, sp, mo, c, r, U, ws, b, e, rfl, hv, hR, hU, hF, hc, hr1, hW, h2, q⟩ := h
    refine ⟨_, (pss_one (ps_ret (pe_callB (cr_min rfl) (by rfl) T.b_min (by decide +kernel) (pa_cons (pe_lc (own := [("one", 3), ("other", 4)]) (g := (gTup K 2 (gCons (gName 3) (gCons (gName 4) gNil)))) rfl sc_law_least_room.nd (RZ.pi_zipA (by rfl) T.b_zip (pa_cons (pv 2) (pa_cons (pe_slice sl_list (pv 2) (po_some pe_int) po_none) pa_nil))) (blkOk_by (own := [("one", 3), ("other", 4)]) (N := ["plan", "stream", "houses", "one", "other"]) (sc := defScope s_law_least_room) (by decide +kernel)) (fun _ _ _ _ _ => (pg_tup (by rfl) (pgs_cons (pg_name (i := 3) sc_law_least_room.nd rfl (Or.inl rfl)) (pgs_cons (pg_name (i := 4) sc_law_least_room.nd rfl (Or.inl rfl)) pgs_nil)))) (fun _ _ _ _ _ => pts_nil) (fun _ _ _ _ _ => (pe_call G_law_room (hr.mono (by decide)) rfl B.law_room.m B.law_room.F.kp B.law_room.b .nil pass0 (pa_cons (pv 0) (pa_cons (pv 1) (pa_cons (pv 3) (pa_cons (pv 4) pa_nil))))))) pa_nil)))), ?_⟩
    have hfew := hW.few
    walk_at "rd"
    show RZ.iZipA _ _ _ _ _
    refine rd_izip ?_
    walk_at "rd"
    refine rd_slL1 hr1 fun t1 nt => ?_
    have s2 := same_new (o := .lst (ws.tail.map V.int)) nt
    refine ⟨r, t1, _, _, rfl, .inl ⟨SqL.of (s2 _ _ hr1), SqL.of upd_same, fun D hD => lc_zipS (K := K) (a := r) (b := t1) (xs := ws.map V.int) (ys := ws.tail.map V.int) (by simp)
      (fun n H1 => Same H H1 ∧ H1 t1 = some (.lst (ws.tail.map V.int)) ∧ H1 D = some (.lst ((((ws.zip ws.tail).take n).map fun x => roomTo L U x.1 x.2).map V.int)))
      ⟨s2.trans (same_new hD), (upd_ne (ne_of_none (H := upd H t1 (.lst (ws.tail.map V.int))) upd_same hD)).trans upd_same, upd_same⟩ (fun n H1 hh => ⟨SqL.of (hh.1 _ _ hr1), SqL.of hh.2.1⟩) ?_ ?_⟩⟩
    · rintro n x y t H1 hx hy ⟨hs, ht1, hacc⟩ nT
      obtain ⟨i, hi, rfl⟩ := mapint_get hx
      obtain ⟨j, hj, rfl⟩ := mapint_get hy
      have hj' := hj
      rw [List.getElem?_tail] at hj'
      have hs3 := hs.trans (same_new (o := .tup [.int i, .int j]) nT)
      have ht3 : (upd H1 t (.tup [.int i, .int j])) t1 = some (.lst (ws.tail.map V.int)) := (upd_ne (ne_of_none ht1 nT)).trans ht1
      have hacc3 : (upd H1 t (.tup [.int i, .int j])) D = some (.lst _) := (upd_ne (ne_of_none hacc nT)).trans hacc
      obtain ⟨z0, hup⟩ := (hW.hop n i j hi hj').to hR
      refine ⟨t, _, rfl, SqT.of upd_same, rfl, _, _, rfl, _, _, rfl, rfl, ?_⟩
      refine ⟨rfl, ?_⟩
      refine rd_tyes ?_
      refine rd_yes rfl ?_
      walk_at "rd"
      refine ⟨p, v, m, L, sp, mo, c, U, i, j, _, rfl, Tp.keep (Keep.same hs3) _ _ hv, hR, hs3 _ _ hc, hup, fun H4 s4 => ?_⟩
      refine ⟨_, s4 _ _ hacc3, ?_, fun y o' e' => ?_, ?_, ?_⟩
      · refine Nat.lt_of_le_of_lt (?_ : _ ≤ 200) (by decide)
        rw [List.length_map, List.length_map]
        exact Nat.le_trans (List.length_take_le' _ _) (by rw [List.length_zip]; omega)
      · rw [upd_ne (ne_of_none (s2 _ _ e') hD)]
        exact s4 _ _ (hs3 y o' e')
      · rw [upd_ne (ne_of_none (H := upd H t1 (.lst (ws.tail.map V.int))) upd_same hD)]
        exact s4 _ _ ht3
      · rw [upd_same, zip_snoc hi hj, List.map_append, List.map_append]
        rfl
    · rintro H1 ⟨hs, ht1, hacc⟩
      rw [List.take_of_length_le (by rw [List.length_zip]; simp)] at hacc
      dsimp only
      walk_at "rd"
      refine ⟨D, _, rfl, SqL.of hacc, by rw [List.length_map, List.length_zip, List.length_tail]; omega, fun z hz hall => ?_⟩
      obtain ⟨x, hx, rfl⟩ := List.mem_map.mp hz
      obtain ⟨t, ht⟩ := List.mem_iff_getElem?.mp hx
      rw [List.getElem?_zip_eq_some, List.getElem?_tail] at ht
      obtain ⟨z0, hup⟩ := (hW.hop t _ _ ht.1 ht.2).to hR
      refine q _ H1 hs z0 (room_most hR hF hup).2 fun t' x' y' z' h1 h2 h3 => ?_
      rw [← roomTo_up hR h3]
      refine hall _ (List.mem_map.mpr ⟨(x', y'), List.mem_of_getElem? (i := t') ?_, rfl⟩)
      rw [List.getElem?_zip_eq_some, List.getElem?_tail]
      exact ⟨h1, h2⟩
end
end Mw

/-! N11 -/
namespace Mw
open PySem L2
theorem rd_repN {K : PySem.W.Frag} {H0 H : Hp} {Q : VK} {l : Addr} {k : Int} {v : V} (h : H l = some (.tup [v])) (h0 : 0 ≤ k) (h1 : k ≤ 1000) (s : Same H0 H) (nl : H0 l = none) (q : ∀ p H', Same H0 H' → H0 p = none → H' p = some (.tup (List.replicate k.toNat v)) → Q (.ref p) H') : rRepN K (.ref l) (.int k) H Q := by
  refine ⟨l, k, [v], rfl, rfl, SqT.of h, by simp, h0, h1, by simp, fun e => q l H s nl ?_, fun _ p hp => q p _ (s.trans (same_new hp)) (s.free hp) ?_⟩
  · rw [e]
    exact h
  · rw [upd_same]
    congr 2
    generalize k.toNat = n
    induction n with
    | zero => rfl
    | succ n ih => rw [List.replicate_succ, List.replicate_succ, List.flatten_cons, ih]; rfl
theorem rd_break {D : Ends} {σ : L2.St} {H : Hp} (h : D.bk σ H) : tBreak D σ H := h
theorem HandAt.ints {p l r : Addr} {H : Hp} {ws : List Int} (h : HandAt p l H) (e : H r = some (.lst (ws.map V.int))) : r ≠ p := by
  rintro rfl
  obtain ⟨ns, i, c, z, t, h1, _⟩ := h
  rw [h1] at e
  cases ws with
  | nil => cases e
  | cons x ws => cases e
theorem Way.two {L : List Tie} {U ws : List Int} {b e : Int} (h : Way L U b e ws) (ne : b ≠ e) : 2 ≤ ws.length := by
  have h1 := (List.getElem?_eq_some_iff.mp h.hd).1
  have h2 := last_at h.lst
  by_cases c : ws.length = 1
  · rw [c, h.hd] at h2
    cases h2
    exact absurd rfl ne
  · omega
def spGreat (C : Addr) : Sp := fun vs H Q _ => ∃ (p : Addr) (v : V) (m : Int) (L : List Tie) (sp mo : Int), vs = [v] ∧ Tp C p H (planD m L sp mo) v ∧ Right m L sp mo ∧
  ∀ (c : Addr) (U : List Int) (H' : Hp), Same H H' → H c = none → H' c = some (.tup (U.map V.int)) → Strm m L sp mo U → Q (.ref c) H'
def spRing (C : Addr) : Sp := fun vs H Q _ => ∃ (p l0 : Addr) (v : V) (m : Int) (L : List Tie) (sp mo : Int) (c : Addr) (U : List Int), vs = [.ref p, v, .ref c] ∧ Tp C p H (planD m L sp mo) v ∧ Right m L sp mo ∧ U.length = L.length ∧ At p H c (.tup (U.map V.int)) ∧ HandAt p l0 H ∧
  (∀ H', Keep p H H' → HandAt p l0 H' → Q .non H') ∧ ∀ (r : Addr) (ws : List Int) (o : Int) (H' : Hp), Keep p H H' → HandAt p l0 H' → H' r = some (.lst (ws.map V.int)) → Route L U o o ws → 4 ≤ ws.length → Q (.ref r) H'
theorem Right.ends {m : Int} {L : List Tie} {sp mo : Int} (hR : Right m L sp mo) : 0 ≤ sp ∧ sp < m ∧ 0 ≤ mo ∧ mo < m ∧ sp ≠ mo := by
  have := hR.parts
  omega
section
variable {P : Program} {w : World} {K : PySem.W.Frag} {mg : Str → Option Value} {base : Heap}
local macro_rules | `(tactic| walk_at "rd") => `(tactic| (repeat (first
  | ((with_reducible refine' rd_var ?h0 ?_); (case h0 => rfl))
  | with_reducible refine rd_c ?_
  | with_reducible refine rd_op ?_
  | with_reducible refine rd_nil ?_
  | with_reducible refine rd_cons ?_
  | with_reducible refine rd_tup ?_
  | with_reducible refine rd_lst ?_
  | with_reducible refine rd_ifs ?_
  | with_reducible refine rd_seq ?_
  | with_reducible refine rd_next ?_
  | with_reducible refine rd_ret ?_
  | with_reducible refine rd_asg ?_
  | ((with_reducible refine' rd_gset ?hs ?_); (case hs => ((simp only [L2.start, List.map_cons, List.map_nil, List.length_cons, List.length_nil, List.cons_append, List.nil_append, List.set_cons_zero, List.set_cons_succ, Nat.reduceAdd, Nat.reduceSub, Nat.zero_add, List.reduceReplicate]); rfl)))
  | with_reducible refine rd_drop ?_
  | with_reducible refine rd_test ?_
  | with_reducible refine rd_B ?_
  | with_reducible refine rd_bl ?_
  | with_reducible refine rd_blP ?_
  | with_reducible refine rd_andV ?_
  | with_reducible refine rd_orV ?_
  | with_reducible refine rd_notV ?_
  | with_reducible refine rd_and ?_
  | with_reducible refine rd_or ?_
  | with_reducible refine rd_not ?_
  | with_reducible refine rd_chain ?_
  | with_reducible refine rd_dput ?_
  | with_reducible refine rd_dget ?_
  | with_reducible refine rd_cb ?_
  | with_reducible refine rd_call ?_
  | with_reducible refine rd_un ?_
  | with_reducible refine rd_sl ?_
  | with_reducible refine rd_nopart ?_
  | with_reducible refine rd_part ?_
  | with_reducible refine rd_intP ?_
  | with_reducible refine rd_rU ?_
  | with_reducible refine rd_fld ?_
  | with_reducible refine rd_eqI ?_
  | with_reducible refine rd_neI ?_
  | with_reducible refine rd_mko ?_
  | with_reducible refine rd_bm ?_
  | with_reducible refine rd_gsub ?_
  | with_reducible refine rd_i0 ?_)))
theorem ok_law_greatest (T : Tx K mg) (B : Bk K mg T) : FnOk P w K mg base CX0 6 B.law_greatest.f B.law_greatest.fd ["plan"] (spGreat T.c_Web) := by
  have G_law_way := ok_law_way (P := P) (w := w) (base := base) T B
  have G_law_sent := ok_law_sent (P := P) (w := w) (base := base) T B
  have G_law_least_room := ok_law_least (P := P) (w := w) (base := base) T B
  refine B.law_greatest.F.ok sc_law_greatest (fun vs H Q E h => ?_) (fun cdv A outer s H vs Q E hr h => ?_)
  · obtain ⟨p, v, m, L, sp, mo, rfl, _⟩ := h
    rfl
  · obtain ⟨p, v, m, L, sp, mo, rfl, hv, hR, q⟩ := h
    refine ⟨_, (pss_cons (ps_set (i := 1) sc_law_greatest.nd rfl (Or.inl rfl) (pe_op op_repN (pe_tup (pa_cons pe_int pa_nil)) (pe_callB call_len_seq (by rfl) T.b_len (by decide +kernel) (pa_cons (pe_ix ix_tup (pv 0) pe_int (fun _ _ => rfl)) pa_nil))))
      (pss_cons (ps_for PassesOwn.never rfl (pi_range1 (by rfl) T.b_range (pa_cons pe_int pa_nil)) (pg_name (i := 2) sc_law_greatest.nd rfl (Or.inl rfl)) (pss_cons (ps_set (i := 3) sc_law_greatest.nd rfl (Or.inl rfl) (pe_call G_law_way (hr.mono (by decide)) rfl B.law_way.m B.law_way.F.kp B.law_way.b .nil pass0 (pa_cons (pv 0) (pa_cons (pv 1) (pa_cons (pe_ix ix_tup (pv 0) pe_int (fun _ _ => rfl)) (pa_cons (pe_ix ix_tup (pv 0) pe_int (fun _ _ => rfl)) pa_nil))))))
      (pss_cons (ps_if (pt_cmpR op_isN (pv 3) pe_non (nomark _)) (pss_one ps_break) pss_nil)
      (pss_one (ps_set (i := 1) sc_law_greatest.nd rfl (Or.inl rfl) (pe_call G_law_sent (hr.mono (by decide)) rfl B.law_sent.m B.law_sent.F.kp B.law_sent.b .nil pass0 (pa_cons (pv 0) (pa_cons (pv 1) (pa_cons (pv 3) (pa_cons (pe_call G_law_least_room (hr.mono (by decide)) rfl B.law_least_room.m B.law_least_room.F.kp B.law_least_room.b .nil pass0 (pa_cons (pv 0) (pa_cons (pv 1) (pa_cons (pv 3) pa_nil)))) pa_nil))))))))))
      (pss_one (ps_ret (pv 1))))), ?_⟩
    have hm := hR.ends
    have hL := hR.len
    obtain ⟨a, xs, rfl, ha, hx⟩ := tp_tup' (id hv)
    obtain ⟨v1, v2, v3, v4, rfl, t1, t2, t3, t4⟩ := tpAll4 hx
    cases tp_int' t1
    cases tp_int' t3
    cases tp_int' t4
    obtain ⟨ct, xs, rfl, hct, hx⟩ := tp_tup' t2
    have hlen : xs.length = L.length := by
      have := hx.len
      simpa using this.symm
    walk_at "rd"
    refine rd_disp rfl fun c0 n0 => ?_
    have s0 := same_new (o := .tup [.int 0]) n0
    walk_at "rd"
    refine rd_ixT (s0 _ _ ha.2) rfl ?_
    refine ⟨ct, xs, rfl, .inr (SqT.of (s0 _ _ hct.2)), ?_⟩
    rw [hlen]
    refine rd_repN upd_same (by omega) (by omega) s0 n0 fun c1 H1 s1 nc1 hc1 => ?_
    rw [Int.toNat_natCast, ← List.map_replicate (f := V.int) (a := 0)] at hc1
    walk_at "rd"
    refine ⟨_, rfl, by decide, by decide, for_range (lo := 0) (n := 400) (fun n σ H2 => Same H H2 ∧ ∃ c U u1 u2, H c = none ∧ H2 c = some (.tup (U.map V.int)) ∧ Strm m L sp mo U ∧ σ = [some (.ref a), some (.ref c), u1, u2])
      ⟨s1, c1, _, none, none, nc1, hc1, Strm.zero hR, rfl⟩ ?_ ?_⟩
    · rintro n σ H2 hn ⟨hs, c, U, u1, u2, nc, hc, hS, rfl⟩
      walk_at "rd"
      refine rd_ixT (hs _ _ ha.2) rfl ?_
      walk_at "rd"
      refine rd_ixT (hs _ _ ha.2) rfl ?_
      refine ⟨p, .ref a, m, L, sp, mo, c, U, sp, mo, rfl, Tp.keep (Keep.same hs) _ _ hv, hR, hS.len, hc, by omega, by omega, fun H3 s3 => ?_, fun r ws H3 s3 hr3 hW hf => ?_⟩
      · walk_at "rd"
        refine ⟨rfl, ?_⟩
        walk_at "rd"
        refine rd_yes rfl ?_
        refine rd_break ?_
        walk_at "rd"
        exact q c U _ (hs.trans s3) nc (s3 _ _ hc) hS
      · have hRt := hW.route hf
        walk_at "rd"
        refine ⟨rfl, ?_⟩
        walk_at "rd"
        refine rd_no rfl ?_
        have hs3 := hs.trans s3
        walk_at "rd"
        refine ⟨p, .ref a, m, L, sp, mo, c, r, U, ws, sp, mo, rfl, Tp.keep (Keep.same hs3) _ _ hv, hR, hS.len, hS.fit, s3 _ _ hc, hr3, hRt, hW.two (by omega), fun z H4 s4 z0 z1 hz => ?_⟩
        walk_at "rd"
        refine ⟨p, .ref a, m, L, sp, mo, c, r, U, ws, sp, mo, z, rfl, Tp.keep (Keep.same (hs3.trans s4)) _ _ hv, hR, hS.len, hS.fit, s4 _ _ (s3 _ _ hc), s4 _ _ hr3, hRt, by omega, by omega, hz, fun c' U' H5 s5 nc' hc' hSn => ?_⟩
        exact ⟨(hs3.trans s4).trans s5, c', U', _, _, (hs3.trans s4).free nc', hc', hS.send hRt hSn (.inr ⟨.inl rfl, .inr rfl⟩), rfl⟩
    · rintro σ H2 ⟨hs, c, U, u1, u2, nc, hc, hS, rfl⟩
      walk_at "rd"
      exact q c U _ hs nc hc hS
theorem ok_law_ring (T : Tx K mg) (B : Bk K mg T) : FnOk P w K mg base CX0 6 B.law_ring.f B.law_ring.fd ["hand", "plan", "stream"] (spRing T.c_Web) := by
  have G_law_take := ok_law_take (P := P) (w := w) (base := base) T B
  have G_law_near := ok_law_near (P := P) (w := w) (base := base) T B
  have G_law_room := ok_law_room (P := P) (w := w) (base := base) T B
  have G_law_pick := ok_law_pick (P := P) (w := w) (base := base) T B
  have G_law_way := ok_law_way (P := P) (w := w) (base := base) T B
  refine B.law_ring.F.ok sc_law_ring (fun vs H Q E h => ?_) (fun cdv A outer s H vs Q E hr h => ?_)
  · obtain ⟨p, l0, v, m, L, sp, mo, c, U, rfl, _⟩ := h
    rfl
  · obtain ⟨p, l0, v, m, L, sp, mo, c, U, rfl, hv, hR, hU, hc, hh, q0, q1⟩ := h
    refine ⟨_, (pss_cons (ps_set (i := 3) sc_law_ring.nd rfl (Or.inr rfl) (pe_call G_law_take (hr.mono (by decide)) rfl B.law_take.m B.law_take.F.kp B.law_take.b .nil pass0 (pa_cons (pv 0) (pa_cons (pe_ix ix_tup (pv 1) pe_int (fun _ _ => rfl)) pa_nil))))
      (pss_cons (ps_setLc (i := 5) (own := [("other", 4)]) (g := gName 4) rfl sc_law_ring.nd rfl rfl (sw_true rfl rfl rfl (by decide +kernel)) (pi_list (pe_call G_law_near (hr.mono (by decide)) rfl B.law_near.m B.law_near.F.kp B.law_near.b .nil pass0 (pa_cons (pv 1) (pa_cons (pv 3) pa_nil)))) (blkOk_by (own := [("other", 4)]) (N := ["hand", "plan", "stream", "one", "other", "near", "houses"]) (sc := defScope s_law_ring) (by decide +kernel)) (fun _ _ _ _ _ => pg_name (i := 4) sc_law_ring.nd rfl (Or.inl rfl)) (fun _ _ _ _ _ => (pts_one (pt_cmpR op_gt (pe_call G_law_room (hr.mono (by decide)) rfl B.law_room.m B.law_room.F.kp B.law_room.b .nil pass0 (pa_cons (pv 1) (pa_cons (pv 2) (pa_cons (pv 3) (pa_cons (pv 4) pa_nil))))) pe_int (nomark _)))) (fun _ _ _ _ _ => (pv 4)))
      (pss_cons (ps_if (pt_cmpR op_eq (pe_callB call_len_seq (by rfl) T.b_len (by decide +kernel) (pa_cons (pv 5) pa_nil)) pe_int (nomark _)) (pss_one (ps_ret pe_non)) pss_nil)
      (pss_cons (ps_set (i := 4) sc_law_ring.nd rfl (Or.inl rfl) (pe_call G_law_pick (hr.mono (by decide)) rfl B.law_pick.m B.law_pick.F.kp B.law_pick.b .nil pass0 (pa_cons (pv 0) (pa_cons (pv 5) pa_nil))))
      (pss_cons (ps_set (i := 6) sc_law_ring.nd rfl (Or.inl rfl) (pe_call G_law_way (hr.mono (by decide)) rfl B.law_way.m B.law_way.F.kp B.law_way.b .nil pass0 (pa_cons (pv 1) (pa_cons (pv 2) (pa_cons (pv 4) (pa_cons (pv 3) pa_nil))))))
      (pss_cons (ps_if (PW.pt (pw_or (pt_cmpR op_isN (pv 6) pe_non (nomark _)) (pw_or1 (pt_cmpR op_lt (pe_callB call_len_seq (by rfl) T.b_len (by decide +kernel) (pa_cons (pv 6) pa_nil)) pe_int (nomark _))))) (pss_one (ps_ret pe_non)) pss_nil)
      (pss_one (ps_ret (pe_op op_cat (pe_lst (pa_cons (pv 3) pa_nil)) (pv 6)))))))))), ?_⟩
    have hm := hR.parts
    have hL := hR.len
    obtain ⟨a, xs, rfl, ha, hx⟩ := tp_tup' (id hv)
    obtain ⟨v1, v2, v3, v4, rfl, t1, t2, t3, t4⟩ := tpAll4 hx
    cases tp_int' t1
    walk_at "rd"
    refine rd_ixT ha.2 rfl ?_
    refine ⟨p, l0, m, rfl, by omega, by omega, hh, fun one H1 o0 o1 hh1 k1 => ?_⟩
    walk_at "rd"
    show iList _ _ _ _ _
    refine rd_ilist ?_
    walk_at "rd"
    refine ⟨p, .ref a, m, L, sp, mo, one, rfl, Tp.keep k1 _ _ hv, hL, fun r ns H2 hr1 s2 hxr hpm hpw => ?_⟩
    have k2 := k1.trans (Keep.same s2)
    have hnl : ns.length ≤ 200 := by
      rw [hpm.length_eq, List.length_append, aboveOf, belowOf, List.length_map, List.length_map]
      have h1 := List.length_filter_le (fun q : Tie => decide (q.1 = one)) L
      have h2 := List.length_filter_le (fun q : Tie => decide (q.2.1 = one)) L
      omega
    refine ⟨r, rfl, ⟨_, SqL.of hxr⟩, fun D hD => lc_list (K := K) (a := r) (xs := ns.map V.int)
      (fun i H3 => Same H2 H3 ∧ H3 D = some (.lst (((ns.take i).filter fun o => decide (0 < roomTo L U one o)).map V.int))) ⟨same_new hD, upd_same⟩ (fun i H3 _ hh => SqL.of (hh.1 _ _ hxr)) ?_ ?_⟩
    · rintro i y H3 hi ⟨hs, hacc⟩
      obtain ⟨o, ho, rfl⟩ := mapint_get hi
      refine ⟨rfl, ?_⟩
      have hmem : o ∈ aboveOf L one ++ belowOf L one := hpm.mem_iff.mp (List.mem_of_getElem? ho)
      obtain ⟨z, hz⟩ := nb_room hU hmem
      have k3 := k2.trans (Keep.same hs)
      walk_at "rd"
      refine ⟨p, .ref a, m, L, sp, mo, c, U, one, o, z, rfl, Tp.keep k3 _ _ hv, hR, (hc.keep k3).2, hz, fun H4 s4 => ?_⟩
      walk_at "rd"
      rw [take_snoc ho, List.filter_append, List.map_append, ← roomTo_up hR hz]
      refine rd_ite (fun h2 => ?_) (fun h2 => ?_)
      · walk_at "rd"
        refine ⟨_, s4 _ _ hacc, ?_, fun y o' e' => ?_, ?_⟩
        · refine Nat.lt_of_le_of_lt (?_ : _ ≤ 200) (by decide)
          rw [List.length_map]
          exact Nat.le_trans (List.length_filter_le _ _) (Nat.le_trans (List.length_take_le' _ _) hnl)
        · rw [upd_ne (ne_of_none e' hD)]
          exact s4 _ _ (hs y o' e')
        · rw [upd_same, List.filter_cons_of_pos (by simpa using h2)]
          rfl
      · refine ⟨hs.trans s4, ?_⟩
        rw [s4 _ _ hacc, List.filter_cons_of_neg (by simpa using h2)]
        simp
    · rintro H3 ⟨hs, hacc⟩
      rw [List.length_map, List.take_length] at hacc
      have k3 := k2.trans (Keep.same hs)
      have hh3 := (hh1.keep s2).keep hs
      generalize hne : ns.filter (fun o => decide (0 < roomTo L U one o)) = fs at hacc
      have hfl : fs.length ≤ 200 := by
        rw [← hne]
        exact Nat.le_trans (List.length_filter_le _ _) hnl
      dsimp only
      walk_at "rd"
      refine ⟨D, _, rfl, .inl (SqL.of hacc), ?_⟩
      walk_at "rd"
      refine rd_ite (fun h2 => ?_) (fun h2 => ?_)
      · walk_at "rd"
        exact q0 _ k3 hh3
      · have h2' : fs.length ≠ 0 := fun e => by simp [e] at h2
        walk_at "rd"
        refine ⟨p, l0, D, _, rfl, ⟨hh3.ints hacc, hacc⟩, by rw [List.length_map]; omega, by rw [List.length_map]; omega, hh3, fun j x H4 hj hh4 k4 => ?_⟩
        obtain ⟨o, ho, rfl⟩ := mapint_get hj
        have hof : o ∈ ns ∧ 0 < roomTo L U one o := by
          have z := List.mem_of_getElem? ho
          rw [← hne] at z
          obtain ⟨z1, z2⟩ := List.mem_filter.mp z
          exact ⟨z1, by simpa using z2⟩
        have hmem : o ∈ aboveOf L one ++ belowOf L one := hpm.mem_iff.mp hof.1
        obtain ⟨z, hz⟩ := nb_room hU hmem
        have hz0 : 0 < z := by
          rw [← roomTo_up hR hz]
          exact hof.2
        have hHop : Hop L U one o := ⟨z, hz0, hz⟩
        obtain ⟨kk, q2, u2, hq2, hu2, hcs⟩ := id hz
        have bq := hR.most hq2
        have bo : 0 ≤ o ∧ o < m := by rcases hcs with ⟨e1, e2, _⟩ | ⟨e1, e2, _⟩ <;> omega
        have k5 := k3.trans k4
        walk_at "rd"
        refine ⟨p, .ref a, m, L, sp, mo, c, U, o, one, rfl, Tp.keep k5 _ _ hv, hR, hU, (hc.keep k5).2, bo.1, bo.2, fun H5 s5 => ?_, fun r2 ws H5 s5 hr5 hW hf => ?_⟩
        · walk_at "rd"
          refine ⟨rfl, ?_⟩
          walk_at "rd"
          refine rd_yes rfl ?_
          exact q0 _ (k5.trans (Keep.same s5)) (hh4.keep s5)
        · walk_at "rd"
          refine ⟨rfl, ?_⟩
          walk_at "rd"
          refine rd_no rfl ?_
          walk_at "rd"
          refine ⟨r2, _, rfl, .inl (SqL.of hr5), ?_⟩
          walk_at "rd"
          refine rd_ite (fun h6 => ?_) (fun h6 => ?_)
          · walk_at "rd"
            exact q0 _ (k5.trans (Keep.same s5)) (hh4.keep s5)
          · have h3 : 3 ≤ ws.length := by
              simp at h6
              omega
            walk_at "rd"
            refine rd_disp rfl fun d1 nd1 => ?_
            have s6 := same_new (o := .lst [.int one]) nd1
            walk_at "rd"
            refine ⟨d1, r2, _, _, rfl, rfl, upd_same, s6 _ _ hr5, Nat.le_trans (show _ ≤ 200 by rw [List.length_map]; simp; omega) (by decide), fun d2 nd2 => ?_⟩
            have s7 := (s5.trans s6).trans (same_new (o := .lst ([.int one] ++ ws.map V.int)) nd2)
            exact q1 d2 (one :: ws) one _ (k5.trans (Keep.same s7)) (hh4.keep s7) upd_same (hW.ring hf h3 hHop) (by rw [List.length_cons]; omega)
end
end Mw

/-! N12 -/
namespace Mw
open PySem L2
def spSome (C : Addr) : Sp := fun vs H Q _ => ∃ (p l0 : Addr) (v : V) (m : Int) (L : List Tie) (sp mo : Int), vs = [.ref p, v] ∧ Tp C p H (planD m L sp mo) v ∧ Right m L sp mo ∧ HandAt p l0 H ∧
  ∀ (c : Addr) (U : List Int) (H' : Hp), Keep p H H' → HandAt p l0 H' → At p H' c (.tup (U.map V.int)) → Strm m L sp mo U → Q (.ref c) H'
/-- nothing, or a way from end to end or a ring -/
def WayAt (sp mo : Int) (L : List Tie) (U : List Int) (p : Addr) (H : Hp) (x : V) : Prop := x = .non ∨ ∃ (r : Addr) (ws : List Int) (b e : Int), x = .ref r ∧ At p H r (.lst (ws.map V.int)) ∧ Route L U b e ws ∧ 2 ≤ ws.length ∧ (b = e ∨ ((b = sp ∨ b = mo) ∧ (e = sp ∨ e = mo)))
theorem way_one {C p l0 : Addr} {v : V} {m : Int} {L : List Tie} {sp mo : Int} {c : Addr} {U : List Int} {b e : Int} {H : Hp} {Q : VK} {E : XK} (hv : Tp C p H (planD m L sp mo) v) (hR : Right m L sp mo) (hU : U.length = L.length) (hc : H c = some (.tup (U.map V.int))) (hh : HandAt p l0 H) (hbe : (b = sp ∧ e = mo) ∨ (b = mo ∧ e = sp))
    (q : ∀ x H', Same H H' → WayAt sp mo L U p H' x → Q x H') : spWay C [v, .ref c, .int b, .int e] H Q E := by
  have hm := hR.ends
  exact ⟨p, v, m, L, sp, mo, c, U, b, e, rfl, hv, hR, hU, hc, by omega, by omega, fun H' s => q _ _ s (.inl rfl), fun r ws H' s hr hW hf =>
    q _ _ s (.inr ⟨r, ws, b, e, rfl, ⟨(hh.keep s).ints hr, hr⟩, hW.route hf, hW.two (by omega), .inr (by omega)⟩)⟩
theorem ring_one {C p l0 : Addr} {v : V} {m : Int} {L : List Tie} {sp mo : Int} {c : Addr} {U : List Int} {H : Hp} {Q : VK} {E : XK} (hv : Tp C p H (planD m L sp mo) v) (hR : Right m L sp mo) (hU : U.length = L.length) (hc : At p H c (.tup (U.map V.int))) (hh : HandAt p l0 H)
    (q : ∀ x H', Keep p H H' → HandAt p l0 H' → WayAt sp mo L U p H' x → Q x H') : spRing C [.ref p, v, .ref c] H Q E :=
  ⟨p, l0, v, m, L, sp, mo, c, U, rfl, hv, hR, hU, hc, hh, fun H' k h => q _ _ k h (.inl rfl), fun r ws o H' k h hr hW hf => q _ _ k h (.inr ⟨r, ws, o, o, rfl, ⟨h.ints hr, hr⟩, hW, by omega, .inl rfl⟩)⟩
theorem WayAt.keep {sp mo : Int} {L : List Tie} {U : List Int} {p : Addr} {H H' : Hp} {x : V} (k : Keep p H H') (h : WayAt sp mo L U p H x) : WayAt sp mo L U p H' x := by
  rcases h with h | ⟨r, ws, b, e, h1, h2, h3⟩
  · exact .inl h
  · exact .inr ⟨r, ws, b, e, h1, h2.keep k, h3⟩
theorem At.mk {p a : Addr} {H : Hp} {o : HO} (n : a ≠ p) (h : H a = some o) : At p H a o := ⟨n, h⟩
section
variable {P : Program} {w : World} {K : PySem.W.Frag} {mg : Str → Option Value} {base : Heap}
local macro_rules | `(tactic| walk_at "rd") => `(tactic| (repeat (first
  | ((with_reducible refine' rd_var ?h0 ?_); (case h0 => rfl))
  | with_reducible refine rd_c ?_
  | with_reducible refine rd_op ?_
  | with_reducible refine rd_nil ?_
  | with_reducible refine rd_cons ?_
  | with_reducible refine rd_tup ?_
  | with_reducible refine rd_lst ?_
  | with_reducible refine rd_ifs ?_
  | with_reducible refine rd_seq ?_
  | with_reducible refine rd_next ?_
  | with_reducible refine rd_ret ?_
  | with_reducible refine rd_asg ?_
  | ((with_reducible refine' rd_gset ?hs ?_); (case hs => ((simp only [L2.start, List.map_cons, List.map_nil, List.length_cons, List.length_nil, List.cons_append, List.nil_append, List.set_cons_zero, List.set_cons_succ, Nat.reduceAdd, Nat.reduceSub, Nat.zero_add, List.reduceReplicate]); rfl)))
  | with_reducible refine rd_drop ?_
  | with_reducible refine rd_test ?_
  | with_reducible refine rd_B ?_
  | with_reducible refine rd_bl ?_
  | with_reducible refine rd_blP ?_
  | with_reducible refine rd_andV ?_
  | with_reducible refine rd_orV ?_
  | with_reducible refine rd_notV ?_
  | with_reducible refine rd_and ?_
  | with_reducible refine rd_or ?_
  | with_reducible refine rd_not ?_
  | with_reducible refine rd_chain ?_
  | with_reducible refine rd_dput ?_
  | with_reducible refine rd_dget ?_
  | with_reducible refine rd_cb ?_
  | with_reducible refine rd_call ?_
  | with_reducible refine rd_un ?_
  | with_reducible refine rd_sl ?_
  | with_reducible refine rd_nopart ?_
  | with_reducible refine rd_part ?_
  | with_reducible refine rd_intP ?_
  | with_reducible refine rd_rU ?_
  | with_reducible refine rd_fld ?_
  | with_reducible refine rd_eqI ?_
  | with_reducible refine rd_neI ?_
  | with_reducible refine rd_mko ?_
  | with_reducible refine rd_bm ?_
  | with_reducible refine rd_gsub ?_
  | with_reducible refine rd_i0 ?_)))
theorem ok_law_some_stream (T : Tx K mg) (B : Bk K mg T) : FnOk P w K mg base CX0 7 B.law_some_stream.f B.law_some_stream.fd ["hand", "plan"] (spSome T.c_Web) := by
  have G_law_take := ok_law_take (P := P) (w := w) (base := base) T B
  have G_law_greatest := ok_law_greatest (P := P) (w := w) (base := base) T B
  have G_law_way := ok_law_way (P := P) (w := w) (base := base) T B
  have G_law_ring := ok_law_ring (P := P) (w := w) (base := base) T B
  have G_law_sent := ok_law_sent (P := P) (w := w) (base := base) T B
  have G_law_least_room := ok_law_least (P := P) (w := w) (base := base) T B
  refine B.law_some_stream.F.ok sc_law_some_stream (fun vs H Q E h => ?_) (fun cdv A outer s H vs Q E hr h => ?_)
  · obtain ⟨p, l0, v, m, L, sp, mo, rfl, _⟩ := h
    rfl
  · obtain ⟨p, l0, v, m, L, sp, mo, rfl, hv, hR, hh, q⟩ := h
    refine ⟨_, (pss_cons (ps_set (i := 2) sc_law_some_stream.nd rfl (Or.inl rfl) (pe_op op_repN (pe_tup (pa_cons pe_int pa_nil)) (pe_callB call_len_seq (by rfl) T.b_len (by decide +kernel) (pa_cons (pe_ix ix_tup (pv 1) pe_int (fun _ _ => rfl)) pa_nil))))
      (pss_cons (ps_if (pt_cmpR op_eq (pe_call G_law_take (hr.mono (by decide)) rfl B.law_take.m B.law_take.F.kp B.law_take.b .nil pass0 (pa_cons (pv 0) (pa_cons pe_int pa_nil))) pe_int (nomark _)) (pss_one (ps_ret (pe_call G_law_greatest (hr.mono (by decide)) rfl B.law_greatest.m B.law_greatest.F.kp B.law_greatest.b .nil pass0 (pa_cons (pv 1) pa_nil)))) pss_nil)
      (pss_cons (ps_for PassesOwn.never rfl (pi_range1 (by rfl) T.b_range (pa_cons (pe_call G_law_take (hr.mono (by decide)) rfl B.law_take.m B.law_take.F.kp B.law_take.b .nil pass0 (pa_cons (pv 0) (pa_cons pe_int pa_nil))) pa_nil)) (pg_name (i := 3) sc_law_some_stream.nd rfl (Or.inl rfl)) (pss_cons (ps_set (i := 4) sc_law_some_stream.nd rfl (Or.inl rfl) (pe_call G_law_take (hr.mono (by decide)) rfl B.law_take.m B.law_take.F.kp B.law_take.b .nil pass0 (pa_cons (pv 0) (pa_cons pe_int pa_nil))))
      (pss_cons (ps_set (i := 5) sc_law_some_stream.nd rfl (Or.inl rfl) (pe_call G_law_way (hr.mono (by decide)) rfl B.law_way.m B.law_way.F.kp B.law_way.b .nil pass0 (pa_cons (pv 1) (pa_cons (pv 2) (pa_cons (pe_ix ix_tup (pv 1) pe_int (fun _ _ => rfl)) (pa_cons (pe_ix ix_tup (pv 1) pe_int (fun _ _ => rfl)) pa_nil))))))
      (C8.pss_cut (ps_if (pt_cmpR op_eq (pv 4) pe_int (nomark _)) (pss_one (ps_set (i := 5) sc_law_some_stream.nd rfl (Or.inl rfl) (pe_call G_law_way (hr.mono (by decide)) rfl B.law_way.m B.law_way.F.kp B.law_way.b .nil pass0 (pa_cons (pv 1) (pa_cons (pv 2) (pa_cons (pe_ix ix_tup (pv 1) pe_int (fun _ _ => rfl)) (pa_cons (pe_ix ix_tup (pv 1) pe_int (fun _ _ => rfl)) pa_nil))))))) pss_nil)
      (C8.pss_cut (ps_if (pt_cmpR op_gt (pv 4) pe_int (nomark _)) (pss_one (ps_set (i := 5) sc_law_some_stream.nd rfl (Or.inl rfl) (pe_call G_law_ring (hr.mono (by decide)) rfl B.law_ring.m B.law_ring.F.kp B.law_ring.b .nil pass0 (pa_cons (pv 0) (pa_cons (pv 1) (pa_cons (pv 2) pa_nil)))))) pss_nil)
      (pss_one (ps_if (pt_cmpR op_notN (pv 5) pe_non (nomark _)) (pss_one (ps_set (i := 2) sc_law_some_stream.nd rfl (Or.inl rfl) (pe_call G_law_sent (hr.mono (by decide)) rfl B.law_sent.m B.law_sent.F.kp B.law_sent.b .nil pass0 (pa_cons (pv 1) (pa_cons (pv 2) (pa_cons (pv 5) (pa_cons (pe_op op_add pe_int (pe_call G_law_take (hr.mono (by decide)) rfl B.law_take.m B.law_take.F.kp B.law_take.b .nil pass0 (pa_cons (pv 0) (pa_cons (pe_call G_law_least_room (hr.mono (by decide)) rfl B.law_least_room.m B.law_least_room.F.kp B.law_least_room.b .nil pass0 (pa_cons (pv 1) (pa_cons (pv 2) (pa_cons (pv 5) pa_nil)))) pa_nil)))) pa_nil))))))) pss_nil)))))))
      (pss_one (ps_ret (pv 2)))))), ?_⟩
    have hm := hR.ends
    have hL := hR.len
    obtain ⟨a, xs, rfl, ha, hx⟩ := tp_tup' (id hv)
    obtain ⟨v1, v2, v3, v4, rfl, t1, t2, t3, t4⟩ := tpAll4 hx
    cases tp_int' t1
    cases tp_int' t3
    cases tp_int' t4
    obtain ⟨ct, xs, rfl, hct, hx⟩ := tp_tup' t2
    have hlen : xs.length = L.length := by
      have := hx.len
      simpa using this.symm
    walk_at "rd"
    refine rd_disp rfl fun c0 n0 => ?_
    have s0 := same_new (o := .tup [.int 0]) n0
    walk_at "rd"
    refine rd_ixT (s0 _ _ ha.2) rfl ?_
    refine ⟨ct, xs, rfl, .inr (SqT.of (s0 _ _ hct.2)), ?_⟩
    rw [hlen]
    refine rd_repN upd_same (by omega) (by omega) s0 n0 fun c1 H1 s1 nc1 hc1 => ?_
    rw [Int.toNat_natCast, ← List.map_replicate (f := V.int) (a := 0)] at hc1
    have hh1 := hh.keep s1
    have k1 : Keep p H H1 := Keep.same s1
    walk_at "rd"
    refine ⟨p, l0, _, rfl, by decide, by decide, hh1, fun r0 H2 r00 r01 hh2 k2 => ?_⟩
    have k12 := k1.trans k2
    have hc2 : At p H2 c1 (.tup ((List.replicate L.length 0).map V.int)) := (At.mk (hh.ne nc1) hc1).keep k2
    walk_at "rd"
    refine rd_ite (fun h1 => ?_) (fun h1 => ?_)
    · walk_at "rd"
      refine ⟨p, .ref a, m, L, sp, mo, rfl, Tp.keep k12 _ _ hv, hR, fun c U H3 s3 nc hc hS => ?_⟩
      exact q c U H3 (k12.trans (Keep.same s3)) (hh2.keep s3) ⟨hh2.ne nc, hc⟩ hS
    · walk_at "rd"
      show iRng1 _ _ _ _
      refine rd_rng1 ?_
      walk_at "rd"
      refine ⟨p, l0, _, rfl, by decide, by decide, hh2, fun r H3 a1 a2 hh3 k3 => ?_⟩
      have k13 := k12.trans k3
      refine ⟨_, rfl, by omega, by omega, for_range (lo := 0) (n := r.toNat) (fun n σ H4 => Keep p H H4 ∧ HandAt p l0 H4 ∧ ∃ c U u1 u2 u3, At p H4 c (.tup (U.map V.int)) ∧ Strm m L sp mo U ∧ σ = [some (.ref p), some (.ref a), some (.ref c), u1, u2, u3])
        ⟨k13, hh3, c1, _, none, none, none, hc2.keep k3, Strm.zero hR, rfl⟩ ?_ ?_⟩
      · rintro n σ H4 hn ⟨k4, hh4, c, U, u1, u2, u3, hc, hS, rfl⟩
        walk_at "rd"
        refine ⟨p, l0, _, rfl, by decide, by decide, hh4, fun turn H5 b1 b2 hh5 k5 => ?_⟩
        have k45 := k4.trans k5
        have hc5 := hc.keep k5
        have ha5 := ha.keep k45
        walk_at "rd"
        refine rd_ixT ha5.2 rfl ?_
        walk_at "rd"
        refine rd_ixT ha5.2 rfl ?_
        walk_at "rd"
        refine way_one (Tp.keep k45 _ _ hv) hR hS.len hc5.2 hh5 (.inl ⟨rfl, rfl⟩) fun x H6 s6 hx6 => ?_
        walk_at "rd"
        refine ⟨fun σ1 H7 => ∃ y, Keep p H H7 ∧ HandAt p l0 H7 ∧ At p H7 c (.tup (U.map V.int)) ∧ WayAt sp mo L U p H7 y ∧ σ1 = [some (.ref p), some (.ref a), some (.ref c), some (.int (0 + (n : Int))), some (.int turn), some y], ?_, ?_⟩
        · have k6 := k45.trans (Keep.same s6)
          have hc6 := hc5.keep (Keep.same s6)
          walk_at "rd"
          refine rd_ite (fun h2 => ?_) (fun h2 => ?_)
          · walk_at "rd"
            refine rd_ixT (ha.keep k6).2 rfl ?_
            walk_at "rd"
            refine rd_ixT (ha.keep k6).2 rfl ?_
            walk_at "rd"
            refine way_one (Tp.keep k6 _ _ hv) hR hS.len hc6.2 (hh5.keep s6) (.inr ⟨rfl, rfl⟩) fun x7 H7 s7 hx7 => ?_
            exact ⟨_, k6.trans (Keep.same s7), (hh5.keep s6).keep s7, hc6.keep (Keep.same s7), hx7, rfl⟩
          · exact ⟨_, k6, hh5.keep s6, hc6, hx6, rfl⟩
        · rintro σ1 H7 ⟨y, k7, hh7, hc7, hy7, rfl⟩
          refine ⟨fun σ2 H8 => ∃ y, Keep p H H8 ∧ HandAt p l0 H8 ∧ At p H8 c (.tup (U.map V.int)) ∧ WayAt sp mo L U p H8 y ∧ σ2 = [some (.ref p), some (.ref a), some (.ref c), some (.int (0 + (n : Int))), some (.int turn), some y], ?_, ?_⟩
          · walk_at "rd"
            refine rd_ite (fun h2 => ?_) (fun h2 => ?_)
            · walk_at "rd"
              refine ring_one (Tp.keep k7 _ _ hv) hR hS.len hc7 hh7 fun x8 H8 k8 hh8 hx8 => ?_
              exact ⟨_, k7.trans k8, hh8, hc7.keep k8, hx8, rfl⟩
            · exact ⟨_, k7, hh7, hc7, hy7, rfl⟩
          · rintro σ2 H8 ⟨y, k8, hh8, hc8, hy8, rfl⟩
            rcases hy8 with rfl | ⟨r8, ws, b, e, rfl, hr8, hRt, h2, hbe⟩
            · walk_at "rd"
              refine ⟨rfl, ?_⟩
              walk_at "rd"
              refine rd_no rfl ?_
              exact ⟨k8, hh8, c, U, _, _, _, hc8, hS, rfl⟩
            · walk_at "rd"
              refine ⟨rfl, ?_⟩
              walk_at "rd"
              refine rd_yes rfl ?_
              walk_at "rd"
              refine ⟨p, .ref a, m, L, sp, mo, c, r8, U, ws, b, e, rfl, Tp.keep k8 _ _ hv, hR, hS.len, hS.fit, hc8.2, hr8.2, hRt, h2, fun z H9 s9 z0 z1 hz => ?_⟩
              have hh9 := hh8.keep s9
              walk_at "rd"
              refine ⟨p, l0, z, rfl, by omega, by omega, hh9, fun t H10 t0 t1 hh10 k10 => ?_⟩
              have k80 := (Keep.same (p := p) s9).trans k10
              walk_at "rd"
              refine ⟨p, .ref a, m, L, sp, mo, c, r8, U, ws, b, e, 1 + t, rfl, Tp.keep (k8.trans k80) _ _ hv, hR, hS.len, hS.fit, (hc8.keep k80).2, (hr8.keep k80).2, hRt, by omega, by omega, fun t' x' y' z' g1 g2 g3 => ?_, fun c' U' H11 s11 nc' hc' hSn => ?_⟩
              · have := hz t' x' y' z' g1 g2 g3
                omega
              · exact ⟨(k8.trans k80).trans (Keep.same s11), hh10.keep s11, c', U', _, _, _, ⟨hh10.ne nc', hc'⟩, hS.send hRt hSn hbe, rfl⟩
      · rintro σ H4 ⟨k4, hh4, c, U, u1, u2, u3, hc, hS, rfl⟩
        walk_at "rd"
        exact q c U _ k4 hh4 hc hS
end
end Mw

/-! P1 -/
namespace Mw
open PySem L2
section
variable {K : PySem.W.Frag} {a b : Addr} {xs ys : List V}
/-- a comprehension over zip of two tuples, the second one no longer -/
theorem lc_zipTS {g : TG} {tt : TT} {te : TE} {vs : List Nat} {σ : L2.St} {H1 : Hp} {D : Addr} {Qd : Hp → Prop} (hl : ys.length ≤ xs.length) (Pv : Nat → Hp → Prop) (h0 : Pv 0 (upd H1 D (.lst [])))
    (hq : ∀ i H, Pv i H → SqT K H a xs ∧ SqT K H b ys)
    (hs : ∀ (i : Nat) (x y : V) (t : Addr) (H : Hp), xs[i]? = some x → ys[i]? = some y → Pv i H → H t = none → g (.ref t) (wipe σ vs) (upd H t (.tup [x, y])) fun σ2 H2 => wipe σ2 vs = wipe σ vs ∧
      tt σ2 H2 fun b H3 => if b = true then te σ2 H3 fun y H4 => ∃ acc, H4 D = some (.lst acc) ∧ acc.length < sizeLine ∧ Pv (i + 1) (upd H4 D (.lst (acc ++ [y]))) else Pv (i + 1) H3)
    (hd : ∀ H, Pv ys.length H → Qd H) :
    ∃ W : Nat → Nat → Hp → Prop, (∃ m, W 0 m (upd H1 D (.lst []))) ∧ ∀ i m H, W i m H → (RZ.ItzT K a b).stop i H ∧ Qd H ∨ (RZ.ItzT K a b).go i H ∧ ∃ Nx : Hp → Prop, (∀ H', Nx H' → ∃ m', m' < m ∧ W (i + 1) m' H') ∧
      ∀ x H', (RZ.ItzT K a b).yld i H x H' → g x (wipe σ vs) H' fun σ2 H2 => wipe σ2 vs = wipe σ vs ∧ tt σ2 H2 fun b H3 => if b = true then te σ2 H3 fun y H4 => ∃ acc, H4 D = some (.lst acc) ∧ acc.length < sizeLine ∧ Nx (upd H4 D (.lst (acc ++ [y]))) else Nx H3 := by
  refine ⟨fun i m H => m = ys.length - i ∧ i ≤ ys.length ∧ Pv i H, ⟨_, rfl, Nat.zero_le _, h0⟩, ?_⟩
  rintro i m H ⟨rfl, hi, hP⟩
  obtain ⟨q1, q2⟩ := hq i H hP
  by_cases e : i = ys.length
  · exact .inl ⟨⟨xs, ys, q1, q2, .inr (Nat.le_of_eq e.symm)⟩, hd H (e ▸ hP)⟩
  · have hlt : i < ys.length := by omega
    have hy : ys[i]? = some ys[i] := by simp [hlt]
    have hx : xs[i]? = some (xs[i]'(Nat.lt_of_lt_of_le hlt hl)) := by simp
    refine .inr ⟨⟨xs, ys, _, _, q1, q2, hx, hy⟩, Pv (i + 1), fun H' h => ⟨ys.length - (i + 1), by omega, rfl, by omega, h⟩, ?_⟩
    rintro v H' ⟨t, x, y, rfl, ht, rfl, ex, ey⟩
    exact hs i x y t H (ex xs q1) (ey ys q2) hP ht
theorem rd_slA1 {H : Hp} {Q : VK} (h : H a = some (.tup xs)) (q : ∀ r H', Same H H' → H' r = some (.tup xs.tail) → Q (.ref r) H') : rSlA K (.ref a) (some 1) none H Q := by
  refine ⟨a, xs, rfl, SqT.of h, fun e => q a H (Same.refl H) ?_, fun _ p hp => q p _ (same_new hp) ?_⟩
  · cases xs with
    | nil => exact h
    | cons x xs =>
      have e1 : HT.sIx (x :: xs).length 0 (some 1) = 1 := by
        show min 1 (xs.length + 1) = 1
        omega
      rw [e1] at e
      omega
  · rw [upd_same, cut_tail]
end
def isLot : PyData → Bool
  | .tuple ds => (ds.map isNum).all id && (((ds.map unitD).zip (ds.map unitD).tail).map fun x => decide (x.1 < x.2)).all id
  | _ => false
def isSide (m sp mo : Int) : PyData → Bool
  | .tuple ds => isLot (.tuple ds) && (((ds.map unitD).map fun h => decide (h < m)).all id && (inV (.int sp) ((ds.map unitD).map V.int) && !inV (.int mo) ((ds.map unitD).map V.int)))
  | _ => false
def outSum (L : List Tie) (ns : List Int) : Int := ((L.filter fun q => inV (.int q.1) (ns.map V.int) && !inV (.int q.2.1) (ns.map V.int)).map fun q => q.2.2.1).sum + ((L.filter fun q => inV (.int q.2.1) (ns.map V.int) && !inV (.int q.1) (ns.map V.int)).map fun q => q.2.2.2).sum
theorem nums_ints {C p : Addr} {H : Hp} : ∀ {ds : List PyData} {ys : List V}, (ds.map isNum).all id = true → TpAll C p H ds ys → ys = (ds.map unitD).map V.int
  | [], ys, _, h => by
    have z := h.len
    have e : ys = [] := List.eq_nil_of_length_eq_zero z.symm
    rw [e]
    rfl
  | d :: ds, ys, hf, h => by
    simp only [TpAll] at h
    obtain ⟨y, r, rfl, h1, h2⟩ := h
    simp only [List.map_cons, List.all_cons, Bool.and_eq_true, id_eq] at hf
    have ih := nums_ints hf.2 h2
    cases d with
    | int u =>
      cases tp_int' h1
      rw [ih]
      rfl
    | _ => simp [isNum] at hf
theorem ints_flat (ns : List Int) : (ns.map V.int).all flatV = true := by
  rw [List.all_map]
  exact List.all_eq_true.mpr fun x _ => rfl
def spLot (C : Addr) : Sp := fun vs H Q _ => ∃ p d x, vs = [x] ∧ Tp C p H d x ∧ (∀ ds, d = .tuple ds → ds.length ≤ 1000) ∧ ∀ H', Same H H' → Q (.bl (isLot d)) H'
def spIsSide (C : Addr) : Sp := fun vs H Q _ => ∃ p a m L sp mo d x, vs = [.ref a, x] ∧ WebAt C p H a m L sp mo ∧ Tp C p H d x ∧ (∀ ds, d = .tuple ds → ds.length ≤ 1000) ∧ ∀ H', Same H H' → Q (.bl (isSide m sp mo d)) H'
def spSideW (C CS : Addr) : Sp := fun vs H Q E => ∃ p a m L sp mo d x, vs = [.ref a, x] ∧ WebAt C p H a m L sp mo ∧ L.length ≤ 100 ∧ Tp C p H d x ∧ (∀ ds, d = .tuple ds → ds.length ≤ 1000) ∧ (∀ ds H', d = .tuple ds → isSide m sp mo d = true → Same H H' → Q (.int (outSum L (ds.map unitD))) H') ∧ (isSide m sp mo d = false → ∀ H', Same H H' → E (.ref CS) none H')
section
variable {P : Program} {w : World} {K : PySem.W.Frag} {mg : Str → Option Value} {base : Heap}
local macro_rules | `(tactic| walk_at "rd") => `(tactic| (repeat (first
  | ((with_reducible refine' rd_var ?h0 ?_); (case h0 => rfl))
  | with_reducible refine rd_c ?_
  | with_reducible refine rd_op ?_
  | with_reducible refine rd_nil ?_
  | with_reducible refine rd_cons ?_
  | with_reducible refine rd_tup ?_
  | with_reducible refine rd_lst ?_
  | with_reducible refine rd_ifs ?_
  | with_reducible refine rd_seq ?_
  | with_reducible refine rd_next ?_
  | with_reducible refine rd_ret ?_
  | with_reducible refine rd_asg ?_
  | ((with_reducible refine' rd_gset ?hs ?_); (case hs => ((simp only [L2.start, List.map_cons, List.map_nil, List.length_cons, List.length_nil, List.cons_append, List.nil_append, List.set_cons_zero, List.set_cons_succ, Nat.reduceAdd, Nat.reduceSub, Nat.zero_add, List.reduceReplicate]); rfl)))
  | with_reducible refine rd_drop ?_
  | with_reducible refine rd_test ?_
  | with_reducible refine rd_B ?_
  | with_reducible refine rd_bl ?_
  | with_reducible refine rd_blP ?_
  | with_reducible refine rd_andV ?_
  | with_reducible refine rd_orV ?_
  | with_reducible refine rd_notV ?_
  | with_reducible refine rd_and ?_
  | with_reducible refine rd_or ?_
  | with_reducible refine rd_not ?_
  | with_reducible refine rd_chain ?_
  | with_reducible refine rd_dput ?_
  | with_reducible refine rd_dget ?_
  | with_reducible refine rd_cb ?_
  | with_reducible refine rd_call ?_
  | with_reducible refine rd_un ?_
  | with_reducible refine rd_sl ?_
  | with_reducible refine rd_nopart ?_
  | with_reducible refine rd_part ?_
  | with_reducible refine rd_intP ?_
  | with_reducible refine rd_rU ?_
  | with_reducible refine rd_fld ?_
  | with_reducible refine rd_eqI ?_
  | with_reducible refine rd_neI ?_
  | with_reducible refine rd_mko ?_
  | with_reducible refine rd_bm ?_
  | with_reducible refine rd_gsub ?_
  | with_reducible refine rd_i0 ?_)))
theorem ok_is_lot (T : Tx K mg) (B : Bk K mg T) : FnOk P w K mg base CX0 3 B.is_lot.f B.is_lot.fd ["thing"] (spLot T.c_Web) := by
  have G_is_number := ok_is_number (P := P) (w := w) (base := base) T B
  refine B.is_lot.F.ok sc_is_lot (fun vs H Q E h => ?_) (fun cdv A outer s H vs Q E hr h => ?_)
  · obtain ⟨p, d, x, rfl, _⟩ := h
    rfl
  · obtain ⟨p, d, x, rfl, hd, hsm, k⟩ := h
    refine ⟨_, (pss_cons (ps_if (PW.pt (pw_or (pt_not (pt_val (pe_callB call_isi (by rfl) T.b_isinstance (by decide +kernel) (pa_cons (pv 0) (pa_cons (pe_bltn (v := .ty "tuple") (by rfl) T.b_tuple (by decide +kernel) rfl) pa_nil))))) (pw_or1 (pt_not (pt_val (pe_callB (cr_all rfl) (by rfl) T.b_all (by decide +kernel) (pa_cons (pe_lc (own := [("item", 3)]) (g := gName 3) rfl sc_is_lot.nd (pi_tup (pv 0)) (blkOk_by (own := [("item", 3)]) (N := ["thing", "one", "other", "item"]) (sc := defScope s_is_lot) (by decide +kernel)) (fun _ _ _ _ _ => pg_name (i := 3) sc_is_lot.nd rfl (Or.inl rfl)) (fun _ _ _ _ _ => pts_nil) (fun _ _ _ _ _ => (pe_call G_is_number (hr.mono (by decide)) rfl B.is_number.m B.is_number.F.kp B.is_number.b .nil pass0 (pa_cons (pv 3) pa_nil)))) pa_nil))))))) (pss_one (ps_ret pe_bl)) pss_nil)
      (pss_one (ps_ret (pe_callB (cr_all rfl) (by rfl) T.b_all (by decide +kernel) (pa_cons (pe_lc (own := [("one", 1), ("other", 2)]) (g := (gTup K 2 (gCons (gName 1) (gCons (gName 2) gNil)))) rfl sc_is_lot.nd (RZ.pi_zipA (by rfl) T.b_zip (pa_cons (pv 0) (pa_cons (pe_slice sl_tupA (pv 0) (po_some pe_int) po_none) pa_nil))) (blkOk_by (own := [("one", 1), ("other", 2)]) (N := ["thing", "one", "other", "item"]) (sc := defScope s_is_lot) (by decide +kernel)) (fun _ _ _ _ _ => (pg_tup (by rfl) (pgs_cons (pg_name (i := 1) sc_is_lot.nd rfl (Or.inl rfl)) (pgs_cons (pg_name (i := 2) sc_is_lot.nd rfl (Or.inl rfl)) pgs_nil)))) (fun _ _ _ _ _ => pts_nil) (fun _ _ _ _ _ => (pe_cmpR op_lt (pv 1) (pv 2) (nomark _)))) pa_nil))))), ?_⟩
    have k0 := k H (Same.refl H)
    walk_at "rd"
    refine tp_isT T.W hd ?_
    cases d with
    | tuple ds =>
      have hl := hsm ds rfl
      obtain ⟨c, ys, rfl, hc, hy⟩ := tp_tup' hd
      have hly := hy.len
      walk_at "rd"
      refine rd_no rfl ?_
      walk_at "rd"
      refine ⟨_, rfl, c, rfl, ⟨ys, SqT.of hc.2⟩, fun D hD => lc_tup (K := K) (a := c) (xs := ys)
        (fun i H1 => Same H H1 ∧ H1 D = some (.lst (((ds.take i).map isNum).map V.bl))) ⟨same_new hD, upd_same⟩ (fun i H1 _ hh => SqT.of (hh.1 _ _ hc.2)) ?_ ?_⟩
      · rintro i y H1 hi ⟨hs, hacc⟩
        obtain ⟨d1, hd1, td1⟩ := hy.get' hi
        refine ⟨rfl, ?_⟩
        refine rd_tyes ?_
        refine rd_yes rfl ?_
        walk_at "rd"
        refine ⟨p, d1, y, rfl, Tp.keep (Keep.same hs) _ _ td1, ?_⟩
        refine ⟨_, hacc, ?_, fun b o e => ?_, ?_⟩
        · refine Nat.lt_of_le_of_lt (?_ : _ ≤ 1000) (by decide)
          rw [List.length_map, List.length_map]
          exact Nat.le_trans (List.length_take_le' _ _) (by omega)
        · rw [upd_ne (ne_of_none e hD)]
          exact hs b o e
        · rw [upd_same, take_snoc hd1, List.map_append, List.map_append]
          rfl
      · rintro H1 ⟨s1, a1⟩
        rw [List.take_of_length_le (by omega)] at a1
        walk_at "rd"
        refine ⟨D, _, rfl, SqL.of a1, ?_⟩
        walk_at "rd"
        refine rd_ite (fun h2 => ?_) (fun h2 => ?_)
        · walk_at "rd"
          have z := k H1 s1
          simp only [isLot] at z
          rw [show (ds.map isNum).all id = false by simpa using h2, Bool.false_and] at z
          exact z
        · have hn : (ds.map isNum).all id = true := by simpa using h2
          have ey := nums_ints hn hy
          subst ey
          walk_at "rd"
          show RZ.iZipA _ _ _ _ _
          refine rd_izip ?_
          walk_at "rd"
          refine rd_slA1 (s1 _ _ hc.2) fun r H2 s2 hr2 => ?_
          have s12 := s1.trans s2
          rw [← List.map_tail] at hr2
          refine ⟨c, r, _, _, rfl, .inr ⟨SqT.of (s12 _ _ hc.2), SqT.of hr2, fun D2 hD2 => lc_zipTS (K := K) (a := c) (b := r) (xs := (ds.map unitD).map V.int) (ys := (ds.map unitD).tail.map V.int) (by simp)
            (fun n H3 => Same H2 H3 ∧ H3 D2 = some (.lst (((((ds.map unitD).zip (ds.map unitD).tail).take n).map fun x => decide (x.1 < x.2)).map V.bl)))
            ⟨same_new hD2, upd_same⟩ (fun n H3 hh => ⟨SqT.of (hh.1 _ _ (s12 _ _ hc.2)), SqT.of (hh.1 _ _ hr2)⟩) ?_ ?_⟩⟩
          · rintro n x y t H3 hx hy2 ⟨hs, hacc⟩ nT
            obtain ⟨i, hi, rfl⟩ := mapint_get hx
            obtain ⟨j, hj, rfl⟩ := mapint_get hy2
            have hs3 := hs.trans (same_new (o := .tup [.int i, .int j]) nT)
            have hacc3 : (upd H3 t (.tup [.int i, .int j])) D2 = some (.lst _) := (upd_ne (ne_of_none hacc nT)).trans hacc
            refine ⟨t, _, rfl, SqT.of upd_same, rfl, _, _, rfl, _, _, rfl, rfl, ?_⟩
            refine ⟨rfl, ?_⟩
            refine rd_tyes ?_
            refine rd_yes rfl ?_
            walk_at "rd"
            refine ⟨_, hacc3, ?_, fun b o e => ?_, ?_⟩
            · refine Nat.lt_of_le_of_lt (?_ : _ ≤ 1000) (by decide)
              rw [List.length_map, List.length_map]
              refine Nat.le_trans (List.length_take_le' _ _) ?_
              rw [List.length_zip, List.length_map]
              omega
            · rw [upd_ne (ne_of_none e hD2)]
              exact hs3 b o e
            · rw [upd_same, zip_snoc hi hj, List.map_append, List.map_append]
              rfl
          · rintro H3 ⟨s3, a3⟩
            rw [List.take_of_length_le (by rw [List.length_zip, List.length_map]; simp)] at a3
            dsimp only
            walk_at "rd"
            refine ⟨D2, _, rfl, SqL.of a3, ?_⟩
            walk_at "rd"
            have z := k H3 (s12.trans s3)
            simp only [isLot] at z
            rw [hn, Bool.true_and] at z
            exact z
    | _ =>
      walk_at "rd"
      refine rd_yes rfl ?_
      walk_at "rd"
      exact k0
end
end Mw

/-! P2 -/
namespace Mw
open PySem L2
section
variable {P : Program} {w : World} {K : PySem.W.Frag} {mg : Str → Option Value} {base : Heap}
local macro_rules | `(tactic| walk_at "rd") => `(tactic| (repeat (first
  | ((with_reducible refine' rd_var ?h0 ?_); (case h0 => rfl))
  | with_reducible refine rd_c ?_
  | with_reducible refine rd_op ?_
  | with_reducible refine rd_nil ?_
  | with_reducible refine rd_cons ?_
  | with_reducible refine rd_tup ?_
  | with_reducible refine rd_lst ?_
  | with_reducible refine rd_ifs ?_
  | with_reducible refine rd_seq ?_
  | with_reducible refine rd_next ?_
  | with_reducible refine rd_ret ?_
  | with_reducible refine rd_asg ?_
  | ((with_reducible refine' rd_gset ?hs ?_); (case hs => ((simp only [L2.start, List.map_cons, List.map_nil, List.length_cons, List.length_nil, List.cons_append, List.nil_append, List.set_cons_zero, List.set_cons_succ, Nat.reduceAdd, Nat.reduceSub, Nat.zero_add, List.reduceReplicate]); rfl)))
  | with_reducible refine rd_drop ?_
  | with_reducible refine rd_test ?_
  | with_reducible refine rd_B ?_
  | with_reducible refine rd_bl ?_
  | with_reducible refine rd_blP ?_
  | with_reducible refine rd_andV ?_
  | with_reducible refine rd_orV ?_
  | with_reducible refine rd_notV ?_
  | with_reducible refine rd_and ?_
  | with_reducible refine rd_or ?_
  | with_reducible refine rd_not ?_
  | with_reducible refine rd_chain ?_
  | with_reducible refine rd_dput ?_
  | with_reducible refine rd_dget ?_
  | with_reducible refine rd_cb ?_
  | with_reducible refine rd_call ?_
  | with_reducible refine rd_un ?_
  | with_reducible refine rd_sl ?_
  | with_reducible refine rd_nopart ?_
  | with_reducible refine rd_part ?_
  | with_reducible refine rd_intP ?_
  | with_reducible refine rd_rU ?_
  | with_reducible refine rd_fld ?_
  | with_reducible refine rd_eqI ?_
  | with_reducible refine rd_neI ?_
  | with_reducible refine rd_mko ?_
  | with_reducible refine rd_bm ?_
  | with_reducible refine rd_gsub ?_
  | with_reducible refine rd_i0 ?_)))
theorem ok_is_side (T : Tx K mg) (B : Bk K mg T) : FnOk P w K mg base CX0 4 B.is_side.f B.is_side.fd ["web", "thing"] (spIsSide T.c_Web) := by
  have G_is_lot := ok_is_lot (P := P) (w := w) (base := base) T B
  refine B.is_side.F.ok sc_is_side (fun vs H Q E h => ?_) (fun cdv A outer s H vs Q E hr h => ?_)
  · obtain ⟨p, a, m, L, sp, mo, d, x, rfl, _⟩ := h
    rfl
  · obtain ⟨p, a, m, L, sp, mo, d, x, rfl, hw, hd, hsm, k⟩ := h
    refine ⟨_, (pss_cons (ps_if (PW.pt (pw_or (pt_not (pt_val (pe_call G_is_lot (hr.mono (by decide)) rfl B.is_lot.m B.is_lot.F.kp B.is_lot.b .nil pass0 (pa_cons (pv 1) pa_nil)))) (pw_or1 (pt_not (pt_val (pe_callB (cr_all rfl) (by rfl) T.b_all (by decide +kernel) (pa_cons (pe_lc (own := [("house", 2)]) (g := gName 2) rfl sc_is_side.nd (pi_tup (pv 1)) (blkOk_by (own := [("house", 2)]) (N := ["web", "thing", "house"]) (sc := defScope s_is_side) (by decide +kernel)) (fun _ _ _ _ _ => pg_name (i := 2) sc_is_side.nd rfl (Or.inl rfl)) (fun _ _ _ _ _ => pts_nil) (fun _ _ _ _ _ => (pe_cmpR op_lt (pv 2) (show PE _ _ (tFld K (tVar 0) "many") from pe_fld (pv 0) rfl) (nomark _)))) pa_nil))))))) (pss_one (ps_ret pe_bl)) pss_nil)
      (pss_one (ps_ret (pe_and (pe_cmpR op_in_seq (pe_fld (pv 0) rfl) (pv 1) rfl) (pe_one (pe_cmpR op_notIn_seq (pe_fld (pv 0) rfl) (pv 1) rfl)))))), ?_⟩
    walk_at "rd"
    refine ⟨p, d, x, rfl, hd, hsm, fun H1 s1 => ?_⟩
    walk_at "rd"
    refine rd_ite (fun h1 => ?_) (fun h1 => ?_)
    · walk_at "rd"
      refine rd_yes rfl ?_
      walk_at "rd"
      have z := k H1 s1
      have e : isLot d = false := by simpa using h1
      have e2 : isSide m sp mo d = false := by
        cases d <;> simp [isSide, e]
      rw [e2] at z
      exact z
    · have e : isLot d = true := by simpa using h1
      cases d with
      | tuple ds =>
        have hl := hsm ds rfl
        have hn : (ds.map isNum).all id = true := by
          simp only [isLot, Bool.and_eq_true] at e
          exact e.1
        obtain ⟨c, ys, rfl, hc, hy⟩ := tp_tup' (id hd)
        have ey := nums_ints hn hy
        subst ey
        obtain ⟨dx, v2, v5, v6, ha, t2, hwy, hlt⟩ := hw.keep (Keep.same s1)
        walk_at "rd"
        refine ⟨_, rfl, c, rfl, ⟨_, SqT.of (s1 _ _ hc.2)⟩, fun D hD => lc_tup (K := K) (a := c) (xs := (ds.map unitD).map V.int)
          (fun i H2 => Same H1 H2 ∧ H2 D = some (.lst ((((ds.map unitD).take i).map fun h => decide (h < m)).map V.bl))) ⟨same_new hD, upd_same⟩ (fun i H2 _ hh => SqT.of (hh.1 _ _ (s1 _ _ hc.2))) ?_ ?_⟩
        · rintro i y H2 hi ⟨hs, hacc⟩
          obtain ⟨o, ho, rfl⟩ := mapint_get hi
          refine ⟨rfl, ?_⟩
          refine rd_tyes ?_
          refine rd_yes rfl ?_
          walk_at "rd"
          refine ⟨a, T.c_Web, dx, _, _, rfl, hs _ _ ha.2, T.W.cl, T.na_many, wf_many _ _ _ _ _ _, ?_⟩
          walk_at "rd"
          refine ⟨_, hacc, ?_, fun b o e => ?_, ?_⟩
          · refine Nat.lt_of_le_of_lt (?_ : _ ≤ 1000) (by decide)
            rw [List.length_map, List.length_map]
            exact Nat.le_trans (List.length_take_le' _ _) (by rw [List.length_map]; omega)
          · rw [upd_ne (ne_of_none e hD)]
            exact hs b o e
          · rw [upd_same, take_snoc ho, List.map_append, List.map_append]
            rfl
        · rintro H2 ⟨s2, a2⟩
          rw [List.length_map, List.take_length] at a2
          have s12 := s1.trans s2
          have z := k H2 s12
          simp only [isSide] at z
          rw [e, Bool.true_and] at z
          walk_at "rd"
          refine ⟨D, _, rfl, SqL.of a2, ?_⟩
          walk_at "rd"
          refine rd_ite (fun h2 => ?_) (fun h2 => ?_)
          · walk_at "rd"
            rw [show ((ds.map unitD).map fun h => decide (h < m)).all id = false by simpa using h2, Bool.false_and] at z
            exact z
          · rw [show ((ds.map unitD).map fun h => decide (h < m)).all id = true by simpa using h2, Bool.true_and] at z
            walk_at "rd"
            refine ⟨a, T.c_Web, dx, _, _, rfl, s2 _ _ ha.2, T.W.cl, T.na_spring, wf_spring _ _ _ _ _ _, ?_⟩
            walk_at "rd"
            refine ⟨c, _, rfl, .inr (SqT.of (s12 _ _ hc.2)), rfl, ints_flat _, ?_⟩
            walk_at "rd"
            refine rd_ite (fun h3 => ?_) (fun h3 => ?_)
            · walk_at "rd"
              refine ⟨a, T.c_Web, dx, _, _, rfl, s2 _ _ ha.2, T.W.cl, T.na_mouth, wf_mouth _ _ _ _ _ _, ?_⟩
              walk_at "rd"
              refine ⟨c, _, rfl, .inr (SqT.of (s12 _ _ hc.2)), rfl, ints_flat _, ?_⟩
              rw [show inV (V.int sp) ((ds.map unitD).map V.int) = true from h3, Bool.true_and] at z
              exact z
            · rw [show inV (V.int sp) ((ds.map unitD).map V.int) = false from h3, Bool.false_and] at z
              exact z
      | _ => cases e
theorem ok_side_init (T : Tx K mg) (B : Bk K mg T) : FnOk P w K mg base CX0 1 B.NoSide_init.f B.NoSide_init.fd ["self"] spPass := by
  refine B.NoSide_init.F.ok sc_NoSide_init (fun vs H Q E h => ?_) (fun cdv A outer s H vs Q E hr h => ?_)
  · obtain ⟨a, rfl, _⟩ := h
    rfl
  · obtain ⟨a, rfl, q⟩ := h
    refine ⟨_, (pss_one ps_pass), ?_⟩
    exact q
theorem ok_side_worth (T : Tx K mg) (B : Bk K mg T) : FnOk P w K mg base (L2.CX P w) 5 B.side_worth.f B.side_worth.fd ["web", "side"] (spSideW T.c_Web T.c_NoSide) := by
  have G_is_side := ok_is_side (P := P) (w := w) (base := base) T B
  have G_NoSide_init := ok_side_init (P := P) (w := w) (base := base) T B
  refine B.side_worth.F.okX sc_side_worth (fun vs H Q E h => ?_) (fun cdv A outer s H vs Q E hr h => ?_)
  · obtain ⟨p, a, m, L, sp, mo, d, x, rfl, _⟩ := h
    rfl
  · obtain ⟨p, a, m, L, sp, mo, d, x, rfl, hw, hL, hd, hsm, k1, k0⟩ := h
    refine ⟨_, (pss_cons (ps_if (pt_not (pt_val (pe_call G_is_side (hr.mono (by decide)) rfl B.is_side.m B.is_side.F.kp B.is_side.b .nil pass0 (pa_cons (pv 0) (pa_cons (pv 1) pa_nil))))) (pss_one (ps_raise rfl (takes_of rfl rfl rfl rfl) (pmk_pass T.x_NoSide B.NoSide_init.a B.NoSide_init.t G_NoSide_init (hr.mono (by decide)) B.NoSide_init.b pass0 rfl T.g_NoSide))) pss_nil)
      (pss_cons (ps_set (i := 2) sc_side_worth.nd rfl (Or.inl rfl) (pe_callB (cr_sum rfl) (by rfl) T.b_sum (by decide +kernel) (pa_cons (pe_lc (own := [("tie", 4)]) (g := gName 4) rfl sc_side_worth.nd (pi_tup (pe_fld (pv 0) rfl)) (blkOk_by (own := [("tie", 4)]) (N := ["web", "side", "there", "back", "tie"]) (sc := defScope s_side_worth) (by decide +kernel)) (fun _ _ _ _ _ => pg_name (i := 4) sc_side_worth.nd rfl (Or.inl rfl)) (fun _ _ _ _ _ => (pts_one (PW.pt (pw_and (pt_cmpR (r := rIn K false) op_in_seq (pe_ix (r := rIxT K) ix_tup (pv 4) pe_int (fun _ _ => rfl)) (pv 1) rfl) (pw_and1 (pt_cmpR (r := rIn K true) op_notIn_seq (pe_ix (r := rIxT K) ix_tup (pv 4) pe_int (fun _ _ => rfl)) (pv 1) rfl)))))) (fun _ _ _ _ _ => (pe_ix (r := rIxT K) ix_tup (pv 4) pe_int (fun _ _ => rfl)))) pa_nil)))
      (pss_cons (ps_set (i := 3) sc_side_worth.nd rfl (Or.inl rfl) (pe_callB (cr_sum rfl) (by rfl) T.b_sum (by decide +kernel) (pa_cons (pe_lc (own := [("tie", 4)]) (g := gName 4) rfl sc_side_worth.nd (pi_tup (pe_fld (pv 0) rfl)) (blkOk_by (own := [("tie", 4)]) (N := ["web", "side", "there", "back", "tie"]) (sc := defScope s_side_worth) (by decide +kernel)) (fun _ _ _ _ _ => pg_name (i := 4) sc_side_worth.nd rfl (Or.inl rfl)) (fun _ _ _ _ _ => (pts_one (PW.pt (pw_and (pt_cmpR (r := rIn K false) op_in_seq (pe_ix (r := rIxT K) ix_tup (pv 4) pe_int (fun _ _ => rfl)) (pv 1) rfl) (pw_and1 (pt_cmpR (r := rIn K true) op_notIn_seq (pe_ix (r := rIxT K) ix_tup (pv 4) pe_int (fun _ _ => rfl)) (pv 1) rfl)))))) (fun _ _ _ _ _ => (pe_ix (r := rIxT K) ix_tup (pv 4) pe_int (fun _ _ => rfl)))) pa_nil)))
      (pss_one (ps_ret (pe_op op_add (pv 2) (pv 3))))))), ?_⟩
    walk_at "rd"
    refine ⟨p, a, m, L, sp, mo, d, x, rfl, hw, hd, hsm, fun H1 s1 => ?_⟩
    walk_at "rd"
    refine rd_ite (fun h1 => ?_) (fun h1 => ?_)
    · intro e he
      exact ⟨⟨e, rfl, rfl, rfl⟩, k0 (by simpa using h1) _ s1⟩
    · have e : isSide m sp mo d = true := by simpa using h1
      cases d with
      | tuple ds =>
        have hn : (ds.map isNum).all id = true := by
          simp only [isSide, isLot, Bool.and_eq_true] at e
          exact e.1.1
        obtain ⟨c, ys, rfl, hc, hy⟩ := tp_tup' (id hd)
        have ey := nums_ints hn hy
        subst ey
        generalize hns : ds.map unitD = ns at *
        obtain ⟨dx, v2, v5, v6, ha, t2, hwy, hlt⟩ := hw.keep (Keep.same s1)
        obtain ⟨ct, xs, rfl, hct, hx⟩ := tp_tup' t2
        have hlen : xs.length = L.length := by
          have := hx.len
          simpa using this.symm
        have hc1 := s1 _ _ hc.2
        walk_at "rd"
        refine ⟨_, rfl, a, T.c_Web, dx, _, _, rfl, ha.2, T.W.cl, T.na_ties, wf_ties _ _ _ _ _ _, ct, rfl, ⟨xs, SqT.of (hct.2)⟩, fun D1 hD1 => lc_tup (K := K) (a := ct) (xs := xs)
          (fun i H2 => Same H1 H2 ∧ H2 D1 = some (.lst ((((L.take i).filter fun q => inV (.int q.1) (ns.map V.int) && !inV (.int q.2.1) (ns.map V.int)).map fun q => q.2.2.1).map V.int))) ⟨same_new hD1, upd_same⟩ (fun i H2 _ hh => SqT.of (hh.1 _ _ (hct.2))) ?_ ?_⟩
        · rintro i y H2 hi ⟨hs, hacc⟩
          obtain ⟨q, ci, hq, rfl, hci⟩ := ties_get hx hi
          have hci2 := hs _ _ (hci.2)
          have hc2 := hs _ _ (hc1)
          refine ⟨rfl, ?_⟩
          walk_at "rd"
          refine rd_ixT hci2 rfl ?_
          walk_at "rd"
          refine ⟨c, _, rfl, .inr (SqT.of hc2), rfl, ints_flat _, ?_⟩
          walk_at "rd"
          rw [take_snoc hq, List.filter_append, List.map_append, List.map_append]
          refine rd_ite (fun h3 => ?_) (fun h3 => ?_)
          · walk_at "rd"
            refine rd_ixT hci2 rfl ?_
            walk_at "rd"
            refine ⟨c, _, rfl, .inr (SqT.of hc2), rfl, ints_flat _, ?_⟩
            walk_at "rd"
            refine rd_ite (fun h4 => ?_) (fun h4 => ?_)
            · walk_at "rd"
              refine rd_ixT hci2 rfl ?_
              refine ⟨_, hacc, ?_, fun b o e => ?_, ?_⟩
              · refine Nat.lt_of_le_of_lt (?_ : _ ≤ 100) (by decide)
                rw [List.length_map, List.length_map]
                exact Nat.le_trans (List.length_filter_le _ _) (Nat.le_trans (List.length_take_le' _ _) hL)
              · rw [upd_ne (ne_of_none e hD1)]
                exact hs b o e
              · rw [upd_same, List.filter_cons_of_pos (by rw [show inV (V.int q.1) (ns.map V.int) = true from h3, show (!inV (V.int q.2.1) (ns.map V.int)) = true from h4]; rfl)]
                rfl
            · refine ⟨hs, ?_⟩
              rw [hacc, List.filter_cons_of_neg (by rw [show (!inV (V.int q.2.1) (ns.map V.int)) = false from h4]; simp)]
              simp
          · try with_reducible refine rd_no rfl ?_
            refine ⟨hs, ?_⟩
            rw [hacc, List.filter_cons_of_neg (by rw [show inV (V.int q.1) (ns.map V.int) = false from h3]; simp)]
            simp
        · rintro H2 ⟨s2, a2⟩
          rw [hlen, List.take_length] at a2
          walk_at "rd"
          refine ⟨D1, _, rfl, SqL.of a2, ?_⟩
          walk_at "rd"
          refine ⟨_, rfl, a, T.c_Web, dx, _, _, rfl, s2 _ _ ha.2, T.W.cl, T.na_ties, wf_ties _ _ _ _ _ _, ct, rfl, ⟨xs, SqT.of (s2 _ _ hct.2)⟩, fun D2 hD2 => lc_tup (K := K) (a := ct) (xs := xs)
            (fun i Hc => Same H2 Hc ∧ Hc D2 = some (.lst ((((L.take i).filter fun q => inV (.int q.2.1) (ns.map V.int) && !inV (.int q.1) (ns.map V.int)).map fun q => q.2.2.2).map V.int))) ⟨same_new hD2, upd_same⟩ (fun i Hc _ hh => SqT.of (hh.1 _ _ (s2 _ _ hct.2))) ?_ ?_⟩
          · rintro i y Hc hi ⟨hs, hacc⟩
            obtain ⟨q, ci, hq, rfl, hci⟩ := ties_get hx hi
            have hci2 := hs _ _ (s2 _ _ hci.2)
            have hc2 := hs _ _ (s2 _ _ hc1)
            refine ⟨rfl, ?_⟩
            walk_at "rd"
            refine rd_ixT hci2 rfl ?_
            walk_at "rd"
            refine ⟨c, _, rfl, .inr (SqT.of hc2), rfl, ints_flat _, ?_⟩
            walk_at "rd"
            rw [take_snoc hq, List.filter_append, List.map_append, List.map_append]
            refine rd_ite (fun h3 => ?_) (fun h3 => ?_)
            · walk_at "rd"
              refine rd_ixT hci2 rfl ?_
              walk_at "rd"
              refine ⟨c, _, rfl, .inr (SqT.of hc2), rfl, ints_flat _, ?_⟩
              walk_at "rd"
              refine rd_ite (fun h4 => ?_) (fun h4 => ?_)
              · walk_at "rd"
                refine rd_ixT hci2 rfl ?_
                refine ⟨_, hacc, ?_, fun b o e => ?_, ?_⟩
                · refine Nat.lt_of_le_of_lt (?_ : _ ≤ 100) (by decide)
                  rw [List.length_map, List.length_map]
                  exact Nat.le_trans (List.length_filter_le _ _) (Nat.le_trans (List.length_take_le' _ _) hL)
                · rw [upd_ne (ne_of_none e hD2)]
                  exact hs b o e
                · rw [upd_same, List.filter_cons_of_pos (by rw [show inV (V.int q.2.1) (ns.map V.int) = true from h3, show (!inV (V.int q.1) (ns.map V.int)) = true from h4]; rfl)]
                  rfl
              · refine ⟨hs, ?_⟩
                rw [hacc, List.filter_cons_of_neg (by rw [show (!inV (V.int q.1) (ns.map V.int)) = false from h4]; simp)]
                simp
            · try with_reducible refine rd_no rfl ?_
              refine ⟨hs, ?_⟩
              rw [hacc, List.filter_cons_of_neg (by rw [show inV (V.int q.2.1) (ns.map V.int) = false from h3]; simp)]
              simp
          · rintro H3 ⟨s3, a3⟩
            rw [hlen, List.take_length] at a3
            walk_at "rd"
            refine ⟨D2, _, rfl, SqL.of a3, ?_⟩
            walk_at "rd"
            have z := k1 ds H3 rfl e ((s1.trans s2).trans s3)
            rw [hns] at z
            exact z
      | _ => cases e
end
end Mw

/-! P3 -/
namespace Mw
open PySem L2
/-- what a dict by pairs of houses tells of a pair, 0 without -/
def fv (kvs : List (List Key × V)) (i j : Int) : Int := match valV kvs (keyP i j) with | some (.int z) => z | _ => 0
def Ints (kvs : List (List Key × V)) : Prop := ∀ k v, valV kvs k = some v → ∃ z, v = V.int z
theorem Ints.get {kvs : List (List Key × V)} (h : Ints kvs) (i j : Int) : (valV kvs (keyP i j)).getD (.int 0) = .int (fv kvs i j) := by
  unfold fv
  cases e : valV kvs (keyP i j) with
  | none => rfl
  | some v =>
    obtain ⟨z, rfl⟩ := h _ _ e
    rfl
theorem Ints.pos {kvs : List (List Key × V)} (h : Ints kvs) {i j : Int} (p : 0 < fv kvs i j) : valV kvs (keyP i j) = some (.int (fv kvs i j)) := by
  unfold fv at p ⊢
  cases e : valV kvs (keyP i j) with
  | none =>
    rw [e] at p
    exact absurd p (by decide)
  | some v =>
    obtain ⟨z, rfl⟩ := h _ _ e
    rfl
def kvsR (s : Int) (ps : List (Int × Int)) : List (Key × V) := (.inl s, .int s) :: ps.map fun x => (.inl x.1, .int x.2)
structure Rch (m : Int) (F : Int → Int → Int) (s : Int) (ps : List (Int × Int)) : Prop where
  nd : (lineOf s ps).Nodup
  rg : ∀ h ∈ lineOf s ps, 0 ≤ h ∧ h < m
  up : ∀ (j : Nat) (x : Int × Int), ps[j]? = some x → (∃ k, k ≤ j ∧ (lineOf s ps)[k]? = some x.2) ∧ 0 < F x.2 x.1
def Closed (m : Int) (F : Int → Int → Int) (l : List Int) (g : Int) : Prop := ∀ o, 0 ≤ o → o < m → 0 < F g o → o ∈ l
theorem kvsR_snoc {b : Int} {ps : List (Int × Int)} {x : Int × Int} : kvsR b (ps ++ [x]) = kvsR b ps ++ [(.inl x.1, .int x.2)] := by
  unfold kvsR
  rw [List.map_append]
  rfl
theorem kvsR_len {b : Int} {ps : List (Int × Int)} : (kvsR b ps).length = ps.length + 1 := by
  unfold kvsR
  simp
theorem Rch.nil {m : Int} {F : Int → Int → Int} {b : Int} (h0 : 0 ≤ b) (h1 : b < m) : Rch m F b [] := ⟨by simp [lineOf], by simp [lineOf]; omega, fun j x h => by simp at h⟩
theorem Rch.len {m : Int} {F : Int → Int → Int} {b : Int} {ps : List (Int × Int)} (h : Rch m F b ps) : ps.length + 1 ≤ m.toNat := by
  have e := few_int h.nd h.rg
  rwa [lineOf_len] at e
theorem Rch.snoc {m : Int} {F : Int → Int → Int} {b : Int} {ps : List (Int × Int)} (h : Rch m F b ps) {o g : Int} (hn : o ∉ lineOf b ps) (h0 : 0 ≤ o) (h1 : o < m) (hk : g ∈ lineOf b ps) (hh : 0 < F g o) : Rch m F b (ps ++ [(o, g)]) := by
  obtain ⟨k, hk⟩ := List.mem_iff_getElem?.mp hk
  have kl := (List.getElem?_eq_some_iff.mp hk).1
  rw [lineOf_len] at kl
  refine ⟨?_, ?_, ?_⟩
  · rw [lineOf_snoc, List.nodup_append]
    refine ⟨h.nd, by simp, fun a ha c hc => ?_⟩
    have : c = o := by simpa using hc
    intro e
    exact hn (by rw [← this, ← e]; exact ha)
  · intro a ha
    rw [lineOf_snoc] at ha
    rcases List.mem_append.mp ha with z | z
    · exact h.rg a z
    · have : a = o := by simpa using z
      omega
  · intro j x hx
    rw [lineOf_snoc]
    rw [List.getElem?_append] at hx
    by_cases hj : j < ps.length
    · rw [if_pos hj] at hx
      obtain ⟨⟨k', h1', h2'⟩, hu⟩ := h.up j x hx
      refine ⟨⟨k', h1', ?_⟩, hu⟩
      rw [List.getElem?_append, if_pos (List.getElem?_eq_some_iff.mp h2').1]
      exact h2'
    · rw [if_neg hj] at hx
      have hj0 : j - ps.length = 0 := by
        have := (List.getElem?_eq_some_iff.mp hx).1
        simp at this
        omega
      rw [hj0] at hx
      simp at hx
      subst hx
      refine ⟨⟨k, by omega, ?_⟩, hh⟩
      rw [List.getElem?_append, if_pos (by rw [lineOf_len]; exact kl)]
      exact hk
theorem kvsR_none {b : Int} {ps : List (Int × Int)} {o : Int} (h : valV (kvsR b ps) (.inl o) = none) : o ∉ lineOf b ps := by
  have e := valV_any (κ := Key) (.inl o) (kvsR b ps)
  rw [h] at e
  simp only [kvsR, Option.isSome_none, List.any_cons, Bool.or_eq_false_iff, decide_eq_false_iff_not, List.any_map, List.any_eq_false] at e
  intro hm
  unfold lineOf at hm
  rcases List.mem_cons.mp hm with z | z
  · exact e.1 (by rw [z])
  · obtain ⟨x, hx, rfl⟩ := List.mem_map.mp z
    exact e.2 x hx (by simp)
theorem kvsR_some {b : Int} {ps : List (Int × Int)} {o : Int} {v : V} (h : valV (kvsR b ps) (.inl o) = some v) : o ∈ lineOf b ps := by
  have e := valV_any (κ := Key) (.inl o) (kvsR b ps)
  rw [h] at e
  simp only [kvsR, Option.isSome_some, List.any_cons, Bool.or_eq_true, decide_eq_true_eq, List.any_map, List.any_eq_true] at e
  unfold lineOf
  rcases e with e | ⟨x, hx, e⟩
  · have : b = o := by simpa using e
    simp [this]
  · have : x.1 = o := by simpa using e
    rw [← this]
    exact List.mem_cons_of_mem _ (List.mem_map.mpr ⟨x, hx, rfl⟩)
theorem Rch.val0 {b : Int} {ps : List (Int × Int)} : valV (kvsR b ps) (.inl b) = some (.int b) := valV_pos rfl
theorem Rch.val {m : Int} {F : Int → Int → Int} {b : Int} {ps : List (Int × Int)} (h : Rch m F b ps) {j : Nat} {x : Int × Int} (hx : ps[j]? = some x) : valV (kvsR b ps) (.inl x.1) = some (.int x.2) := by
  have nd := h.nd
  unfold lineOf at nd
  rw [List.nodup_cons] at nd
  unfold kvsR
  rw [valV_neg (fun e => ?_)]
  · exact map_find nd.2 hx
  · have e' : b = x.1 := by simpa using e
    exact nd.1 (by rw [e']; exact List.mem_map.mpr ⟨x, List.mem_of_getElem? hx, rfl⟩)
theorem rd_dget2 {td ty tx : TE} {σ : L2.St} {H : Hp} {Q : VK} (h : td σ H fun x H1 => ∃ a, x = .ref a ∧ IsD H1 a ∧ ty σ H1 fun y H2 => tx σ H2 fun z H3 => ∃ o, DGet H3 a y o ∧ Q (o.getD z) H3) : tDGet2 td ty tx σ H Q := h
theorem isD_t {H : Hp} {a : Addr} {kvs : List (List Key × V)} (h : H a = some (.dT kvs)) : IsD H a := .inr ⟨kvs, .inl h⟩
def spReached (C : Addr) : Sp := fun vs H Q _ => ∃ p a m L sp mo f kvs, vs = [.ref a, .ref f] ∧ WebAt C p H a m L sp mo ∧ 0 ≤ sp ∧ sp < m ∧ m ≤ 10 ∧ H f = some (.dT kvs) ∧ Ints kvs ∧
  ∀ (r : Addr) (ps : List (Int × Int)) (H' : Hp), Same H H' → H' r = some (.dK (kvsR sp ps)) → Rch m (fv kvs) sp ps → (∀ g ∈ lineOf sp ps, Closed m (fv kvs) (lineOf sp ps) g) → Q (.ref r) H'
/-- at the head of the loop -/
def RchW (H : Hp) (a f D : Addr) (m sp : Int) (F : Int → Int → Int) (μ : Nat) (σ : L2.St) (H1 : Hp) : Prop := ∃ ps dn ns a1 u1 u2 u3, Same H H1 ∧ H1 D = some (.dK (kvsR sp ps)) ∧ H1 a1 = some (.lst (ns.map V.int)) ∧ Rch m F sp ps ∧ lineOf sp ps = dn ++ ns ∧
  (∀ g ∈ dn, Closed m F (lineOf sp ps) g) ∧ σ = [some (.ref a), some (.ref f), some (.ref D), some (.ref a1), u1, u2, u3] ∧ μ = 2 * (m.toNat - ps.length) + (if ns = [] then 0 else 1)
section
variable {P : Program} {w : World} {K : PySem.W.Frag} {mg : Str → Option Value} {base : Heap}
local macro_rules | `(tactic| walk_at "rd") => `(tactic| (repeat (first
  | ((with_reducible refine' rd_var ?h0 ?_); (case h0 => rfl))
  | with_reducible refine rd_c ?_
  | with_reducible refine rd_op ?_
  | with_reducible refine rd_nil ?_
  | with_reducible refine rd_cons ?_
  | with_reducible refine rd_tup ?_
  | with_reducible refine rd_lst ?_
  | with_reducible refine rd_ifs ?_
  | with_reducible refine rd_seq ?_
  | with_reducible refine rd_next ?_
  | with_reducible refine rd_ret ?_
  | with_reducible refine rd_asg ?_
  | ((with_reducible refine' rd_gset ?hs ?_); (case hs => ((simp only [L2.start, List.map_cons, List.map_nil, List.length_cons, List.length_nil, List.cons_append, List.nil_append, List.set_cons_zero, List.set_cons_succ, Nat.reduceAdd, Nat.reduceSub, Nat.zero_add, List.reduceReplicate]); rfl)))
  | with_reducible refine rd_drop ?_
  | with_reducible refine rd_test ?_
  | with_reducible refine rd_B ?_
  | with_reducible refine rd_bl ?_
  | with_reducible refine rd_blP ?_
  | with_reducible refine rd_andV ?_
  | with_reducible refine rd_orV ?_
  | with_reducible refine rd_notV ?_
  | with_reducible refine rd_and ?_
  | with_reducible refine rd_or ?_
  | with_reducible refine rd_not ?_
  | with_reducible refine rd_chain ?_
  | with_reducible refine rd_dput ?_
  | with_reducible refine rd_dget ?_
  | with_reducible refine rd_cb ?_
  | with_reducible refine rd_call ?_
  | with_reducible refine rd_un ?_
  | with_reducible refine rd_sl ?_
  | with_reducible refine rd_nopart ?_
  | with_reducible refine rd_part ?_
  | with_reducible refine rd_intP ?_
  | with_reducible refine rd_rU ?_
  | with_reducible refine rd_fld ?_
  | with_reducible refine rd_eqI ?_
  | with_reducible refine rd_neI ?_
  | with_reducible refine rd_mko ?_
  | with_reducible refine rd_bm ?_
  | with_reducible refine rd_gsub ?_
  | with_reducible refine rd_i0 ?_)))
theorem ok_reached (T : Tx K mg) (B : Bk K mg T) : FnOk P w K mg base CX0 1 B.reached.f B.reached.fd ["web", "free"] (spReached T.c_Web) := by
  refine B.reached.F.ok sc_reached (fun vs H Q E h => ?_) (fun cdv A outer s H vs Q E hr h => ?_)
  · obtain ⟨p, a, m, L, sp, mo, f, kvs, rfl, _⟩ := h
    rfl
  · obtain ⟨p, a, m, L, sp, mo, f, kvs, rfl, hw, b0, b1, hm, hf, hI, q⟩ := h
    refine ⟨_, (pss_cons (ps_set (i := 2) sc_reached.nd rfl (Or.inl rfl) (pe_disp (pps_cons (pe_fld (pv 0) rfl) (pe_fld (pv 0) rfl) pps_nil) rfl rfl (List.cons_ne_nil _ _) (by decide)))
      (pss_cons (ps_set (i := 3) sc_reached.nd rfl (Or.inl rfl) (pe_lst (pa_cons (pe_fld (pv 0) rfl) pa_nil)))
      (pss_cons (ps_while PassesOwn.never (pt_truth (pv 3) (by intro _; rfl)) (pss_cons (ps_set (i := 4) sc_reached.nd rfl (Or.inl rfl) (pe_lst pa_nil))
      (pss_cons (ps_for PassesOwn.never rfl (pi_list (pv 3)) (pg_name (i := 5) sc_reached.nd rfl (Or.inl rfl)) (pss_one (ps_for PassesOwn.never rfl (pi_range1 (by rfl) T.b_range (pa_cons (pe_fld (pv 0) rfl) pa_nil)) (pg_name (i := 6) sc_reached.nd rfl (Or.inl rfl)) (pss_one (ps_if (PW.pt (pw_and (pt_cmp (pc_dnotin (hu_of hr) (pv 6) (pv 2))) (pw_and1 (pt_cmpR op_gt (pe_dget2 (hu_of hr) (pv 1) (pe_tup (pa_cons (pv 5) (pa_cons (pv 6) pa_nil))) pe_int ⟨rfl, rfl, rfl, rfl⟩) pe_int (nomark _))))) (pss_cons (ps_dput (hu_of hr) (pv 2) (pv 6) (pv 5) rfl)
      (pss_one (ps_expr (pe_bm PySem.F.plainAttrs_list PySem.F.slot_list_append PySem.F.type_list_append mt_append (pv 4) (pa_cons (pv 6) pa_nil))))) pss_nil)))))
      (pss_one (ps_set (i := 3) sc_reached.nd rfl (Or.inl rfl) (pv 4))))))
      (pss_one (ps_ret (pv 2)))))), ?_⟩
    obtain ⟨dx, v2, v5, v6, ha, t2, hwy, hlt⟩ := hw
    walk_at "rd"
    refine rd_disp1 fun D nD => ?_
    have s0 := same_new (o := .dK []) nD
    walk_at "rd"
    refine ⟨a, T.c_Web, dx, _, _, rfl, s0 _ _ ha.2, T.W.cl, T.na_spring, wf_spring _ _ _ _ _ _, ?_⟩
    walk_at "rd"
    refine ⟨a, T.c_Web, dx, _, _, rfl, s0 _ _ ha.2, T.W.cl, T.na_spring, wf_spring _ _ _ _ _ _, ?_⟩
    refine ⟨upd_same, [(.inl sp, .int sp)], rfl, by simp, ?_⟩
    have sD : Same H (upd (upd H D (.dK [])) D (.dK (kvsR sp []))) := fun x o e => by
      rw [upd_ne (ne_of_none e nD), upd_ne (ne_of_none e nD)]
      exact e
    walk_at "rd"
    refine ⟨a, T.c_Web, dx, _, _, rfl, sD _ _ ha.2, T.W.cl, T.na_spring, wf_spring _ _ _ _ _ _, ?_⟩
    refine rd_disp rfl fun l nl => ?_
    have hDl : D ≠ l := ne_of_none (H := upd (upd H D (.dK [])) D (.dK (kvsR sp []))) upd_same nl
    walk_at "rd"
    refine ⟨RchW H a f D m sp (fv kvs), ⟨_, [], [], [sp], l, none, none, none, sD.trans (same_new nl), (upd_ne hDl).trans upd_same, upd_same, Rch.nil b0 b1, rfl, fun g hg => absurd hg (by simp), rfl, rfl⟩, ?_⟩
    rintro μ σ H1 ⟨ps0, dn, ns, a1, u1, u2, u3, hs, hD, ha1, hR, hln, hcl, rfl, hμ⟩
    have hlen := hR.len
    walk_at "rd"
    refine ⟨_, .inl ⟨_, SqL.of ha1, rfl⟩, ?_⟩
    refine rd_ite (fun h1 => ?_) (fun h1 => ?_)
    · have hne : ns ≠ [] := fun e => by
        rw [e] at h1
        cases h1
      rw [if_neg hne] at hμ
      have hnl : ns.length ≤ ps0.length + 1 := by
        have e := congrArg List.length hln
        rw [lineOf_len, List.length_append] at e
        omega
      refine ⟨fun σ' H' => ∃ m', m' < μ ∧ RchW H a f D m sp (fv kvs) m' σ' H', fun _ _ h => h, ?_⟩
      walk_at "rd"
      refine rd_disp rfl fun a2 n2 => ?_
      have n2H := hs.free n2
      have h12 : a1 ≠ a2 := ne_of_none ha1 n2
      have hD2 : D ≠ a2 := ne_of_none hD n2
      walk_at "rd"
      refine ⟨_, rfl, a1, rfl, ⟨_, SqL.of ((upd_ne h12).trans ha1)⟩, for_list (K := K) (a := a1) (xs := ns.map V.int)
        (fun i σ H2 => Same H H2 ∧ H2 a1 = some (.lst (ns.map V.int)) ∧ (∃ ps fs, H2 D = some (.dK (kvsR sp ps)) ∧ H2 a2 = some (.lst (fs.map V.int)) ∧ Rch m (fv kvs) sp ps ∧ lineOf sp ps = lineOf sp ps0 ++ fs ∧ (∀ g ∈ dn ++ ns.take i, Closed m (fv kvs) (lineOf sp ps) g)) ∧ ∃ u2 u3, σ = [some (.ref a), some (.ref f), some (.ref D), some (.ref a1), some (.ref a2), u2, u3])
        ⟨hs.trans (same_new n2), (upd_ne h12).trans ha1, ⟨ps0, [], (upd_ne hD2).trans hD, upd_same, hR, by simp, by simpa using hcl⟩, _, _, rfl⟩ (fun i σ H2 _ hh => SqL.of hh.2.1) ?_ ?_⟩
      · rintro i y σ H2 hi ⟨hs2, ha12, ⟨ps, fs, hD2', hf2, hR2, hl2, hc2⟩, u2, u3, rfl⟩
        obtain ⟨g, hg, rfl⟩ := mapint_get hi
        have hgl : g ∈ lineOf sp ps0 := by
          rw [hln]
          exact List.mem_append_right _ (List.mem_of_getElem? hg)
        walk_at "rd"
        show iRng1 _ _ _ _
        refine rd_rng1 ?_
        walk_at "rd"
        refine ⟨a, T.c_Web, dx, _, _, rfl, hs2 _ _ ha.2, T.W.cl, T.na_many, wf_many _ _ _ _ _ _, ?_⟩
        refine ⟨_, rfl, by omega, by omega, for_range (lo := 0) (n := m.toNat) (fun n σ H3 => Same H H3 ∧ H3 a1 = some (.lst (ns.map V.int)) ∧ (∃ ps fs, H3 D = some (.dK (kvsR sp ps)) ∧ H3 a2 = some (.lst (fs.map V.int)) ∧ Rch m (fv kvs) sp ps ∧ lineOf sp ps = lineOf sp ps0 ++ fs ∧ (∀ g ∈ dn ++ ns.take i, Closed m (fv kvs) (lineOf sp ps) g) ∧ ∀ o : Int, 0 ≤ o → o < (n : Nat) → 0 < fv kvs g o → o ∈ lineOf sp ps) ∧ ∃ u3, σ = [some (.ref a), some (.ref f), some (.ref D), some (.ref a1), some (.ref a2), some (.int g), u3])
          ⟨hs2, ha12, ⟨ps, fs, hD2', hf2, hR2, hl2, hc2, fun o o0 o1 => by omega⟩, _, rfl⟩ ?_ ?_⟩
        · rintro n σ H3 hn ⟨hs3, ha13, ⟨ps3, fs3, hD3, hf3, hR3, hl3, hc3, hg3⟩, u3, rfl⟩
          have hlen3 := hR3.len
          have hfl : fs3.length ≤ 20 := by
            have e := congrArg List.length hl3
            rw [lineOf_len, List.length_append] at e
            omega
          walk_at "rd"
          refine rd_dnotin ?_
          walk_at "rd"
          refine ⟨D, _, rfl, DGet.k (k := .inl (0 + (n : Int))) hD3, ?_⟩
          walk_at "rd"
          refine rd_ite (fun h2 => ?_) (fun h2 => ?_)
          · have hnone : valV (kvsR sp ps3) (.inl (0 + (n : Int))) = none := by
              cases e : valV (kvsR sp ps3) (.inl (0 + (n : Int))) with
              | none => rfl
              | some x =>
                rw [e] at h2
                cases h2
            walk_at "rd"
            refine rd_dget2 ?_
            walk_at "rd"
            refine ⟨f, rfl, isD_t (hs3 _ _ hf), ?_⟩
            walk_at "rd"
            refine rd_disp rfl fun n1 hn1 => ?_
            walk_at "rd"
            have s4 := same_new (o := .tup [.int g, .int (0 + (n : Int))]) hn1
            refine ⟨_, DGet.t (k := keyP g (0 + (n : Int))) (s4 _ _ (hs3 _ _ hf)) upd_same, ?_⟩
            rw [hI.get]
            walk_at "rd"
            have hs4 := hs3.trans s4
            refine rd_ite (fun h3 => ?_) (fun h3 => ?_)
            · have hpos : 0 < fv kvs g (0 + (n : Int)) := by simpa using h3
              have hR4 := hR3.snoc (o := 0 + (n : Int)) (g := g) (kvsR_none hnone) (by omega) (by omega) (by rw [hl3]; exact List.mem_append_left _ hgl) hpos
              walk_at "rd"
              refine ⟨D, _, rfl, DPut.k (k := .inl (0 + (n : Int))) (s4 _ _ hD3) (Nat.lt_of_le_of_lt (show (kvsR sp ps3).length ≤ 200 by rw [kvsR_len]; omega) (by decide)), ?_⟩
              have eD : putK (kvsR sp ps3) (.inl (0 + (n : Int))) (V.int g) = kvsR sp (ps3 ++ [(0 + (n : Int), g)]) := by rw [putK_new _ hnone, kvsR_snoc]
              rw [eD]
              have sN : Same H (upd (upd H3 n1 (.tup [.int g, .int (0 + (n : Int))])) D (.dK (kvsR sp (ps3 ++ [(0 + (n : Int), g)])))) := fun x o' e => by
                rw [upd_ne (ne_of_none e nD)]
                exact hs4 x o' e
              have hf5 : (upd (upd H3 n1 (.tup [.int g, .int (0 + (n : Int))])) D (.dK (kvsR sp (ps3 ++ [(0 + (n : Int), g)])))) a2 = some (.lst (fs3.map V.int)) := (upd_ne hD2.symm).trans (s4 _ _ hf3)
              walk_at "rd"
              refine ⟨.inl ⟨rfl, _, SqL.of hf5⟩, ?_⟩
              walk_at "rd"
              refine rd_append hf5 (Nat.lt_of_le_of_lt (show (fs3.map V.int).length ≤ 200 by rw [List.length_map]; omega) (by decide)) ?_
              have hl5 : lineOf sp (ps3 ++ [(0 + (n : Int), g)]) = lineOf sp ps0 ++ (fs3 ++ [0 + (n : Int)]) := by rw [lineOf_snoc, hl3, List.append_assoc]
              have sub : ∀ x, x ∈ lineOf sp ps3 → x ∈ lineOf sp (ps3 ++ [(0 + (n : Int), g)]) := fun x hx => by
                rw [lineOf_snoc]
                exact List.mem_append_left _ hx
              refine ⟨fun x o' e => ?_, ?_, ⟨ps3 ++ [(0 + (n : Int), g)], fs3 ++ [0 + (n : Int)], ?_, ?_, hR4, hl5, fun g' hg' o o0 o1 op => sub _ (hc3 g' hg' o o0 o1 op), fun o o0 o1 op => ?_⟩, _, rfl⟩
              · rw [upd_ne (ne_of_none e n2H)]
                exact sN x o' e
              · rw [upd_ne h12, upd_ne (ne_of ha13 hD3 (by intro z; cases z))]
                exact s4 _ _ ha13
              · rw [upd_ne hD2]
                exact upd_same
              · rw [upd_same, List.map_append]
                rfl
              · by_cases e : o < (n : Int)
                · exact sub _ (hg3 o o0 e op)
                · have e2 : o = 0 + (n : Int) := by omega
                  rw [lineOf_snoc, e2]
                  exact List.mem_append_right _ (by simp)
            · refine ⟨hs4, s4 _ _ ha13, ⟨ps3, fs3, s4 _ _ hD3, s4 _ _ hf3, hR3, hl3, hc3, fun o o0 o1 op => ?_⟩, _, rfl⟩
              by_cases e : o < (n : Int)
              · exact hg3 o o0 e op
              · have e2 : o = 0 + (n : Int) := by omega
                rw [e2] at op
                exact absurd op (of_decide_eq_false h3)
          · refine rd_no rfl ?_
            refine ⟨hs3, ha13, ⟨ps3, fs3, hD3, hf3, hR3, hl3, hc3, fun o o0 o1 op => ?_⟩, _, rfl⟩
            by_cases e : o < (n : Int)
            · exact hg3 o o0 e op
            · have e2 : o = 0 + (n : Int) := by omega
              rw [e2]
              cases ev : valV (kvsR sp ps3) (.inl (0 + (n : Int))) with
              | none =>
                rw [ev] at h2
                cases h2
              | some x => exact kvsR_some ev
        · rintro σ H3 ⟨hs3, ha13, ⟨ps3, fs3, hD3, hf3, hR3, hl3, hc3, hg3⟩, u3, rfl⟩
          refine ⟨hs3, ha13, ⟨ps3, fs3, hD3, hf3, hR3, hl3, fun g' hg' => ?_⟩, _, _, rfl⟩
          rw [take_snoc hg, ← List.append_assoc] at hg'
          rcases List.mem_append.mp hg' with z | z
          · exact hc3 g' z
          · have e2 : g' = g := by simpa using z
            rw [e2]
            exact fun o o0 o1 op => hg3 o o0 (by omega) op
      · rintro σ H2 ⟨hs2, ha12, ⟨ps, fs, hD2', hf2, hR2, hl2, hc2⟩, u2, u3, rfl⟩
        rw [List.length_map, List.take_length] at hc2
        have e := congrArg List.length hl2
        rw [lineOf_len, List.length_append, lineOf_len] at e
        have hlen2 := hR2.len
        walk_at "rd"
        refine ⟨_, ?_, ps, dn ++ ns, fs, a2, _, _, _, hs2, hD2', hf2, hR2, by rw [hl2, hln], hc2, rfl, rfl⟩
        cases fs with
        | nil =>
          simp at e ⊢
          omega
        | cons z fs =>
          simp at e ⊢
          omega
    · have hne : ns = [] := by
        cases ns with
        | nil => rfl
        | cons z ns => cases h1
      subst hne
      rw [List.append_nil] at hln
      walk_at "rd"
      refine q D ps0 H1 hs hD hR fun g hg => hcl g ?_
      rw [← hln]
      exact hg
end
end Mw

/-! P4 -/
namespace Mw
open PySem L2
theorem rd_revL {K : PySem.W.Frag} {te : TE} {σ : L2.St} {H : Hp} {Q : VK} (h : te σ H fun x H1 => ∃ a xs, x = .ref a ∧ SqL K H1 a xs ∧ ∀ p, H1 p = none → Q (.ref p) (upd H1 p (.lst xs.reverse))) : tRevL K te σ H Q := h
theorem rd_listZip {ta : TA} {σ : L2.St} {H : Hp} {Q : VK} (h : ta σ H fun vs H1 => ∃ a b xs ys, vs = [.ref a, .ref b] ∧ H1 a = some (.tup xs) ∧ H1 b = some (.tup ys) ∧ ∀ (D : Addr) (ts : List Addr) (H' : Hp), Same H1 H' → H1 D = none → H' D = some (.lst (ts.map V.ref)) → ts.length = min xs.length ys.length →
  (∀ (j : Nat) (t : Addr) (x y : V), ts[j]? = some t → xs[j]? = some x → ys[j]? = some y → H' t = some (.tup [x, y])) → Q (.ref D) H') : tListZip ta σ H Q := h
structure UpF (F : Int → Int → Int) (b e : Int) (ps : List (Int × Int)) (k : Nat) (g : Int) (ws : List Int) : Prop where
  pos : (lineOf b ps)[k]? = some g
  abv : ∀ h ∈ g :: ws, ∃ j, k ≤ j ∧ (lineOf b ps)[j]? = some h
  nd : (g :: ws).Nodup
  lst : (g :: ws).getLast? = some e
  hop : ∀ (t : Nat) (x y : Int), (g :: ws)[t]? = some x → (g :: ws)[t + 1]? = some y → 0 < F x y
theorem UpF.first {F : Int → Int → Int} {b e : Int} {ps : List (Int × Int)} {k : Nat} (h : (lineOf b ps)[k]? = some e) : UpF F b e ps k e [] :=
  ⟨h, fun x hx => ⟨k, Nat.le_refl _, by rw [show x = e by simpa using hx]; exact h⟩, by simp, rfl, fun t x y _ hy => by simp at hy⟩
theorem UpF.step {m : Int} {F : Int → Int → Int} {b e : Int} {ps : List (Int × Int)} {k : Nat} {g : Int} {ws : List Int} (hT : Rch m F b ps) (h : UpF F b e ps (k + 1) g ws) : ∃ (x : Int × Int) (k2 : Nat), ps[k]? = some x ∧ x.1 = g ∧ k2 ≤ k ∧ UpF F b e ps k2 x.2 (g :: ws) := by
  have hp := h.pos
  have e1 : (ps[k]?).map (·.1) = some g := by
    have : (lineOf b ps)[k + 1]? = (ps.map (·.1))[k]? := rfl
    rw [← List.getElem?_map, ← this]
    exact hp
  cases ex : ps[k]? with
  | none =>
    rw [ex] at e1
    cases e1
  | some x =>
    rw [ex] at e1
    have eg : x.1 = g := Option.some.inj e1
    obtain ⟨⟨k2, hk2, hl2⟩, hh⟩ := hT.up k x ex
    refine ⟨x, k2, rfl, eg, hk2, hl2, ?_, ?_, ?_, ?_⟩
    · intro y hy
      rcases List.mem_cons.mp hy with z | z
      · exact ⟨k2, Nat.le_refl _, by rw [z]; exact hl2⟩
      · obtain ⟨j, hj, hl⟩ := h.abv y z
        exact ⟨j, by omega, hl⟩
    · refine List.nodup_cons.mpr ⟨fun hm => ?_, h.nd⟩
      obtain ⟨j, hj, hl⟩ := h.abv _ hm
      have := nodup_at hT.nd hl hl2
      omega
    · rw [List.getLast?_cons_cons]
      exact h.lst
    · intro t y z hy hz
      cases t with
      | zero =>
        rw [List.getElem?_cons_zero] at hy
        rw [List.getElem?_cons_succ, List.getElem?_cons_zero] at hz
        cases hy
        cases hz
        rw [← eg]
        exact hh
      | succ t =>
        rw [List.getElem?_cons_succ] at hy hz
        exact h.hop t y z hy hz
theorem UpF.rg {m : Int} {F : Int → Int → Int} {b e : Int} {ps : List (Int × Int)} {k : Nat} {g : Int} {ws : List Int} (hT : Rch m F b ps) (h : UpF F b e ps k g ws) : ∀ x ∈ g :: ws, 0 ≤ x ∧ x < m := fun x hx => by
  obtain ⟨j, _, hl⟩ := h.abv x hx
  exact hT.rg x (List.mem_of_getElem? hl)
/-- a simple way of pairs with something free -/
structure WayF (m : Int) (F : Int → Int → Int) (b e : Int) (ws : List Int) : Prop where
  hd : ws[0]? = some b
  lst : ws.getLast? = some e
  nd : ws.Nodup
  rg : ∀ x ∈ ws, 0 ≤ x ∧ x < m
  hop : ∀ (t : Nat) (x y : Int), ws[t]? = some x → ws[t + 1]? = some y → 0 < F x y
theorem WayF.two {m : Int} {F : Int → Int → Int} {ws : List Int} {b e : Int} (h : WayF m F b e ws) (ne : b ≠ e) : 2 ≤ ws.length := by
  have h1 := (List.getElem?_eq_some_iff.mp h.hd).1
  have h2 := last_at h.lst
  by_cases c : ws.length = 1
  · rw [c, h.hd] at h2
    cases h2
    exact absurd rfl ne
  · omega
theorem WayF.few {m : Int} {F : Int → Int → Int} {ws : List Int} {b e : Int} (h : WayF m F b e ws) : ws.length ≤ m.toNat := few_int h.nd h.rg
/-- the steps of a way at an address -/
def StepsAt (H : Hp) (D : Addr) (ws : List Int) : Prop := ∃ ts : List Addr, H D = some (.lst (ts.map V.ref)) ∧ ts.length = ws.length - 1 ∧ ∀ (j : Nat) (t : Addr), ts[j]? = some t → ∃ x y, ws[j]? = some x ∧ ws[j + 1]? = some y ∧ H t = some (.tup [.int x, .int y])
def spToMouth (C : Addr) : Sp := fun vs H Q _ => ∃ p a m L sp mo r ps F, vs = [.ref a, .ref r] ∧ WebAt C p H a m L sp mo ∧ m ≤ 10 ∧ H r = some (.dK (kvsR sp ps)) ∧ Rch m F sp ps ∧ mo ∈ lineOf sp ps ∧
  ∀ (c : Addr) (ws : List Int) (H' : Hp), Same H H' → H c = none → H' c = some (.tup (ws.map V.int)) → WayF m F sp mo ws → Q (.ref c) H'
def spSteps : Sp := fun vs H Q _ => ∃ (c : Addr) (ws : List Int), vs = [.ref c] ∧ H c = some (.tup (ws.map V.int)) ∧ ∀ (D : Addr) (H' : Hp), Same H H' → H D = none → StepsAt H' D ws → Q (.ref D) H'
def spNarrow : Sp := fun vs H Q _ => ∃ (f c : Addr) (kvs : List (List Key × V)) (ws : List Int), vs = [.ref f, .ref c] ∧ H f = some (.dT kvs) ∧ Ints kvs ∧ H c = some (.tup (ws.map V.int)) ∧ 2 ≤ ws.length ∧ ws.length ≤ 10 ∧ (∀ (t : Nat) (x y : Int), ws[t]? = some x → ws[t + 1]? = some y → 0 < fv kvs x y) ∧
  ∀ (z : Int) (H' : Hp), Same H H' → 0 < z → (∀ (t : Nat) (x y : Int), ws[t]? = some x → ws[t + 1]? = some y → z ≤ fv kvs x y) → (∃ (t : Nat) (x y : Int), ws[t]? = some x ∧ ws[t + 1]? = some y ∧ z = fv kvs x y) → Q (.int z) H'
section
variable {P : Program} {w : World} {K : PySem.W.Frag} {mg : Str → Option Value} {base : Heap}
local macro_rules | `(tactic| walk_at "rd") => `(tactic| (repeat (first
  | ((with_reducible refine' rd_var ?h0 ?_); (case h0 => rfl))
  | with_reducible refine rd_c ?_
  | with_reducible refine rd_op ?_
  | with_reducible refine rd_nil ?_
  | with_reducible refine rd_cons ?_
  | with_reducible refine rd_tup ?_
  | with_reducible refine rd_lst ?_
  | with_reducible refine rd_ifs ?_
  | with_reducible refine rd_seq ?_
  | with_reducible refine rd_next ?_
  | with_reducible refine rd_ret ?_
  | with_reducible refine rd_asg ?_
  | ((with_reducible refine' rd_gset ?hs ?_); (case hs => ((simp only [L2.start, List.map_cons, List.map_nil, List.length_cons, List.length_nil, List.cons_append, List.nil_append, List.set_cons_zero, List.set_cons_succ, Nat.reduceAdd, Nat.reduceSub, Nat.zero_add, List.reduceReplicate]); rfl)))
  | with_reducible refine rd_drop ?_
  | with_reducible refine rd_test ?_
  | with_reducible refine rd_B ?_
  | with_reducible refine rd_bl ?_
  | with_reducible refine rd_blP ?_
  | with_reducible refine rd_andV ?_
  | with_reducible refine rd_orV ?_
  | with_reducible refine rd_notV ?_
  | with_reducible refine rd_and ?_
  | with_reducible refine rd_or ?_
  | with_reducible refine rd_not ?_
  | with_reducible refine rd_chain ?_
  | with_reducible refine rd_dput ?_
  | with_reducible refine rd_dget ?_
  | with_reducible refine rd_cb ?_
  | with_reducible refine rd_call ?_
  | with_reducible refine rd_un ?_
  | with_reducible refine rd_sl ?_
  | with_reducible refine rd_nopart ?_
  | with_reducible refine rd_part ?_
  | with_reducible refine rd_intP ?_
  | with_reducible refine rd_rU ?_
  | with_reducible refine rd_fld ?_
  | with_reducible refine rd_eqI ?_
  | with_reducible refine rd_neI ?_
  | with_reducible refine rd_mko ?_
  | with_reducible refine rd_bm ?_
  | with_reducible refine rd_gsub ?_
  | with_reducible refine rd_i0 ?_)))
theorem ok_way_to_mouth (T : Tx K mg) (B : Bk K mg T) : FnOk P w K mg base CX0 1 B.way_to_mouth.f B.way_to_mouth.fd ["web", "ahead"] (spToMouth T.c_Web) := by
  refine B.way_to_mouth.F.ok sc_way_to_mouth (fun vs H Q E h => ?_) (fun cdv A outer s H vs Q E hr h => ?_)
  · obtain ⟨p, a, m, L, sp, mo, r, ps, F, rfl, _⟩ := h
    rfl
  · obtain ⟨p, a, m, L, sp, mo, r, ps, F, rfl, hw, hm, hr1, hT, hmo, q⟩ := h
    refine ⟨_, (pss_cons (ps_set (i := 2) sc_way_to_mouth.nd rfl (Or.inl rfl) (pe_lst (pa_cons (pe_fld (pv 0) rfl) pa_nil)))
      (pss_cons (ps_while PassesOwn.never (pt_cmpR op_ne (pe_ix ix_list (pv 2) (pe_un un_neg pe_int) (fun _ _ => rfl)) (pe_fld (pv 0) rfl) (nomark _)) (pss_one (ps_expr (pe_bm PySem.F.plainAttrs_list PySem.F.slot_list_append PySem.F.type_list_append mt_append (pv 2) (pa_cons (pe_dget (hu_of hr) (pv 1) (pe_ix ix_list (pv 2) (pe_un un_neg pe_int) (fun _ _ => rfl)) (fun _ _ => rfl)) pa_nil)))))
      (pss_one (ps_ret (pe_callTy call_tuple_of (by rfl) T.b_tuple (by decide +kernel) (pa_cons (pe_revL (pv 2)) pa_nil)))))), ?_⟩
    obtain ⟨dx, v2, v5, v6, ha, t2, hwy, hlt⟩ := hw
    obtain ⟨k0, hk0⟩ := List.mem_iff_getElem?.mp hmo
    have hlen := hT.len
    walk_at "rd"
    refine ⟨a, T.c_Web, dx, _, _, rfl, ha.2, T.W.cl, T.na_mouth, wf_mouth _ _ _ _ _ _, ?_⟩
    refine rd_disp rfl fun l nl => ?_
    walk_at "rd"
    refine ⟨fun μ σ H1 => Same H H1 ∧ (∃ g ws, H1 l = some (.lst (ws.reverse.map V.int ++ [.int g])) ∧ UpF F sp mo ps μ g ws) ∧ σ = [some (.ref a), some (.ref r), some (.ref l)], ⟨k0, same_new nl, ⟨mo, [], upd_same, UpF.first hk0⟩, rfl⟩, ?_⟩
    rintro μ σ H1 ⟨hs, ⟨g, ws, hl, hU⟩, rfl⟩
    have hfew : (g :: ws).length ≤ m.toNat := few_int hU.nd (hU.rg hT)
    rw [List.length_cons] at hfew
    walk_at "rd"
    refine rd_ixL hl (atI_last _ _) ?_
    walk_at "rd"
    refine ⟨a, T.c_Web, dx, _, _, rfl, hs _ _ ha.2, T.W.cl, T.na_spring, wf_spring _ _ _ _ _ _, ?_⟩
    walk_at "rd"
    refine rd_ite (fun h1 => ?_) (fun h1 => ?_)
    · have hne : g ≠ sp := by simpa using h1
      cases μ with
      | zero =>
        have := hU.pos
        simp [lineOf] at this
        exact absurd this.symm hne
      | succ k =>
        obtain ⟨x, k2, ex, eg, hk2, hU2⟩ := hU.step hT
        refine ⟨fun σ' H' => ∃ m', m' < k + 1 ∧ Same H H' ∧ (∃ g ws, H' l = some (.lst (ws.reverse.map V.int ++ [.int g])) ∧ UpF F sp mo ps m' g ws) ∧ σ' = [some (.ref a), some (.ref r), some (.ref l)], fun _ _ h => h, ?_⟩
        have hg : DGet H1 r (.int g) (some (.int x.2)) := by
          rw [← hT.val ex, ← eg]
          exact DGet.k (k := .inl x.1) (hs _ _ hr1)
        walk_at "rd"
        refine ⟨.inl ⟨rfl, _, SqL.of hl⟩, ?_⟩
        walk_at "rd"
        refine rd_ixL hl (atI_last _ _) ?_
        refine ⟨r, _, rfl, hg, ?_⟩
        walk_at "rd"
        refine rd_append hl (Nat.lt_of_le_of_lt (show (ws.reverse.map V.int ++ [V.int g]).length ≤ 200 by rw [List.length_append, List.length_map, List.length_reverse]; simp; omega) (by decide)) ?_
        refine ⟨k2, by omega, fun y o' e' => ?_, ⟨x.2, g :: ws, ?_, hU2⟩, rfl⟩
        · rw [upd_ne (ne_of_none e' nl)]
          exact hs y o' e'
        · rw [upd_same, List.reverse_cons, List.map_append]
          rfl
    · have hgs : g = sp := by simpa using h1
      subst hgs
      walk_at "rd"
      refine rd_revL ?_
      walk_at "rd"
      refine ⟨l, _, rfl, SqL.of hl, fun l2 n2 => ?_⟩
      have e : (ws.reverse.map V.int ++ [V.int g]).reverse = (g :: ws).map V.int := by
        rw [List.reverse_append, ← List.map_reverse, List.reverse_reverse]
        rfl
      rw [e]
      walk_at "rd"
      refine ⟨l2, _, rfl, .inl ⟨SqL.of upd_same, fun c hc => ?_⟩⟩
      have s2 := hs.trans (same_new (o := .lst ((g :: ws).map V.int)) n2)
      exact q c (g :: ws) _ (s2.trans (same_new hc)) (s2.free hc) upd_same ⟨rfl, hU.lst, hU.nd, hU.rg hT, hU.hop⟩
theorem ok_steps (T : Tx K mg) (B : Bk K mg T) : FnOk P w K mg base CX0 1 B.steps.f B.steps.fd ["way"] spSteps := by
  refine B.steps.F.ok sc_steps (fun vs H Q E h => ?_) (fun cdv A outer s H vs Q E hr h => ?_)
  · obtain ⟨c, ws, rfl, _⟩ := h
    rfl
  · obtain ⟨c, ws, rfl, hc, q⟩ := h
    refine ⟨_, (pss_one (ps_ret (pe_listZip rfl (by rfl) T.b_list (by rfl) T.b_zip (pa_cons (pv 0) (pa_cons (pe_slice sl_tupA (pv 0) (po_some pe_int) po_none) pa_nil))))), ?_⟩
    walk_at "rd"
    refine rd_listZip ?_
    walk_at "rd"
    refine rd_slA1 hc fun r H1 s1 hr1 => ?_
    rw [← List.map_tail] at hr1
    refine ⟨c, r, _, _, rfl, s1 _ _ hc, hr1, fun D ts H' s2 nD hl hn hp => ?_⟩
    have s12 := s1.trans s2
    refine q D H' s12 (s1.free nD) ⟨ts, hl, by simpa using hn, fun j t ht => ?_⟩
    have hj := (List.getElem?_eq_some_iff.mp ht).1
    have hj2 : j + 1 < ws.length := by
      simp at hn
      omega
    have hx : ws[j]? = some (ws[j]'(by omega)) := by simp
    have hy : ws[j + 1]? = some ws[j + 1] := by simp [hj2]
    refine ⟨_, _, hx, hy, hp j t _ _ ht (by rw [List.getElem?_map, hx]; rfl) (by rw [List.getElem?_map, List.getElem?_tail, hy]; rfl)⟩
theorem ok_narrowest (T : Tx K mg) (B : Bk K mg T) : FnOk P w K mg base CX0 2 B.narrowest.f B.narrowest.fd ["free", "way"] spNarrow := by
  have G_steps := ok_steps (P := P) (w := w) (base := base) T B
  refine B.narrowest.F.ok sc_narrowest (fun vs H Q E h => ?_) (fun cdv A outer s H vs Q E hr h => ?_)
  · obtain ⟨f, c, kvs, ws, rfl, _⟩ := h
    rfl
  · obtain ⟨f, c, kvs, ws, rfl, hf, hI, hc, h2, h10, hpos, q⟩ := h
    refine ⟨_, (pss_one (ps_ret (pe_callB (cr_min rfl) (by rfl) T.b_min (by decide +kernel) (pa_cons (pe_lc (own := [("step", 2)]) (g := gName 2) rfl sc_narrowest.nd (pi_list (pe_call G_steps (hr.mono (by decide)) rfl B.steps.m B.steps.F.kp B.steps.b .nil pass0 (pa_cons (pv 1) pa_nil))) (blkOk_by (own := [("step", 2)]) (N := ["free", "way", "step"]) (sc := defScope s_narrowest) (by decide +kernel)) (fun _ _ _ _ _ => pg_name (i := 2) sc_narrowest.nd rfl (Or.inl rfl)) (fun _ _ _ _ _ => pts_nil) (fun _ _ _ _ _ => (pe_dget (hu_of hr) (pv 0) (pv 2) (fun _ _ => rfl)))) pa_nil)))), ?_⟩
    walk_at "rd"
    show iList _ _ _ _ _
    refine rd_ilist ?_
    walk_at "rd"
    refine ⟨c, ws, rfl, hc, fun D1 H1 s1 nD1 ⟨ts, hl, hn, hp⟩ => ?_⟩
    refine ⟨D1, rfl, ⟨_, SqL.of hl⟩, fun D hD => lc_list (K := K) (a := D1) (xs := ts.map V.ref)
      (fun i H2 => Same H1 H2 ∧ H2 D = some (.lst ((((ws.zip ws.tail).take i).map fun x => fv kvs x.1 x.2).map V.int))) ⟨same_new hD, upd_same⟩ (fun i H2 _ hh => SqL.of (hh.1 _ _ hl)) ?_ ?_⟩
    · rintro i y H2 hi ⟨hs, hacc⟩
      rw [List.getElem?_map] at hi
      cases ht : ts[i]? with
      | none =>
        rw [ht] at hi
        cases hi
      | some t =>
        rw [ht] at hi
        obtain rfl : V.ref t = y := Option.some.inj hi
        obtain ⟨x, z, hx, hz, htup⟩ := hp i t ht
        refine ⟨rfl, ?_⟩
        refine rd_tyes ?_
        refine rd_yes rfl ?_
        walk_at "rd"
        have hg : DGet H2 f (.ref t) (some (.int (fv kvs x z))) := by
          rw [← hI.pos (hpos i x z hx hz)]
          exact DGet.t (k := keyP x z) (hs _ _ (s1 _ _ hf)) (hs _ _ htup)
        refine ⟨f, _, rfl, hg, ?_⟩
        refine ⟨_, hacc, ?_, fun b o e => ?_, ?_⟩
        · refine Nat.lt_of_le_of_lt (?_ : _ ≤ 200) (by decide)
          rw [List.length_map, List.length_map]
          exact Nat.le_trans (List.length_take_le' _ _) (by rw [List.length_zip]; omega)
        · rw [upd_ne (ne_of_none e hD)]
          exact hs b o e
        · rw [upd_same, zip_snoc hx (by rw [List.getElem?_tail]; exact hz), List.map_append, List.map_append]
          rfl
    · rintro H2 ⟨hs, hacc⟩
      rw [List.length_map, List.take_of_length_le (by rw [List.length_zip, hn]; simp)] at hacc
      dsimp only
      walk_at "rd"
      refine ⟨D, _, rfl, SqL.of hacc, by rw [List.length_map, List.length_zip, List.length_tail]; omega, fun z hz hall => ?_⟩
      obtain ⟨x, hx, rfl⟩ := List.mem_map.mp hz
      obtain ⟨t, ht⟩ := List.mem_iff_getElem?.mp hx
      rw [List.getElem?_zip_eq_some, List.getElem?_tail] at ht
      refine q _ H2 (s1.trans hs) (hpos t _ _ ht.1 ht.2) (fun t' x' y' g1 g2 => ?_) ⟨t, _, _, ht.1, ht.2, rfl⟩
      refine hall _ (List.mem_map.mpr ⟨(x', y'), List.mem_of_getElem? (i := t') ?_, rfl⟩)
      rw [List.getElem?_zip_eq_some, List.getElem?_tail]
      exact ⟨g1, g2⟩
end
end Mw

/-! MR5 -/
/-! sorted(d) of a dict with whole numbers as keys. -/
namespace L2
open PySem PySem.Spec PyProof.Rows
def rSortedD : List V → Hp → VK → Prop := fun vs H Q => ∃ (d : Addr) (kvs : List (Key × V)) (ns : List Int), vs = [.ref d] ∧ H d = some (.dK kvs) ∧ kvs.map (·.1) = ns.map Sum.inl ∧
  ∀ (ns' : List Int) (p : Addr), ns'.Perm ns → ns'.Pairwise (· ≤ ·) → H p = none → Q (.ref p) (upd H p (.lst (ns'.map V.int)))
theorem cr_sortedD {X : Cx} (hc : X.calm = true) : CallR X (.builtin "sorted") rSortedD := by
  intro pins s σ H vs us Q I r h
  obtain ⟨d, kvs, ns, rfl, hk, en, q⟩ := h
  rw [Vals.ref1 r]
  obtain ⟨z, lo, ws, rk, hd⟩ := (show ObjOk X.prog X.w H s.heap d (.dK kvs) from I.hok d _ hk)
  obtain ⟨ep, hat⟩ := hd.dictAt
  have hl : kvs.length = ws.length := Paired.length rk
  refine Calls.call_function_entry kind_sorted plain_sorted entry_sorted (args_sorted1 _) ?_
  unfold Builtin.«sorted»
  refine wpAny_bind (m := checkCount "sorted" 1 1 _) (wpAny_pure ?_)
  refine wpAny_bind (PySem.W.kdu_collect (PySem.W.kdl_dict (knd := mixKind X.prog X.w) (kvs := ws) (ep := ep) lo) (I.ok.hd hc) hat (by rw [← hl]; exact z) fun h' tk acc kp hacc => ?_)
  have el : acc.toList.length = kvs.length := by rw [Array.length_toList, hacc.1, hl]
  have hns : ns.length = kvs.length := by
    have e := congrArg List.length en
    rw [List.length_map, List.length_map] at e
    exact e.symm
  have rv : Vals (ns.map V.int) acc.toList := by
    refine vals_of_at (by rw [List.length_map, el, hns]) fun j x w h1 h2 => ?_
    obtain ⟨k, y, hky, hi⟩ := hacc.2 j w (by rw [← Array.getElem?_toList]; exact h2)
    have e1 : (kvs.map (·.1))[j]? = some k := by rw [KV.keys rk, List.getElem?_map, hky] <;> rfl
    rw [en, List.getElem?_map] at e1
    rw [List.getElem?_map] at h1
    cases e2 : ns[j]? with
    | none =>
      rw [e2] at h1
      cases h1
    | some n =>
      rw [e2] at h1 e1
      cases h1
      have e3 : k = Sum.inl n := (Option.some.inj e1).symm
      have e4 : RelV (kV k) w := keyIs_rel hi
      rw [e3] at e4
      exact e4
  have hi := rv.ints
  have hz : acc.toList.length ≤ sizeLine := by rw [el]; exact z
  refine wpAny_bind (wpAny_newList ?_ hz)
  have hoL : (h'.push (seqObj "list" acc.toList.toArray 0)).get? h'.objs.size = some (seqObj "list" acc.toList.toArray 0) := Heap.get?_push_size _ rfl
  show wpAny _ _ _ _ _ { s with heap := h'.push (seqObj "list" acc.toList.toArray 0), toks := tk }
  refine wpAny_bind (wpAny_holding (wpAny_call_entry slot_list_sort ⟨_, hoL, rfl⟩ entry_list_sort (SrtO.list_sort_ord SrtO.swo_int hoL hz (fun h2 => SrtO.ints_sortable hi h2) fun out h1 h2 => ⟨_, rfl, ?_⟩) (args_list_sort _)))
  refine wpAny_pure ⟨_, rfl, ?_⟩
  obtain ⟨k1, k2, k3⟩ := SrtO.ints_out hi h1 h2
  obtain ⟨e, he⟩ := PyProof.Rows.sortedHeap_at (out := out.toArray) hoL
  have up : ∀ b o, h'.get? b = some o → (sortedHeap (h'.push (seqObj "list" acc.toList.toArray 0)) h'.objs.size acc.toList out.toArray).get? b = some o := fun b o hb => by
    have hlt : b < h'.objs.size := Heap.lt_size hb
    rw [PyProof.Rows.sortedHeap_old (Nat.ne_of_lt hlt) (by rw [size_push']; exact Nat.lt_succ_of_lt hlt)]
    exact Heap.get?_push_of_some _ hb
  have I1 : Inv X pins σ H { s with heap := h', toks := tk } := I.kept kp
  refine ⟨.ref h'.objs.size, upd H h'.objs.size (.lst ((out.map SrtO.iv).map V.int)), I1.laid (t' := tk) up (Nat.le_refl _) ⟨?_, out, e, vals_of_ints k1, he⟩, rfl, q _ _ k2 k3 (I1.hok.fresh (Nat.le_refl _))⟩
  rw [List.length_map, k2.length_eq, hns]
  exact z
end L2

/-! P5 -/
namespace Mw
open PySem L2
/-- a dict by pairs: for each of the first i ties one number there and one back, and nothing else -/
structure ToldG (A B : Tie → Int → Int) (L : List Tie) (U : List Int) (i : Nat) (kvs : List (List Key × V)) : Prop where
  len : kvs.length ≤ 2 * i
  at_ : ∀ (j : Nat) q u, j < i → L[j]? = some q → U[j]? = some u → valV kvs (keyP q.1 q.2.1) = some (.int (A q u)) ∧ valV kvs (keyP q.2.1 q.1) = some (.int (B q u))
  all : ∀ k v, valV kvs k = some v → ∃ (j : Nat) (q : Tie) (u : Int), j < i ∧ L[j]? = some q ∧ U[j]? = some u ∧ ((k = keyP q.1 q.2.1 ∧ v = V.int (A q u)) ∨ (k = keyP q.2.1 q.1 ∧ v = V.int (B q u)))
theorem ToldG.nil {A B : Tie → Int → Int} {L : List Tie} {U : List Int} : ToldG A B L U 0 [] := ⟨Nat.zero_le _, fun j q u hj => absurd hj (Nat.not_lt_zero _), fun k v h => by cases h⟩
theorem ToldG.step {A B : Tie → Int → Int} {m : Int} {L : List Tie} {sp mo : Int} {U : List Int} {i : Nat} {kvs : List (List Key × V)} {q : Tie} {u : Int} (hR : Right m L sp mo) (hq : L[i]? = some q) (hu : U[i]? = some u) (h : ToldG A B L U i kvs) :
    ToldG A B L U (i + 1) (putK (putK kvs (keyP q.1 q.2.1) (.int (A q u))) (keyP q.2.1 q.1) (.int (B q u))) := by
  have hin : ∀ r ∈ L, TieIn m r := hR.parts.2.2.1
  have bq := hin q (List.mem_of_getElem? hq)
  simp only [TieIn] at bq
  have nq : ¬ keyP q.1 q.2.1 = keyP q.2.1 q.1 := fun e => by
    have := keyP_inj e
    omega
  refine ⟨Nat.le_trans putK_len (by have := h.len; have := putK_len (kvs := kvs) (k := keyP q.1 q.2.1) (v := .int (A q u)); omega), fun j r w hj hr hw => ?_, fun k v hv => ?_⟩
  · have br := hin r (List.mem_of_getElem? hr)
    simp only [TieIn] at br
    rw [valV_put, valV_put, valV_put, valV_put]
    rcases Nat.lt_succ_iff_lt_or_eq.mp hj with z | z
    · obtain ⟨g1, g2⟩ := h.at_ j r w z hr hw
      have n1 : ¬ keyP r.1 r.2.1 = keyP q.2.1 q.1 := fun e => by
        have := keyP_inj e
        omega
      have n2 : ¬ keyP r.1 r.2.1 = keyP q.1 q.2.1 := fun e => by
        have e' := keyP_inj e
        have := hR.one hr hq e'.1 e'.2
        omega
      have n3 : ¬ keyP r.2.1 r.1 = keyP q.2.1 q.1 := fun e => by
        have e' := keyP_inj e
        have := hR.one hr hq e'.2 e'.1
        omega
      have n4 : ¬ keyP r.2.1 r.1 = keyP q.1 q.2.1 := fun e => by
        have := keyP_inj e
        omega
      rw [if_neg n1, if_neg n2, if_neg n3, if_neg n4]
      exact ⟨g1, g2⟩
    · subst z
      rw [hq] at hr
      rw [hu] at hw
      cases hr
      cases hw
      rw [if_neg nq, if_pos rfl, if_pos rfl]
      exact ⟨rfl, rfl⟩
  · rw [valV_put, valV_put] at hv
    by_cases c1 : k = keyP q.2.1 q.1
    · rw [if_pos c1] at hv
      exact ⟨i, q, u, by omega, hq, hu, .inr ⟨c1, (Option.some.inj hv).symm⟩⟩
    · rw [if_neg c1] at hv
      by_cases c2 : k = keyP q.1 q.2.1
      · rw [if_pos c2] at hv
        exact ⟨i, q, u, by omega, hq, hu, .inl ⟨c2, (Option.some.inj hv).symm⟩⟩
      · rw [if_neg c2] at hv
        obtain ⟨j, r, w, hj, hr, hw, hh⟩ := h.all k v hv
        exact ⟨j, r, w, by omega, hr, hw, hh⟩
theorem ToldG.ints {A B : Tie → Int → Int} {L : List Tie} {U : List Int} {i : Nat} {kvs : List (List Key × V)} (h : ToldG A B L U i kvs) : Ints kvs := fun k v hv => by
  obtain ⟨j, q, u, _, _, _, ⟨_, e⟩ | ⟨_, e⟩⟩ := h.all k v hv
  · exact ⟨_, e⟩
  · exact ⟨_, e⟩
def spEach (A B : Tie → Int → Int) (C : Addr) : Sp := fun vs H Q _ => ∃ p a m L sp mo c U, vs = [.ref a, .ref c] ∧ WebAt C p H a m L sp mo ∧ Right m L sp mo ∧ U.length = L.length ∧ H c = some (.tup (U.map V.int)) ∧ ∀ r kvs H', Same H H' → H r = none → H' r = some (.dT kvs) → ToldG A B L U L.length kvs → Q (.ref r) H'
def spSideOf (C : Addr) : Sp := fun vs H Q _ => ∃ p a m L sp mo c U, vs = [.ref a, .ref c] ∧ WebAt C p H a m L sp mo ∧ Right m L sp mo ∧ Tp C p H (strD U) (.ref c) ∧ isStr m L sp mo (strD U) = true ∧ ∀ v H', Same H H' → Q v H'
section
variable {P : Program} {w : World} {K : PySem.W.Frag} {mg : Str → Option Value} {base : Heap}
local macro_rules | `(tactic| walk_at "rd") => `(tactic| (repeat (first
  | ((with_reducible refine' rd_var ?h0 ?_); (case h0 => rfl))
  | with_reducible refine rd_c ?_
  | with_reducible refine rd_op ?_
  | with_reducible refine rd_nil ?_
  | with_reducible refine rd_cons ?_
  | with_reducible refine rd_tup ?_
  | with_reducible refine rd_lst ?_
  | with_reducible refine rd_ifs ?_
  | with_reducible refine rd_seq ?_
  | with_reducible refine rd_next ?_
  | with_reducible refine rd_ret ?_
  | with_reducible refine rd_asg ?_
  | ((with_reducible refine' rd_gset ?hs ?_); (case hs => ((simp only [L2.start, List.map_cons, List.map_nil, List.length_cons, List.length_nil, List.cons_append, List.nil_append, List.set_cons_zero, List.set_cons_succ, Nat.reduceAdd, Nat.reduceSub, Nat.zero_add, List.reduceReplicate]); rfl)))
  | with_reducible refine rd_drop ?_
  | with_reducible refine rd_test ?_
  | with_reducible refine rd_B ?_
  | with_reducible refine rd_bl ?_
  | with_reducible refine rd_blP ?_
  | with_reducible refine rd_andV ?_
  | with_reducible refine rd_orV ?_
  | with_reducible refine rd_notV ?_
  | with_reducible refine rd_and ?_
  | with_reducible refine rd_or ?_
  | with_reducible refine rd_not ?_
  | with_reducible refine rd_chain ?_
  | with_reducible refine rd_dput ?_
  | with_reducible refine rd_dget ?_
  | with_reducible refine rd_cb ?_
  | with_reducible refine rd_call ?_
  | with_reducible refine rd_un ?_
  | with_reducible refine rd_sl ?_
  | with_reducible refine rd_nopart ?_
  | with_reducible refine rd_part ?_
  | with_reducible refine rd_intP ?_
  | with_reducible refine rd_rU ?_
  | with_reducible refine rd_fld ?_
  | with_reducible refine rd_eqI ?_
  | with_reducible refine rd_neI ?_
  | with_reducible refine rd_mko ?_
  | with_reducible refine rd_bm ?_
  | with_reducible refine rd_gsub ?_
  | with_reducible refine rd_i0 ?_)))
theorem ok_room_each (T : Tx K mg) (B : Bk K mg T) : FnOk P w K mg base CX0 1 B.room_each_way.f B.room_each_way.fd ["web", "stream"] (spEach (fun q u => q.2.2.1 - u) (fun q u => q.2.2.2 + u) T.c_Web) := by
  refine B.room_each_way.F.ok sc_room_each_way (fun vs H Q E h => ?_) (fun cdv A outer s H vs Q E hr h => ?_)
  · obtain ⟨p, a, m, L, sp, mo, c, U, rfl, _⟩ := h
    rfl
  · obtain ⟨p, a, m, L, sp, mo, c, U, rfl, hw, hR, hU, hc, k⟩ := h
    refine ⟨_, (pss_cons (ps_set (i := 2) sc_room_each_way.nd rfl (Or.inl rfl) pe_dnewT)
      (pss_cons (ps_for PassesOwn.never rfl (RZ.pi_zipA (by rfl) T.b_zip (pa_cons (pe_fld (pv 0) rfl) (pa_cons (pv 1) pa_nil))) (pg_tup (by rfl) (pgs_cons (pg_tup (by rfl) (pgs_cons (pg_name (i := 3) sc_room_each_way.nd rfl (Or.inl rfl)) (pgs_cons (pg_name (i := 4) sc_room_each_way.nd rfl (Or.inl rfl)) (pgs_cons (pg_name (i := 5) sc_room_each_way.nd rfl (Or.inl rfl)) (pgs_cons (pg_name (i := 6) sc_room_each_way.nd rfl (Or.inl rfl)) pgs_nil))))) (pgs_cons (pg_name (i := 7) sc_room_each_way.nd rfl (Or.inl rfl)) pgs_nil))) (pss_cons (ps_dput (hu_of hr) (pv 2) (pe_tup (pa_cons (pv 3) (pa_cons (pv 4) pa_nil))) (pe_op op_sub (pv 5) (pv 7)) rfl)
      (pss_one (ps_dput (hu_of hr) (pv 2) (pe_tup (pa_cons (pv 4) (pa_cons (pv 3) pa_nil))) (pe_op op_add (pv 6) (pv 7)) rfl))))
      (pss_one (ps_ret (pv 2))))), ?_⟩
    have hL := hR.len
    obtain ⟨dx, v2, v5, v6, ha, t2, hwy, hlt⟩ := hw
    obtain ⟨ct, xs, rfl, hct, hx⟩ := tp_tup' t2
    have hlen : xs.length = L.length := by
      have := hx.len
      simpa using this.symm
    walk_at "rd"
    intro D nD
    have h10 : (10 : Nat) ≤ 10 := Nat.le_refl _
    walk_at "rd"
    have s0 := same_new (o := .dT []) nD
    refine ⟨_, rfl, a, T.c_Web, dx, _, _, rfl, s0 _ _ ha.2, T.W.cl, T.na_ties, wf_ties _ _ _ _ _ _, _, rfl, ct, c, xs, U.map V.int, rfl, .inr ⟨SqT.of (s0 _ _ hct.2), SqT.of (s0 _ _ hc), RZ.for_zipT (K := K) (by rw [hlen, List.length_map, hU])
      (fun i σ H1 => Same H H1 ∧ (∃ kvs, H1 D = some (.dT kvs) ∧ ToldG (fun q u => q.2.2.1 - u) (fun q u => q.2.2.2 + u) L U i kvs) ∧ ∃ u1 u2 u3 u4 u5, σ = [some (.ref a), some (.ref c), some (.ref D), u1, u2, u3, u4, u5])
      ⟨s0, ⟨[], upd_same, ToldG.nil⟩, none, none, none, none, none, rfl⟩ (fun i σ H1 hh => ⟨SqT.of (hh.1 _ _ hct.2), SqT.of (hh.1 _ _ hc)⟩) ?_ ?_⟩⟩
    · rintro i x y t σ H1 hx1 hy1 ⟨hs, ⟨kvs, hk, ht⟩, u1, u2, u3, u4, u5, rfl⟩ hT
      obtain ⟨q, ci, hq, rfl, hci⟩ := ties_get hx hx1
      obtain ⟨u, hu, rfl⟩ := mapint_get hy1
      have hi : i < L.length := (List.getElem?_eq_some_iff.mp hq).1
      have hkl := ht.len
      have s1 := hs.trans (same_new (o := .tup [.ref ci, .int u]) hT)
      have hk1 : (upd H1 t (.tup [.ref ci, .int u])) D = some (.dT kvs) := (upd_ne (ne_of_none hk hT)).trans hk
      refine ⟨t, _, rfl, SqT.of upd_same, rfl, _, _, rfl, ⟨ci, _, rfl, SqT.of (s1 _ _ hci.2), rfl, _, _, rfl, _, _, rfl, _, _, rfl, _, _, rfl, rfl, ?_⟩⟩
      walk_at "rd"
      refine ⟨_, _, rfl, rfl, ?_⟩
      walk_at "rd"
      refine rd_disp rfl fun n1 hn1 => ?_
      have hk2 : upd (upd H1 t (.tup [.ref ci, .int u])) n1 (.tup [.int q.1, .int q.2.1]) D = some (.dT kvs) := (upd_ne (ne_of_none hk1 hn1)).trans hk1
      have s2 := s1.trans (same_new (o := .tup [.int q.1, .int q.2.1]) hn1)
      refine ⟨D, _, rfl, DPut.t (k := keyP q.1 q.2.1) hk2 upd_same (Nat.lt_of_le_of_lt (show kvs.length ≤ 200 by omega) (by decide)), ?_⟩
      have s3 : Same H (upd (upd (upd H1 t (.tup [.ref ci, .int u])) n1 (.tup [.int q.1, .int q.2.1])) D (.dT (putK kvs (keyP q.1 q.2.1) (.int (q.2.2.1 - u))))) := fun b o e => (upd_ne (ne_of_none e nD)).trans (s2 b o e)
      walk_at "rd"
      refine rd_disp rfl fun n2 hn2 => ?_
      have hk3 : upd (upd (upd (upd H1 t (.tup [.ref ci, .int u])) n1 (.tup [.int q.1, .int q.2.1])) D (.dT (putK kvs (keyP q.1 q.2.1) (.int (q.2.2.1 - u))))) n2 (.tup [.int q.2.1, .int q.1]) D = some (.dT (putK kvs (keyP q.1 q.2.1) (.int (q.2.2.1 - u)))) := (upd_ne (ne_of_none upd_same hn2)).trans upd_same
      have s4 := s3.trans (same_new (o := .tup [.int q.2.1, .int q.1]) hn2)
      refine ⟨D, _, rfl, DPut.t (k := keyP q.2.1 q.1) hk3 upd_same (Nat.lt_of_le_of_lt (show (putK kvs (keyP q.1 q.2.1) (V.int (q.2.2.1 - u))).length ≤ 201 by have := putK_len (kvs := kvs) (k := keyP q.1 q.2.1) (v := .int (q.2.2.1 - u)); omega) (by decide)), ?_⟩
      exact ⟨fun b o e => (upd_ne (ne_of_none e nD)).trans (s4 b o e), ⟨_, upd_same, ht.step hR hq hu⟩, _, _, _, _, _, rfl⟩
    · rintro σ H1 ⟨hs, ⟨kvs, hk, ht⟩, u1, u2, u3, u4, u5, rfl⟩
      walk_at "rd"
      rw [hlen] at ht
      exact k D kvs H1 hs nD hk ht
theorem ok_side_of (T : Tx K mg) (B : Bk K mg T) : FnOk P w K mg base (L2.CX P w) 5 B.side_of.f B.side_of.fd ["web", "stream"] (spOr (spSideOf T.c_Web) T.c_Web T.c_NoStream 0) := by
  have G_check_stream := ok_check_stream (P := P) (w := w) (base := base) T B
  have G_room_each_way := ok_room_each (P := P) (w := w) (base := base) T B
  have G_reached := ok_reached (P := P) (w := w) (base := base) T B
  refine B.side_of.F.okX sc_side_of (fun vs H Q E h => ?_) (fun cdv A outer s H vs Q E hr h => ?_)
  · rcases h with h | h
    · obtain ⟨p, a, m, L, sp, mo, c, U, rfl, _⟩ := h
      rfl
    · exact h.len
  · rcases h with h | h
    rotate_left
    · obtain ⟨p, a, m, L, sp, mo, d, x, rest, rfl, hl, hw, hR, hd, hs, q⟩ := h
      cases List.eq_nil_of_length_eq_zero hl
      refine ⟨_, (pss_cons (ps_expr (pe_call G_check_stream (hr.mono (by decide)) rfl B.check_stream.m B.check_stream.F.kp B.check_stream.b .nil (passes_call (takes_of rfl rfl rfl rfl) (fun _ _ _ _ h => h)) (pa_cons (pv 0) (pa_cons (pv 1) pa_nil))))
      (pss_cons (ps_set (i := 2) sc_side_of.nd rfl (Or.inl rfl) (pe_call G_reached (hr.mono (by decide)) rfl B.reached.m B.reached.F.kp B.reached.b .nil pass0 (pa_cons (pv 0) (pa_cons (pe_call G_room_each_way (hr.mono (by decide)) rfl B.room_each_way.m B.room_each_way.F.kp B.room_each_way.b .nil pass0 (pa_cons (pv 0) (pa_cons (pv 1) pa_nil))) pa_nil))))
      (pss_cons (ps_if (pt_cmp (pc_din (hu_of hr) (pe_fld (pv 0) rfl) (pv 2))) (pss_one (ps_ret pe_non)) pss_nil)
      (pss_one (ps_ret (pe_callTy call_tuple_of (by rfl) T.b_tuple (by decide +kernel) (pa_cons (pe_callB (cr_sortedD rfl) (by rfl) T.b_sorted (by decide +kernel) (pa_cons (pv 2) pa_nil)) pa_nil))))))), ?_⟩
      walk_at "rd"
      exact .inr ⟨p, a, m, L, sp, mo, d, x, [], rfl, rfl, hw, hR, hd, hs, q⟩
    obtain ⟨p, a, m, L, sp, mo, c, U, rfl, hw, hR, hd, hs, q⟩ := h
    refine ⟨_, (pss_cons (ps_expr (pe_call G_check_stream (hr.mono (by decide)) rfl B.check_stream.m B.check_stream.F.kp B.check_stream.b .nil (passes_call (takes_of rfl rfl rfl rfl) (fun _ _ _ _ h => h)) (pa_cons (pv 0) (pa_cons (pv 1) pa_nil))))
      (pss_cons (ps_set (i := 2) sc_side_of.nd rfl (Or.inl rfl) (pe_call G_reached (hr.mono (by decide)) rfl B.reached.m B.reached.F.kp B.reached.b .nil pass0 (pa_cons (pv 0) (pa_cons (pe_call G_room_each_way (hr.mono (by decide)) rfl B.room_each_way.m B.room_each_way.F.kp B.room_each_way.b .nil pass0 (pa_cons (pv 0) (pa_cons (pv 1) pa_nil))) pa_nil))))
      (pss_cons (ps_if (pt_cmp (pc_din (hu_of hr) (pe_fld (pv 0) rfl) (pv 2))) (pss_one (ps_ret pe_non)) pss_nil)
      (pss_one (ps_ret (pe_callTy call_tuple_of (by rfl) T.b_tuple (by decide +kernel) (pa_cons (pe_callB (cr_sortedD rfl) (by rfl) T.b_sorted (by decide +kernel) (pa_cons (pv 2) pa_nil)) pa_nil))))))), ?_⟩
    have he := hR.ends
    have hm := hR.parts
    have hc := tp_strD hd
    walk_at "rd"
    refine .inl ⟨p, a, m, L, sp, mo, strD U, .ref c, rfl, hw, hR, hd, hs, fun H1 s1 => ?_⟩
    walk_at "rd"
    refine ⟨p, a, m, L, sp, mo, c, U, rfl, hw.keep (Keep.same s1), hR, isStr_len hs, s1 _ _ hc.2, fun f kvs H2 s2 nf hf ht => ?_⟩
    have s12 := s1.trans s2
    walk_at "rd"
    refine ⟨p, a, m, L, sp, mo, f, kvs, rfl, hw.keep (Keep.same s12), by omega, by omega, by omega, hf, ht.ints, fun r ps H3 s3 hr3 hRc hcl => ?_⟩
    have s13 := s12.trans s3
    obtain ⟨dx, v2, v5, v6, ha, t2, hwy, hlt⟩ := hw.keep (Keep.same s13)
    have hlen := hRc.len
    walk_at "rd"
    refine rd_din ?_
    walk_at "rd"
    refine ⟨a, T.c_Web, dx, _, _, rfl, ha.2, T.W.cl, T.na_mouth, wf_mouth _ _ _ _ _ _, ?_⟩
    walk_at "rd"
    refine ⟨r, _, rfl, DGet.k (k := .inl mo) hr3, ?_⟩
    walk_at "rd"
    refine rd_ite (fun h1 => ?_) (fun h1 => ?_)
    · walk_at "rd"
      exact q _ _ s13
    · walk_at "rd"
      refine ⟨r, kvsR sp ps, lineOf sp ps, rfl, hr3, ?_, fun ns' l hpm hpw nl => ?_⟩
      · unfold kvsR lineOf
        simp [List.map_map]
      · walk_at "rd"
        refine ⟨l, _, rfl, .inl ⟨SqL.of upd_same, fun t nt => ?_⟩⟩
        exact q _ _ ((s13.trans (same_new nl)).trans (same_new nt))
end
end Mw

/-! P6 -/
/-! What goes on the ways of a stream: as long as something comes to the mouth, a way leads there. -/
namespace Mw
open PySem L2
def sumH : Nat → (Int → Int) → Int
  | 0, _ => 0
  | n + 1, f => sumH n f + f (n : Int)
theorem sumH_add (f g : Int → Int) : ∀ n, sumH n (fun i => f i + g i) = sumH n f + sumH n g
  | 0 => rfl
  | n + 1 => by
    simp only [sumH, sumH_add f g n]
    omega
theorem sumH_sub (f g : Int → Int) : ∀ n, sumH n (fun i => f i - g i) = sumH n f - sumH n g
  | 0 => rfl
  | n + 1 => by
    simp only [sumH, sumH_sub f g n]
    omega
theorem sumH_congr {f g : Int → Int} : ∀ {n : Nat}, (∀ i : Int, 0 ≤ i → i < n → f i = g i) → sumH n f = sumH n g
  | 0, _ => rfl
  | n + 1, h => by
    simp only [sumH]
    rw [sumH_congr fun i h0 h1 => h i h0 (by omega), h n (by omega) (by omega)]
theorem sumH_zero : ∀ n, sumH n (fun _ => 0) = 0
  | 0 => rfl
  | n + 1 => by simp only [sumH, sumH_zero n]; rfl
theorem sumH_nonpos {f : Int → Int} : ∀ {n : Nat}, (∀ i : Int, 0 ≤ i → i < n → f i ≤ 0) → sumH n f ≤ 0
  | 0, _ => Int.le_refl 0
  | n + 1, h => by
    simp only [sumH]
    have h1 := sumH_nonpos (n := n) fun i h0 h1 => h i h0 (by omega)
    have h2 := h n (by omega) (by omega)
    omega
theorem sumH_swap (f : Int → Int → Int) (m : Nat) : ∀ n, sumH n (fun i => sumH m (f i)) = sumH m (fun j => sumH n (fun i => f i j))
  | 0 => by
    simp only [sumH]
    exact (sumH_zero m).symm
  | n + 1 => by
    simp only [sumH]
    rw [sumH_swap f m n, sumH_add]
theorem sumH_one (h v : Int) : ∀ n : Nat, sumH n (fun j => if j = h then v else 0) = if 0 ≤ h ∧ h < n then v else 0
  | 0 => by
    rw [if_neg (by omega)]
    rfl
  | n + 1 => by
    simp only [sumH]
    rw [sumH_one h v n]
    by_cases c : (n : Int) = h
    · rw [if_pos c, if_neg (by omega), if_pos (by omega)]
      omega
    · rw [if_neg c]
      by_cases c2 : 0 ≤ h ∧ h < (n : Int)
      · rw [if_pos c2, if_pos (by omega)]
        omega
      · rw [if_neg c2, if_neg (by omega)]
        rfl
theorem sumH_mul (c : Int) (f : Int → Int) : ∀ n, sumH n (fun i => c * f i) = c * sumH n f
  | 0 => (Int.mul_zero c).symm
  | n + 1 => by
    simp only [sumH, sumH_mul c f n]
    rw [Int.mul_add]
def pos (z : Int) : Int := if 0 < z then z else 0
theorem pos_nonneg (z : Int) : 0 ≤ pos z := by
  unfold pos
  split <;> omega
/-- what comes to a house less what goes, told by what is free on pairs -/
def netIn (m : Nat) (F : Int → Int → Int) (h : Int) : Int := sumH m (fun j => pos (F j h)) - sumH m (fun j => pos (F h j))
structure Flw (m : Nat) (sp mo : Int) (F : Int → Int → Int) (left : Int) : Prop where
  zero : ∀ h : Int, 0 ≤ h → h < m → h ≠ sp → h ≠ mo → netIn m F h = 0
  mouth : netIn m F mo = left
/-- what a set of houses that is not left by anything free holds off -/
theorem cut_le {m : Nat} {sp mo : Int} {F : Int → Int → Int} {left : Int} (h : Flw m sp mo F left) (R : Int → Bool) (hs : R sp = true) (hm : R mo = false) (m0 : 0 ≤ mo) (m1 : mo < m)
    (hc : ∀ g o : Int, 0 ≤ g → g < m → 0 ≤ o → o < m → R g = true → 0 < F g o → R o = true) : left ≤ 0 := by
  have e1 : sumH m (fun h => (if R h = true then 0 else 1) * netIn m F h) = left := by
    rw [sumH_congr (g := fun i => if i = mo then left else 0) fun i i0 i1 => ?_]
    · rw [sumH_one, if_pos ⟨m0, m1⟩]
    · by_cases c : i = mo
      · subst c
        rw [hm, if_pos rfl, h.mouth]
        simp
      · rw [if_neg c]
        by_cases c2 : R i = true
        · rw [if_pos c2, Int.zero_mul]
        · have ns : i ≠ sp := fun e => c2 (by rw [e]; exact hs)
          rw [h.zero i i0 i1 ns c, Int.mul_zero]
  have e2 : sumH m (fun h => (if R h = true then 0 else 1) * netIn m F h) = sumH m (fun h => sumH m (fun j => (if R h = true then 0 else 1) * pos (F j h) - (if R j = true then 0 else 1) * pos (F j h))) := by
    have a1 : ∀ i : Int, (if R i = true then (0 : Int) else 1) * netIn m F i = sumH m (fun j => (if R i = true then (0 : Int) else 1) * pos (F j i)) - sumH m (fun j => (if R i = true then (0 : Int) else 1) * pos (F i j)) := fun i => by
      unfold netIn
      rw [sumH_mul, sumH_mul, Int.mul_sub]
    rw [sumH_congr fun i _ _ => a1 i, sumH_sub]
    rw [sumH_swap (fun i j => (if R i = true then (0 : Int) else 1) * pos (F i j)) m m]
    rw [← sumH_sub]
    exact sumH_congr fun i _ _ => by rw [← sumH_sub]
  rw [← e1, e2]
  refine sumH_nonpos fun i i0 i1 => sumH_nonpos fun j j0 j1 => ?_
  have p := pos_nonneg (F j i)
  by_cases c1 : R i = true
  · rw [if_pos c1, Int.zero_mul]
    by_cases c2 : R j = true
    · rw [if_pos c2, Int.zero_mul]
      omega
    · rw [if_neg c2, Int.one_mul]
      omega
  · rw [if_neg c1, Int.one_mul]
    by_cases c2 : R j = true
    · rw [if_pos c2, Int.zero_mul]
      have : ¬ 0 < F j i := fun e => c1 (hc j i j0 j1 i0 i1 c2 e)
      unfold pos
      rw [if_neg this]
      omega
    · rw [if_neg c2, Int.one_mul]
      omega
/-- one pair has u fewer -/
theorem netIn_set {m : Nat} {F F' : Int → Int → Int} {x y u : Int} (x0 : 0 ≤ x) (x1 : x < m) (y0 : 0 ≤ y) (y1 : y < m) (u0 : 0 ≤ u) (hu : u ≤ F x y) (e1 : F' x y = F x y - u) (e2 : ∀ i j, ¬ (i = x ∧ j = y) → F' i j = F i j) (h : Int) :
    netIn m F' h = netIn m F h - (if y = h then u else 0) + (if x = h then u else 0) := by
  have p : ∀ i j, pos (F' i j) = pos (F i j) - (if i = x then (if j = y then u else 0) else 0) := fun i j => by
    by_cases c1 : i = x
    · by_cases c2 : j = y
      · rw [if_pos c1, if_pos c2, c1, c2, e1]
        unfold pos
        by_cases c3 : 0 < F x y
        · rw [if_pos c3]
          by_cases c4 : 0 < F x y - u
          · rw [if_pos c4]
          · rw [if_neg c4]
            omega
        · rw [if_neg c3, if_neg (by omega)]
          omega
      · rw [if_pos c1, if_neg c2, e2 i j fun z => c2 z.2]
        omega
    · rw [if_neg c1, e2 i j fun z => c1 z.1]
      omega
  unfold netIn
  rw [sumH_congr (f := fun j => pos (F' j h)) (g := fun j => pos (F j h) - (if j = x then (if h = y then u else 0) else 0)) fun i _ _ => p i h]
  rw [sumH_congr (f := fun j => pos (F' h j)) (g := fun j => pos (F h j) - (if j = y then (if h = x then u else 0) else 0)) fun i _ _ => by
    rw [p h i]
    by_cases c1 : h = x <;> by_cases c2 : i = y <;> simp [c1, c2]]
  have hx : ∀ v : Int, (if 0 ≤ x ∧ x < (m : Int) then v else 0) = v := fun v => if_pos ⟨x0, x1⟩
  have hy : ∀ v : Int, (if 0 ≤ y ∧ y < (m : Int) then v else 0) = v := fun v => if_pos ⟨y0, y1⟩
  rw [sumH_sub, sumH_sub, sumH_one, sumH_one, hx, hy]
  have g1 : (if h = y then u else 0) = (if y = h then u else 0) := by by_cases c : y = h <;> simp [c, eq_comm]
  have g2 : (if h = x then u else 0) = (if x = h then u else 0) := by by_cases c : x = h <;> simp [c, eq_comm]
  rw [g1, g2]
  omega
/-! ### the units of a stream -/
theorem sum_none {α : Type} {f : α → Int} : ∀ {l : List α}, (∀ y ∈ l, f y = 0) → (l.map f).sum = 0
  | [], _ => rfl
  | y :: l, h => by
    rw [List.map_cons, List.sum_cons, h y (by simp), sum_none fun z hz => h z (by simp [hz])]
    rfl
theorem sum_single {α : Type} {f : α → Int} : ∀ {l : List α} {k : Nat} {x : α}, l[k]? = some x → (∀ (i : Nat) y, i ≠ k → l[i]? = some y → f y = 0) → (l.map f).sum = f x
  | [], k, x, h, _ => by simp at h
  | y :: l, 0, x, h, h0 => by
    simp at h
    subst h
    rw [List.map_cons, List.sum_cons, sum_none fun z hz => ?_]
    · omega
    · obtain ⟨i, hi⟩ := List.mem_iff_getElem?.mp hz
      exact h0 (i + 1) z (by omega) (by simpa using hi)
  | y :: l, k + 1, x, h, h0 => by
    rw [List.getElem?_cons_succ] at h
    rw [List.map_cons, List.sum_cons, h0 0 y (by omega) rfl, sum_single h fun i z hi hz => h0 (i + 1) z (by omega) (by simpa using hz)]
    omega
def tieTo (j h : Int) (x : Tie × Int) : Int := (if j = x.1.1 then (if x.1.2.1 = h then x.2 else 0) else 0) - (if j = x.1.2.1 then (if x.1.1 = h then x.2 else 0) else 0)
theorem fv_tie {m : Int} {L : List Tie} {sp mo : Int} {U : List Int} {kvs : List (List Key × V)} (hR : Right m L sp mo) (ht : ToldG (fun _ u => u) (fun _ u => -u) L U L.length kvs) (hU : U.length = L.length) (j h : Int) : fv kvs j h = ((L.zip U).map (tieTo j h)).sum := by
  have tie : ∀ (k : Nat) (x : Tie × Int), (L.zip U)[k]? = some x → L[k]? = some x.1 ∧ U[k]? = some x.2 := fun k x hx => by
    rw [List.getElem?_zip_eq_some] at hx
    exact hx
  by_cases c : ∃ (k : Nat) (x : Tie × Int), (L.zip U)[k]? = some x ∧ ((x.1.1 = j ∧ x.1.2.1 = h) ∨ (x.1.2.1 = j ∧ x.1.1 = h))
  · obtain ⟨k, x, hx, hh⟩ := c
    obtain ⟨h1, h2⟩ := tie k x hx
    have kl := (List.getElem?_eq_some_iff.mp h1).1
    have b := hR.most h1
    rw [sum_single hx fun i y hi hy => ?_]
    · obtain ⟨t1, t2⟩ := ht.at_ k x.1 x.2 kl h1 h2
      rcases hh with ⟨rfl, rfl⟩ | ⟨rfl, rfl⟩
      · unfold fv tieTo
        rw [t1, if_pos rfl, if_pos rfl, if_neg (by omega)]
        simp
      · unfold fv tieTo
        rw [t2, if_neg (by omega), if_pos rfl, if_pos rfl]
        simp
    · obtain ⟨g1, g2⟩ := tie i y hy
      have by1 := hR.most g1
      have no1 : ¬ (y.1.1 = x.1.1 ∧ y.1.2.1 = x.1.2.1) := fun e => hi (hR.one g1 h1 e.1 e.2)
      unfold tieTo
      rcases hh with ⟨rfl, rfl⟩ | ⟨rfl, rfl⟩
      · by_cases c1 : x.1.1 = y.1.1
        · rw [if_pos c1, if_neg (fun e => no1 ⟨c1.symm, e⟩), if_neg (by omega)]
          rfl
        · rw [if_neg c1]
          by_cases c2 : x.1.1 = y.1.2.1
          · rw [if_pos c2, if_neg (by omega)]
            rfl
          · rw [if_neg c2]
            rfl
      · by_cases c1 : x.1.2.1 = y.1.1
        · rw [if_pos c1, if_neg (by omega)]
          by_cases c2 : x.1.2.1 = y.1.2.1
          · omega
          · rw [if_neg c2]
            rfl
        · rw [if_neg c1]
          by_cases c2 : x.1.2.1 = y.1.2.1
          · rw [if_pos c2, if_neg (fun e => no1 ⟨e, c2.symm⟩)]
            rfl
          · rw [if_neg c2]
            rfl
  · rw [sum_none fun y hy => ?_]
    · unfold fv
      cases e : valV kvs (keyP j h) with
      | none => rfl
      | some v =>
        obtain ⟨k, q, u, hk, hq, hu, hh⟩ := ht.all _ _ e
        exfalso
        refine c ⟨k, (q, u), zip_get hq hu, ?_⟩
        rcases hh with ⟨e1, _⟩ | ⟨e1, _⟩
        · have := keyP_inj e1
          exact .inl ⟨this.1.symm, this.2.symm⟩
        · have := keyP_inj e1
          exact .inr ⟨this.1.symm, this.2.symm⟩
    · obtain ⟨k, hk⟩ := List.mem_iff_getElem?.mp hy
      unfold tieTo
      by_cases c1 : j = y.1.1
      · rw [if_pos c1, if_neg (fun e => c ⟨k, y, hk, .inl ⟨c1.symm, e⟩⟩)]
        by_cases c2 : j = y.1.2.1
        · rw [if_pos c2, if_neg (fun e => c ⟨k, y, hk, .inr ⟨c2.symm, e⟩⟩)]
          rfl
        · rw [if_neg c2]
          rfl
      · rw [if_neg c1]
        by_cases c2 : j = y.1.2.1
        · rw [if_pos c2, if_neg (fun e => c ⟨k, y, hk, .inr ⟨c2.symm, e⟩⟩)]
          rfl
        · rw [if_neg c2]
          rfl
theorem sum_ties {m : Int} {L : List Tie} {sp mo : Int} (hR : Right m L sp mo) (h : Int) : ∀ {l : List (Tie × Int)}, (∀ x ∈ l, x.1 ∈ L) → sumH m.toNat (fun j => (l.map (tieTo j h)).sum) = ((l.filter fun x => decide (x.1.2.1 = h)).map (·.2)).sum - ((l.filter fun x => decide (x.1.1 = h)).map (·.2)).sum
  | [], _ => by
    simp only [List.map_nil, List.sum_nil, List.filter_nil]
    rw [sumH_zero]
    rfl
  | x :: l, hl => by
    have ih := sum_ties hR h (l := l) fun y hy => hl y (by simp [hy])
    have b := hR.parts.2.2.1 x.1 (hl x (by simp))
    simp only [TieIn] at b
    simp only [List.map_cons, List.sum_cons]
    rw [sumH_add, ih]
    unfold tieTo
    have hx : ∀ v : Int, (if 0 ≤ x.1.1 ∧ x.1.1 < (m.toNat : Int) then v else 0) = v := fun v => if_pos ⟨by omega, by omega⟩
    have hy : ∀ v : Int, (if 0 ≤ x.1.2.1 ∧ x.1.2.1 < (m.toNat : Int) then v else 0) = v := fun v => if_pos ⟨by omega, by omega⟩
    rw [sumH_sub, sumH_one, sumH_one, hx, hy]
    by_cases c1 : x.1.2.1 = h <;> by_cases c2 : x.1.1 = h
    · omega
    · rw [List.filter_cons_of_pos (by simpa using c1), List.filter_cons_of_neg (by simpa using c2), if_pos c1, if_neg c2, List.map_cons, List.sum_cons]
      omega
    · rw [List.filter_cons_of_neg (by simpa using c1), List.filter_cons_of_pos (by simpa using c2), if_neg c1, if_pos c2, List.map_cons, List.sum_cons]
      omega
    · rw [List.filter_cons_of_neg (by simpa using c1), List.filter_cons_of_neg (by simpa using c2), if_neg c1, if_neg c2]
      omega
theorem fv_anti {m : Int} {L : List Tie} {sp mo : Int} {U : List Int} {kvs : List (List Key × V)} (hR : Right m L sp mo) (ht : ToldG (fun _ u => u) (fun _ u => -u) L U L.length kvs) (hU : U.length = L.length) (i j : Int) : fv kvs i j = -fv kvs j i := by
  rw [fv_tie hR ht hU, fv_tie hR ht hU]
  generalize L.zip U = l
  induction l with
  | nil => rfl
  | cons x l ih =>
    rw [List.map_cons, List.map_cons, List.sum_cons, List.sum_cons, ih]
    unfold tieTo
    by_cases c1 : i = x.1.1 <;> by_cases c2 : x.1.2.1 = j <;> by_cases c3 : i = x.1.2.1 <;> by_cases c4 : x.1.1 = j <;> simp [c1, c2, c3, c4, eq_comm] <;> omega
theorem net_gain {m : Int} {L : List Tie} {sp mo : Int} {U : List Int} {kvs : List (List Key × V)} (hR : Right m L sp mo) (ht : ToldG (fun _ u => u) (fun _ u => -u) L U L.length kvs) (hU : U.length = L.length) (h : Int) : netIn m.toNat (fv kvs) h = gainOf L U h := by
  unfold netIn
  rw [← sumH_sub, sumH_congr (g := fun j => ((L.zip U).map (tieTo j h)).sum) fun i _ _ => ?_]
  · rw [sum_ties hR h fun x hx => (List.of_mem_zip hx).1]
    rfl
  · rw [← fv_tie hR ht hU]
    have := fv_anti hR ht hU h i
    unfold pos
    by_cases c : 0 < fv kvs i h
    · rw [if_pos c, if_neg (by omega)]
      omega
    · rw [if_neg c]
      by_cases c2 : 0 < fv kvs h i
      · rw [if_pos c2]
        omega
      · rw [if_neg c2]
        omega
end Mw

/-! P7 -/
namespace Mw
open PySem L2
structure Spl (m sp mo : Int) (L : List Tie) (kvs : List (List Key × V)) (left : Int) : Prop where
  isI : Ints kvs
  flw : Flw m.toNat sp mo (fv kvs) left
  one : ∀ i j, 0 < fv kvs i j → fv kvs j i ≤ 0
  tied : ∀ i j, 0 < fv kvs i j → ∃ q ∈ L, (q.1 = i ∧ q.2.1 = j) ∨ (q.1 = j ∧ q.2.1 = i)
  len : kvs.length ≤ 200
def act (F : Int → Int → Int) (q : Tie) : Bool := decide (0 < F q.1 q.2.1) || decide (0 < F q.2.1 q.1)
def cnt (L : List Tie) (kvs : List (List Key × V)) : Nat := (L.filter (act (fv kvs))).length
theorem Spl.start {m : Int} {L : List Tie} {sp mo : Int} {U : List Int} {kvs : List (List Key × V)} (hR : Right m L sp mo) (hs : isStr m L sp mo (strD U) = true) (ht : ToldG (fun _ u => u) (fun _ u => -u) L U L.length kvs) : Spl m sp mo L kvs (gainOf L U mo) := by
  have hU := isStr_len hs
  have he := hR.ends
  have hL := hR.len
  refine ⟨ht.ints, ⟨fun h h0 h1 n1 n2 => ?_, net_gain hR ht hU mo⟩, fun i j p => ?_, fun i j p => ?_, ?_⟩
  · rw [net_gain hR ht hU]
    have e : (U.map PyData.int).map unitD = U := by
      rw [List.map_map]
      conv => rhs; rw [← List.map_id U]
      exact List.map_congr_left fun _ _ => rfl
    unfold strD isStr at hs
    simp only [e, Bool.and_eq_true, decide_eq_true_eq, List.length_map, List.all_eq_true, List.mem_map, id_eq] at hs
    have z := hs.2.2 (decide (gainOf L U h = 0)) ⟨h, ?_, rfl⟩
    · simpa using z
    · unfold between
      refine List.mem_filter.mpr ⟨List.mem_map.mpr ⟨h.toNat, List.mem_range.mpr (by omega), by omega⟩, ?_⟩
      simp [n1, n2]
  · have := fv_anti hR ht hU i j
    omega
  · unfold fv at p
    cases e : valV kvs (keyP i j) with
    | none =>
      rw [e] at p
      exact absurd p (by decide)
    | some v =>
      obtain ⟨k, q, u, _, hq, _, hh⟩ := ht.all _ _ e
      refine ⟨q, List.mem_of_getElem? hq, ?_⟩
      rcases hh with ⟨e1, _⟩ | ⟨e1, _⟩
      · have := keyP_inj e1
        exact .inl ⟨this.1.symm, this.2.symm⟩
      · have := keyP_inj e1
        exact .inr ⟨this.2.symm, this.1.symm⟩
  · have := ht.len
    omega
theorem putK_same {kvs : List (List Key × V)} {k : List Key} {v x : V} (h : valV kvs k = some x) : (putK kvs k v).length = kvs.length := by
  have e := valV_any (κ := List Key) k kvs
  rw [h] at e
  unfold putK
  rw [if_pos (show (kvs.any fun kv => decide (kv.1 = k)) = true from e), List.length_map]
theorem fv_put {kvs : List (List Key × V)} {x y z i j : Int} : fv (putK kvs (keyP x y) (.int z)) i j = if i = x ∧ j = y then z else fv kvs i j := by
  unfold fv
  rw [valV_put]
  by_cases c : i = x ∧ j = y
  · rw [if_pos c, c.1, c.2, if_pos rfl]
  · rw [if_neg c, if_neg fun e => c (keyP_inj e)]
theorem Ints.put {kvs : List (List Key × V)} {k : List Key} {z : Int} (h : Ints kvs) : Ints (putK kvs k (.int z)) := fun k' v hv => by
  rw [valV_put] at hv
  by_cases c : k' = k
  · rw [if_pos c] at hv
    exact ⟨z, (Option.some.inj hv).symm⟩
  · rw [if_neg c] at hv
    exact h k' v hv
/-- behind n steps of a way on each of which u fewer are free -/
structure Spent (m : Int) (kvs : List (List Key × V)) (ws : List Int) (u : Int) (n : Nat) (kn : List (List Key × V)) : Prop where
  isI : Ints kn
  len : kn.length = kvs.length
  net : ∀ (x y h : Int), ws[0]? = some x → ws[n]? = some y → netIn m.toNat (fv kn) h = netIn m.toNat (fv kvs) h - (if y = h then u else 0) + (if x = h then u else 0)
  hit : ∀ (t : Nat) (i j : Int), t < n → ws[t]? = some i → ws[t + 1]? = some j → fv kn i j = fv kvs i j - u
  oth : ∀ i j : Int, (∀ t : Nat, t < n → ws[t]? = some i → ¬ ws[t + 1]? = some j) → fv kn i j = fv kvs i j
theorem Spent.zero {m : Int} {kvs : List (List Key × V)} {ws : List Int} {u : Int} (hI : Ints kvs) : Spent m kvs ws u 0 kvs := ⟨hI, rfl, fun x y h h1 h2 => by
  rw [h1] at h2
  cases h2
  omega, fun t i j ht => absurd ht (Nat.not_lt_zero _), fun _ _ _ => rfl⟩
theorem Spent.new {m : Int} {kvs kn : List (List Key × V)} {ws : List Int} {u b e : Int} {n : Nat} {x y : Int} (hW : WayF m (fv kvs) b e ws) (h : Spent m kvs ws u n kn) (hx : ws[n]? = some x) : fv kn x y = fv kvs x y :=
  h.oth x y fun t ht h1 _ => by
    have := nodup_at hW.nd h1 hx
    omega
theorem Spent.step {m : Int} {kvs kn : List (List Key × V)} {ws : List Int} {u b e : Int} {n : Nat} {x y : Int} (hW : WayF m (fv kvs) b e ws) (u0 : 0 ≤ u) (h : Spent m kvs ws u n kn) (hx : ws[n]? = some x) (hy : ws[n + 1]? = some y) (hu : u ≤ fv kvs x y) (hp : 0 < fv kvs x y) :
    Spent m kvs ws u (n + 1) (putK kn (keyP x y) (.int (fv kn x y - u))) := by
  have e1 := h.new (y := y) hW hx
  have rx := hW.rg x (List.mem_of_getElem? hx)
  have ry := hW.rg y (List.mem_of_getElem? hy)
  have hv := h.isI.pos (i := x) (j := y) (by rw [e1]; exact hp)
  refine ⟨h.isI.put, by rw [putK_same hv, h.len], fun a c g h1 h2 => ?_, fun t i j ht h1 h2 => ?_, fun i j hno => ?_⟩
  · rw [hy] at h2
    cases h2
    rw [netIn_set (F := fv kn) (F' := fv (putK kn (keyP x y) (.int (fv kn x y - u)))) (x := x) (y := y) (u := u) rx.1 (by omega) ry.1 (by omega) u0 (by omega) (by rw [fv_put, if_pos ⟨rfl, rfl⟩]) (fun i j hn => by rw [fv_put, if_neg hn]), h.net a x g h1 hx]
    omega
  · rw [fv_put]
    rcases Nat.lt_succ_iff_lt_or_eq.mp ht with z | z
    · rw [if_neg, h.hit t i j z h1 h2]
      rintro ⟨rfl, _⟩
      have := nodup_at hW.nd h1 hx
      omega
    · subst z
      rw [hx] at h1
      rw [hy] at h2
      cases h1
      cases h2
      rw [if_pos ⟨rfl, rfl⟩, e1]
  · rw [fv_put, if_neg, h.oth i j fun t ht => hno t (by omega)]
    rintro ⟨rfl, rfl⟩
    exact hno n (by omega) hx hy
theorem filter_le {L : List Tie} {p p' : Tie → Bool} (h : ∀ q ∈ L, p' q = true → p q = true) : (L.filter p').length ≤ (L.filter p).length := by
  induction L with
  | nil => exact Nat.le_refl _
  | cons q L ih =>
    have ih' := ih fun r hr => h r (by simp [hr])
    rw [List.filter_cons, List.filter_cons]
    cases c : p' q with
    | true =>
      rw [h q (by simp) c]
      simpa using ih'
    | false =>
      cases p q <;> simp <;> omega
theorem filter_lt {L : List Tie} {p p' : Tie → Bool} {r : Tie} (h : ∀ q ∈ L, p' q = true → p q = true) (hr : r ∈ L) (h1 : p r = true) (h0 : p' r = false) : (L.filter p').length < (L.filter p).length := by
  induction L with
  | nil => cases hr
  | cons q L ih =>
    rw [List.filter_cons, List.filter_cons]
    rcases List.mem_cons.mp hr with z | z
    · rw [← z, h1, h0]
      have := filter_le (L := L) (p := p) (p' := p') fun x hx => h x (by simp [hx])
      simp
      omega
    · have ih' := ih (fun x hx => h x (by simp [hx])) z
      cases c : p' q with
      | true =>
        rw [h q (by simp) c]
        simpa using ih'
      | false =>
        cases p q <;> simp <;> omega
theorem Spl.next {m sp mo : Int} {L : List Tie} {kvs kn : List (List Key × V)} {left u : Int} {ws : List Int} (hS : Spl m sp mo L kvs left) (ne : sp ≠ mo) (hW : WayF m (fv kvs) sp mo ws) (u0 : 0 < u) (hu : ∀ (t : Nat) (x y : Int), ws[t]? = some x → ws[t + 1]? = some y → u ≤ fv kvs x y) (h : Spent m kvs ws u (ws.length - 1) kn) :
    Spl m sp mo L kn (left - u) ∧ cnt L kn ≤ cnt L kvs ∧ ((∃ (t : Nat) (x y : Int), ws[t]? = some x ∧ ws[t + 1]? = some y ∧ u = fv kvs x y) → cnt L kn < cnt L kvs) := by
  have le : ∀ i j, fv kn i j ≤ fv kvs i j := fun i j => by
    by_cases c : ∃ t : Nat, t < ws.length - 1 ∧ ws[t]? = some i ∧ ws[t + 1]? = some j
    · obtain ⟨t, h1, h2, h3⟩ := c
      have := h.hit t i j h1 h2 h3
      omega
    · rw [h.oth i j fun t h1 h2 h3 => c ⟨t, h1, h2, h3⟩]
      omega
  have sub : ∀ q ∈ L, act (fv kn) q = true → act (fv kvs) q = true := fun q _ hq => by
    unfold act at hq ⊢
    simp only [Bool.or_eq_true, decide_eq_true_eq] at hq ⊢
    have := le q.1 q.2.1
    have := le q.2.1 q.1
    omega
  refine ⟨⟨h.isI, ⟨fun g g0 g1 n1 n2 => ?_, ?_⟩, fun i j p => ?_, fun i j p => ?_, by rw [h.len]; exact hS.len⟩, filter_le sub, ?_⟩
  · rw [h.net sp mo g hW.hd (last_at hW.lst), hS.flw.zero g g0 g1 n1 n2, if_neg (Ne.symm n2), if_neg (Ne.symm n1)]
    rfl
  · rw [h.net sp mo mo hW.hd (last_at hW.lst), hS.flw.mouth, if_pos rfl, if_neg ne]
    omega
  · have h1 := le i j
    have h2 := le j i
    have := hS.one i j (by omega)
    omega
  · have h1 := le i j
    exact hS.tied i j (by omega)
  · rintro ⟨t, x, y, hx, hy, e⟩
    have hp : 0 < fv kvs x y := by omega
    have ht : t < ws.length - 1 := by
      have := (List.getElem?_eq_some_iff.mp hy).1
      omega
    have e2 := h.hit t x y ht hx hy
    have e3 := hS.one x y hp
    have e4 := le y x
    obtain ⟨q, hq, hh⟩ := hS.tied x y hp
    refine filter_lt sub hq ?_ ?_
    · unfold act
      rcases hh with ⟨rfl, rfl⟩ | ⟨rfl, rfl⟩
      · simp [hp]
      · simp [hp]
    · unfold act
      rcases hh with ⟨rfl, rfl⟩ | ⟨rfl, rfl⟩
      · simp
        omega
      · simp
        omega
theorem Spl.left1 {m sp mo : Int} {L : List Tie} {kvs : List (List Key × V)} {left : Int} {ws : List Int} (hS : Spl m sp mo L kvs left) (ne : sp ≠ mo) (hW : WayF m (fv kvs) sp mo ws) : 1 ≤ cnt L kvs := by
  have h2 := hW.two ne
  have hx : ws[0]? = some (ws[0]'(by omega)) := by simp
  have hy : ws[1]? = some (ws[1]'(by omega)) := by simp
  have hp := hW.hop 0 _ _ hx hy
  obtain ⟨q, hq, hh⟩ := hS.tied _ _ hp
  have hm : q ∈ L.filter (act (fv kvs)) := by
    refine List.mem_filter.mpr ⟨hq, ?_⟩
    unfold act
    rcases hh with ⟨e1, e2⟩ | ⟨e1, e2⟩
    · rw [e1, e2]
      simp [hp]
    · rw [e1, e2]
      simp [hp]
  exact List.length_pos_of_mem hm
theorem Spl.mouth {m sp mo : Int} {L : List Tie} {kvs : List (List Key × V)} {left : Int} {ps : List (Int × Int)} (hS : Spl m sp mo L kvs left) (h0 : 0 < left) (m0 : 0 ≤ mo) (m1 : mo < m) (hR : Rch m (fv kvs) sp ps) (hc : ∀ g ∈ lineOf sp ps, Closed m (fv kvs) (lineOf sp ps) g) : mo ∈ lineOf sp ps := by
  by_cases c : mo ∈ lineOf sp ps
  · exact c
  · exfalso
    have := cut_le hS.flw (fun h => decide (h ∈ lineOf sp ps)) (by simp [lineOf]) (by simpa using c) m0 (by omega) fun g o _ _ o0 o1 hg hp => by
      simp only [decide_eq_true_eq] at hg ⊢
      exact hc g hg o o0 (by omega) hp
    omega
end Mw

/-! E1 -/
/-! Shortest ways with room come to an end: the measure. -/
namespace Mw
/-- how far each house is from b over rooms; 10 if not reached -/
structure Far (F : Int → Int → Int) (b : Int) (D : Int → Nat) : Prop where
  beg : D b = 0
  top : ∀ v, D v ≤ 10
  arc : ∀ u v, 0 < F u v → D v ≤ D u + 1
  ex : ∀ v, v ≠ b → D v < 10 → ∃ u, 0 < F u v ∧ D v = D u + 1
  cl : ∀ u v, D u < 10 → 0 < F u v → D v < 10
/-- the rooms behind some units on shortest steps -/
structure Fed (D : Int → Nat) (F F' : Int → Int → Int) (on : Int → Int → Prop) : Prop where
  tight : ∀ u v, on u v → 0 < F u v ∧ D v = D u + 1 ∧ D v < 10
  back : ∀ u v, on u v → 0 < F' v u
  rest : ∀ u v, ¬ on u v → ¬ on v u → F' u v = F u v
  full : ∃ u v, on u v ∧ F' u v ≤ 0 ∧ 0 ≤ u ∧ u < 10 ∧ 0 ≤ v ∧ v < 10
theorem Far.mono {F F' : Int → Int → Int} {b : Int} {D D' : Int → Nat} {on : Int → Int → Prop} (h : Far F b D) (h' : Far F' b D') (f : Fed D F F' on) : ∀ v, D v ≤ D' v := by
  have key : ∀ (n : Nat) (v : Int), D' v = n → D v ≤ D' v := by
    intro n
    induction n with
    | zero =>
      intro v hv
      by_cases e : v = b
      · rw [e, h.beg]
        exact Nat.zero_le _
      · obtain ⟨u, _, e2⟩ := h'.ex v e (by omega)
        omega
    | succ n ih =>
      intro v hv
      by_cases e : v = b
      · rw [e, h.beg]
        exact Nat.zero_le _
      · by_cases h10 : D' v < 10
        · obtain ⟨u, hu, e2⟩ := h'.ex v e h10
          have h1 := ih u (by omega)
          have h2 : D v ≤ D u + 1 := by
            by_cases c1 : on u v
            · exact h.arc u v (f.tight u v c1).1
            · by_cases c2 : on v u
              · have := (f.tight v u c2).2.1
                omega
              · rw [f.rest u v c1 c2] at hu
                exact h.arc u v hu
          omega
        · have := h.top v
          omega
  exact fun v => key _ v rfl
def fH (x : Nat) : Nat := (10 - x) / 2
theorem fH_anti {x y : Nat} (h : x ≤ y) : fH y ≤ fH x := Nat.div_le_div_right (by omega)
/-- what an arc may yet be filled -/
def arcH (F : Int → Int → Int) (D : Int → Nat) (u v : Int) : Nat := if u = v then 0 else if 0 < F u v then fH (D u) else fH (D v + 1)
theorem arc_le {F F' : Int → Int → Int} {b : Int} {D D' : Int → Nat} {on : Int → Int → Prop} (h : Far F b D) (h' : Far F' b D') (f : Fed D F F' on) (u v : Int) : arcH F' D' u v ≤ arcH F D u v := by
  have hu := h.mono h' f u
  have hv := h.mono h' f v
  unfold arcH
  by_cases e : u = v
  · rw [if_pos e, if_pos e]
    exact Nat.le_refl _
  · rw [if_neg e, if_neg e]
    by_cases c1 : on u v
    · obtain ⟨t1, t2, _⟩ := f.tight u v c1
      rw [if_pos t1]
      split
      · exact fH_anti hu
      · exact fH_anti (by omega)
    · by_cases c2 : on v u
      · obtain ⟨t1, t2, _⟩ := f.tight v u c2
        rw [if_pos (f.back v u c2)]
        split
        · exact fH_anti hu
        · exact fH_anti (by omega)
      · rw [f.rest u v c1 c2]
        split
        · exact fH_anti hu
        · exact fH_anti (by omega)
theorem arc_lt {F F' : Int → Int → Int} {b : Int} {D D' : Int → Nat} {on : Int → Int → Prop} (h : Far F b D) (h' : Far F' b D') (f : Fed D F F' on) {u v : Int} (c : on u v) (hf : F' u v ≤ 0) : arcH F' D' u v < arcH F D u v := by
  have hv := h.mono h' f v
  obtain ⟨t1, t2, t3⟩ := f.tight u v c
  have ne : u ≠ v := fun e => by
    subst e
    omega
  unfold arcH
  rw [if_neg ne, if_neg ne, if_pos t1, if_neg (by omega)]
  have := fH_anti (show D u + 2 ≤ D' v + 1 by omega)
  unfold fH at *
  omega
def sum2 (g : Int → Int → Nat) : Nat := ((List.range 10).map fun (i : Nat) => ((List.range 10).map fun (j : Nat) => g (i : Int) (j : Int)).sum).sum
theorem sum_le {f g : Nat → Nat} : ∀ l : List Nat, (∀ i ∈ l, f i ≤ g i) → (l.map f).sum ≤ (l.map g).sum
  | [], _ => Nat.le_refl _
  | i :: l, h => by
    rw [List.map_cons, List.map_cons, List.sum_cons, List.sum_cons]
    exact Nat.add_le_add (h i (by simp)) (sum_le l fun j hj => h j (by simp [hj]))
theorem sum_lt {f g : Nat → Nat} : ∀ l : List Nat, (∀ i ∈ l, f i ≤ g i) → (∃ i ∈ l, f i < g i) → (l.map f).sum < (l.map g).sum
  | [], _, h => by
    obtain ⟨i, hi, _⟩ := h
    cases hi
  | i :: l, h, ⟨k, hk, hlt⟩ => by
    rw [List.map_cons, List.map_cons, List.sum_cons, List.sum_cons]
    have h0 := h i (by simp)
    rcases List.mem_cons.mp hk with rfl | hk
    · have := sum_le l fun j hj => h j (by simp [hj])
      omega
    · have := sum_lt l (fun j hj => h j (by simp [hj])) ⟨k, hk, hlt⟩
      omega
theorem sum2_le {f g : Int → Int → Nat} (h : ∀ i j, f i j ≤ g i j) : sum2 f ≤ sum2 g := sum_le _ fun (i : Nat) _ => sum_le _ fun (j : Nat) _ => h (i : Int) (j : Int)
theorem sum2_lt {f g : Int → Int → Nat} (h : ∀ i j, f i j ≤ g i j) {u v : Int} (u0 : 0 ≤ u) (u1 : u < 10) (v0 : 0 ≤ v) (v1 : v < 10) (hlt : f u v < g u v) : sum2 f < sum2 g := by
  refine sum_lt _ (fun (i : Nat) _ => sum_le _ fun (j : Nat) _ => h (i : Int) (j : Int)) ⟨u.toNat, List.mem_range.mpr (by omega), ?_⟩
  refine sum_lt _ (fun j _ => h _ j) ⟨v.toNat, List.mem_range.mpr (by omega), ?_⟩
  rw [show ((u.toNat : Nat) : Int) = u by omega, show ((v.toNat : Nat) : Int) = v by omega]
  exact hlt
/-- each round lowers the measure -/
theorem round_lt {F F' : Int → Int → Int} {b : Int} {D D' : Int → Nat} {on : Int → Int → Prop} (h : Far F b D) (h' : Far F' b D') (f : Fed D F F' on) : sum2 (arcH F' D') < sum2 (arcH F D) := by
  obtain ⟨u, v, c, hf, u0, u1, v0, v1⟩ := f.full
  exact sum2_lt (arc_le h h' f) u0 u1 v0 v1 (arc_lt h h' f c hf)
/-- the measure at the beginning -/
theorem sum2_most {F : Int → Int → Int} {b : Int} {D : Int → Nat} (h : Far F b D) (hb : 0 ≤ b ∧ b < 10) (h1 : ∀ v, v ≠ b → 1 ≤ D v) : sum2 (arcH F D) ≤ 369 := by
  have step : sum2 (arcH F D) ≤ sum2 fun u v => if u = v then 0 else if u = b then 5 else 4 := by
    refine sum2_le fun u v => ?_
    unfold arcH
    by_cases e : u = v
    · rw [if_pos e, if_pos e]
      exact Nat.le_refl _
    · rw [if_neg e, if_neg e]
      by_cases eu : u = b
      · rw [if_pos eu]
        split
        · exact fH_anti (Nat.zero_le (D u))
        · exact fH_anti (Nat.zero_le _)
      · rw [if_neg eu]
        have := h1 u eu
        split
        · exact fH_anti (show 1 ≤ D u from this)
        · exact fH_anti (show 1 ≤ D v + 1 by omega)
  refine Nat.le_trans step ?_
  obtain ⟨n, rfl⟩ : ∃ n : Nat, b = (n : Int) := ⟨b.toNat, by omega⟩
  have hn : n < 10 := by omega
  have all : ∀ n : Nat, n < 10 → (sum2 fun u v => if u = v then 0 else if u = (n : Int) then 5 else 4) ≤ 369 := by decide +kernel
  exact all n hn
theorem Far.one {F : Int → Int → Int} {b : Int} {D : Int → Nat} (h : Far F b D) {v : Int} (hv : v ≠ b) : 1 ≤ D v := by
  by_cases c : D v < 10
  · obtain ⟨u, _, e⟩ := h.ex v hv c
    omega
  · omega
end Mw

/-! E2 -/
/-! The reach by rows: what it tells of how far houses are. -/
namespace Mw
def lineO (b : Int) (ps : List (Int × Int)) : List Int := b :: ps.map (·.1)
structure Bfs (hop : Int → Int → Prop) (b : Int) (ps : List (Int × Int)) (k : Nat) (D : Int → Nat) : Prop where
  nd : (lineO b ps).Nodup
  beg : D b = 0
  out : ∀ v, v ∉ lineO b ps → D v = 10
  par : ∀ x ∈ ps, D x.1 = D x.2 + 1 ∧ x.2 ∈ lineO b ps ∧ hop x.2 x.1
  pos : ∀ (j : Nat) v, (lineO b ps)[j]? = some v → D v ≤ j
  mono : ∀ (i j : Nat) x y, i ≤ j → (lineO b ps)[i]? = some x → (lineO b ps)[j]? = some y → D x ≤ D y
  near : ∀ g, (lineO b ps)[k]? = some g → ∀ v ∈ lineO b ps, D v ≤ D g + 1
  done : ∀ (j : Nat) g, j < k → (lineO b ps)[j]? = some g → ∀ v, hop g v → v ∈ lineO b ps ∧ D v ≤ D g + 1
theorem lineO_snoc {b : Int} {ps : List (Int × Int)} {x : Int × Int} : lineO b (ps ++ [x]) = lineO b ps ++ [x.1] := by
  unfold lineO
  rw [List.map_append]
  rfl
theorem Bfs.nil {hop : Int → Int → Prop} {b : Int} : Bfs hop b [] 0 fun x => if x = b then 0 else 10 := by
  have one : ∀ (j : Nat) v, (lineO b [])[j]? = some v → v = b := fun j v h => by
    have := List.mem_of_getElem? h
    simpa [lineO] using this
  refine ⟨by simp [lineO], if_pos rfl, fun v hv => if_neg (by simpa [lineO] using hv), fun x h => (by cases h), fun j v h => ?_, fun i j x y _ hx hy => ?_, fun g hg v hv => ?_, fun j g hj => absurd hj (Nat.not_lt_zero j)⟩
  · rw [one j v h, if_pos rfl]
    exact Nat.zero_le _
  · rw [one i x hx, if_pos rfl]
    exact Nat.zero_le _
  · have : v = b := by simpa [lineO] using hv
    rw [this, if_pos rfl]
    exact Nat.zero_le _
theorem Bfs.snoc {hop : Int → Int → Prop} {b : Int} {ps : List (Int × Int)} {k : Nat} {D : Int → Nat} (h : Bfs hop b ps k D) {g o : Int} (hg : (lineO b ps)[k]? = some g) (ho : o ∉ lineO b ps) (hh : hop g o) : Bfs hop b (ps ++ [(o, g)]) k fun x => if x = o then D g + 1 else D x := by
  have gm := List.mem_of_getElem? hg
  have kl := (List.getElem?_eq_some_iff.mp hg).1
  have ne : ∀ {x}, x ∈ lineO b ps → x ≠ o := fun hx e => ho (e ▸ hx)
  have bm : b ∈ lineO b ps := by simp [lineO]
  have old : ∀ {j : Nat} {v : Int}, (lineO b (ps ++ [(o, g)]))[j]? = some v → (lineO b ps)[j]? = some v ∨ (j = (lineO b ps).length ∧ v = o) := fun {j v} hj => by
    rw [lineO_snoc] at hj
    by_cases c : j < (lineO b ps).length
    · rw [List.getElem?_append_left c] at hj
      exact .inl hj
    · have jl := (List.getElem?_eq_some_iff.mp hj).1
      rw [List.length_append] at jl
      simp at jl
      have e : j = (lineO b ps).length := by omega
      subst e
      rw [List.getElem?_append_right (Nat.le_refl _), Nat.sub_self] at hj
      exact .inr ⟨rfl, by simpa using hj.symm⟩
  have mem : ∀ {v : Int}, v ∈ lineO b (ps ++ [(o, g)]) → v ∈ lineO b ps ∨ v = o := fun {v} hv => by
    rw [lineO_snoc] at hv
    simpa using hv
  have sub : ∀ {v : Int}, v ∈ lineO b ps → v ∈ lineO b (ps ++ [(o, g)]) := fun {v} hv => by
    rw [lineO_snoc]
    exact List.mem_append_left _ hv
  have lo : ∀ {v : Int}, v ∈ lineO b ps → (if v = o then D g + 1 else D v) = D v := fun hv => if_neg (ne hv)
  have oo : (if o = o then D g + 1 else D o) = D g + 1 := if_pos rfl
  refine ⟨?_, ?_, ?_, ?_, ?_, ?_, ?_, ?_⟩
  · rw [lineO_snoc, List.nodup_append]
    exact ⟨h.nd, by simp, fun a ha c hc e => ne ha (by rw [e]; simpa using hc)⟩
  · show (if b = o then D g + 1 else D b) = 0
    rw [lo bm]
    exact h.beg
  · intro v hv
    rw [lineO_snoc] at hv
    have h1 : v ≠ o := fun e => hv (by simp [e])
    show (if v = o then D g + 1 else D v) = 10
    rw [if_neg h1]
    exact h.out v fun hm => hv (List.mem_append_left _ hm)
  · intro x hx
    rcases List.mem_append.mp hx with z | z
    · obtain ⟨e1, e2, e3⟩ := h.par x z
      have xm : x.1 ∈ lineO b ps := by
        unfold lineO
        exact List.mem_cons_of_mem _ (List.mem_map.mpr ⟨x, z, rfl⟩)
      refine ⟨?_, sub e2, e3⟩
      show (if x.1 = o then D g + 1 else D x.1) = (if x.2 = o then D g + 1 else D x.2) + 1
      rw [lo xm, lo e2]
      exact e1
    · have e : x = (o, g) := by simpa using z
      subst e
      refine ⟨?_, sub gm, hh⟩
      show (if o = o then D g + 1 else D o) = (if g = o then D g + 1 else D g) + 1
      rw [oo, lo gm]
  · intro j v hj
    show (if v = o then D g + 1 else D v) ≤ j
    rcases old hj with z | ⟨rfl, rfl⟩
    · rw [lo (List.mem_of_getElem? z)]
      exact h.pos j v z
    · rw [oo]
      have := h.pos k g hg
      omega
  · intro i j x y hij hx hy
    show (if x = o then D g + 1 else D x) ≤ if y = o then D g + 1 else D y
    rcases old hx with zx | ⟨ex, rfl⟩
    · have xm := List.mem_of_getElem? zx
      rw [lo xm]
      rcases old hy with zy | ⟨_, rfl⟩
      · rw [lo (List.mem_of_getElem? zy)]
        exact h.mono i j x y hij zx zy
      · rw [oo]
        exact h.near g hg x xm
    · rcases old hy with zy | ⟨_, rfl⟩
      · have := (List.getElem?_eq_some_iff.mp zy).1
        omega
      · exact Nat.le_refl _
  · intro g' hg' v hv
    have eg : g' = g := by
      rw [lineO_snoc, List.getElem?_append_left kl, hg] at hg'
      exact (Option.some.inj hg').symm
    subst eg
    show (if v = o then D g' + 1 else D v) ≤ (if g' = o then D g' + 1 else D g') + 1
    rw [lo gm]
    rcases mem hv with z | rfl
    · rw [lo z]
      exact h.near g' hg v z
    · rw [oo]
      exact Nat.le_refl _
  · intro j g' hj hg' v hv
    rcases old hg' with z | ⟨e, _⟩
    · obtain ⟨e1, e2⟩ := h.done j g' hj z v hv
      refine ⟨sub e1, ?_⟩
      show (if v = o then D g + 1 else D v) ≤ (if g' = o then D g + 1 else D g') + 1
      rw [lo e1, lo (List.mem_of_getElem? z)]
      exact e2
    · omega
theorem Bfs.next {hop : Int → Int → Prop} {b : Int} {ps : List (Int × Int)} {k : Nat} {D : Int → Nat} (h : Bfs hop b ps k D) {g : Int} (hg : (lineO b ps)[k]? = some g) (ha : ∀ v, hop g v → v ∈ lineO b ps) : Bfs hop b ps (k + 1) D :=
  ⟨h.nd, h.beg, h.out, h.par, h.pos, h.mono, fun g' hg' v hv => by
    have h1 := h.mono k (k + 1) g g' (by omega) hg hg'
    have h2 := h.near g hg v hv
    omega, fun j g' hj hg' v hv => by
    by_cases c : j < k
    · exact h.done j g' c hg' v hv
    · have e : j = k := by omega
      subst e
      rw [hg] at hg'
      cases hg'
      exact ⟨ha v hv, h.near g hg v (ha v hv)⟩⟩
theorem Bfs.skip {hop : Int → Int → Prop} {b : Int} {ps : List (Int × Int)} {k : Nat} {D : Int → Nat} (h : Bfs hop b ps k D) (hk : (lineO b ps).length ≤ k) : Bfs hop b ps (k + 1) D :=
  ⟨h.nd, h.beg, h.out, h.par, h.pos, h.mono, fun g' hg' v hv => by
    have := (List.getElem?_eq_some_iff.mp hg').1
    omega, fun j g' hj hg' v hv => by
    have := (List.getElem?_eq_some_iff.mp hg').1
    exact h.done j g' (by omega) hg' v hv⟩
theorem Bfs.far {hop : Int → Int → Prop} {F : Int → Int → Int} {b : Int} {ps : List (Int × Int)} {k : Nat} {D : Int → Nat} (h : Bfs hop b ps k D) (hk : (lineO b ps).length ≤ k) (h10 : (lineO b ps).length ≤ 10) (hF : ∀ u v, hop u v ↔ 0 < F u v) : Far F b D := by
  have low : ∀ v ∈ lineO b ps, D v ≤ 9 := fun v hv => by
    obtain ⟨j, hj⟩ := List.mem_iff_getElem?.mp hv
    have := (List.getElem?_eq_some_iff.mp hj).1
    have := h.pos j v hj
    omega
  refine ⟨h.beg, fun v => ?_, fun u v huv => ?_, fun v hv h1 => ?_, fun u v hu huv => ?_⟩
  · by_cases c : v ∈ lineO b ps
    · have := low v c
      omega
    · rw [h.out v c]
      exact Nat.le_refl _
  · by_cases c : u ∈ lineO b ps
    · obtain ⟨j, hj⟩ := List.mem_iff_getElem?.mp c
      have jl := (List.getElem?_eq_some_iff.mp hj).1
      exact (h.done j u (by omega) hj v ((hF u v).mpr huv)).2
    · rw [h.out u c]
      by_cases c2 : v ∈ lineO b ps
      · have := low v c2
        omega
      · rw [h.out v c2]
        omega
  · have c : v ∈ lineO b ps := by
      refine Classical.byContradiction fun c => ?_
      rw [h.out v c] at h1
      omega
    unfold lineO at c
    rcases List.mem_cons.mp c with e | c
    · exact absurd e hv
    · obtain ⟨x, hx, rfl⟩ := List.mem_map.mp c
      obtain ⟨e1, _, e3⟩ := h.par x hx
      exact ⟨x.2, (hF _ _).mp e3, e1⟩
  · have c : u ∈ lineO b ps := by
      refine Classical.byContradiction fun c => ?_
      rw [h.out u c] at hu
      omega
    obtain ⟨j, hj⟩ := List.mem_iff_getElem?.mp c
    have jl := (List.getElem?_eq_some_iff.mp hj).1
    have := low v (h.done j u (by omega) hj v ((hF u v).mpr huv)).1
    omega
end Mw

/-! K8 -/
namespace Mw
open PySem L2
def spReachB (C : Addr) : Sp := fun vs H Q _ => ∃ (p : Addr) (v : V) (m : Int) (L : List Tie) (sp mo : Int) (c : Addr) (U : List Int) (b : Int), vs = [v, .ref c, .int b] ∧ Tp C p H (planD m L sp mo) v ∧ Right m L sp mo ∧ U.length = L.length ∧ H c = some (.tup (U.map V.int)) ∧ 0 ≤ b ∧ b < m ∧
  ∀ (r : Addr) (ps : List (Int × Int)) (Dd : Int → Nat) (H' : Hp), Same H H' → H' r = some (.dK (kvsOf b ps)) → Tree m L U b ps → Far (roomTo L U) b Dd → (∀ v, v ∉ lineOf b ps → Dd v = 10) → (∀ v ∈ lineOf b ps, Dd v ≤ 9) → (∀ x ∈ ps, Dd x.1 = Dd x.2 + 1 ∧ x.2 ∈ lineOf b ps ∧ Hop L U x.2 x.1) → Q (.ref r) H'
theorem hop_near {L : List Tie} {U : List Int} {g v : Int} (h : Hop L U g v) : v ∈ aboveOf L g ++ belowOf L g := by
  obtain ⟨z, _, k, q, u, hq, hu, hh⟩ := h
  have hm := List.mem_of_getElem? hq
  unfold aboveOf belowOf
  rw [List.mem_append, List.mem_map, List.mem_map]
  rcases hh with ⟨e1, e2, _⟩ | ⟨e1, e2, _⟩
  · exact .inl ⟨q, List.mem_filter.mpr ⟨hm, decide_eq_true e1⟩, e2⟩
  · exact .inr ⟨q, List.mem_filter.mpr ⟨hm, decide_eq_true e2⟩, e1⟩
theorem hop_room {m : Int} {L : List Tie} {sp mo : Int} {U : List Int} (hR : Right m L sp mo) (hU : U.length = L.length) {i j : Int} : Hop L U i j ↔ 0 < roomTo L U i j := by
  refine ⟨fun h => (h.to hR).1, fun h => ?_⟩
  have h' := h
  unfold roomTo at h'
  cases e : (L.zip U).find? fun x => atP i j x.1 with
  | none =>
    rw [e] at h'
    exact absurd h' (by simp)
  | some x =>
    rw [e] at h'
    have ha := List.find?_some e
    have hm := List.mem_of_find?_eq_some e
    obtain ⟨k, hk⟩ := List.mem_iff_getElem?.mp hm
    rw [List.getElem?_zip_eq_some] at hk
    have bq := hR.most hk.1
    simp only [atP, Bool.and_eq_true, beq_iff_eq] at ha
    refine ⟨_, h', k, x.1, x.2, hk.1, hk.2, ?_⟩
    by_cases c : i > j
    · right
      refine ⟨by omega, by omega, ?_⟩
      show (if i > j then _ else _) = _
      rw [if_pos c]
    · left
      refine ⟨by omega, by omega, ?_⟩
      show (if i > j then _ else _) = _
      rw [if_neg c]
section
variable {P : Program} {w : World} {K : PySem.W.Frag} {mg : Str → Option Value} {base : Heap}
local macro_rules | `(tactic| walk_at "rd") => `(tactic| (repeat (first
  | ((with_reducible refine' rd_var ?h0 ?_); (case h0 => rfl))
  | with_reducible refine rd_c ?_
  | with_reducible refine rd_op ?_
  | with_reducible refine rd_nil ?_
  | with_reducible refine rd_cons ?_
  | with_reducible refine rd_tup ?_
  | with_reducible refine rd_lst ?_
  | with_reducible refine rd_ifs ?_
  | with_reducible refine rd_seq ?_
  | with_reducible refine rd_next ?_
  | with_reducible refine rd_ret ?_
  | with_reducible refine rd_asg ?_
  | ((with_reducible refine' rd_gset ?hs ?_); (case hs => ((simp only [L2.start, List.map_cons, List.map_nil, List.length_cons, List.length_nil, List.cons_append, List.nil_append, List.set_cons_zero, List.set_cons_succ, Nat.reduceAdd, Nat.reduceSub, Nat.zero_add, List.reduceReplicate]); rfl)))
  | with_reducible refine rd_drop ?_
  | with_reducible refine rd_test ?_
  | with_reducible refine rd_B ?_
  | with_reducible refine rd_bl ?_
  | with_reducible refine rd_blP ?_
  | with_reducible refine rd_andV ?_
  | with_reducible refine rd_orV ?_
  | with_reducible refine rd_notV ?_
  | with_reducible refine rd_and ?_
  | with_reducible refine rd_or ?_
  | with_reducible refine rd_not ?_
  | with_reducible refine rd_chain ?_
  | with_reducible refine rd_dput ?_
  | with_reducible refine rd_dget ?_
  | with_reducible refine rd_cb ?_
  | with_reducible refine rd_call ?_
  | with_reducible refine rd_un ?_
  | with_reducible refine rd_sl ?_
  | with_reducible refine rd_nopart ?_
  | with_reducible refine rd_part ?_
  | with_reducible refine rd_intP ?_
  | with_reducible refine rd_rU ?_
  | with_reducible refine rd_fld ?_
  | with_reducible refine rd_eqI ?_
  | with_reducible refine rd_neI ?_
  | with_reducible refine rd_mko ?_
  | with_reducible refine rd_bm ?_
  | with_reducible refine rd_gsub ?_
  | with_reducible refine rd_i0 ?_)))
theorem ok_law_reachB (T : Tx K mg) (B : Bk K mg T) : FnOk P w K mg base CX0 4 B.law_reach.f B.law_reach.fd ["plan", "stream", "begin"] (spReachB T.c_Web) := by
  have G_law_near := ok_law_near (P := P) (w := w) (base := base) T B
  have G_law_room := ok_law_room (P := P) (w := w) (base := base) T B
  refine B.law_reach.F.ok sc_law_reach (fun vs H Q E h => ?_) (fun cdv A outer s H vs Q E hr h => ?_)
  · obtain ⟨p, v, m, L, sp, mo, c, U, b, rfl, _⟩ := h
    rfl
  · obtain ⟨p, v, m, L, sp, mo, c, U, b, rfl, hv, hR, hU, hc, b0, b1, q⟩ := h
    refine ⟨_, (pss_cons (ps_set (i := 3) sc_law_reach.nd rfl (Or.inl rfl) (pe_disp (pps_cons (pv 2) pe_non pps_nil) rfl rfl (List.cons_ne_nil _ _) (by decide)))
      (pss_cons (ps_set (i := 4) sc_law_reach.nd rfl (Or.inl rfl) (pe_lst (pa_cons (pv 2) pa_nil)))
      (pss_cons (ps_for PassesOwn.never rfl (pi_range1 (by rfl) T.b_range (pa_cons (pe_ix ix_tup (pv 0) pe_int (fun _ _ => rfl)) pa_nil)) (pg_name (i := 5) sc_law_reach.nd rfl (Or.inl rfl)) (pss_one (ps_if (pt_cmpR op_lt (pv 5) (pe_callB call_len_seq (by rfl) T.b_len (by decide +kernel) (pa_cons (pv 4) pa_nil)) (nomark _)) (pss_one (ps_for PassesOwn.never rfl (pi_list (pe_call G_law_near (hr.mono (by decide)) rfl B.law_near.m B.law_near.F.kp B.law_near.b .nil pass0 (pa_cons (pv 0) (pa_cons (pe_ix ix_list (pv 4) (pv 5) (fun _ _ => rfl)) pa_nil)))) (pg_name (i := 6) sc_law_reach.nd rfl (Or.inl rfl)) (pss_one (ps_if (PW.pt (pw_and (pt_cmp (pc_dnotin (hu_of hr) (pv 6) (pv 3))) (pw_and1 (pt_cmpR op_gt (pe_call G_law_room (hr.mono (by decide)) rfl B.law_room.m B.law_room.F.kp B.law_room.b .nil pass0 (pa_cons (pv 0) (pa_cons (pv 1) (pa_cons (pe_ix ix_list (pv 4) (pv 5) (fun _ _ => rfl)) (pa_cons (pv 6) pa_nil))))) pe_int (nomark _))))) (pss_cons (ps_dput (hu_of hr) (pv 3) (pv 6) (pe_ix ix_list (pv 4) (pv 5) (fun _ _ => rfl)) rfl)
      (pss_one (ps_expr (pe_bm PySem.F.plainAttrs_list PySem.F.slot_list_append PySem.F.type_list_append mt_append (pv 4) (pa_cons (pv 6) pa_nil))))) pss_nil)))) pss_nil)))
      (pss_one (ps_ret (pv 3)))))), ?_⟩
    have hm := hR.parts
    have hL := hR.len
    obtain ⟨a, xs, rfl, ha, hx⟩ := tp_tup' (id hv)
    obtain ⟨v1, v2, v3, v4, rfl, t1, t2, t3, t4⟩ := tpAll4 hx
    cases tp_int' t1
    walk_at "rd"
    refine rd_disp1 fun D nD => ?_
    walk_at "rd"
    refine ⟨upd_same, [(.inl b, .non)], rfl, by simp, ?_⟩
    have sD : Same H (upd (upd H D (.dK [])) D (.dK (kvsOf b []))) := fun x o e => by
      rw [upd_ne (ne_of_none e nD), upd_ne (ne_of_none e nD)]
      exact e
    walk_at "rd"
    refine rd_disp rfl fun l nl => ?_
    have nlH : H l = none := sD.free nl
    have hDl : D ≠ l := ne_of_none (H := upd (upd H D (.dK [])) D (.dK (kvsOf b []))) upd_same nl
    walk_at "rd"
    show iRng1 _ _ _ _
    refine rd_rng1 ?_
    walk_at "rd"
    refine rd_ixT ((sD.trans (same_new nl)) _ _ ha.2) rfl ?_
    refine ⟨_, rfl, by omega, by omega, for_range (lo := 0) (n := m.toNat) (fun n σ H1 => Same H H1 ∧ (∃ ps, H1 D = some (.dK (kvsOf b ps)) ∧ H1 l = some (.lst ((lineOf b ps).map V.int)) ∧ Tree m L U b ps ∧ ∃ Dd, Bfs (Hop L U) b ps n Dd) ∧ ∃ u1 u2, σ = [some (.ref a), some (.ref c), some (.int b), some (.ref D), some (.ref l), u1, u2])
      ⟨sD.trans (same_new nl), ⟨[], ?_, ?_, Tree.nil b0 b1, _, Bfs.nil⟩, none, none, rfl⟩ ?_ ?_⟩
    · exact (upd_ne hDl).trans upd_same
    · exact upd_same
    · rintro n σ H1 hn ⟨hs, ⟨ps, hD, hl, hT, Dd, hB⟩, u1, u2, rfl⟩
      have hlen := hT.len
      walk_at "rd"
      refine ⟨l, _, rfl, .inl (SqL.of hl), ?_⟩
      walk_at "rd"
      refine rd_ite (fun h1 => ?_) (fun h1 => ?_)
      · have hk : n < (lineOf b ps).length := by
          simp only [decide_eq_true_eq, List.length_map] at h1
          omega
        have eg : (lineOf b ps)[n]? = some (lineOf b ps)[n] := by simp [hk]
        generalize (lineOf b ps)[n] = g at eg
        have egV : ((lineOf b ps).map V.int)[n]? = some (V.int g) := by
          rw [List.getElem?_map, eg]
          rfl
        have bg := hT.rg g (List.mem_of_getElem? eg)
        walk_at "rd"
        show iList _ _ _ _ _
        refine rd_ilist ?_
        walk_at "rd"
        refine rd_ixL hl (at_of (j := n) (by omega) egV) ?_
        walk_at "rd"
        refine ⟨p, .ref a, m, L, sp, mo, g, rfl, Tp.keep (Keep.same hs) _ _ hv, hL, fun r ns H2 hr1 s2 hxr hpm hpw => ?_⟩
        have hDr : D ≠ r := ne_of_none hD hr1
        have hlr : l ≠ r := ne_of_none hl hr1
        have hnl : ns.length ≤ 200 := by
          rw [hpm.length_eq, List.length_append, aboveOf, belowOf, List.length_map, List.length_map]
          have h1 := List.length_filter_le (fun q : Tie => decide (q.1 = g)) L
          have h2 := List.length_filter_le (fun q : Tie => decide (q.2.1 = g)) L
          omega
        refine ⟨r, rfl, ⟨_, SqL.of hxr⟩, for_list (K := K) (a := r) (xs := ns.map V.int)
          (fun i σ H3 => Same H H3 ∧ H3 r = some (.lst (ns.map V.int)) ∧ (∃ ps, H3 D = some (.dK (kvsOf b ps)) ∧ H3 l = some (.lst ((lineOf b ps).map V.int)) ∧ Tree m L U b ps ∧ (lineOf b ps)[n]? = some g ∧ (∃ Dd, Bfs (Hop L U) b ps n Dd) ∧ ∀ (j : Nat) o, j < i → ns[j]? = some o → Hop L U g o → o ∈ lineOf b ps) ∧ ∃ u2, σ = [some (.ref a), some (.ref c), some (.int b), some (.ref D), some (.ref l), some (.int (0 + (n : Int))), u2])
          ⟨hs.trans s2, hxr, ⟨ps, s2 _ _ hD, s2 _ _ hl, hT, eg, ⟨Dd, hB⟩, fun j o hj => absurd hj (Nat.not_lt_zero j)⟩, _, rfl⟩ (fun i σ H3 _ hh => SqL.of hh.2.1) ?_ ?_⟩
        · rintro i y σ H3 hi ⟨hs3, hxr3, ⟨ps3, hD3, hl3, hT3, eg3, ⟨Dd3, hB3⟩, hnb⟩, u3, rfl⟩
          obtain ⟨o, ho, rfl⟩ := mapint_get hi
          have hnx : ∀ {ps'}, (∀ v, v ∈ lineOf b ps3 → v ∈ lineOf b ps') → (Hop L U g o → o ∈ lineOf b ps') → ∀ (j : Nat) o', j < i + 1 → ns[j]? = some o' → Hop L U g o' → o' ∈ lineOf b ps' := fun hsub hlast j o' hj ho' hh' => by
            by_cases c : j < i
            · exact hsub _ (hnb j o' c ho' hh')
            · have e : j = i := by omega
              subst e
              rw [ho] at ho'
              cases ho'
              exact hlast hh'
          have hmem : o ∈ aboveOf L g ++ belowOf L g := hpm.mem_iff.mp (List.mem_of_getElem? ho)
          obtain ⟨z, hz⟩ := nb_room hU hmem
          have hlen3 := hT3.len
          have egV3 : ((lineOf b ps3).map V.int)[n]? = some (V.int g) := by
            rw [List.getElem?_map, eg3]
            rfl
          walk_at "rd"
          refine rd_dnotin ?_
          walk_at "rd"
          refine ⟨D, _, rfl, DGet.k (k := .inl o) hD3, ?_⟩
          walk_at "rd"
          refine rd_ite (fun h2 => ?_) (fun h2 => ?_)
          · have hnone : valV (kvsOf b ps3) (.inl o) = none := by
              cases e : valV (kvsOf b ps3) (.inl o) with
              | none => rfl
              | some x =>
                rw [e] at h2
                cases h2
            walk_at "rd"
            refine rd_ixL hl3 (at_of (j := n) (by omega) egV3) ?_
            walk_at "rd"
            refine ⟨p, .ref a, m, L, sp, mo, c, U, g, o, z, rfl, Tp.keep (Keep.same hs3) _ _ hv, hR, hs3 _ _ hc, hz, fun H4 s4 => ?_⟩
            walk_at "rd"
            refine rd_ite (fun h3 => ?_) (fun h3 => ?_)
            · have hz0 : 0 < z := by simpa using h3
              obtain ⟨k, q1, u, hq1, hu1, hh⟩ := id hz
              have bq := hR.most hq1
              have bo : 0 ≤ o ∧ o < m := by rcases hh with ⟨e1, e2, _⟩ | ⟨e1, e2, _⟩ <;> omega
              have hT4 := hT3.snoc (o := o) (g := g) (k := n) (kvs_none hnone) bo.1 bo.2 eg3 ⟨z, hz0, hz⟩
              walk_at "rd"
              refine rd_ixL (s4 _ _ hl3) (at_of (j := n) (by omega) egV3) ?_
              walk_at "rd"
              refine ⟨D, _, rfl, DPut.k (k := .inl o) (s4 _ _ hD3) (Nat.lt_of_le_of_lt (show (kvsOf b ps3).length ≤ 200 by rw [kvsOf_len]; omega) (by decide)), ?_⟩
              have eD : putK (kvsOf b ps3) (.inl o) (V.int g) = kvsOf b (ps3 ++ [(o, g)]) := by rw [putK_new _ hnone, kvsOf_snoc]
              rw [eD]
              have sN : Same H (upd H4 D (.dK (kvsOf b (ps3 ++ [(o, g)])))) := fun x o' e => by
                rw [upd_ne (ne_of_none e nD)]
                exact s4 _ _ (hs3 x o' e)
              walk_at "rd"
              have hl5 : (upd H4 D (.dK (kvsOf b (ps3 ++ [(o, g)])))) l = some (.lst ((lineOf b ps3).map V.int)) := (upd_ne hDl.symm).trans (s4 _ _ hl3)
              refine ⟨.inl ⟨rfl, _, SqL.of hl5⟩, ?_⟩
              walk_at "rd"
              refine rd_append hl5 (Nat.lt_of_le_of_lt (show ((lineOf b ps3).map V.int).length ≤ 200 by rw [List.length_map, lineOf_len]; omega) (by decide)) ?_
              refine ⟨fun x o' e => ?_, ?_, ⟨ps3 ++ [(o, g)], ?_, ?_, hT4, ?_, ⟨_, hB3.snoc (g := g) (o := o) eg3 (kvs_none hnone) ⟨z, hz0, hz⟩⟩, hnx (fun v hv => by rw [lineOf_snoc]; exact List.mem_append_left _ hv) fun _ => by rw [lineOf_snoc]; simp⟩, _, rfl⟩
              · rw [upd_ne (ne_of_none e nlH)]
                exact sN x o' e
              · rw [upd_ne hlr.symm, upd_ne hDr.symm]
                exact s4 _ _ hxr3
              · rw [upd_ne hDl]
                exact upd_same
              · rw [upd_same, lineOf_snoc, List.map_append]
                rfl
              · rw [lineOf_snoc, List.getElem?_append, if_pos (List.getElem?_eq_some_iff.mp eg3).1]
                exact eg3
            · refine ⟨hs3.trans s4, s4 _ _ hxr3, ⟨ps3, s4 _ _ hD3, s4 _ _ hl3, hT3, eg3, ⟨Dd3, hB3⟩, hnx (fun v hv => hv) fun hh' => ?_⟩, _, rfl⟩
              exfalso
              obtain ⟨h5, _⟩ := hh'.to hR
              rw [roomTo_up hR hz] at h5
              have := of_decide_eq_false h3
              omega
          · refine rd_no rfl ?_
            refine ⟨hs3, hxr3, ⟨ps3, hD3, hl3, hT3, eg3, ⟨Dd3, hB3⟩, hnx (fun v hv => hv) fun _ => ?_⟩, _, rfl⟩
            cases e : valV (kvsOf b ps3) (.inl o) with
            | none =>
              rw [e] at h2
              cases h2
            | some x =>
              obtain ⟨k0, hk0⟩ := kvs_some e
              exact List.mem_of_getElem? hk0
        · rintro σ H3 ⟨hs3, hxr3, ⟨ps3, hD3, hl3, hT3, eg3, ⟨Dd3, hB3⟩, hnb⟩, u3, rfl⟩
          refine ⟨hs3, ⟨ps3, hD3, hl3, hT3, _, hB3.next (g := g) eg3 fun v hv => ?_⟩, _, _, rfl⟩
          obtain ⟨j, hj⟩ := List.mem_iff_getElem?.mp (hpm.mem_iff.mpr (hop_near hv))
          exact hnb j v (by rw [List.length_map]; exact (List.getElem?_eq_some_iff.mp hj).1) hj hv
      · refine ⟨hs, ⟨ps, hD, hl, hT, Dd, hB.skip ?_⟩, _, _, rfl⟩
        have := of_decide_eq_false h1
        rw [List.length_map] at this
        show (lineOf b ps).length ≤ n
        omega
    · rintro σ H1 ⟨hs, ⟨ps, hD, hl, hT, Dd, hB⟩, u1, u2, rfl⟩
      walk_at "rd"
      have hlen := hT.len
      have hll : (lineOf b ps).length = ps.length + 1 := lineOf_len
      exact q D ps Dd H1 hs hD hT (hB.far (F := roomTo L U) (show (lineOf b ps).length ≤ _ by omega) (show (lineOf b ps).length ≤ 10 by omega) fun u v => hop_room hR hU) hB.out (fun v hv => by
        obtain ⟨j, hj⟩ := List.mem_iff_getElem?.mp hv
        have := (List.getElem?_eq_some_iff.mp hj).1
        have := hB.pos j v hj
        omega) hB.par
end
end Mw

/-! K9 -/
namespace Mw
open PySem L2
/-- each step of a way leads from the house ahead -/
def Tgt (ps : List (Int × Int)) (W : List Int) : Prop := ∀ (t : Nat) (x y : Int), W[t]? = some x → W[t + 1]? = some y → (y, x) ∈ ps
theorem Tgt.one {ps : List (Int × Int)} {g : Int} : Tgt ps [g] := fun t x y _ h => by simp at h
theorem Tgt.cons {ps : List (Int × Int)} {g o : Int} {ws : List Int} (h : Tgt ps (g :: ws)) (hm : (g, o) ∈ ps) : Tgt ps (o :: g :: ws) := fun t x y hx hy => by
  cases t with
  | zero =>
    simp at hx hy
    subst hx hy
    exact hm
  | succ t =>
    rw [List.getElem?_cons_succ] at hx hy
    exact h t x y hx hy
def spWayB (C : Addr) : Sp := fun vs H Q _ => ∃ (p : Addr) (v : V) (m : Int) (L : List Tie) (sp mo : Int) (c : Addr) (U : List Int) (b e : Int), vs = [v, .ref c, .int b, .int e] ∧ Tp C p H (planD m L sp mo) v ∧ Right m L sp mo ∧ U.length = L.length ∧ H c = some (.tup (U.map V.int)) ∧ 0 ≤ b ∧ b < m ∧
  (∀ H' Dd, Same H H' → Far (roomTo L U) b Dd → Dd e = 10 → Q .non H') ∧ ∀ (r : Addr) (ws : List Int) (H' : Hp) (Dd : Int → Nat), Same H H' → H' r = some (.lst (ws.map V.int)) → Way L U b e ws → ws.length ≤ 10 → Far (roomTo L U) b Dd → (∀ (t : Nat) (x y : Int), ws[t]? = some x → ws[t + 1]? = some y → Dd y = Dd x + 1 ∧ Dd y < 10) → Q (.ref r) H'
section
variable {P : Program} {w : World} {K : PySem.W.Frag} {mg : Str → Option Value} {base : Heap}
local macro_rules | `(tactic| walk_at "rd") => `(tactic| (repeat (first
  | ((with_reducible refine' rd_var ?h0 ?_); (case h0 => rfl))
  | with_reducible refine rd_c ?_
  | with_reducible refine rd_op ?_
  | with_reducible refine rd_nil ?_
  | with_reducible refine rd_cons ?_
  | with_reducible refine rd_tup ?_
  | with_reducible refine rd_lst ?_
  | with_reducible refine rd_ifs ?_
  | with_reducible refine rd_seq ?_
  | with_reducible refine rd_next ?_
  | with_reducible refine rd_ret ?_
  | with_reducible refine rd_asg ?_
  | ((with_reducible refine' rd_gset ?hs ?_); (case hs => ((simp only [L2.start, List.map_cons, List.map_nil, List.length_cons, List.length_nil, List.cons_append, List.nil_append, List.set_cons_zero, List.set_cons_succ, Nat.reduceAdd, Nat.reduceSub, Nat.zero_add, List.reduceReplicate]); rfl)))
  | with_reducible refine rd_drop ?_
  | with_reducible refine rd_test ?_
  | with_reducible refine rd_B ?_
  | with_reducible refine rd_bl ?_
  | with_reducible refine rd_blP ?_
  | with_reducible refine rd_andV ?_
  | with_reducible refine rd_orV ?_
  | with_reducible refine rd_notV ?_
  | with_reducible refine rd_and ?_
  | with_reducible refine rd_or ?_
  | with_reducible refine rd_not ?_
  | with_reducible refine rd_chain ?_
  | with_reducible refine rd_dput ?_
  | with_reducible refine rd_dget ?_
  | with_reducible refine rd_cb ?_
  | with_reducible refine rd_call ?_
  | with_reducible refine rd_un ?_
  | with_reducible refine rd_sl ?_
  | with_reducible refine rd_nopart ?_
  | with_reducible refine rd_part ?_
  | with_reducible refine rd_intP ?_
  | with_reducible refine rd_rU ?_
  | with_reducible refine rd_fld ?_
  | with_reducible refine rd_eqI ?_
  | with_reducible refine rd_neI ?_
  | with_reducible refine rd_mko ?_
  | with_reducible refine rd_bm ?_
  | with_reducible refine rd_gsub ?_
  | with_reducible refine rd_i0 ?_)))
theorem ok_law_wayB (T : Tx K mg) (B : Bk K mg T) : FnOk P w K mg base CX0 5 B.law_way.f B.law_way.fd ["plan", "stream", "begin", "end"] (spWayB T.c_Web) := by
  have G_law_reach := ok_law_reachB (P := P) (w := w) (base := base) T B
  refine B.law_way.F.ok sc_law_way (fun vs H Q E h => ?_) (fun cdv A outer s H vs Q E hr h => ?_)
  · obtain ⟨p, v, m, L, sp, mo, c, U, b, e, rfl, _⟩ := h
    rfl
  · obtain ⟨p, v, m, L, sp, mo, c, U, b, e, rfl, hv, hR, hU, hc, b0, b1, q0, q1⟩ := h
    refine ⟨_, (pss_cons (ps_set (i := 4) sc_law_way.nd rfl (Or.inl rfl) (pe_call G_law_reach (hr.mono (by decide)) rfl B.law_reach.m B.law_reach.F.kp B.law_reach.b .nil pass0 (pa_cons (pv 0) (pa_cons (pv 1) (pa_cons (pv 2) pa_nil)))))
      (pss_cons (ps_if (pt_cmp (pc_dnotin (hu_of hr) (pv 3) (pv 4))) (pss_one (ps_ret pe_non)) pss_nil)
      (pss_cons (ps_set (i := 5) sc_law_way.nd rfl (Or.inr rfl) (pe_lst (pa_cons (pv 3) pa_nil)))
      (pss_cons (ps_for PassesOwn.never rfl (pi_range1 (by rfl) T.b_range (pa_cons (pe_ix ix_tup (pv 0) pe_int (fun _ _ => rfl)) pa_nil)) (pg_name (i := 6) sc_law_way.nd rfl (Or.inl rfl)) (pss_one (ps_if (pt_cmpR op_notN (pe_dget (hu_of hr) (pv 4) (pe_ix ix_list (pv 5) (pe_un un_neg pe_int) (fun _ _ => rfl)) (fun _ _ => rfl)) pe_non (nomark _)) (pss_one (ps_expr (pe_bm PySem.F.plainAttrs_list PySem.F.slot_list_append PySem.F.type_list_append mt_append (pv 5) (pa_cons (pe_dget (hu_of hr) (pv 4) (pe_ix ix_list (pv 5) (pe_un un_neg pe_int) (fun _ _ => rfl)) (fun _ _ => rfl)) pa_nil)))) pss_nil)))
      (pss_one (ps_ret (pe_lc (own := [("k", 6)]) (g := gName 6) rfl sc_law_way.nd (pi_range1 (by rfl) T.b_range (pa_cons (pe_callB call_len_seq (by rfl) T.b_len (by decide +kernel) (pa_cons (pv 5) pa_nil)) pa_nil)) (blkOk_by (own := [("k", 6)]) (N := ["plan", "stream", "begin", "end", "ahead", "found", "k"]) (sc := defScope s_law_way) (by decide +kernel)) (fun _ _ _ _ _ => pg_name (i := 6) sc_law_way.nd rfl (Or.inl rfl)) (fun _ _ _ _ _ => pts_nil) (fun _ _ _ _ _ => (pe_ix (r := rIxL K) ix_list (pv 5) (pe_op op_sub (pe_op op_sub (pe_callB (id := "len") (r := rLenS K) call_len_seq (by rfl) T.b_len (by decide +kernel) (pa_cons (pv 5) pa_nil)) pe_int) (pv 6)) (fun _ _ => rfl)))))))))), ?_⟩
    have hm := hR.parts
    obtain ⟨a, xs, rfl, ha, hx⟩ := tp_tup' (id hv)
    obtain ⟨v1, v2, v3, v4, rfl, t1, t2, t3, t4⟩ := tpAll4 hx
    cases tp_int' t1
    walk_at "rd"
    refine ⟨p, .ref a, m, L, sp, mo, c, U, b, rfl, hv, hR, hU, hc, b0, b1, fun D ps Dd H1 s1 hD hT hFar hout hlow hpar => ?_⟩
    have hlen := hT.len
    walk_at "rd"
    refine rd_dnotin ?_
    walk_at "rd"
    refine ⟨D, _, rfl, DGet.k (k := .inl e) hD, ?_⟩
    walk_at "rd"
    refine rd_ite (fun h1 => ?_) (fun h1 => ?_)
    · walk_at "rd"
      refine q0 _ Dd s1 hFar (hout _ (kvs_none ?_))
      cases z : valV (kvsOf b ps) (.inl e) with
      | none => rfl
      | some x =>
        rw [z] at h1
        cases h1
    · obtain ⟨vv, hvv⟩ : ∃ vv, valV (kvsOf b ps) (.inl e) = some vv := by
        cases z : valV (kvsOf b ps) (.inl e) with
        | none =>
          rw [z] at h1
          cases h1
        | some x => exact ⟨x, rfl⟩
      obtain ⟨k0, hk0⟩ := kvs_some hvv
      have hk0l := (List.getElem?_eq_some_iff.mp hk0).1
      rw [lineOf_len] at hk0l
      walk_at "rd"
      refine rd_disp rfl fun l nl => ?_
      have nlH : H l = none := s1.free nl
      have hDl : D ≠ l := ne_of_none hD nl
      walk_at "rd"
      show iRng1 _ _ _ _
      refine rd_rng1 ?_
      walk_at "rd"
      refine rd_ixT ((s1.trans (same_new nl)) _ _ ha.2) rfl ?_
      refine ⟨_, rfl, by omega, by omega, for_range (lo := 0) (n := m.toNat) (fun n σ H2 => Same H H2 ∧ H2 D = some (.dK (kvsOf b ps)) ∧ (∃ k g ws, H2 l = some (.lst (ws.reverse.map V.int ++ [.int g])) ∧ Up L U b e ps k g ws ∧ (k = 0 ∨ k + n ≤ ps.length) ∧ Tgt ps (g :: ws)) ∧ ∃ u1, σ = [some (.ref a), some (.ref c), some (.int b), some (.int e), some (.ref D), some (.ref l), u1])
        ⟨s1.trans (same_new nl), (upd_ne hDl).trans hD, ⟨k0, e, [], upd_same, Up.first hk0, .inr (by omega), Tgt.one⟩, none, rfl⟩ ?_ ?_⟩
      · rintro n σ H2 hn ⟨hs, hD2, ⟨k, g, ws, hl, hUp, hkn, hTg⟩, u1, rfl⟩
        have hfew := hUp.few hT
        rw [List.length_cons] at hfew
        walk_at "rd"
        refine rd_ixL hl (atI_last _ _) ?_
        cases k with
        | zero =>
          have eg : g = b := by
            have := hUp.pos
            simp [lineOf] at this
            exact this.symm
          refine ⟨D, _, rfl, (by rw [eg, ← Tree.val0 (m := m) (L := L) (U := U) (b := b) (ps := ps)]; exact DGet.k (k := .inl b) hD2 : DGet H2 D (.int g) (some .non)), ?_⟩
          walk_at "rd"
          refine ⟨rfl, ?_⟩
          walk_at "rd"
          refine rd_no rfl ?_
          exact ⟨hs, hD2, ⟨0, g, ws, hl, hUp, .inl rfl, hTg⟩, _, rfl⟩
        | succ k =>
          obtain ⟨x, k2, ex, eg, hk2, hUp2⟩ := hUp.step hT
          have hg : DGet H2 D (.int g) (some (.int x.2)) := by
            rw [← hT.val ex, ← eg]
            exact DGet.k (k := .inl x.1) hD2
          refine ⟨D, _, rfl, hg, ?_⟩
          walk_at "rd"
          refine ⟨rfl, ?_⟩
          walk_at "rd"
          refine rd_yes rfl ?_
          walk_at "rd"
          refine ⟨.inl ⟨rfl, _, SqL.of hl⟩, ?_⟩
          walk_at "rd"
          refine rd_ixL hl (atI_last _ _) ?_
          refine ⟨D, _, rfl, hg, ?_⟩
          walk_at "rd"
          refine rd_append hl (Nat.lt_of_le_of_lt (show (ws.reverse.map V.int ++ [V.int g]).length ≤ 200 by rw [List.length_append, List.length_map, List.length_reverse]; simp; omega) (by decide)) ?_
          refine ⟨fun y o' e' => ?_, ?_, ⟨k2, x.2, g :: ws, ?_, hUp2, ?_, hTg.cons (by rw [← eg]; exact List.mem_of_getElem? ex)⟩, _, rfl⟩
          · rw [upd_ne (ne_of_none e' nlH)]
            exact hs y o' e'
          · rw [upd_ne hDl]
            exact hD2
          · rw [upd_same, List.reverse_cons, List.map_append]
            rfl
          · rcases hkn with z | z <;> omega
      · rintro σ H2 ⟨hs, hD2, ⟨k, g, ws, hl, hUp, hkn, hTg⟩, u1, rfl⟩
        have hfew := hUp.few hT
        have hk : k = 0 := by omega
        subst hk
        have hl2 : H2 l = some (.lst (((g :: ws).map V.int).reverse)) := by
          rw [hl, List.map_cons, List.reverse_cons, List.map_reverse]
        generalize hW : g :: ws = W at *
        have hlW : ((W.map V.int).reverse).length = W.length := by rw [List.length_reverse, List.length_map]
        walk_at "rd"
        show iRng1 _ _ _ _
        refine rd_rng1 ?_
        walk_at "rd"
        refine ⟨l, _, rfl, .inl (SqL.of hl2), ?_⟩
        rw [hlW]
        refine ⟨_, rfl, by omega, by omega, fun D2 hD3 => lc_range (lo := 0) (n := W.length)
          (fun i H3 => Same H2 H3 ∧ H3 D2 = some (.lst ((W.take i).map V.int))) ⟨same_new hD3, upd_same⟩ ?_ ?_⟩
        · rintro i H3 hi ⟨hs3, hacc⟩
          refine ⟨rfl, ?_⟩
          refine rd_tyes ?_
          refine rd_yes rfl ?_
          have ei : W[i]? = some W[i] := by simp [hi]
          generalize W[i] = o at ei
          have er : ((W.map V.int).reverse)[W.length - 1 - i]? = some (V.int o) := by
            rw [List.getElem?_reverse (by rw [List.length_map]; omega), List.length_map, List.getElem?_map, show W.length - 1 - (W.length - 1 - i) = i by omega, ei]
            rfl
          walk_at "rd"
          refine ⟨l, _, rfl, .inl (SqL.of (hs3 _ _ hl2)), ?_⟩
          walk_at "rd"
          refine rd_ixL (hs3 _ _ hl2) (at_of (j := W.length - 1 - i) (by omega) er) ?_
          refine ⟨_, hacc, ?_, fun y o' e' => ?_, ?_⟩
          · refine Nat.lt_of_le_of_lt (?_ : _ ≤ 200) (by decide)
            rw [List.length_map]
            exact Nat.le_trans (List.length_take_le' _ _) (by omega)
          · rw [upd_ne (ne_of_none e' hD3)]
            exact hs3 y o' e'
          · rw [upd_same, take_snoc ei, List.map_append]
            rfl
        · rintro H3 ⟨hs3, hacc⟩
          rw [List.take_length] at hacc
          subst hW
          refine q1 D2 _ H3 Dd (hs.trans hs3) hacc hUp.way (by omega) hFar fun t x y hx hy => ?_
          have hm := hTg t x y hx hy
          obtain ⟨e1, _, _⟩ := hpar _ hm
          have hy2 : y ∈ lineOf b ps := by
            unfold lineOf
            exact List.mem_cons_of_mem _ (List.mem_map.mpr ⟨_, hm, rfl⟩)
          have := hlow y hy2
          exact ⟨e1, by omega⟩
end
end Mw

/-! K10 -/
namespace Mw
open PySem L2
theorem roomTo_at {m : Int} {L : List Tie} {sp mo : Int} {U : List Int} (hR : Right m L sp mo) {k : Nat} {q : Tie} {u i j : Int} (hq : L[k]? = some q) (hu : U[k]? = some u) (ha : atP i j q = true) : roomTo L U i j = if i > j then q.2.2.2 - (-u) else q.2.2.1 - u := by
  unfold roomTo
  rw [hR.findz hq hu ha]
  rfl
theorem roomTo_no {L : List Tie} {U : List Int} {i j : Int} (h : ∀ (k : Nat) q, L[k]? = some q → atP i j q = false) : roomTo L U i j = 0 := by
  unfold roomTo
  cases e : (L.zip U).find? fun x => atP i j x.1 with
  | none => rfl
  | some x =>
    have ha := List.find?_some e
    obtain ⟨k, hk⟩ := List.mem_iff_getElem?.mp (List.mem_of_find?_eq_some e)
    rw [List.getElem?_zip_eq_some] at hk
    rw [h k x.1 hk.1] at ha
    cases ha
theorem atP_comm {i j : Int} {q : Tie} (h : atP i j q = true) : atP j i q = true := by
  simp only [atP, Bool.and_eq_true, beq_iff_eq] at h ⊢
  omega
theorem Sent1.room {m : Int} {L : List Tie} {sp mo : Int} (hR : Right m L sp mo) {U U' : List Int} {i j u : Int} (hU : U.length = L.length) (s : Sent1 L U i j u U') :
    (roomTo L U' i j = roomTo L U i j - u ∧ roomTo L U' j i = roomTo L U j i + u) ∧ ∀ x y, ¬ ((x = i ∧ y = j) ∨ (x = j ∧ y = i)) → roomTo L U' x y = roomTo L U x y := by
  obtain ⟨k, q, v, hq, hv, hh⟩ := s
  have bq := hR.most hq
  have kl := (List.getElem?_eq_some_iff.mp hv).1
  have ha : atP i j q = true := by
    simp only [atP, Bool.and_eq_true, beq_iff_eq]
    rcases hh with ⟨e1, e2, _⟩ | ⟨e1, e2, _⟩ <;> omega
  have ha2 := atP_comm ha
  have new : ∃ v', U'[k]? = some v' ∧ ((q.1 = i ∧ q.2.1 = j ∧ v' = v + u) ∨ (q.1 = j ∧ q.2.1 = i ∧ v' = v - u)) := by
    rcases hh with ⟨e1, e2, rfl⟩ | ⟨e1, e2, rfl⟩
    · exact ⟨v + u, by simp [kl], .inl ⟨e1, e2, rfl⟩⟩
    · exact ⟨v - u, by simp [kl], .inr ⟨e1, e2, rfl⟩⟩
  obtain ⟨v', hv', hc⟩ := new
  refine ⟨?_, fun x y hxy => ?_⟩
  · rw [roomTo_at hR hq hv ha, roomTo_at hR hq hv ha2, roomTo_at hR hq hv' ha, roomTo_at hR hq hv' ha2]
    rcases hc with ⟨e1, e2, rfl⟩ | ⟨e1, e2, rfl⟩
    · rw [if_neg (by omega), if_neg (by omega), if_pos (by omega), if_pos (by omega)]
      omega
    · rw [if_pos (by omega), if_pos (by omega), if_neg (by omega), if_neg (by omega)]
      omega
  · by_cases c : ∃ (k' : Nat) (q' : Tie), L[k']? = some q' ∧ atP x y q' = true
    · obtain ⟨k', q', hq', ha'⟩ := c
      have nk : k ≠ k' := fun e => by
        subst e
        rw [hq] at hq'
        cases hq'
        simp only [atP, Bool.and_eq_true, beq_iff_eq] at ha ha'
        omega
      have kl' : k' < U.length := by
        have := (List.getElem?_eq_some_iff.mp hq').1
        omega
      have hu' : U[k']? = some (U[k']'kl') := by simp
      have hu2 : U'[k']? = some (U[k']'kl') := by
        rcases hh with ⟨_, _, rfl⟩ | ⟨_, _, rfl⟩
        · rw [List.getElem?_set_ne nk]
          exact hu'
        · rw [List.getElem?_set_ne nk]
          exact hu'
      rw [roomTo_at hR hq' hu' ha', roomTo_at hR hq' hu2 ha']
    · have no : ∀ (k' : Nat) q', L[k']? = some q' → atP x y q' = false := fun k' q' h => by
        cases e : atP x y q' with
        | false => rfl
        | true => exact absurd ⟨k', q', h, e⟩ c
      rw [roomTo_no no, roomTo_no no]
/-- what is left of the rooms behind the first n steps -/
structure SentX (L : List Tie) (U : List Int) (ws : List Int) (u : Int) (n : Nat) (U' : List Int) : Prop where
  hit : ∀ (t : Nat) (x y : Int), t < n → ws[t]? = some x → ws[t + 1]? = some y → roomTo L U' x y = roomTo L U x y - u ∧ roomTo L U' y x = roomTo L U y x + u
  rest : ∀ x y : Int, (∀ t : Nat, t < n → ¬ ((ws[t]? = some x ∧ ws[t + 1]? = some y) ∨ (ws[t]? = some y ∧ ws[t + 1]? = some x))) → roomTo L U' x y = roomTo L U x y
theorem SentX.zero {L : List Tie} {U ws : List Int} {u : Int} : SentX L U ws u 0 U := ⟨fun t x y h => absurd h (Nat.not_lt_zero t), fun x y _ => rfl⟩
theorem SentX.step {m : Int} {L : List Tie} {sp mo : Int} (hR : Right m L sp mo) {U ws U1 U2 : List Int} {u : Int} {n : Nat} {x y : Int} (h : SentX L U ws u n U1) (hU : U1.length = L.length) (ho : Once ws) (hx : ws[n]? = some x) (hy : ws[n + 1]? = some y) (s : Sent1 L U1 x y u U2) : SentX L U ws u (n + 1) U2 := by
  obtain ⟨⟨s1, s2⟩, s3⟩ := s.room hR hU
  refine ⟨fun t a b ht ha hb => ?_, fun a b hab => ?_⟩
  · by_cases c : t < n
    · have hn := ho t n a b x y c ha hb hx hy
      obtain ⟨h1, h2⟩ := h.hit t a b c ha hb
      rw [s3 a b (fun z => hn z), s3 b a (fun z => hn (z.elim (fun ⟨e1, e2⟩ => .inr ⟨e2, e1⟩) (fun ⟨e1, e2⟩ => .inl ⟨e2, e1⟩)))]
      exact ⟨h1, h2⟩
    · have e : t = n := by omega
      subst e
      rw [hx] at ha
      rw [hy] at hb
      cases ha
      cases hb
      have r1 := h.rest x y fun t' ht' z => by
        rcases z with ⟨z1, z2⟩ | ⟨z1, z2⟩
        · exact ho t' t x y x y ht' z1 z2 hx hy (.inl ⟨rfl, rfl⟩)
        · exact ho t' t y x x y ht' z1 z2 hx hy (.inr ⟨rfl, rfl⟩)
      have r2 := h.rest y x fun t' ht' z => by
        rcases z with ⟨z1, z2⟩ | ⟨z1, z2⟩
        · exact ho t' t y x x y ht' z1 z2 hx hy (.inr ⟨rfl, rfl⟩)
        · exact ho t' t x y x y ht' z1 z2 hx hy (.inl ⟨rfl, rfl⟩)
      rw [s1, s2, r1, r2]
      exact ⟨rfl, rfl⟩
  · rw [s3 a b fun z => ?_]
    · exact h.rest a b fun t ht => hab t (by omega)
    · refine hab n (by omega) ?_
      rcases z with ⟨rfl, rfl⟩ | ⟨rfl, rfl⟩
      · exact .inl ⟨hx, hy⟩
      · exact .inr ⟨hx, hy⟩
def spSentB (C : Addr) : Sp := fun vs H Q _ => ∃ (p : Addr) (v : V) (m : Int) (L : List Tie) (sp mo : Int) (c r : Addr) (U ws : List Int) (b e u : Int), vs = [v, .ref c, .ref r, .int u] ∧ Tp C p H (planD m L sp mo) v ∧ Right m L sp mo ∧ U.length = L.length ∧ FitU L U ∧ H c = some (.tup (U.map V.int)) ∧ H r = some (.lst (ws.map V.int)) ∧
  Route L U b e ws ∧ 0 ≤ u ∧ u ≤ 2000000 ∧ (∀ (t : Nat) (x y z : Int), ws[t]? = some x → ws[t + 1]? = some y → roomUp L U x y z → u ≤ z) ∧
  ∀ (c' : Addr) (U' : List Int) (H' : Hp), Same H H' → H c' = none → H' c' = some (.tup (U'.map V.int)) → SentN L U ws u (ws.length - 1) U' → SentX L U ws u (ws.length - 1) U' → Q (.ref c') H'
def spLeastB (C : Addr) : Sp := fun vs H Q _ => ∃ (p : Addr) (v : V) (m : Int) (L : List Tie) (sp mo : Int) (c r : Addr) (U ws : List Int) (b e : Int), vs = [v, .ref c, .ref r] ∧ Tp C p H (planD m L sp mo) v ∧ Right m L sp mo ∧ U.length = L.length ∧ FitU L U ∧ H c = some (.tup (U.map V.int)) ∧ H r = some (.lst (ws.map V.int)) ∧
  Route L U b e ws ∧ 2 ≤ ws.length ∧ ∀ (z : Int) (H' : Hp), Same H H' → 0 < z → z < 2000000 → (∀ (t : Nat) (x y z' : Int), ws[t]? = some x → ws[t + 1]? = some y → roomUp L U x y z' → z ≤ z') → (∃ (t : Nat) (x y : Int), ws[t]? = some x ∧ ws[t + 1]? = some y ∧ z = roomTo L U x y) → Q (.int z) H'
section
variable {P : Program} {w : World} {K : PySem.W.Frag} {mg : Str → Option Value} {base : Heap}
local macro_rules | `(tactic| walk_at "rd") => `(tactic| (repeat (first
  | ((with_reducible refine' rd_var ?h0 ?_); (case h0 => rfl))
  | with_reducible refine rd_c ?_
  | with_reducible refine rd_op ?_
  | with_reducible refine rd_nil ?_
  | with_reducible refine rd_cons ?_
  | with_reducible refine rd_tup ?_
  | with_reducible refine rd_lst ?_
  | with_reducible refine rd_ifs ?_
  | with_reducible refine rd_seq ?_
  | with_reducible refine rd_next ?_
  | with_reducible refine rd_ret ?_
  | with_reducible refine rd_asg ?_
  | ((with_reducible refine' rd_gset ?hs ?_); (case hs => ((simp only [L2.start, List.map_cons, List.map_nil, List.length_cons, List.length_nil, List.cons_append, List.nil_append, List.set_cons_zero, List.set_cons_succ, Nat.reduceAdd, Nat.reduceSub, Nat.zero_add, List.reduceReplicate]); rfl)))
  | with_reducible refine rd_drop ?_
  | with_reducible refine rd_test ?_
  | with_reducible refine rd_B ?_
  | with_reducible refine rd_bl ?_
  | with_reducible refine rd_blP ?_
  | with_reducible refine rd_andV ?_
  | with_reducible refine rd_orV ?_
  | with_reducible refine rd_notV ?_
  | with_reducible refine rd_and ?_
  | with_reducible refine rd_or ?_
  | with_reducible refine rd_not ?_
  | with_reducible refine rd_chain ?_
  | with_reducible refine rd_dput ?_
  | with_reducible refine rd_dget ?_
  | with_reducible refine rd_cb ?_
  | with_reducible refine rd_call ?_
  | with_reducible refine rd_un ?_
  | with_reducible refine rd_sl ?_
  | with_reducible refine rd_nopart ?_
  | with_reducible refine rd_part ?_
  | with_reducible refine rd_intP ?_
  | with_reducible refine rd_rU ?_
  | with_reducible refine rd_fld ?_
  | with_reducible refine rd_eqI ?_
  | with_reducible refine rd_neI ?_
  | with_reducible refine rd_mko ?_
  | with_reducible refine rd_bm ?_
  | with_reducible refine rd_gsub ?_
  | with_reducible refine rd_i0 ?_)))
theorem ok_law_sentB (T : Tx K mg) (B : Bk K mg T) : FnOk P w K mg base CX0 2 B.law_sent.f B.law_sent.fd ["plan", "stream", "houses", "units"] (spSentB T.c_Web) := by
  have G_law_at := ok_law_at (P := P) (w := w) (base := base) T B
  refine B.law_sent.F.ok sc_law_sent (fun vs H Q E h => ?_) (fun cdv A outer s H vs Q E hr h => ?_)
  · obtain ⟨p, v, m, L, sp, mo, c, r, U, ws, b, e, u, rfl, _⟩ := h
    rfl
  · obtain ⟨p, v, m, L, sp, mo, c, r, U, ws, b, e, u, rfl, hv, hR, hU, hF, hc, hr1, hW, u0, u1, hz, q⟩ := h
    refine ⟨_, (pss_cons (ps_set (i := 4) sc_law_sent.nd rfl (Or.inl rfl) (pe_callTy call_list_of (by rfl) T.b_list (by decide +kernel) (pa_cons (pv 1) pa_nil)))
      (pss_cons (ps_for PassesOwn.never rfl (RZ.pi_zipA (by rfl) T.b_zip (pa_cons (pv 2) (pa_cons (pe_slice sl_list (pv 2) (po_some pe_int) po_none) pa_nil))) (pg_tup (by rfl) (pgs_cons (pg_name (i := 5) sc_law_sent.nd rfl (Or.inl rfl)) (pgs_cons (pg_name (i := 6) sc_law_sent.nd rfl (Or.inl rfl)) pgs_nil))) (pss_cons (ps_set (i := 7) sc_law_sent.nd rfl (Or.inl rfl) (pe_call G_law_at (hr.mono (by decide)) rfl B.law_at.m B.law_at.F.kp B.law_at.b .nil pass0 (pa_cons (pv 0) (pa_cons (pv 5) (pa_cons (pv 6) pa_nil)))))
      (pss_one (ps_asg (pe_op op_add (pe_ix ix_list (pv 4) (pv 7) (fun _ _ => rfl)) (pe_op op_mul (pv 3) (pe_op op_sub pe_int (pe_op op_mul pe_int (pe_callTy call_int1 (by rfl) T.b_int (by decide +kernel) (pa_cons (pe_cmpR op_gt (pv 5) (pv 6) (nomark _)) pa_nil)))))) (pg_sub (pv 4) (pv 7) set_list)))))
      (pss_one (ps_ret (pe_callTy call_tuple_of (by rfl) T.b_tuple (by decide +kernel) (pa_cons (pv 4) pa_nil)))))), ?_⟩
    have hL := hR.len
    walk_at "rd"
    refine ⟨c, _, rfl, .inr (SqT.of hc), fun f nf => ?_⟩
    walk_at "rd"
    show RZ.iZipA _ _ _ _ _
    refine rd_izip ?_
    have s1 := same_new (o := .lst (U.map V.int)) nf
    walk_at "rd"
    refine rd_slL1 (s1 _ _ hr1) fun t1 nt => ?_
    have nt1 := s1.free nt
    have s2 := s1.trans (same_new (o := .lst (ws.tail.map V.int)) nt)
    have hft : f ≠ t1 := ne_of_none (H := upd H f (.lst (U.map V.int))) upd_same nt
    have hfr : f ≠ r := (ne_of_none hr1 nf).symm
    refine ⟨r, t1, _, _, rfl, .inl ⟨SqL.of (s2 _ _ hr1), SqL.of upd_same, for_zipS (K := K) (a := r) (b := t1) (xs := ws.map V.int) (ys := ws.tail.map V.int) (by simp)
      (fun n σ H1 => Same H H1 ∧ H1 t1 = some (.lst (ws.tail.map V.int)) ∧ (∃ U1, H1 f = some (.lst (U1.map V.int)) ∧ SentN L U ws u n U1 ∧ SentX L U ws u n U1) ∧ ∃ x1 x2 x3, σ = [some v, some (.ref c), some (.ref r), some (.int u), some (.ref f), x1, x2, x3])
      ⟨s2, upd_same, ⟨U, (upd_ne hft).trans upd_same, SentN.zero hF, SentX.zero⟩, none, none, none, rfl⟩ (fun n σ H1 hh => ⟨SqL.of (hh.1 _ _ hr1), SqL.of hh.2.1⟩) ?_ ?_⟩⟩
    · rintro n x y t σ H1 hx hy ⟨hs, ht1, ⟨U1, hf, hS, hX⟩, x1, x2, x3, rfl⟩ nT
      obtain ⟨i, hi, rfl⟩ := mapint_get hx
      obtain ⟨j, hj, rfl⟩ := mapint_get hy
      rw [List.getElem?_tail] at hj
      have hs3 := hs.trans (same_new (o := .tup [.int i, .int j]) nT)
      have hf3 : (upd H1 t (.tup [.int i, .int j])) f = some (.lst (U1.map V.int)) := (upd_ne (ne_of_none hf nT)).trans hf
      have ht3 : (upd H1 t (.tup [.int i, .int j])) t1 = some (.lst (ws.tail.map V.int)) := (upd_ne (ne_of_none ht1 nT)).trans ht1
      have hh := hW.hop n i j hi hj
      obtain ⟨z, z0, hup⟩ := hh
      obtain ⟨k0, q0, v0, hk0, hv0, hh0⟩ := id hup
      obtain ⟨k, q1, v1, hk, hv1, ha, ez⟩ := hup.at hR
      have ek : k0 = k := by
        have bq := hR.most hk0
        unfold atP at ha
        simp only [Bool.and_eq_true, beq_iff_eq] at ha
        refine hR.one hk0 hk ?_ ?_
        · rw [ha.1]
          rcases hh0 with ⟨e1, e2, _⟩ | ⟨e1, e2, _⟩ <;> omega
        · rw [ha.2]
          rcases hh0 with ⟨e1, e2, _⟩ | ⟨e1, e2, _⟩ <;> omega
      subst ek
      rw [hk] at hk0
      cases hk0
      have hkU1 : k0 < U1.length := by
        rw [hS.len, hU]
        exact (List.getElem?_eq_some_iff.mp hk).1
      have hv2 : U1[k0]? = some U1[k0] := by simp [hkU1]
      generalize U1[k0] = v2 at hv2
      have bq := hR.most hk
      refine ⟨t, _, rfl, SqT.of upd_same, rfl, _, _, rfl, _, _, rfl, rfl, ?_⟩
      walk_at "rd"
      refine ⟨p, v, m, L, sp, mo, i, j, rfl, Tp.keep (Keep.same hs3) _ _ hv, hR.len, fun H2 s4 => ⟨fun k' t' hk' ha' _ => ?_, fun hno => ?_⟩⟩
      · have e : k' = k0 := by
          unfold atP at ha ha'
          simp only [Bool.and_eq_true, beq_iff_eq] at ha ha'
          exact hR.one hk' hk (by rw [ha.1, ha'.1]) (by rw [ha.2, ha'.2])
        subst e
        have hf4 := s4 _ _ hf3
        walk_at "rd"
        refine rd_ixL hf4 (atI_nat (by rw [List.getElem?_map, hv2]; rfl)) ?_
        walk_at "rd"
        refine .inr ⟨_, rfl, ?_⟩
        walk_at "rd"
        refine rd_iC (.inl ⟨by omega, by omega⟩) ?_
        walk_at "rd"
        refine rd_iC (.inl ⟨by omega, by omega⟩) ?_
        walk_at "rd"
        refine rd_setL hf4 (ixN_nat (by rw [List.length_map]; exact hkU1)) ?_
        have hSent : ∃ U2, Sent1 L U1 i j u U2 ∧ (U1.map V.int).set k' (V.int (v2 + u * (1 - 2 * (if decide (j < i) = true then 1 else 0)))) = U2.map V.int := by
          rcases hh0 with ⟨e1, e2, _⟩ | ⟨e1, e2, _⟩
          · refine ⟨U1.set k' (v2 + u), ⟨k', q0, v2, hk, hv2, .inl ⟨e1, e2, rfl⟩⟩, ?_⟩
            rw [if_neg (by simp; omega), List.map_set]
            simp
          · refine ⟨U1.set k' (v2 - u), ⟨k', q0, v2, hk, hv2, .inr ⟨e1, e2, rfl⟩⟩, ?_⟩
            rw [if_pos (by simp; omega), List.map_set, show v2 + u * (1 - 2 * 1) = v2 - u by omega]
        obtain ⟨U2, hS2, eU⟩ := hSent
        rw [eU]
        refine ⟨fun x o' e' => ?_, ?_, ⟨U2, upd_same, hS.step hR hU hW u0 hz hi hj hS2, hX.step hR (by rw [hS.len, hU]) hW.once hi hj hS2⟩, _, _, _, rfl⟩
        · rw [upd_ne (ne_of_none e' nf)]
          exact s4 _ _ (hs3 x o' e')
        · rw [upd_ne hft.symm]
          exact s4 _ _ ht3
      · rw [hno k0 q0 hk] at ha
        cases ha
    · rintro σ H1 ⟨hs, ht1, ⟨U1, hf, hS, hX⟩, x1, x2, x3, rfl⟩
      rw [List.length_map, List.length_tail] at hS hX
      walk_at "rd"
      refine ⟨f, _, rfl, .inl ⟨SqL.of hf, fun l hl => ?_⟩⟩
      exact q l U1 _ (hs.trans (same_new hl)) (hs.free hl) upd_same hS hX
theorem ok_law_leastB (T : Tx K mg) (B : Bk K mg T) : FnOk P w K mg base CX0 4 B.law_least_room.f B.law_least_room.fd ["plan", "stream", "houses"] (spLeastB T.c_Web) := by
  have G_law_room := ok_law_room (P := P) (w := w) (base := base) T B
  refine B.law_least_room.F.ok sc_law_least_room (fun vs H Q E h => ?_) (fun cdv A outer s H vs Q E hr h => ?_)
  · obtain ⟨p, v, m, L, sp, mo, c, r, U, ws, b, e, rfl, _⟩ := h
    rfl
  · obtain ⟨p, v, m, L, sp, mo, c, r, U, ws, b, e, rfl, hv, hR, hU, hF, hc, hr1, hW, h2, q⟩ := h
    refine ⟨_, (pss_one (ps_ret (pe_callB (cr_min rfl) (by rfl) T.b_min (by decide +kernel) (pa_cons (pe_lc (own := [("one", 3), ("other", 4)]) (g := (gTup K 2 (gCons (gName 3) (gCons (gName 4) gNil)))) rfl sc_law_least_room.nd (RZ.pi_zipA (by rfl) T.b_zip (pa_cons (pv 2) (pa_cons (pe_slice sl_list (pv 2) (po_some pe_int) po_none) pa_nil))) (blkOk_by (own := [("one", 3), ("other", 4)]) (N := ["plan", "stream", "houses", "one", "other"]) (sc := defScope s_law_least_room) (by decide +kernel)) (fun _ _ _ _ _ => (pg_tup (by rfl) (pgs_cons (pg_name (i := 3) sc_law_least_room.nd rfl (Or.inl rfl)) (pgs_cons (pg_name (i := 4) sc_law_least_room.nd rfl (Or.inl rfl)) pgs_nil)))) (fun _ _ _ _ _ => pts_nil) (fun _ _ _ _ _ => (pe_call G_law_room (hr.mono (by decide)) rfl B.law_room.m B.law_room.F.kp B.law_room.b .nil pass0 (pa_cons (pv 0) (pa_cons (pv 1) (pa_cons (pv 3) (pa_cons (pv 4) pa_nil))))))) pa_nil)))), ?_⟩
    have hfew := hW.few
    walk_at "rd"
    show RZ.iZipA _ _ _ _ _
    refine rd_izip ?_
    walk_at "rd"
    refine rd_slL1 hr1 fun t1 nt => ?_
    have s2 := same_new (o := .lst (ws.tail.map V.int)) nt
    refine ⟨r, t1, _, _, rfl, .inl ⟨SqL.of (s2 _ _ hr1), SqL.of upd_same, fun D hD => lc_zipS (K := K) (a := r) (b := t1) (xs := ws.map V.int) (ys := ws.tail.map V.int) (by simp)
      (fun n H1 => Same H H1 ∧ H1 t1 = some (.lst (ws.tail.map V.int)) ∧ H1 D = some (.lst ((((ws.zip ws.tail).take n).map fun x => roomTo L U x.1 x.2).map V.int)))
      ⟨s2.trans (same_new hD), (upd_ne (ne_of_none (H := upd H t1 (.lst (ws.tail.map V.int))) upd_same hD)).trans upd_same, upd_same⟩ (fun n H1 hh => ⟨SqL.of (hh.1 _ _ hr1), SqL.of hh.2.1⟩) ?_ ?_⟩⟩
    · rintro n x y t H1 hx hy ⟨hs, ht1, hacc⟩ nT
      obtain ⟨i, hi, rfl⟩ := mapint_get hx
      obtain ⟨j, hj, rfl⟩ := mapint_get hy
      have hj' := hj
      rw [List.getElem?_tail] at hj'
      have hs3 := hs.trans (same_new (o := .tup [.int i, .int j]) nT)
      have ht3 : (upd H1 t (.tup [.int i, .int j])) t1 = some (.lst (ws.tail.map V.int)) := (upd_ne (ne_of_none ht1 nT)).trans ht1
      have hacc3 : (upd H1 t (.tup [.int i, .int j])) D = some (.lst _) := (upd_ne (ne_of_none hacc nT)).trans hacc
      obtain ⟨z0, hup⟩ := (hW.hop n i j hi hj').to hR
      refine ⟨t, _, rfl, SqT.of upd_same, rfl, _, _, rfl, _, _, rfl, rfl, ?_⟩
      refine ⟨rfl, ?_⟩
      refine rd_tyes ?_
      refine rd_yes rfl ?_
      walk_at "rd"
      refine ⟨p, v, m, L, sp, mo, c, U, i, j, _, rfl, Tp.keep (Keep.same hs3) _ _ hv, hR, hs3 _ _ hc, hup, fun H4 s4 => ?_⟩
      refine ⟨_, s4 _ _ hacc3, ?_, fun y o' e' => ?_, ?_, ?_⟩
      · refine Nat.lt_of_le_of_lt (?_ : _ ≤ 200) (by decide)
        rw [List.length_map, List.length_map]
        exact Nat.le_trans (List.length_take_le' _ _) (by rw [List.length_zip]; omega)
      · rw [upd_ne (ne_of_none (s2 _ _ e') hD)]
        exact s4 _ _ (hs3 y o' e')
      · rw [upd_ne (ne_of_none (H := upd H t1 (.lst (ws.tail.map V.int))) upd_same hD)]
        exact s4 _ _ ht3
      · rw [upd_same, zip_snoc hi hj, List.map_append, List.map_append]
        rfl
    · rintro H1 ⟨hs, ht1, hacc⟩
      rw [List.take_of_length_le (by rw [List.length_zip]; simp)] at hacc
      dsimp only
      walk_at "rd"
      refine ⟨D, _, rfl, SqL.of hacc, by rw [List.length_map, List.length_zip, List.length_tail]; omega, fun z hz hall => ?_⟩
      obtain ⟨x, hx, rfl⟩ := List.mem_map.mp hz
      obtain ⟨t, ht⟩ := List.mem_iff_getElem?.mp hx
      rw [List.getElem?_zip_eq_some, List.getElem?_tail] at ht
      obtain ⟨z0, hup⟩ := (hW.hop t _ _ ht.1 ht.2).to hR
      refine q _ H1 hs z0 (room_most hR hF hup).2 (fun t' x' y' z' h1 h2 h3 => ?_) ⟨t, _, _, ht.1, ht.2, rfl⟩
      rw [← roomTo_up hR h3]
      refine hall _ (List.mem_map.mpr ⟨(x', y'), List.mem_of_getElem? (i := t') ?_, rfl⟩)
      rw [List.getElem?_zip_eq_some, List.getElem?_tail]
      exact ⟨h1, h2⟩
end
end Mw

/-! K11 -/
namespace Mw
open PySem L2
def spGreatB (C : Addr) : Sp := fun vs H Q _ => ∃ (p : Addr) (v : V) (m : Int) (L : List Tie) (sp mo : Int), vs = [v] ∧ Tp C p H (planD m L sp mo) v ∧ Right m L sp mo ∧
  ∀ (c : Addr) (U : List Int) (H' : Hp), Same H H' → H c = none → H' c = some (.tup (U.map V.int)) → Strm m L sp mo U → (∃ Dd, Far (roomTo L U) sp Dd ∧ Dd mo = 10) → Q (.ref c) H'
/-- a step of a way -/
def onW (ws : List Int) (x y : Int) : Prop := ∃ t : Nat, ws[t]? = some x ∧ ws[t + 1]? = some y
theorem room_nonneg {m : Int} {L : List Tie} {sp mo : Int} {U : List Int} (hR : Right m L sp mo) (hU : U.length = L.length) (hF : FitU L U) (i j : Int) : 0 ≤ roomTo L U i j := by
  by_cases c : ∃ (k : Nat) (q : Tie), L[k]? = some q ∧ atP i j q = true
  · obtain ⟨k, q, hq, ha⟩ := c
    have kl : k < U.length := by
      have := (List.getElem?_eq_some_iff.mp hq).1
      omega
    have hu : U[k]? = some (U[k]'kl) := by simp
    have := hF k q _ hq hu
    rw [roomTo_at hR hq hu ha]
    split <;> omega
  · rw [roomTo_no fun k q hq => by
      cases e : atP i j q with
      | false => rfl
      | true => exact absurd ⟨k, q, hq, e⟩ c]
    exact Int.le_refl 0
theorem fed_of {m : Int} {L : List Tie} {sp mo : Int} {U U' ws : List Int} {z : Int} {Dd : Int → Nat} (hR : Right m L sp mo) (hU : U.length = L.length) (hF : FitU L U) (hW : Way L U sp mo ws) (htg : ∀ (t : Nat) (x y : Int), ws[t]? = some x → ws[t + 1]? = some y → Dd y = Dd x + 1 ∧ Dd y < 10) (z0 : 0 < z)
    (hzx : ∃ (t : Nat) (x y : Int), ws[t]? = some x ∧ ws[t + 1]? = some y ∧ z = roomTo L U x y) (hSX : SentX L U ws z (ws.length - 1) U') (h10 : m ≤ 10) : Fed Dd (roomTo L U) (roomTo L U') (onW ws) := by
  have lt : ∀ {t : Nat} {y : Int}, ws[t + 1]? = some y → t < ws.length - 1 := fun {t y} h => by
    have := (List.getElem?_eq_some_iff.mp h).1
    omega
  refine ⟨fun x y ⟨t, hx, hy⟩ => ?_, fun x y ⟨t, hx, hy⟩ => ?_, fun x y h1 h2 => ?_, ?_⟩
  · exact ⟨((hW.hop t x y hx hy).to hR).1, htg t x y hx hy⟩
  · rw [(hSX.hit t x y (lt hy) hx hy).2]
    have := room_nonneg hR hU hF y x
    omega
  · refine hSX.rest x y fun t _ z => ?_
    rcases z with ⟨e1, e2⟩ | ⟨e1, e2⟩
    · exact h1 ⟨t, e1, e2⟩
    · exact h2 ⟨t, e1, e2⟩
  · obtain ⟨t, x, y, hx, hy, e⟩ := hzx
    obtain ⟨k, q, u, hq, hu, hh⟩ := ((hW.hop t x y hx hy).to hR).2
    have bq := hR.most hq
    refine ⟨x, y, ⟨t, hx, hy⟩, ?_, ?_⟩
    · rw [(hSX.hit t x y (lt hy) hx hy).1]
      omega
    · rcases hh with ⟨e1, e2, _⟩ | ⟨e1, e2, _⟩ <;> omega
theorem most0 {m : Int} {L : List Tie} {sp mo : Int} (hR : Right m L sp mo) {F : Int → Int → Int} {Dd : Int → Nat} (hF : Far F sp Dd) : sum2 (arcH F Dd) + 0 ≤ 369 := by
  have := hR.parts
  have h := sum2_most hF ⟨by omega, by omega⟩ fun v hv => hF.one hv
  rw [Nat.add_zero]
  exact h
section
variable {P : Program} {w : World} {K : PySem.W.Frag} {mg : Str → Option Value} {base : Heap}
local macro_rules | `(tactic| walk_at "rd") => `(tactic| (repeat (first
  | ((with_reducible refine' rd_var ?h0 ?_); (case h0 => rfl))
  | with_reducible refine rd_c ?_
  | with_reducible refine rd_op ?_
  | with_reducible refine rd_nil ?_
  | with_reducible refine rd_cons ?_
  | with_reducible refine rd_tup ?_
  | with_reducible refine rd_lst ?_
  | with_reducible refine rd_ifs ?_
  | with_reducible refine rd_seq ?_
  | with_reducible refine rd_next ?_
  | with_reducible refine rd_ret ?_
  | with_reducible refine rd_asg ?_
  | ((with_reducible refine' rd_gset ?hs ?_); (case hs => ((simp only [L2.start, List.map_cons, List.map_nil, List.length_cons, List.length_nil, List.cons_append, List.nil_append, List.set_cons_zero, List.set_cons_succ, Nat.reduceAdd, Nat.reduceSub, Nat.zero_add, List.reduceReplicate]); rfl)))
  | with_reducible refine rd_drop ?_
  | with_reducible refine rd_test ?_
  | with_reducible refine rd_B ?_
  | with_reducible refine rd_bl ?_
  | with_reducible refine rd_blP ?_
  | with_reducible refine rd_andV ?_
  | with_reducible refine rd_orV ?_
  | with_reducible refine rd_notV ?_
  | with_reducible refine rd_and ?_
  | with_reducible refine rd_or ?_
  | with_reducible refine rd_not ?_
  | with_reducible refine rd_chain ?_
  | with_reducible refine rd_dput ?_
  | with_reducible refine rd_dget ?_
  | with_reducible refine rd_cb ?_
  | with_reducible refine rd_call ?_
  | with_reducible refine rd_un ?_
  | with_reducible refine rd_sl ?_
  | with_reducible refine rd_nopart ?_
  | with_reducible refine rd_part ?_
  | with_reducible refine rd_intP ?_
  | with_reducible refine rd_rU ?_
  | with_reducible refine rd_fld ?_
  | with_reducible refine rd_eqI ?_
  | with_reducible refine rd_neI ?_
  | with_reducible refine rd_mko ?_
  | with_reducible refine rd_bm ?_
  | with_reducible refine rd_gsub ?_
  | with_reducible refine rd_i0 ?_)))
theorem ok_law_greatestB (T : Tx K mg) (B : Bk K mg T) : FnOk P w K mg base CX0 6 B.law_greatest.f B.law_greatest.fd ["plan"] (spGreatB T.c_Web) := by
  have G_law_way := ok_law_wayB (P := P) (w := w) (base := base) T B
  have G_law_sent := ok_law_sentB (P := P) (w := w) (base := base) T B
  have G_law_least_room := ok_law_leastB (P := P) (w := w) (base := base) T B
  refine B.law_greatest.F.ok sc_law_greatest (fun vs H Q E h => ?_) (fun cdv A outer s H vs Q E hr h => ?_)
  · obtain ⟨p, v, m, L, sp, mo, rfl, _⟩ := h
    rfl
  · obtain ⟨p, v, m, L, sp, mo, rfl, hv, hR, q⟩ := h
    refine ⟨_, (pss_cons (ps_set (i := 1) sc_law_greatest.nd rfl (Or.inl rfl) (pe_op op_repN (pe_tup (pa_cons pe_int pa_nil)) (pe_callB call_len_seq (by rfl) T.b_len (by decide +kernel) (pa_cons (pe_ix ix_tup (pv 0) pe_int (fun _ _ => rfl)) pa_nil))))
      (pss_cons (ps_for PassesOwn.never rfl (pi_range1 (by rfl) T.b_range (pa_cons pe_int pa_nil)) (pg_name (i := 2) sc_law_greatest.nd rfl (Or.inl rfl)) (pss_cons (ps_set (i := 3) sc_law_greatest.nd rfl (Or.inl rfl) (pe_call G_law_way (hr.mono (by decide)) rfl B.law_way.m B.law_way.F.kp B.law_way.b .nil pass0 (pa_cons (pv 0) (pa_cons (pv 1) (pa_cons (pe_ix ix_tup (pv 0) pe_int (fun _ _ => rfl)) (pa_cons (pe_ix ix_tup (pv 0) pe_int (fun _ _ => rfl)) pa_nil))))))
      (pss_cons (ps_if (pt_cmpR op_isN (pv 3) pe_non (nomark _)) (pss_one ps_break) pss_nil)
      (pss_one (ps_set (i := 1) sc_law_greatest.nd rfl (Or.inl rfl) (pe_call G_law_sent (hr.mono (by decide)) rfl B.law_sent.m B.law_sent.F.kp B.law_sent.b .nil pass0 (pa_cons (pv 0) (pa_cons (pv 1) (pa_cons (pv 3) (pa_cons (pe_call G_law_least_room (hr.mono (by decide)) rfl B.law_least_room.m B.law_least_room.F.kp B.law_least_room.b .nil pass0 (pa_cons (pv 0) (pa_cons (pv 1) (pa_cons (pv 3) pa_nil)))) pa_nil))))))))))
      (pss_one (ps_ret (pv 1))))), ?_⟩
    have hm := hR.ends
    have hL := hR.len
    obtain ⟨a, xs, rfl, ha, hx⟩ := tp_tup' (id hv)
    obtain ⟨v1, v2, v3, v4, rfl, t1, t2, t3, t4⟩ := tpAll4 hx
    cases tp_int' t1
    cases tp_int' t3
    cases tp_int' t4
    obtain ⟨ct, xs, rfl, hct, hx⟩ := tp_tup' t2
    have hlen : xs.length = L.length := by
      have := hx.len
      simpa using this.symm
    walk_at "rd"
    refine rd_disp rfl fun c0 n0 => ?_
    have s0 := same_new (o := .tup [.int 0]) n0
    walk_at "rd"
    refine rd_ixT (s0 _ _ ha.2) rfl ?_
    refine ⟨ct, xs, rfl, .inr (SqT.of (s0 _ _ hct.2)), ?_⟩
    rw [hlen]
    refine rd_repN upd_same (by omega) (by omega) s0 n0 fun c1 H1 s1 nc1 hc1 => ?_
    rw [Int.toNat_natCast, ← List.map_replicate (f := V.int) (a := 0)] at hc1
    walk_at "rd"
    refine ⟨_, rfl, by decide, by decide, for_range (lo := 0) (n := 400) (fun n σ H2 => Same H H2 ∧ ∃ c U u1 u2, H c = none ∧ H2 c = some (.tup (U.map V.int)) ∧ Strm m L sp mo U ∧ (∀ Dd, Far (roomTo L U) sp Dd → sum2 (arcH (roomTo L U) Dd) + n ≤ 369) ∧ n ≤ 370 ∧ σ = [some (.ref a), some (.ref c), u1, u2])
      ⟨s1, c1, _, none, none, nc1, hc1, Strm.zero hR, fun Dd hF => most0 hR hF, Nat.zero_le _, rfl⟩ ?_ ?_⟩
    · rintro n σ H2 hn ⟨hs, c, U, u1, u2, nc, hc, hS, hM, hn370, rfl⟩
      walk_at "rd"
      refine rd_ixT (hs _ _ ha.2) rfl ?_
      walk_at "rd"
      refine rd_ixT (hs _ _ ha.2) rfl ?_
      refine ⟨p, .ref a, m, L, sp, mo, c, U, sp, mo, rfl, Tp.keep (Keep.same hs) _ _ hv, hR, hS.len, hc, by omega, by omega, fun H3 Dd s3 hFar h10 => ?_, fun r ws H3 Dd s3 hr3 hW hf hFar htg => ?_⟩
      · walk_at "rd"
        refine ⟨rfl, ?_⟩
        walk_at "rd"
        refine rd_yes rfl ?_
        refine rd_break ?_
        walk_at "rd"
        exact q c U _ (hs.trans s3) nc (s3 _ _ hc) hS ⟨Dd, hFar, h10⟩
      · have hRt := hW.route hf
        walk_at "rd"
        refine ⟨rfl, ?_⟩
        walk_at "rd"
        refine rd_no rfl ?_
        have hs3 := hs.trans s3
        walk_at "rd"
        refine ⟨p, .ref a, m, L, sp, mo, c, r, U, ws, sp, mo, rfl, Tp.keep (Keep.same hs3) _ _ hv, hR, hS.len, hS.fit, s3 _ _ hc, hr3, hRt, hW.two (by omega), fun z H4 s4 z0 z1 hz hzx => ?_⟩
        walk_at "rd"
        refine ⟨p, .ref a, m, L, sp, mo, c, r, U, ws, sp, mo, z, rfl, Tp.keep (Keep.same (hs3.trans s4)) _ _ hv, hR, hS.len, hS.fit, s4 _ _ (s3 _ _ hc), s4 _ _ hr3, hRt, by omega, by omega, hz, fun c' U' H5 s5 nc' hc' hSn hSX => ?_⟩
        have hm1 := hM Dd hFar
        have hp := hR.parts
        refine ⟨(hs3.trans s4).trans s5, c', U', _, _, (hs3.trans s4).free nc', hc', hS.send hRt hSn (.inr ⟨.inl rfl, .inr rfl⟩), fun Dd' hFar' => ?_, by omega, rfl⟩
        have hlt := round_lt hFar hFar' (fed_of hR hS.len hS.fit hW htg z0 hzx hSX (by omega))
        omega
    · rintro σ H2 ⟨hs, c, U, u1, u2, nc, hc, hS, hM, hn370, rfl⟩
      walk_at "rd"
      omega
end
end Mw

/-! S1 -/
/-! Sides: what lets out of one holds every stream's worth; it is the worth where no room leads out. -/
namespace Mw
open PySem L2
def bI (b : Bool) : Int := if b = true then 1 else 0
def outT (R : Int → Bool) (q : Tie) : Int := (if R q.1 = true ∧ R q.2.1 = false then q.2.2.1 else 0) + (if R q.2.1 = true ∧ R q.1 = false then q.2.2.2 else 0)
def outR (L : List Tie) (R : Int → Bool) : Int := (L.map (outT R)).sum
def slkT (R : Int → Bool) (x : Tie × Int) : Int := (if R x.1.1 = true ∧ R x.1.2.1 = false then x.1.2.2.1 - x.2 else 0) + (if R x.1.2.1 = true ∧ R x.1.1 = false then x.1.2.2.2 + x.2 else 0)
def slack (L : List Tie) (U : List Int) (R : Int → Bool) : Int := ((L.zip U).map (slkT R)).sum
def crsT (R : Int → Bool) (x : Tie × Int) : Int := (bI (R x.1.1) - bI (R x.1.2.1)) * x.2
theorem slk_one (R : Int → Bool) (x : Tie × Int) : slkT R x = outT R x.1 - crsT R x := by
  unfold slkT outT crsT bI
  cases h1 : R x.1.1 <;> cases h2 : R x.1.2.1 <;> simp <;> omega
theorem slack_eq (R : Int → Bool) : ∀ (L : List Tie) (U : List Int), U.length = L.length → slack L U R = outR L R - ((L.zip U).map (crsT R)).sum
  | [], U, _ => rfl
  | q :: L, [], h => by simp at h
  | q :: L, u :: U, h => by
    have ih := slack_eq R L U (by simpa using h)
    unfold slack outR at ih ⊢
    rw [List.zip_cons_cons, List.map_cons, List.map_cons, List.map_cons, List.sum_cons, List.sum_cons, List.sum_cons, ih, slk_one]
    dsimp only
    omega
theorem crs_sum {m : Int} {L : List Tie} {sp mo : Int} (hR : Right m L sp mo) (R : Int → Bool) : ∀ {l : List (Tie × Int)}, (∀ x ∈ l, x.1 ∈ L) →
    sumH m.toNat (fun h => (1 - bI (R h)) * (((l.filter fun x => decide (x.1.2.1 = h)).map (·.2)).sum - ((l.filter fun x => decide (x.1.1 = h)).map (·.2)).sum)) = (l.map (crsT R)).sum
  | [], _ => by
    simp only [List.map_nil, List.sum_nil, List.filter_nil, Int.sub_self, Int.mul_zero]
    exact sumH_zero _
  | x :: l, hl => by
    have ih := crs_sum hR R (l := l) fun y hy => hl y (by simp [hy])
    have b := hR.parts.2.2.1 x.1 (hl x (by simp))
    simp only [TieIn] at b
    rw [List.map_cons, List.sum_cons, ← ih]
    have hx : ∀ v : Int, (if 0 ≤ x.1.1 ∧ x.1.1 < (m.toNat : Int) then v else 0) = v := fun v => if_pos ⟨by omega, by omega⟩
    have hy : ∀ v : Int, (if 0 ≤ x.1.2.1 ∧ x.1.2.1 < (m.toNat : Int) then v else 0) = v := fun v => if_pos ⟨by omega, by omega⟩
    have e : ∀ h : Int, (1 - bI (R h)) * ((((x :: l).filter fun x => decide (x.1.2.1 = h)).map (·.2)).sum - (((x :: l).filter fun x => decide (x.1.1 = h)).map (·.2)).sum)
        = ((if h = x.1.2.1 then (1 - bI (R x.1.2.1)) * x.2 else 0) - (if h = x.1.1 then (1 - bI (R x.1.1)) * x.2 else 0)) + (1 - bI (R h)) * (((l.filter fun x => decide (x.1.2.1 = h)).map (·.2)).sum - ((l.filter fun x => decide (x.1.1 = h)).map (·.2)).sum) := fun h => by
      by_cases c1 : x.1.2.1 = h <;> by_cases c2 : x.1.1 = h
      · omega
      · rw [List.filter_cons_of_pos (by simpa using c1), List.filter_cons_of_neg (by simpa using c2), if_pos c1.symm, if_neg (Ne.symm c2), List.map_cons, List.sum_cons, c1]
        rw [Int.mul_sub, Int.mul_sub, Int.mul_add]
        omega
      · rw [List.filter_cons_of_neg (by simpa using c1), List.filter_cons_of_pos (by simpa using c2), if_neg (Ne.symm c1), if_pos c2.symm, List.map_cons, List.sum_cons, c2]
        rw [Int.mul_sub, Int.mul_sub, Int.mul_add]
        omega
      · rw [List.filter_cons_of_neg (by simpa using c1), List.filter_cons_of_neg (by simpa using c2), if_neg (Ne.symm c1), if_neg (Ne.symm c2)]
        omega
    rw [sumH_congr fun i _ _ => e i, sumH_add, sumH_sub, sumH_one, sumH_one, hx, hy]
    unfold crsT
    rw [Int.sub_mul, Int.sub_mul, Int.sub_mul]
    omega
/-- what a side lets out, less the worth of a stream, is the room that leads out of it -/
theorem cut_all {m : Int} {L : List Tie} {sp mo : Int} {U : List Int} (hR : Right m L sp mo) (hS : Strm m L sp mo U) {R : Int → Bool} (h1 : R sp = true) (h0 : R mo = false) : outR L R - gainOf L U mo = slack L U R := by
  have he := hR.ends
  rw [slack_eq R L U hS.len, ← crs_sum hR R (l := L.zip U) fun x hx => (List.of_mem_zip hx).1]
  have e : sumH m.toNat (fun h => (1 - bI (R h)) * ((((L.zip U).filter fun x => decide (x.1.2.1 = h)).map (·.2)).sum - (((L.zip U).filter fun x => decide (x.1.1 = h)).map (·.2)).sum)) = gainOf L U mo := by
    rw [sumH_congr (g := fun i => if i = mo then gainOf L U mo else 0) fun i i0 i1 => ?_]
    · rw [sumH_one, if_pos ⟨by omega, by omega⟩]
    · show (1 - bI (R i)) * gainOf L U i = _
      by_cases c : i = mo
      · rw [if_pos c, c, h0]
        show (1 - 0) * _ = _
        omega
      · rw [if_neg c]
        by_cases c2 : i = sp
        · rw [c2, h1]
          show (1 - 1) * _ = _
          omega
        · rw [hS.sum i i0 (by omega) c2 c, Int.mul_zero]
  omega
theorem sum_nn {α : Type} {f : α → Int} : ∀ {l : List α}, (∀ y ∈ l, 0 ≤ f y) → 0 ≤ (l.map f).sum
  | [], _ => Int.le_refl 0
  | y :: l, h => by
    rw [List.map_cons, List.sum_cons]
    have h1 := h y (by simp)
    have h2 := sum_nn (l := l) fun z hz => h z (by simp [hz])
    omega
theorem sum_gt {α : Type} {f : α → Int} : ∀ {l : List α}, (∀ y ∈ l, 0 ≤ f y) → (∃ y ∈ l, 0 < f y) → 0 < (l.map f).sum
  | [], _, ⟨y, hy, _⟩ => by cases hy
  | y :: l, h, ⟨z, hz, p⟩ => by
    rw [List.map_cons, List.sum_cons]
    have h1 := h y (by simp)
    rcases List.mem_cons.mp hz with e | hz
    · subst e
      have h2 := sum_nn (l := l) (f := f) fun z hz => h z (by simp [hz])
      omega
    · have h2 := sum_gt (l := l) (f := f) (fun z hz => h z (by simp [hz])) ⟨z, hz, p⟩
      omega
theorem slk_nn {L : List Tie} {U : List Int} (hF : FitU L U) (R : Int → Bool) : ∀ x ∈ L.zip U, 0 ≤ slkT R x := fun x hx => by
  obtain ⟨k, hk⟩ := List.mem_iff_getElem?.mp hx
  rw [List.getElem?_zip_eq_some] at hk
  have := hF k x.1 x.2 hk.1 hk.2
  unfold slkT
  cases h1 : R x.1.1 <;> cases h2 : R x.1.2.1 <;> simp <;> omega
theorem gain_le {m : Int} {L : List Tie} {sp mo : Int} {U : List Int} (hR : Right m L sp mo) (hS : Strm m L sp mo U) {R : Int → Bool} (h1 : R sp = true) (h0 : R mo = false) : gainOf L U mo ≤ outR L R := by
  have h := cut_all hR hS h1 h0
  have h2 : 0 ≤ slack L U R := sum_nn (slk_nn hS.fit R)
  omega
structure Shut (L : List Tie) (U : List Int) (sp mo : Int) (R : Int → Bool) : Prop where
  sp : R sp = true
  mo : R mo = false
  cl : ∀ i j, R i = true → 0 < roomTo L U i j → R j = true
theorem gain_shut {m : Int} {L : List Tie} {sp mo : Int} {U : List Int} {R : Int → Bool} (hR : Right m L sp mo) (hS : Strm m L sp mo U) (h : Shut L U sp mo R) : gainOf L U mo = outR L R := by
  have h1 := cut_all hR hS h.sp h.mo
  have h2 : slack L U R = 0 := sum_none fun x hx => by
    obtain ⟨k, hk⟩ := List.mem_iff_getElem?.mp hx
    rw [List.getElem?_zip_eq_some] at hk
    have f := hS.fit k x.1 x.2 hk.1 hk.2
    have b := hR.most hk.1
    have a1 : atP x.1.1 x.1.2.1 x.1 = true := by
      simp only [atP, Bool.and_eq_true, beq_iff_eq]
      omega
    have r1 := roomTo_at hR hk.1 hk.2 a1
    have r2 := roomTo_at hR hk.1 hk.2 (atP_comm a1)
    rw [if_neg (by omega)] at r1
    rw [if_pos (by omega)] at r2
    have c1 := h.cl x.1.1 x.1.2.1
    have c2 := h.cl x.1.2.1 x.1.1
    unfold slkT
    cases e1 : R x.1.1 <;> cases e2 : R x.1.2.1
    · simp
    · have : ¬ 0 < roomTo L U x.1.2.1 x.1.1 := fun z => by
        have := c2 e2 z
        rw [e1] at this
        cases this
      simp
      omega
    · have : ¬ 0 < roomTo L U x.1.1 x.1.2.1 := fun z => by
        have := c1 e1 z
        rw [e2] at this
        cases this
      simp
      omega
    · simp
  omega
theorem gain_lt {m : Int} {L : List Tie} {sp mo : Int} {U : List Int} {R : Int → Bool} (hR : Right m L sp mo) (hS : Strm m L sp mo U) (h1 : R sp = true) (h0 : R mo = false) (hx : ∃ i j, R i = true ∧ R j = false ∧ 0 < roomTo L U i j) : gainOf L U mo < outR L R := by
  have h := cut_all hR hS h1 h0
  have h2 : 0 < slack L U R := sum_gt (slk_nn hS.fit R) (by
    obtain ⟨i, j, ri, rj, p⟩ := hx
    obtain ⟨z, z0, k, q, u, hq, hu, hh⟩ := (hop_room hR hS.len).mpr p
    refine ⟨(q, u), List.mem_of_getElem? (zip_get hq hu), ?_⟩
    unfold slkT
    rcases hh with ⟨rfl, rfl, e⟩ | ⟨rfl, rfl, e⟩
    · dsimp only at e ⊢
      rw [ri, rj]
      simp
      omega
    · dsimp only at e ⊢
      rw [ri, rj]
      simp
      omega)
  omega
/-- a shut side holds what is near -/
theorem far_in {F : Int → Int → Int} {b : Int} {D : Int → Nat} {R : Int → Bool} (h : Far F b D) (hb : R b = true) (hc : ∀ i j, R i = true → 0 < F i j → R j = true) : ∀ v, D v < 10 → R v = true := by
  have key : ∀ (n : Nat) (v : Int), D v = n → n < 10 → R v = true := by
    intro n
    induction n with
    | zero =>
      intro v hv _
      by_cases e : v = b
      · rw [e]
        exact hb
      · obtain ⟨u, _, e2⟩ := h.ex v e (by omega)
        omega
    | succ n ih =>
      intro v hv hn
      by_cases e : v = b
      · rw [e]
        exact hb
      · obtain ⟨u, hu, e2⟩ := h.ex v e (by omega)
        exact hc u v (ih u (by omega) (by omega)) hu
  exact fun v hv => key _ v rfl hv
/-- where the mouth is far, what is near is shut -/
theorem far_shut {L : List Tie} {U : List Int} {sp mo : Int} {D : Int → Nat} (h : Far (roomTo L U) sp D) (hm : D mo = 10) : Shut L U sp mo fun v => decide (D v < 10) := by
  refine ⟨by simp [h.beg], by simp [hm], fun i j hi p => ?_⟩
  simp only [decide_eq_true_eq] at hi ⊢
  exact h.cl i j hi p
/-- where the mouth is near, a room leads out of every side -/
theorem far_out {L : List Tie} {U : List Int} {sp mo : Int} {D : Int → Nat} {R : Int → Bool} (h : Far (roomTo L U) sp D) (hm : D mo < 10) (h1 : R sp = true) (h0 : R mo = false) : ∃ i j, R i = true ∧ R j = false ∧ 0 < roomTo L U i j := by
  refine Classical.byContradiction fun c => ?_
  have := far_in h h1 (fun i j hi p => by
    cases e : R j with
    | true => rfl
    | false => exact absurd ⟨i, j, hi, e, p⟩ c) mo hm
  rw [h0] at this
  cases this
theorem sum_filter {α : Type} (f : α → Int) (p : α → Bool) : ∀ l : List α, ((l.filter p).map f).sum = (l.map fun x => if p x = true then f x else 0).sum
  | [] => rfl
  | x :: l => by
    cases e : p x with
    | true => rw [List.filter_cons_of_pos e, List.map_cons, List.map_cons, List.sum_cons, List.sum_cons, sum_filter f p l, if_pos e]
    | false => rw [List.filter_cons_of_neg (by rw [e]; simp), List.map_cons, List.sum_cons, sum_filter f p l, if_neg (by rw [e]; simp), Int.zero_add]
theorem sum_both {α : Type} (f g : α → Int) : ∀ l : List α, (l.map fun x => f x + g x).sum = (l.map f).sum + (l.map g).sum
  | [] => rfl
  | x :: l => by
    simp only [List.map_cons, List.sum_cons, sum_both f g l]
    omega
def isIn (ns : List Int) (h : Int) : Bool := inV (.int h) (ns.map V.int)
theorem outSum_R (L : List Tie) (ns : List Int) : outSum L ns = outR L (isIn ns) := by
  unfold outSum outR
  rw [sum_filter, sum_filter, ← sum_both]
  congr 1
  refine List.map_congr_left fun q _ => ?_
  unfold outT isIn
  cases h1 : inV (.int q.1) (ns.map V.int) <;> cases h2 : inV (.int q.2.1) (ns.map V.int) <;> simp
end Mw

/-! S2 -/
/-! The rooms as a dict, and what becomes of them by steps of a way. -/
namespace Mw
open PySem L2
abbrev RmA : Tie → Int → Int := fun q u => q.2.2.1 - u
abbrev RmB : Tie → Int → Int := fun q u => q.2.2.2 + u
abbrev Rooms (L : List Tie) (U : List Int) (kvs : List (List Key × V)) : Prop := ToldG RmA RmB L U L.length kvs
theorem fv_room {m : Int} {L : List Tie} {sp mo : Int} {U : List Int} {kvs : List (List Key × V)} (hR : Right m L sp mo) (hU : U.length = L.length) (ht : Rooms L U kvs) (i j : Int) : fv kvs i j = roomTo L U i j := by
  by_cases c : ∃ (k : Nat) (q : Tie), L[k]? = some q ∧ atP i j q = true
  · obtain ⟨k, q, hq, ha⟩ := c
    have kl := (List.getElem?_eq_some_iff.mp hq).1
    have hu : U[k]? = some (U[k]'(by omega)) := by simp
    have b := hR.most hq
    obtain ⟨t1, t2⟩ := ht.at_ k q _ kl hq hu
    rw [roomTo_at hR hq hu ha]
    simp only [atP, Bool.and_eq_true, beq_iff_eq] at ha
    by_cases c : i > j
    · rw [if_pos c]
      have e1 : i = q.2.1 := by omega
      have e2 : j = q.1 := by omega
      subst e1 e2
      unfold fv
      rw [t2]
      simp
    · rw [if_neg c]
      have e1 : i = q.1 := by omega
      have e2 : j = q.2.1 := by omega
      subst e1 e2
      unfold fv
      rw [t1]
  · rw [roomTo_no fun k q hq => by
      cases e : atP i j q with
      | false => rfl
      | true => exact absurd ⟨k, q, hq, e⟩ c]
    unfold fv
    cases e : valV kvs (keyP i j) with
    | none => rfl
    | some v =>
      obtain ⟨k, q, u, hk, hq, hu, hh⟩ := ht.all _ _ e
      have b := hR.most hq
      exfalso
      refine c ⟨k, q, hq, ?_⟩
      simp only [atP, Bool.and_eq_true, beq_iff_eq]
      rcases hh with ⟨e1, _⟩ | ⟨e1, _⟩
      · have := keyP_inj e1
        omega
      · have := keyP_inj e1
        omega
theorem Rooms.sent {m : Int} {L : List Tie} {sp mo : Int} {U U' : List Int} {kvs : List (List Key × V)} {i j u : Int} (hR : Right m L sp mo) (hU : U.length = L.length) (ht : Rooms L U kvs) (s : Sent1 L U i j u U') :
    Rooms L U' (putK (putK kvs (keyP i j) (.int (fv kvs i j - u))) (keyP j i) (.int (fv kvs j i + u))) ∧ (putK (putK kvs (keyP i j) (.int (fv kvs i j - u))) (keyP j i) (.int (fv kvs j i + u))).length = kvs.length ∧ valV kvs (keyP i j) = some (.int (fv kvs i j)) ∧ valV kvs (keyP j i) = some (.int (fv kvs j i)) ∧ i ≠ j := by
  obtain ⟨k, q, v, hq, hv, hh⟩ := s
  have kl := (List.getElem?_eq_some_iff.mp hq).1
  have kU := (List.getElem?_eq_some_iff.mp hv).1
  have b := hR.most hq
  obtain ⟨t1, t2⟩ := ht.at_ k q v kl hq hv
  have nij : i ≠ j := by
    rcases hh with ⟨e1, e2, _⟩ | ⟨e1, e2, _⟩ <;> omega
  have v1 : valV kvs (keyP i j) = some (.int (fv kvs i j)) := by
    rcases hh with ⟨e1, e2, _⟩ | ⟨e1, e2, _⟩
    · subst e1 e2
      unfold fv
      rw [t1]
    · subst e1 e2
      unfold fv
      rw [t2]
  have v2 : valV kvs (keyP j i) = some (.int (fv kvs j i)) := by
    rcases hh with ⟨e1, e2, _⟩ | ⟨e1, e2, _⟩
    · subst e1 e2
      unfold fv
      rw [t2]
    · subst e1 e2
      unfold fv
      rw [t1]
  have nk : ¬ keyP j i = keyP i j := fun e => by
    have := keyP_inj e
    omega
  have v3 : valV (putK kvs (keyP i j) (.int (fv kvs i j - u))) (keyP j i) = some (.int (fv kvs j i)) := by
    rw [valV_put, if_neg nk]
    exact v2
  have len : (putK (putK kvs (keyP i j) (.int (fv kvs i j - u))) (keyP j i) (.int (fv kvs j i + u))).length = kvs.length := by rw [putK_same v3, putK_same v1]
  have new : ∃ v', U'[k]? = some v' ∧ (∀ k', k' ≠ k → U'[k']? = U[k']?) ∧ ((q.1 = i ∧ q.2.1 = j ∧ v' = v + u) ∨ (q.1 = j ∧ q.2.1 = i ∧ v' = v - u)) := by
    rcases hh with ⟨e1, e2, rfl⟩ | ⟨e1, e2, rfl⟩
    · exact ⟨v + u, by simp [kU], fun k' n => by rw [List.getElem?_set, if_neg (Ne.symm n)], .inl ⟨e1, e2, rfl⟩⟩
    · exact ⟨v - u, by simp [kU], fun k' n => by rw [List.getElem?_set, if_neg (Ne.symm n)], .inr ⟨e1, e2, rfl⟩⟩
  obtain ⟨v', hv', hoth, hc⟩ := new
  have fij : (q.1 = i ∧ q.2.1 = j ∧ v' = v + u ∧ fv kvs i j = q.2.2.1 - v ∧ fv kvs j i = q.2.2.2 + v) ∨ (q.1 = j ∧ q.2.1 = i ∧ v' = v - u ∧ fv kvs j i = q.2.2.1 - v ∧ fv kvs i j = q.2.2.2 + v) := by
    rcases hc with ⟨e1, e2, e3⟩ | ⟨e1, e2, e3⟩
    · subst e1 e2
      refine .inl ⟨rfl, rfl, e3, ?_, ?_⟩
      · unfold fv
        rw [t1]
      · unfold fv
        rw [t2]
    · subst e1 e2
      refine .inr ⟨rfl, rfl, e3, ?_, ?_⟩
      · unfold fv
        rw [t1]
      · unfold fv
        rw [t2]
  refine ⟨⟨by rw [len]; exact ht.len, fun k' r w hk' hr hw => ?_, fun y x hx => ?_⟩, len, v1, v2, nij⟩
  · have br := hR.most hr
    by_cases c : k' = k
    · subst c
      rw [hq] at hr
      rw [hv'] at hw
      cases hr
      cases hw
      rw [valV_put, valV_put, valV_put, valV_put]
      rcases fij with ⟨e1, e2, e3, e4, e5⟩ | ⟨e1, e2, e3, e4, e5⟩
      · subst e1 e2
        rw [if_neg (Ne.symm nk), if_pos rfl, if_pos rfl]
        exact ⟨by congr 2; show _ = _ - _; omega, by congr 2; show _ = _ + _; omega⟩
      · subst e1 e2
        rw [if_pos rfl, if_neg (Ne.symm nk), if_pos rfl]
        exact ⟨by congr 2; show _ = _ - _; omega, by congr 2; show _ = _ + _; omega⟩
    · rw [hoth k' c] at hw
      have no1 : ¬ (r.1 = q.1 ∧ r.2.1 = q.2.1) := fun e => c (hR.one hr hq e.1 e.2)
      have n1 : ¬ keyP r.1 r.2.1 = keyP j i := fun e => by
        have := keyP_inj e
        omega
      have n2 : ¬ keyP r.1 r.2.1 = keyP i j := fun e => by
        have := keyP_inj e
        omega
      have n3 : ¬ keyP r.2.1 r.1 = keyP j i := fun e => by
        have := keyP_inj e
        omega
      have n4 : ¬ keyP r.2.1 r.1 = keyP i j := fun e => by
        have := keyP_inj e
        omega
      rw [valV_put, valV_put, valV_put, valV_put, if_neg n1, if_neg n2, if_neg n3, if_neg n4]
      exact ht.at_ k' r w hk' hr hw
  · rw [valV_put, valV_put] at hx
    by_cases c1 : y = keyP j i
    · rw [if_pos c1] at hx
      cases hx
      refine ⟨k, q, v', kl, hq, hv', ?_⟩
      rcases fij with ⟨e1, e2, e3, e4, e5⟩ | ⟨e1, e2, e3, e4, e5⟩
      · subst e1 e2
        exact .inr ⟨c1, by congr 1; show _ = _ + _; omega⟩
      · subst e1 e2
        exact .inl ⟨c1, by congr 1; show _ = _ - _; omega⟩
    · rw [if_neg c1] at hx
      by_cases c2 : y = keyP i j
      · rw [if_pos c2] at hx
        cases hx
        refine ⟨k, q, v', kl, hq, hv', ?_⟩
        rcases fij with ⟨e1, e2, e3, e4, e5⟩ | ⟨e1, e2, e3, e4, e5⟩
        · subst e1 e2
          exact .inl ⟨c2, by congr 1; show _ = _ - _; omega⟩
        · subst e1 e2
          exact .inr ⟨c2, by congr 1; show _ = _ + _; omega⟩
      · rw [if_neg c2] at hx
        obtain ⟨k', r, w, hk', hr, hw, hz⟩ := ht.all y x hx
        have ne : k' ≠ k := fun e => by
          subst e
          rw [hq] at hr
          cases hr
          rcases fij with ⟨e1, e2, _⟩ | ⟨e1, e2, _⟩ <;> rcases hz with ⟨z1, _⟩ | ⟨z1, _⟩
          · exact c2 (by rw [z1, e1, e2])
          · exact c1 (by rw [z1, e1, e2])
          · exact c1 (by rw [z1, e1, e2])
          · exact c2 (by rw [z1, e1, e2])
        exact ⟨k', r, w, hk', hr, by rw [hoth k' ne]; exact hw, hz⟩
/-- the way of pairs is one of rooms -/
theorem WayF.way {m : Int} {L : List Tie} {sp mo : Int} {U : List Int} {kvs : List (List Key × V)} {ws : List Int} {b e : Int} (hR : Right m L sp mo) (hU : U.length = L.length) (ht : Rooms L U kvs) (h : WayF m (fv kvs) b e ws) : Way L U b e ws :=
  ⟨h.hd, h.lst, h.nd, fun t x y hx hy => (hop_room hR hU).mpr (by rw [← fv_room hR hU ht]; exact h.hop t x y hx hy)⟩
/-- the tie of a step -/
theorem hop_sent {m : Int} {L : List Tie} {sp mo : Int} {U U1 : List Int} (hR : Right m L sp mo) (hU : U.length = L.length) (hU1 : U1.length = L.length) {x y u : Int} (h : Hop L U x y) : ∃ U2, Sent1 L U1 x y u U2 := by
  obtain ⟨z, _, k, q, v, hq, hv, hh⟩ := h
  have kl := (List.getElem?_eq_some_iff.mp hq).1
  have hv1 : U1[k]? = some (U1[k]'(by omega)) := by simp
  rcases hh with ⟨e1, e2, _⟩ | ⟨e1, e2, _⟩
  · exact ⟨_, k, q, _, hq, hv1, .inl ⟨e1, e2, rfl⟩⟩
  · exact ⟨_, k, q, _, hq, hv1, .inr ⟨e1, e2, rfl⟩⟩
theorem rch_cl {m : Int} {L : List Tie} {sp mo : Int} {U : List Int} {kvs : List (List Key × V)} {ps : List (Int × Int)} (hR : Right m L sp mo) (hU : U.length = L.length) (ht : Rooms L U kvs) (hc : ∀ g ∈ lineOf sp ps, Closed m (fv kvs) (lineOf sp ps) g) (i j : Int) (hi : i ∈ lineOf sp ps) (p : 0 < roomTo L U i j) : j ∈ lineOf sp ps := by
  obtain ⟨z, _, k, q, v, hq, hv, hh⟩ := (hop_room hR hU).mpr p
  have b := hR.most hq
  refine hc i hi j ?_ ?_ (by rw [fv_room hR hU ht]; exact p)
  · rcases hh with ⟨_, e, _⟩ | ⟨e, _, _⟩ <;> omega
  · rcases hh with ⟨_, e, _⟩ | ⟨e, _, _⟩ <;> omega
theorem rch_shut {m : Int} {L : List Tie} {sp mo : Int} {U : List Int} {kvs : List (List Key × V)} {ps : List (Int × Int)} (hR : Right m L sp mo) (hU : U.length = L.length) (ht : Rooms L U kvs) (hc : ∀ g ∈ lineOf sp ps, Closed m (fv kvs) (lineOf sp ps) g) (hm : mo ∉ lineOf sp ps) : Shut L U sp mo fun h => decide (h ∈ lineOf sp ps) := by
  refine ⟨by simp [lineOf], by simpa using hm, fun i j hi p => ?_⟩
  simp only [decide_eq_true_eq] at hi ⊢
  exact rch_cl hR hU ht hc i j hi p
/-- the houses that rooms lead to, ascending -/
structure NearL (Dd : Int → Nat) (ns : List Int) : Prop where
  nd : ns.Nodup
  st : ns.Pairwise (· ≤ ·)
  mem : ∀ v, v ∈ ns ↔ Dd v < 10
theorem sorted_one : ∀ {l1 l2 : List Int}, l1.Perm l2 → l1.Pairwise (· ≤ ·) → l2.Pairwise (· ≤ ·) → l1 = l2
  | [], l2, h, _, _ => h.nil_eq
  | x :: l1, [], h, _, _ => absurd h.length_eq (by simp)
  | x :: l1, y :: l2, h, h1, h2 => by
    have hx := List.pairwise_cons.mp h1
    have hy := List.pairwise_cons.mp h2
    have e : x = y := by
      have a1 : x ∈ y :: l2 := h.mem_iff.mp (by simp)
      have a2 : y ∈ x :: l1 := h.mem_iff.mpr (by simp)
      rcases List.mem_cons.mp a1 with z | z
      · exact z
      · rcases List.mem_cons.mp a2 with z2 | z2
        · exact z2.symm
        · have := hx.1 y z2
          have := hy.1 x z
          omega
    subst e
    rw [sorted_one ((List.perm_cons x).mp h) hx.2 hy.2]
theorem perm_mem : ∀ {l1 l2 : List Int}, l1.Nodup → l2.Nodup → (∀ v, v ∈ l1 ↔ v ∈ l2) → l1.Perm l2
  | [], [], _, _, _ => .nil
  | [], y :: l2, _, _, h => absurd ((h y).mpr (by simp)) (by simp)
  | x :: l1, l2, h1, h2, h => by
    have hx : x ∈ l2 := (h x).mp (by simp)
    obtain ⟨h3, h4⟩ := List.nodup_cons.mp h1
    refine (List.Perm.cons x (perm_mem h4 (h2.erase x) fun v => ?_)).trans (List.perm_cons_erase hx).symm
    rw [h2.mem_erase_iff]
    constructor
    · intro hv
      exact ⟨fun e => h3 (e ▸ hv), (h v).mp (by simp [hv])⟩
    · rintro ⟨n, hv⟩
      rcases List.mem_cons.mp ((h v).mpr hv) with e | e
      · exact absurd e n
      · exact e
theorem NearL.one {Dd : Int → Nat} {ns ns' : List Int} (h : NearL Dd ns) (h' : NearL Dd ns') : ns = ns' :=
  sorted_one (perm_mem h.nd h'.nd fun v => (h.mem v).trans (h'.mem v).symm) h.st h'.st
theorem rch_near {m : Int} {L : List Tie} {sp mo : Int} {U : List Int} {kvs : List (List Key × V)} {ps : List (Int × Int)} {Dd : Int → Nat} (hR : Right m L sp mo) (hU : U.length = L.length) (ht : Rooms L U kvs) (hT : Rch m (fv kvs) sp ps) (hc : ∀ g ∈ lineOf sp ps, Closed m (fv kvs) (lineOf sp ps) g) (hF : Far (roomTo L U) sp Dd) (v : Int) : v ∈ lineOf sp ps ↔ Dd v < 10 := by
  constructor
  · intro hv
    have key : ∀ (n j : Nat) (v : Int), j ≤ n → (lineOf sp ps)[j]? = some v → Dd v < 10 := by
      intro n
      induction n with
      | zero =>
        intro j v hj hv
        have e : j = 0 := by omega
        subst e
        have : v = sp := by simpa [lineOf] using hv.symm
        rw [this, hF.beg]
        omega
      | succ n ih =>
        intro j v hj hv
        cases j with
        | zero => exact ih 0 v (by omega) hv
        | succ k =>
          have e1 : (ps.map (·.1))[k]? = some v := hv
          rw [List.getElem?_map] at e1
          cases ex : ps[k]? with
          | none =>
            rw [ex] at e1
            cases e1
          | some x =>
            rw [ex] at e1
            have ev : x.1 = v := Option.some.inj e1
            obtain ⟨⟨k2, hk2, hl2⟩, hp⟩ := hT.up k x ex
            rw [fv_room hR hU ht, ev] at hp
            exact hF.cl _ _ (ih k2 x.2 (by omega) hl2) hp
    obtain ⟨j, hj⟩ := List.mem_iff_getElem?.mp hv
    exact key j j v (Nat.le_refl _) hj
  · intro hv
    have := far_in (R := fun h => decide (h ∈ lineOf sp ps)) hF (by simp [lineOf]) (fun i j hi p => by
      simp only [decide_eq_true_eq] at hi ⊢
      exact rch_cl hR hU ht hc i j hi p) v hv
    simpa using this
end Mw

/-! S3 -/
namespace Mw
open PySem L2
theorem rd_aug {i : Nat} {te : TE} {ti : TIp} {D : Ends} {σ : L2.St} {H : Hp} {x : V} (h : σ[i]? = some (some x)) (q : te σ H fun y H1 => ti x y H1 fun z H2 => D.nx (σ.set i (some z)) H2) : tAug i te ti D σ H := ⟨x, h, q⟩
theorem rd_daug {td ty tv : TE} {rd : V → V → Hp → VK → Prop} {D : Ends} {σ : L2.St} {H : Hp} (h : td σ H fun x H1 => ty σ H1 fun y H2 => ∃ a v, x = .ref a ∧ DGet H2 a y (some v) ∧ tv σ H2 fun y2 H3 => rd v y2 H3 fun z H4 => ∃ H5, DPut H4 a y z H5 ∧ D.nx σ H5) : sDAug td ty tv rd D σ H := h
/-- where the greatest stream stands -/
def Top (m : Int) (L : List Tie) (sp mo t : Int) : Prop := ∃ U R, Strm m L sp mo U ∧ Shut L U sp mo R ∧ gainOf L U mo = t
def R0 (sp : Int) : Int → Bool := fun h => decide (h = sp)
def spMost (C : Addr) : Sp := fun vs H Q _ => ∃ p a m L sp mo, vs = [.ref a] ∧ WebAt C p H a m L sp mo ∧ Right m L sp mo ∧ ∀ t H', Same H H' → Top m L sp mo t → Q (.int t) H'
/-- at the head of the loop -/
def MostW (H : Hp) (a f : Addr) (m sp mo : Int) (L : List Tie) (μ : Nat) (σ : L2.St) (H1 : Hp) : Prop := ∃ kvs U ps r u1 u2 u3 u4, Same H H1 ∧ H1 f = some (.dT kvs) ∧ Rooms L U kvs ∧ Strm m L sp mo U ∧ H1 r = some (.dK (kvsR sp ps)) ∧ Rch m (fv kvs) sp ps ∧ (∀ g ∈ lineOf sp ps, Closed m (fv kvs) (lineOf sp ps) g) ∧
  σ = [some (.ref a), some (.ref f), some (.int (gainOf L U mo)), some (.ref r), u1, u2, u3, u4] ∧ μ = (outR L (R0 sp) - gainOf L U mo).toNat
theorem gain_zero {m : Int} {L : List Tie} {sp mo : Int} (hR : Right m L sp mo) (h : Int) : gainOf L (List.replicate L.length 0) h = 0 := by
  have z : ∀ l : List (Tie × Int), (∀ x ∈ l, x.2 = 0) → (l.map (·.2)).sum = 0 := fun l hl => sum_none hl
  have z2 : ∀ x ∈ L.zip (List.replicate L.length 0), x.2 = (0 : Int) := fun x hx => List.eq_of_mem_replicate (List.of_mem_zip hx).2
  unfold gainOf comes goes
  rw [z _ fun x hx => z2 x (List.mem_filter.mp hx).1, z _ fun x hx => z2 x (List.mem_filter.mp hx).1]
  rfl
section
variable {P : Program} {w : World} {K : PySem.W.Frag} {mg : Str → Option Value} {base : Heap}
local macro_rules | `(tactic| walk_at "rd") => `(tactic| (repeat (first
  | ((with_reducible refine' rd_var ?h0 ?_); (case h0 => rfl))
  | with_reducible refine rd_c ?_
  | with_reducible refine rd_op ?_
  | with_reducible refine rd_nil ?_
  | with_reducible refine rd_cons ?_
  | with_reducible refine rd_tup ?_
  | with_reducible refine rd_lst ?_
  | with_reducible refine rd_ifs ?_
  | with_reducible refine rd_seq ?_
  | with_reducible refine rd_next ?_
  | with_reducible refine rd_ret ?_
  | with_reducible refine rd_asg ?_
  | ((with_reducible refine' rd_gset ?hs ?_); (case hs => ((simp only [L2.start, List.map_cons, List.map_nil, List.length_cons, List.length_nil, List.cons_append, List.nil_append, List.set_cons_zero, List.set_cons_succ, Nat.reduceAdd, Nat.reduceSub, Nat.zero_add, List.reduceReplicate]); rfl)))
  | with_reducible refine rd_drop ?_
  | with_reducible refine rd_test ?_
  | with_reducible refine rd_B ?_
  | with_reducible refine rd_bl ?_
  | with_reducible refine rd_blP ?_
  | with_reducible refine rd_andV ?_
  | with_reducible refine rd_orV ?_
  | with_reducible refine rd_notV ?_
  | with_reducible refine rd_and ?_
  | with_reducible refine rd_or ?_
  | with_reducible refine rd_not ?_
  | with_reducible refine rd_chain ?_
  | with_reducible refine rd_dput ?_
  | with_reducible refine rd_dget ?_
  | with_reducible refine rd_cb ?_
  | with_reducible refine rd_call ?_
  | with_reducible refine rd_un ?_
  | with_reducible refine rd_sl ?_
  | with_reducible refine rd_nopart ?_
  | with_reducible refine rd_part ?_
  | with_reducible refine rd_intP ?_
  | with_reducible refine rd_rU ?_
  | with_reducible refine rd_fld ?_
  | with_reducible refine rd_eqI ?_
  | with_reducible refine rd_neI ?_
  | with_reducible refine rd_mko ?_
  | with_reducible refine rd_bm ?_
  | with_reducible refine rd_gsub ?_
  | with_reducible refine rd_i0 ?_)))
theorem ok_most (T : Tx K mg) (B : Bk K mg T) : FnOk P w K mg base CX0 6 B.most.f B.most.fd ["web"] (spMost T.c_Web) := by
  have G_room_each_way := ok_room_each (P := P) (w := w) (base := base) T B
  have G_reached := ok_reached (P := P) (w := w) (base := base) T B
  have G_way_to_mouth := ok_way_to_mouth (P := P) (w := w) (base := base) T B
  have G_narrowest := ok_narrowest (P := P) (w := w) (base := base) T B
  have G_steps := ok_steps (P := P) (w := w) (base := base) T B
  refine B.most.F.ok sc_most (fun vs H Q E h => ?_) (fun cdv A outer s H vs Q E hr h => ?_)
  · obtain ⟨p, a, m, L, sp, mo, rfl, _⟩ := h
    rfl
  · obtain ⟨p, a, m, L, sp, mo, rfl, hw, hR, q⟩ := h
    refine ⟨_, (pss_cons (ps_set (i := 1) sc_most.nd rfl (Or.inl rfl) (pe_call G_room_each_way (hr.mono (by decide)) rfl B.room_each_way.m B.room_each_way.F.kp B.room_each_way.b .nil pass0 (pa_cons (pv 0) (pa_cons (pe_op op_repN (pe_tup (pa_cons pe_int pa_nil)) (pe_callB call_len_seq (by rfl) T.b_len (by decide +kernel) (pa_cons (pe_fld (pv 0) rfl) pa_nil))) pa_nil))))
      (pss_cons (ps_set (i := 2) sc_most.nd rfl (Or.inl rfl) pe_int)
      (pss_cons (ps_set (i := 3) sc_most.nd rfl (Or.inl rfl) (pe_call G_reached (hr.mono (by decide)) rfl B.reached.m B.reached.F.kp B.reached.b .nil pass0 (pa_cons (pv 0) (pa_cons (pv 1) pa_nil))))
      (pss_cons (ps_while PassesOwn.never (pt_cmp (pc_din (hu_of hr) (pe_fld (pv 0) rfl) (pv 3))) (pss_cons (ps_set (i := 4) sc_most.nd rfl (Or.inl rfl) (pe_call G_way_to_mouth (hr.mono (by decide)) rfl B.way_to_mouth.m B.way_to_mouth.F.kp B.way_to_mouth.b .nil pass0 (pa_cons (pv 0) (pa_cons (pv 3) pa_nil))))
      (pss_cons (ps_set (i := 5) sc_most.nd rfl (Or.inl rfl) (pe_call G_narrowest (hr.mono (by decide)) rfl B.narrowest.m B.narrowest.F.kp B.narrowest.b .nil pass0 (pa_cons (pv 1) (pa_cons (pv 4) pa_nil))))
      (pss_cons (ps_for PassesOwn.never rfl (pi_list (pe_call G_steps (hr.mono (by decide)) rfl B.steps.m B.steps.F.kp B.steps.b .nil pass0 (pa_cons (pv 4) pa_nil))) (pg_tup (by rfl) (pgs_cons (pg_name (i := 6) sc_most.nd rfl (Or.inl rfl)) (pgs_cons (pg_name (i := 7) sc_most.nd rfl (Or.inl rfl)) pgs_nil))) (pss_cons (ps_daug (hu_of hr) (pv 1) (pe_tup (pa_cons (pv 6) (pa_cons (pv 7) pa_nil))) (pv 5) in_sub (fun _ _ _ => rfl))
      (pss_one (ps_daug (hu_of hr) (pv 1) (pe_tup (pa_cons (pv 7) (pa_cons (pv 6) pa_nil))) (pv 5) in_add (fun _ _ _ => rfl)))))
      (pss_cons (ps_aug (i := 2) sc_most.nd rfl (Or.inl rfl) (pv 5) ip_add)
      (pss_one (ps_set (i := 3) sc_most.nd rfl (Or.inl rfl) (pe_call G_reached (hr.mono (by decide)) rfl B.reached.m B.reached.F.kp B.reached.b .nil pass0 (pa_cons (pv 0) (pa_cons (pv 1) pa_nil))))))))))
      (pss_one (ps_ret (pv 2))))))), ?_⟩
    have he := hR.ends
    have hm := hR.parts
    have hL := hR.len
    obtain ⟨dx, v2, v5, v6, ha, t2, hwy, hlt⟩ := id hw
    obtain ⟨ct, xs, rfl, hct, hx⟩ := tp_tup' t2
    have hlen : xs.length = L.length := by
      have := hx.len
      simpa using this.symm
    walk_at "rd"
    refine rd_disp rfl fun c0 n0 => ?_
    have s0 := same_new (o := .tup [.int 0]) n0
    walk_at "rd"
    refine ⟨a, T.c_Web, dx, _, _, rfl, s0 _ _ ha.2, T.W.cl, T.na_ties, wf_ties _ _ _ _ _ _, ?_⟩
    walk_at "rd"
    refine ⟨ct, xs, rfl, .inr (SqT.of (s0 _ _ hct.2)), ?_⟩
    rw [hlen]
    refine rd_repN upd_same (by omega) (by omega) s0 n0 fun c1 H1 s1 nc1 hc1 => ?_
    rw [Int.toNat_natCast, ← List.map_replicate (f := V.int) (a := 0)] at hc1
    walk_at "rd"
    refine ⟨p, a, m, L, sp, mo, c1, _, rfl, hw.keep (Keep.same s1), hR, List.length_replicate, hc1, fun f kvs H2 s2 nf hf ht => ?_⟩
    have s12 := s1.trans s2
    have nfH := s1.free nf
    walk_at "rd"
    refine ⟨p, a, m, L, sp, mo, f, kvs, rfl, hw.keep (Keep.same s12), by omega, by omega, by omega, hf, ht.ints, fun r ps H3 s3 hr3 hRc hcl => ?_⟩
    have hS0 := Strm.zero (m := m) (L := L) (sp := sp) (mo := mo) hR
    walk_at "rd"
    refine ⟨MostW H a f m sp mo L, ⟨_, kvs, _, ps, r, none, none, none, none, s12.trans s3, s3 _ _ hf, ht, hS0, hr3, hRc, hcl, by rw [gain_zero hR], rfl⟩, ?_⟩
    rintro μ σ H4 ⟨kv, U, ps4, r4, u1, u2, u3, u4, hs, hf4, ht4, hS, hr4, hRc4, hcl4, rfl, hμ⟩
    have hkl : kv.length ≤ 200 := by
      have := ht4.len
      omega
    walk_at "rd"
    refine rd_din ?_
    walk_at "rd"
    refine ⟨a, T.c_Web, dx, _, _, rfl, hs _ _ ha.2, T.W.cl, T.na_mouth, wf_mouth _ _ _ _ _ _, ?_⟩
    walk_at "rd"
    refine ⟨r4, _, rfl, DGet.k (k := .inl mo) hr4, ?_⟩
    walk_at "rd"
    refine rd_ite (fun h1 => ?_) (fun h1 => ?_)
    · have hmo : mo ∈ lineOf sp ps4 := by
        cases e : valV (kvsR sp ps4) (.inl mo) with
        | none =>
          rw [e] at h1
          cases h1
        | some x => exact kvsR_some e
      refine ⟨fun σ' H' => ∃ m', m' < μ ∧ MostW H a f m sp mo L m' σ' H', fun _ _ h => h, ?_⟩
      walk_at "rd"
      refine ⟨p, a, m, L, sp, mo, r4, ps4, fv kv, rfl, hw.keep (Keep.same hs), by omega, hr4, hRc4, hmo, fun wy ws H5 s5 nwy hwy hW => ?_⟩
      have hs5 := hs.trans s5
      have h2w := hW.two he.2.2.2.2
      have hfw := hW.few
      have hWy := hW.way hR hS.len ht4
      have hRt := hWy.route (by omega)
      walk_at "rd"
      refine ⟨f, wy, kv, ws, rfl, s5 _ _ hf4, ht4.ints, hwy, h2w, by omega, hW.hop, fun z H6 s6 z0 hz hz2 => ?_⟩
      have hs6 := hs5.trans s6
      have hzr : ∀ (t : Nat) (x y z' : Int), ws[t]? = some x → ws[t + 1]? = some y → roomUp L U x y z' → z ≤ z' := fun t x y z' g1 g2 g3 => by
        rw [← roomTo_up hR g3, ← fv_room hR hS.len ht4]
        exact hz t x y g1 g2
      walk_at "rd"
      show iList _ _ _ _ _
      refine rd_ilist ?_
      walk_at "rd"
      refine ⟨wy, ws, rfl, s6 _ _ hwy, fun D H7 s7 nD ⟨ts, hlD, hnD, hpD⟩ => ?_⟩
      have hs7 := hs6.trans s7
      have k47 : ∀ b o, H4 b = some o → H7 b = some o := fun b o e => s7 _ _ (s6 _ _ (s5 _ _ e))
      have hfD : f ≠ D := ne_of_none (s6 _ _ (s5 _ _ hf4)) nD
      refine ⟨D, rfl, ⟨_, SqL.of hlD⟩, for_list (K := K) (a := D) (xs := ts.map V.ref)
        (fun i σ H8 => Same H H8 ∧ (∀ b o, b ≠ f → H7 b = some o → H8 b = some o) ∧ (∃ kn Un, H8 f = some (.dT kn) ∧ kn.length ≤ 200 ∧ Rooms L Un kn ∧ SentN L U ws z i Un) ∧ ∃ u3 u4, σ = [some (.ref a), some (.ref f), some (.int (gainOf L U mo)), some (.ref r4), some (.ref wy), some (.int z), u3, u4])
        ⟨hs7, fun _ _ _ e => e, ⟨kv, U, k47 _ _ hf4, hkl, ht4, SentN.zero hS.fit⟩, _, _, rfl⟩ (fun i σ H8 _ hh => SqL.of (hh.2.1 _ _ hfD.symm hlD)) ?_ ?_⟩
      · rintro i y σ H8 hi ⟨hs8, k8, ⟨kn, Un, hf8, hkn, htn, hSn⟩, u3, u4, rfl⟩
        rw [List.getElem?_map] at hi
        cases ht8 : ts[i]? with
        | none =>
          rw [ht8] at hi
          cases hi
        | some t =>
          rw [ht8] at hi
          obtain rfl : V.ref t = y := Option.some.inj hi
          obtain ⟨x, y, hx, hy, htup⟩ := hpD i t ht8
          have hUn : Un.length = L.length := by rw [hSn.len, hS.len]
          obtain ⟨U2, hS2⟩ := hop_sent (U1 := Un) (u := z) hR hS.len hUn (hWy.hop i x y hx hy)
          obtain ⟨ht2, hl2, v1, v2, nxy⟩ := htn.sent hR hUn hS2
          have htf : t ≠ f := ne_of htup (k47 _ _ hf4) (by intro z; cases z)
          have ht9 := k8 _ _ htf htup
          refine ⟨t, _, rfl, SqT.of ht9, rfl, _, _, rfl, _, _, rfl, rfl, ?_⟩
          walk_at "rd"
          refine rd_daug ?_
          walk_at "rd"
          refine rd_disp rfl fun n1 hn1 => ?_
          have hf9 : (upd H8 n1 (.tup [.int x, .int y])) f = some (.dT kn) := (upd_ne (ne_of_none hf8 hn1)).trans hf8
          refine ⟨f, _, rfl, (by rw [← v1]; exact DGet.t (k := keyP x y) hf9 upd_same : DGet _ f (.ref n1) (some (.int (fv kn x y)))), ?_⟩
          walk_at "rd"
          refine ⟨_, _, rfl, rfl, ?_⟩
          refine ⟨_, DPut.t (k := keyP x y) hf9 upd_same (Nat.lt_of_le_of_lt hkn (by decide)), ?_⟩
          have sN1 := same_new (o := .tup [.int x, .int y]) hn1
          walk_at "rd"
          dsimp only
          refine rd_daug ?_
          walk_at "rd"
          refine rd_disp rfl fun n2 hn2 => ?_
          have hfA : (upd (upd (upd H8 n1 (.tup [.int x, .int y])) f (.dT (putK kn (keyP x y) (.int (fv kn x y - z))))) n2 (.tup [.int y, .int x])) f = some (.dT (putK kn (keyP x y) (.int (fv kn x y - z)))) := (upd_ne (ne_of_none upd_same hn2)).trans upd_same
          have v3 : valV (putK kn (keyP x y) (.int (fv kn x y - z))) (keyP y x) = some (.int (fv kn y x)) := by
            rw [valV_put, if_neg fun e => nxy (keyP_inj e).2]
            exact v2
          refine ⟨f, _, rfl, (by rw [← v3]; exact DGet.t (k := keyP y x) hfA upd_same : DGet _ f (.ref n2) (some (.int (fv kn y x)))), ?_⟩
          walk_at "rd"
          refine ⟨_, _, rfl, rfl, ?_⟩
          refine ⟨_, DPut.t (k := keyP y x) hfA upd_same (Nat.lt_of_le_of_lt (show _ ≤ 200 by rw [putK_same v1]; exact hkn) (by decide)), ?_⟩
          have old : ∀ b o, b ≠ f → H8 b = some o → (upd (upd (upd (upd H8 n1 (.tup [.int x, .int y])) f (.dT (putK kn (keyP x y) (.int (fv kn x y - z))))) n2 (.tup [.int y, .int x])) f (.dT (putK (putK kn (keyP x y) (.int (fv kn x y - z))) (keyP y x) (.int (fv kn y x + z))))) b = some o := fun b o n e => by
            have e1 : (upd H8 n1 (.tup [.int x, .int y])) b = some o := sN1 _ _ e
            have e2 : (upd (upd H8 n1 (.tup [.int x, .int y])) f (.dT (putK kn (keyP x y) (.int (fv kn x y - z))))) b = some o := (upd_ne n).trans e1
            rw [upd_ne n, upd_ne (ne_of_none e2 hn2)]
            exact e2
          refine ⟨fun b o e => old b o (ne_of_none e nfH) (hs8 b o e), fun b o n e => old b o n (k8 b o n e), ⟨_, U2, upd_same, by rw [hl2]; exact hkn, ht2, hSn.step hR hS.len hRt (by omega) hzr hx hy hS2⟩, _, _, rfl⟩
      · rintro σ H8 ⟨hs8, k8, ⟨kn, Un, hf8, hkn, htn, hSn⟩, u3, u4, rfl⟩
        rw [List.length_map, hnD] at hSn
        have hSU := hS.send hRt hSn (.inr ⟨.inl rfl, .inr rfl⟩)
        have hg : gainOf L Un mo = gainOf L U mo + z := by
          rw [hSn.gain sp mo mo hRt.hd (last_at hRt.lst), if_pos rfl, if_neg he.2.2.2.2]
          omega
        have hb := gain_le hR hSU (R := R0 sp) (by simp [R0]) (by simp [R0]; omega)
        walk_at "rd"
        refine rd_aug rfl ?_
        walk_at "rd"
        refine ⟨_, _, rfl, rfl, ?_⟩
        walk_at "rd"
        refine ⟨p, a, m, L, sp, mo, f, kn, rfl, hw.keep (Keep.same hs8), by omega, by omega, by omega, hf8, htn.ints, fun r9 ps9 H9 s9 hr9 hRc9 hcl9 => ?_⟩
        walk_at "rd"
        exact ⟨_, by omega, kn, Un, ps9, r9, _, _, _, _, hs8.trans s9, s9 _ _ hf8, htn, hSU, hr9, hRc9, hcl9, by rw [hg], rfl⟩
    · have hmo : mo ∉ lineOf sp ps4 := by
        cases e : valV (kvsR sp ps4) (.inl mo) with
        | none => exact kvsR_none e
        | some x =>
          rw [e] at h1
          cases h1
      walk_at "rd"
      exact q _ _ hs ⟨U, _, hS, rch_shut hR hS.len ht4 hcl4 hmo, rfl⟩
end
end Mw

/-! S4 -/
namespace Mw
open PySem L2
def spSideX (C : Addr) : Sp := fun vs H Q _ => ∃ p a m L sp mo c U Dd, vs = [.ref a, .ref c] ∧ WebAt C p H a m L sp mo ∧ Right m L sp mo ∧ Tp C p H (strD U) (.ref c) ∧ isStr m L sp mo (strD U) = true ∧ Far (roomTo L U) sp Dd ∧
  (Dd mo < 10 → ∀ H', Same H H' → Q .non H') ∧ (Dd mo = 10 → ∀ (t : Addr) (ns : List Int) (H' : Hp), Same H H' → H t = none → H' t = some (.tup (ns.map V.int)) → NearL Dd ns → Q (.ref t) H')
def unitsD : PyData → List Int
  | .tuple ds => ds.map unitD
  | _ => []
def isPaper (m : Int) (L : List Tie) (sp mo : Int) (U : List Int) (d : PyData) : Bool := isSide m sp mo d && decide (outSum L (unitsD d) = gainOf L U mo)
def spPaperX (C : Addr) : Sp := fun vs H Q _ => ∃ p a m L sp mo c U d x, vs = [.ref a, .ref c, x] ∧ WebAt C p H a m L sp mo ∧ Right m L sp mo ∧ Tp C p H (strD U) (.ref c) ∧ isStr m L sp mo (strD U) = true ∧ Tp C p H d x ∧ (∀ ds, d = .tuple ds → ds.length ≤ 1000) ∧ ∀ (H' : Hp), Same H H' → Q (.bl (isPaper m L sp mo U d)) H'
section
variable {P : Program} {w : World} {K : PySem.W.Frag} {mg : Str → Option Value} {base : Heap}
local macro_rules | `(tactic| walk_at "rd") => `(tactic| (repeat (first
  | ((with_reducible refine' rd_var ?h0 ?_); (case h0 => rfl))
  | with_reducible refine rd_c ?_
  | with_reducible refine rd_op ?_
  | with_reducible refine rd_nil ?_
  | with_reducible refine rd_cons ?_
  | with_reducible refine rd_tup ?_
  | with_reducible refine rd_lst ?_
  | with_reducible refine rd_ifs ?_
  | with_reducible refine rd_seq ?_
  | with_reducible refine rd_next ?_
  | with_reducible refine rd_ret ?_
  | with_reducible refine rd_asg ?_
  | ((with_reducible refine' rd_gset ?hs ?_); (case hs => ((simp only [L2.start, List.map_cons, List.map_nil, List.length_cons, List.length_nil, List.cons_append, List.nil_append, List.set_cons_zero, List.set_cons_succ, Nat.reduceAdd, Nat.reduceSub, Nat.zero_add, List.reduceReplicate]); rfl)))
  | with_reducible refine rd_drop ?_
  | with_reducible refine rd_test ?_
  | with_reducible refine rd_B ?_
  | with_reducible refine rd_bl ?_
  | with_reducible refine rd_blP ?_
  | with_reducible refine rd_andV ?_
  | with_reducible refine rd_orV ?_
  | with_reducible refine rd_notV ?_
  | with_reducible refine rd_and ?_
  | with_reducible refine rd_or ?_
  | with_reducible refine rd_not ?_
  | with_reducible refine rd_chain ?_
  | with_reducible refine rd_dput ?_
  | with_reducible refine rd_dget ?_
  | with_reducible refine rd_cb ?_
  | with_reducible refine rd_call ?_
  | with_reducible refine rd_un ?_
  | with_reducible refine rd_sl ?_
  | with_reducible refine rd_nopart ?_
  | with_reducible refine rd_part ?_
  | with_reducible refine rd_intP ?_
  | with_reducible refine rd_rU ?_
  | with_reducible refine rd_fld ?_
  | with_reducible refine rd_eqI ?_
  | with_reducible refine rd_neI ?_
  | with_reducible refine rd_mko ?_
  | with_reducible refine rd_bm ?_
  | with_reducible refine rd_gsub ?_
  | with_reducible refine rd_i0 ?_)))
theorem ok_side_ofX (T : Tx K mg) (B : Bk K mg T) : FnOk P w K mg base (L2.CX P w) 5 B.side_of.f B.side_of.fd ["web", "stream"] (spOr (spSideX T.c_Web) T.c_Web T.c_NoStream 0) := by
  have G_check_stream := ok_check_stream (P := P) (w := w) (base := base) T B
  have G_room_each_way := ok_room_each (P := P) (w := w) (base := base) T B
  have G_reached := ok_reached (P := P) (w := w) (base := base) T B
  refine B.side_of.F.okX sc_side_of (fun vs H Q E h => ?_) (fun cdv A outer s H vs Q E hr h => ?_)
  · rcases h with h | h
    · obtain ⟨p, a, m, L, sp, mo, c, U, Dd, rfl, _⟩ := h
      rfl
    · exact h.len
  · rcases h with h | h
    rotate_left
    · obtain ⟨p, a, m, L, sp, mo, d, x, rest, rfl, hl, hw, hR, hd, hs, q⟩ := h
      cases List.eq_nil_of_length_eq_zero hl
      refine ⟨_, (pss_cons (ps_expr (pe_call G_check_stream (hr.mono (by decide)) rfl B.check_stream.m B.check_stream.F.kp B.check_stream.b .nil (passes_call (takes_of rfl rfl rfl rfl) (fun _ _ _ _ h => h)) (pa_cons (pv 0) (pa_cons (pv 1) pa_nil))))
      (pss_cons (ps_set (i := 2) sc_side_of.nd rfl (Or.inl rfl) (pe_call G_reached (hr.mono (by decide)) rfl B.reached.m B.reached.F.kp B.reached.b .nil pass0 (pa_cons (pv 0) (pa_cons (pe_call G_room_each_way (hr.mono (by decide)) rfl B.room_each_way.m B.room_each_way.F.kp B.room_each_way.b .nil pass0 (pa_cons (pv 0) (pa_cons (pv 1) pa_nil))) pa_nil))))
      (pss_cons (ps_if (pt_cmp (pc_din (hu_of hr) (pe_fld (pv 0) rfl) (pv 2))) (pss_one (ps_ret pe_non)) pss_nil)
      (pss_one (ps_ret (pe_callTy call_tuple_of (by rfl) T.b_tuple (by decide +kernel) (pa_cons (pe_callB (cr_sortedD rfl) (by rfl) T.b_sorted (by decide +kernel) (pa_cons (pv 2) pa_nil)) pa_nil))))))), ?_⟩
      walk_at "rd"
      exact .inr ⟨p, a, m, L, sp, mo, d, x, [], rfl, rfl, hw, hR, hd, hs, q⟩
    obtain ⟨p, a, m, L, sp, mo, c, U, Dd, rfl, hw, hR, hd, hs, hF, q0, q1⟩ := h
    refine ⟨_, (pss_cons (ps_expr (pe_call G_check_stream (hr.mono (by decide)) rfl B.check_stream.m B.check_stream.F.kp B.check_stream.b .nil (passes_call (takes_of rfl rfl rfl rfl) (fun _ _ _ _ h => h)) (pa_cons (pv 0) (pa_cons (pv 1) pa_nil))))
      (pss_cons (ps_set (i := 2) sc_side_of.nd rfl (Or.inl rfl) (pe_call G_reached (hr.mono (by decide)) rfl B.reached.m B.reached.F.kp B.reached.b .nil pass0 (pa_cons (pv 0) (pa_cons (pe_call G_room_each_way (hr.mono (by decide)) rfl B.room_each_way.m B.room_each_way.F.kp B.room_each_way.b .nil pass0 (pa_cons (pv 0) (pa_cons (pv 1) pa_nil))) pa_nil))))
      (pss_cons (ps_if (pt_cmp (pc_din (hu_of hr) (pe_fld (pv 0) rfl) (pv 2))) (pss_one (ps_ret pe_non)) pss_nil)
      (pss_one (ps_ret (pe_callTy call_tuple_of (by rfl) T.b_tuple (by decide +kernel) (pa_cons (pe_callB (cr_sortedD rfl) (by rfl) T.b_sorted (by decide +kernel) (pa_cons (pv 2) pa_nil)) pa_nil))))))), ?_⟩
    have he := hR.ends
    have hm := hR.parts
    have hc := tp_strD hd
    have hU := isStr_len hs
    walk_at "rd"
    refine .inl ⟨p, a, m, L, sp, mo, strD U, .ref c, rfl, hw, hR, hd, hs, fun H1 s1 => ?_⟩
    walk_at "rd"
    refine ⟨p, a, m, L, sp, mo, c, U, rfl, hw.keep (Keep.same s1), hR, hU, s1 _ _ hc.2, fun f kvs H2 s2 nf hf ht => ?_⟩
    have s12 := s1.trans s2
    walk_at "rd"
    refine ⟨p, a, m, L, sp, mo, f, kvs, rfl, hw.keep (Keep.same s12), by omega, by omega, by omega, hf, ht.ints, fun r ps H3 s3 hr3 hRc hcl => ?_⟩
    have s13 := s12.trans s3
    obtain ⟨dx, v2, v5, v6, ha, t2, hwy, hlt⟩ := hw.keep (Keep.same s13)
    have hlen := hRc.len
    have hnear := rch_near hR hU ht hRc hcl hF
    walk_at "rd"
    refine rd_din ?_
    walk_at "rd"
    refine ⟨a, T.c_Web, dx, _, _, rfl, ha.2, T.W.cl, T.na_mouth, wf_mouth _ _ _ _ _ _, ?_⟩
    walk_at "rd"
    refine ⟨r, _, rfl, DGet.k (k := .inl mo) hr3, ?_⟩
    walk_at "rd"
    refine rd_ite (fun h1 => ?_) (fun h1 => ?_)
    · walk_at "rd"
      refine q0 ((hnear mo).mp ?_) _ s13
      cases e : valV (kvsR sp ps) (.inl mo) with
      | none =>
        rw [e] at h1
        cases h1
      | some x => exact kvsR_some e
    · have hmo : mo ∉ lineOf sp ps := by
        cases e : valV (kvsR sp ps) (.inl mo) with
        | none => exact kvsR_none e
        | some x =>
          rw [e] at h1
          cases h1
      have hD : Dd mo = 10 := by
        have := hF.top mo
        have : ¬ Dd mo < 10 := fun h => hmo ((hnear mo).mpr h)
        omega
      walk_at "rd"
      refine ⟨r, kvsR sp ps, lineOf sp ps, rfl, hr3, ?_, fun ns' l hpm hpw nl => ?_⟩
      · unfold kvsR lineOf
        simp [List.map_map]
      · walk_at "rd"
        refine ⟨l, _, rfl, .inl ⟨SqL.of upd_same, fun t nt => ?_⟩⟩
        have s14 := s13.trans (same_new (o := .lst (ns'.map V.int)) nl)
        exact q1 hD t ns' _ (s14.trans (same_new nt)) (s14.free nt) upd_same ⟨(hpm.nodup_iff).mpr hRc.nd, hpw, fun v => (hpm.mem_iff).trans (hnear v)⟩
theorem ok_is_paperX (T : Tx K mg) (B : Bk K mg T) : FnOk P w K mg base (L2.CX P w) 6 B.is_paper.f B.is_paper.fd ["web", "stream", "thing"] (spOr (spPaperX T.c_Web) T.c_Web T.c_NoStream 1) := by
  have G_worth := ok_worth (P := P) (w := w) (base := base) T B
  have G_is_side := ok_is_side (P := P) (w := w) (base := base) T B
  have G_side_worth := ok_side_worth (P := P) (w := w) (base := base) T B
  refine B.is_paper.F.okX sc_is_paper (fun vs H Q E h => ?_) (fun cdv A outer s H vs Q E hr h => ?_)
  · rcases h with h | h
    · obtain ⟨p, a, m, L, sp, mo, c, U, d, x, rfl, _⟩ := h
      rfl
    · exact h.len
  · rcases h with h | h
    rotate_left
    · obtain ⟨p, a, m, L, sp, mo, d, x, rest, rfl, hl, hw, hR, hd, hs, q⟩ := h
      match rest, hl with
      | [y1], _ =>
        refine ⟨_, (pss_cons (ps_set (i := 3) sc_is_paper.nd rfl (Or.inl rfl) (pe_call G_worth (hr.mono (by decide)) rfl B.worth.m B.worth.F.kp B.worth.b .nil (passes_call (takes_of rfl rfl rfl rfl) (fun _ _ _ _ h => h)) (pa_cons (pv 0) (pa_cons (pv 1) pa_nil))))
      (pss_one (ps_ret (pe_and (pe_call G_is_side (hr.mono (by decide)) rfl B.is_side.m B.is_side.F.kp B.is_side.b .nil pass0 (pa_cons (pv 0) (pa_cons (pv 2) pa_nil))) (pe_one (pe_cmpR op_eq (pe_call G_side_worth (hr.mono (by decide)) rfl B.side_worth.m B.side_worth.F.kp B.side_worth.b .nil (passes_call (takes_of rfl rfl rfl rfl) (fun _ _ _ _ h => h)) (pa_cons (pv 0) (pa_cons (pv 2) pa_nil))) (pv 3) (nomark _))))))), ?_⟩
        walk_at "rd"
        exact .inr ⟨p, a, m, L, sp, mo, d, x, [], rfl, rfl, hw, hR, hd, hs, q⟩
    obtain ⟨p, a, m, L, sp, mo, c, U, d, x, rfl, hw, hR, hd, hs, td, hsm, q⟩ := h
    refine ⟨_, (pss_cons (ps_set (i := 3) sc_is_paper.nd rfl (Or.inl rfl) (pe_call G_worth (hr.mono (by decide)) rfl B.worth.m B.worth.F.kp B.worth.b .nil (passes_call (takes_of rfl rfl rfl rfl) (fun _ _ _ _ h => h)) (pa_cons (pv 0) (pa_cons (pv 1) pa_nil))))
      (pss_one (ps_ret (pe_and (pe_call G_is_side (hr.mono (by decide)) rfl B.is_side.m B.is_side.F.kp B.is_side.b .nil pass0 (pa_cons (pv 0) (pa_cons (pv 2) pa_nil))) (pe_one (pe_cmpR op_eq (pe_call G_side_worth (hr.mono (by decide)) rfl B.side_worth.m B.side_worth.F.kp B.side_worth.b .nil (passes_call (takes_of rfl rfl rfl rfl) (fun _ _ _ _ h => h)) (pa_cons (pv 0) (pa_cons (pv 2) pa_nil))) (pv 3) (nomark _))))))), ?_⟩
    walk_at "rd"
    refine .inl ⟨p, a, m, L, sp, mo, c, U, rfl, hw, hR, hd, hs, fun H1 s1 => ?_⟩
    walk_at "rd"
    refine ⟨p, a, m, L, sp, mo, d, x, rfl, hw.keep (Keep.same s1), Tp.keep (Keep.same s1) _ _ td, hsm, fun H2 s2 => ?_⟩
    have s12 := s1.trans s2
    unfold isPaper at q
    walk_at "rd"
    refine rd_ite (fun h1 => ?_) (fun h1 => ?_)
    · walk_at "rd"
      refine ⟨p, a, m, L, sp, mo, d, x, rfl, hw.keep (Keep.same s12), hR.len, Tp.keep (Keep.same s12) _ _ td, hsm, fun ds H3 e1 e2 s3 => ?_, fun e => ?_⟩
      · walk_at "rd"
        subst e1
        have z := q _ (s12.trans s3)
        rw [e2, Bool.true_and] at z
        exact z
      · rw [h1] at e
        cases e
    · have z := q _ s12
      rw [show isSide m sp mo d = false from h1, Bool.false_and] at z
      exact z
end
end Mw

/-! MR6 -/
/-! list(d.keys()) of a dict with pairs as keys. -/
namespace L2
open PySem PySem.Spec PyProof.Rows PySem.W
theorem lk_src {prog : Program} {w : World} {r d : Addr} {o : Obj} {es : Array DictEntry} {ep : Nat} (hx : o.ExactDict) (hd : o.data = .dict es ep) :
    KdlSrc prog w "dict_keys" r d es.size (fun i v => ∃ en : DictEntry, es[i]? = some en ∧ v = en.key) (fun h => KdlKeysView h r d ∧ h.get? d = some o) where
  type := fun _ hm => hm.1.typeIs
  there := fun _ hm => ⟨let ⟨_, ho, _⟩ := hm.1; Heap.lt_size ho, Heap.lt_size hm.2⟩
  keep := fun _ _ hm hk => ⟨let ⟨q, hq, x⟩ := hm.1; ⟨q, hk r (.inl rfl) q hq, x⟩, hk d (.inr rfl) _ hm.2⟩
  notList := by decide
  notTuple := by decide
  hint := fun _ _ _ _ hm hq => kdl_hint_keys hm.1.typeIs hq
  iter := fun _ s hh hm => ⟨_, _, (fun _ _ hq => wpAny_pyIter_keys_raw hm.1 ⟨o, hm.2, hx, hd⟩ hq), walks_raw hh _ d (Nat.ne_of_lt (Heap.lt_size hm.2)) hd, ⟨⟨_, Heap.get?_push_size _ rfl, rfl, rfl⟩, Heap.get?_push_of_some _ hm.2⟩⟩
section
variable {X : Cx}
def tListKeysT (te : TE) : TE := fun σ H Q => te σ H fun x H1 => ∃ (d : Addr) (kvs : List (List Key × V)), x = .ref d ∧ H1 d = some (.dT kvs) ∧ ∀ (p : Addr) (bs : List Addr), H1 p = none → IsKeys H1 kvs bs → Q (.ref p) (upd H1 p (.lst (bs.map V.ref)))
theorem pe_listKeysT {e : Expr} {te : TE} {p pos apos cpos : Pos} (hc : X.calm = true) (he : PE X e te) (hg : Gl X "list") (hm : X.mg "list" = none) (hbase : attributeBase e "keys" X.env (eval e X.env) = eval e X.env := by rfl) (hline : (apos.endLine == cpos.line) = true := by rfl)
    (hs : starEach [Expr.Call (.Attribute e "keys" apos) [] [] cpos] X.env = (false, eval (.Call (.Attribute e "keys" apos) [] [] cpos) X.env) :: starEach [] X.env := by rfl) :
    PE X (.Call (.Name "list" p) [.Call (.Attribute e "keys" apos) [] [] cpos] [] pos) (tListKeysT te) := by
  refine ⟨fun pins s σ H Q I hq => ?_⟩
  refine wpAny_Call_Name_kw (ld_blt I hg hm boot_list ?_)
  refine PyProof.Rows.callWith_type1 ?_ hs rfl
  rw [hs]
  show wpAny _ _ (spliced ((false, eval (.Call (.Attribute e "keys" apos) [] [] cpos) X.env) :: backTo pos (starEach [] X.env))) _ _ s
  refine Calls.spliced_cons ?_
  refine wpAny_Call_method (T := "dict") (id := "dict.keys") hbase rfl hline F.plainAttrs_dict F.slot_dict_keys F.type_dict_keys (thn (he.run pins s σ H _ I hq) fun u s1 ⟨x, H1, I1, rx, d, kvs, ex, hd, q⟩ => ?_)
  subst ex
  obtain rfl : u = Value.ref d := rx
  obtain ⟨z, lo, ks, pr, o, es, ep, ho, hx, hdt, hen, hn⟩ := dt_of I1.hok hd
  have l1 : es.size = ks.length := size_of_entries hen
  have l2 : kvs.length = ks.length := Paired.length pr
  have raw : s1.heap.DictRaw d es ep := ⟨o, ho, hx, hdt⟩
  have I2 : Inv X pins σ H1 { s1 with heap := s1.heap.push { cls := .type "dict_keys", data := .fields #[.ref d] } } := I1.kept (t' := s1.toks) fun b ob q => Heap.get?_push_of_some _ q
  refine ⟨raw.typeIs, fun b eb => ⟨o, by cases eb; exact ho, hx.2.1⟩, ?_⟩
  show wpAny _ _ (callWith cpos (.builtin "dict.keys") [.ref d] [] []) _ X.xe s1
  refine method_meetsIn F.slot_dict_keys F.entry_dict_keys rfl (PySem.evalArgs_none ⟨rfl, raw.typeIs, F.args_dict_keys_1 _, _, meets_dict_keys_raw d lo, ⟨es, ep, raw⟩, ?_⟩)
  refine Calls.spliced_nil ?_
  refine kdl_call (lk_src hx hdt) (I1.ok.hd hc) ⟨⟨_, Heap.get?_push_size _ rfl, rfl, rfl⟩, Heap.get?_push_of_some _ ho⟩ (by omega) fun h' tk acc' c' kp e it => ?_
  have ea : acc'.toList = ks.map fun x => Value.ref x.2.1 := by
    have hl : acc'.toList.length = ks.length := by rw [Array.length_toList, it.1]; exact l1
    apply List.ext_getElem?
    intro j
    rw [List.getElem?_map]
    cases hj : acc'.toList[j]? with
    | none =>
      have h1 := List.getElem?_eq_none_iff.mp hj
      rw [List.getElem?_eq_none (by omega)]
      rfl
    | some v =>
      obtain ⟨en, hen2, hv⟩ := it.2 j v (by rw [← Array.getElem?_toList]; exact hj)
      have qe := entry_at hen j
      rw [hen2] at qe
      cases hb : ks[j]? with
      | none =>
        rw [hb] at qe
        exact nomatch (show some en = none from qe)
      | some b =>
        rw [hb] at qe
        have e2 : en = entryOfKey (tupleKind (mixKind X.prog X.w)) b := Option.some.inj qe
        rw [hv, e2]
        rfl
  have eb : acc'.toList = (ks.map fun x => x.2.1).map Value.ref := by
    rw [ea, List.map_map]
    rfl
  have rv : Vals ((ks.map fun x => x.2.1).map V.ref) acc'.toList := by
    rw [eb]
    exact vals_refs _
  have hz : ((ks.map fun x => x.2.1).map V.ref).length ≤ sizeLine := by
    rw [List.length_map, List.length_map]
    omega
  refine ⟨.ref _, _, I2.laid (t' := tk) (o := .lst ((ks.map fun x => x.2.1).map V.ref)) kp (Nat.le_refl _) ⟨hz, acc'.toList, c', rv, by rw [Array.toArray_toList]; exact e⟩, rfl, q _ _ (I2.hok.fresh (Nat.le_refl _)) (isKeys_of pr)⟩
end
end L2

/-! MR8 -/
/-! list(d.keys()) of a dict with whole numbers as keys. -/
namespace L2
open PySem PySem.Spec PyProof.Rows PySem.W
section
variable {X : Cx}
def tListKeysK (te : TE) : TE := fun σ H Q => te σ H fun x H1 => ∃ (d : Addr) (kvs : List (Key × V)) (ns : List Int), x = .ref d ∧ H1 d = some (.dK kvs) ∧ kvs.map (·.1) = ns.map Sum.inl ∧ ∀ (p : Addr), H1 p = none → Q (.ref p) (upd H1 p (.lst (ns.map V.int)))
theorem pe_listKeysK {e : Expr} {te : TE} {p pos apos cpos : Pos} (hc : X.calm = true) (he : PE X e te) (hg : Gl X "list") (hm : X.mg "list" = none) (hbase : attributeBase e "keys" X.env (eval e X.env) = eval e X.env := by rfl) (hline : (apos.endLine == cpos.line) = true := by rfl)
    (hs : starEach [Expr.Call (.Attribute e "keys" apos) [] [] cpos] X.env = (false, eval (.Call (.Attribute e "keys" apos) [] [] cpos) X.env) :: starEach [] X.env := by rfl) :
    PE X (.Call (.Name "list" p) [.Call (.Attribute e "keys" apos) [] [] cpos] [] pos) (tListKeysK te) := by
  refine ⟨fun pins s σ H Q I hq => ?_⟩
  refine wpAny_Call_Name_kw (ld_blt I hg hm boot_list ?_)
  refine PyProof.Rows.callWith_type1 ?_ hs rfl
  rw [hs]
  show wpAny _ _ (spliced ((false, eval (.Call (.Attribute e "keys" apos) [] [] cpos) X.env) :: backTo pos (starEach [] X.env))) _ _ s
  refine Calls.spliced_cons ?_
  refine wpAny_Call_method (T := "dict") (id := "dict.keys") hbase rfl hline F.plainAttrs_dict F.slot_dict_keys F.type_dict_keys (thn (he.run pins s σ H _ I hq) fun u s1 ⟨x, H1, I1, rx, d, kvs, ns, ex, hd, en, q⟩ => ?_)
  subst ex
  obtain rfl : u = Value.ref d := rx
  obtain ⟨z, lo, ws, rk, hd'⟩ := dk_of I1.hok hd
  obtain ⟨es, ep, raw, hsz, hent⟩ := hd'.raw
  obtain ⟨o, ho, hx, hdt⟩ := id raw
  have l2 : kvs.length = ws.length := Paired.length rk
  have hns : ns.length = kvs.length := by
    have e := congrArg List.length en
    rw [List.length_map, List.length_map] at e
    exact e.symm
  have I2 : Inv X pins σ H1 { s1 with heap := s1.heap.push { cls := .type "dict_keys", data := .fields #[.ref d] } } := I1.kept (t' := s1.toks) fun b ob q => Heap.get?_push_of_some _ q
  refine ⟨raw.typeIs, fun b eb => ⟨o, by cases eb; exact ho, hx.2.1⟩, ?_⟩
  show wpAny _ _ (callWith cpos (.builtin "dict.keys") [.ref d] [] []) _ X.xe s1
  refine method_meetsIn F.slot_dict_keys F.entry_dict_keys rfl (PySem.evalArgs_none ⟨rfl, raw.typeIs, F.args_dict_keys_1 _, _, meets_dict_keys_raw d lo, ⟨es, ep, raw⟩, ?_⟩)
  refine Calls.spliced_nil ?_
  refine kdl_call (lk_src hx hdt) (I1.ok.hd hc) ⟨⟨_, Heap.get?_push_size _ rfl, rfl, rfl⟩, Heap.get?_push_of_some _ ho⟩ (by omega) fun h' tk acc' c' kp e it => ?_
  have el : acc'.toList.length = kvs.length := by rw [Array.length_toList, it.1, hsz, l2]
  have rv : Vals (ns.map V.int) acc'.toList := by
    refine vals_of_at (by rw [List.length_map, el, hns]) fun j x w h1 h2 => ?_
    obtain ⟨ent, hen, hv⟩ := it.2 j w (by rw [← Array.getElem?_toList]; exact h2)
    obtain ⟨hj, ej⟩ := Array.getElem?_eq_some_iff.mp hen
    have hjw : j < ws.length := by omega
    have hwj : ws[j]? = some (ws[j].1, ws[j].2) := by simp [hjw]
    obtain ⟨hi, _⟩ := hent j hj ws[j].1 ws[j].2 hwj
    have e1 : (kvs.map (·.1))[j]? = some ws[j].1 := by rw [KV.keys rk, List.getElem?_map, hwj] <;> rfl
    rw [en, List.getElem?_map] at e1
    rw [List.getElem?_map] at h1
    cases e2 : ns[j]? with
    | none =>
      rw [e2] at h1
      cases h1
    | some n =>
      rw [e2] at h1 e1
      cases h1
      have e3 : ws[j].1 = Sum.inl n := (Option.some.inj e1).symm
      rw [ej] at hi
      have e4 : RelV (kV ws[j].1) ent.key := keyIs_rel hi
      rw [e3] at e4
      rw [hv]
      exact e4
  have hz : (ns.map V.int).length ≤ sizeLine := by
    rw [List.length_map]
    omega
  refine ⟨.ref _, _, I2.laid (t' := tk) (o := .lst (ns.map V.int)) kp (Nat.le_refl _) ⟨hz, acc'.toList, c', rv, by rw [Array.toArray_toList]; exact e⟩, rfl, q _ (I2.hok.fresh (Nat.le_refl _))⟩
end
end L2

/-! S5 -/
namespace Mw
open PySem L2
theorem inV_ints (x : Int) : ∀ ns : List Int, inV (.int x) (ns.map V.int) = decide (x ∈ ns)
  | [] => rfl
  | n :: ns => by
    have ih := inV_ints x ns
    unfold inV at ih ⊢
    rw [List.map_cons, List.any_cons, ih, Bool.eq_iff_iff]
    show ((n == x) || decide (x ∈ ns)) = true ↔ _
    rw [Bool.or_eq_true, beq_iff_eq, decide_eq_true_eq, decide_eq_true_eq, List.mem_cons]
    exact or_congr_left eq_comm
theorem isSide_false1 {m sp mo : Int} {ds : List PyData} {n : Nat} {d : PyData} (hd : ds[n]? = some d) (h : inI 0 (m - 1) d = false) : isSide m sp mo (.tuple ds) = false := by
  have hm := List.mem_of_getElem? hd
  by_cases c : isNum d = true
  · cases d with
    | int i =>
      simp only [isNum, decide_eq_true_eq] at c
      simp only [inI, Bool.and_eq_false_iff, decide_eq_false_iff_not] at h
      simp only [isSide]
      rw [show ((ds.map unitD).map fun h => decide (h < m)).all id = false from by
        rw [List.all_eq_false]
        refine ⟨decide (i < m), List.mem_map.mpr ⟨i, List.mem_map.mpr ⟨_, hm, rfl⟩, rfl⟩, ?_⟩
        simp
        omega]
      simp
    | _ => cases c
  · simp only [isSide, isLot]
    rw [show (ds.map isNum).all id = false from by
      rw [List.all_eq_false]
      refine ⟨isNum d, List.mem_map.mpr ⟨_, hm, rfl⟩, by simpa using c⟩]
    simp
theorem isSide_false2 {m sp mo : Int} {ds : List PyData} {n : Nat} {a b : Int} (ha : (ds.map unitD)[n]? = some a) (hb : (ds.map unitD)[n + 1]? = some b) (h : ¬ a < b) : isSide m sp mo (.tuple ds) = false := by
  simp only [isSide, isLot]
  rw [show (((ds.map unitD).zip (ds.map unitD).tail).map fun x => decide (x.1 < x.2)).all id = false from by
    rw [List.all_eq_false]
    refine ⟨decide (a < b), List.mem_map.mpr ⟨(a, b), List.mem_of_getElem? (i := n) ?_, rfl⟩, by simpa using h⟩
    rw [List.getElem?_zip_eq_some, List.getElem?_tail]
    exact ⟨ha, hb⟩]
  simp
theorem isSide_true {m sp mo : Int} {ds : List PyData} (h1 : ∀ (j : Nat) d, ds[j]? = some d → inI 0 (m - 1) d = true) (h2 : ∀ (j : Nat) (a b : Int), (ds.map unitD)[j]? = some a → (ds.map unitD)[j + 1]? = some b → a < b) :
    isSide m sp mo (.tuple ds) = (inV (.int sp) ((ds.map unitD).map V.int) && !inV (.int mo) ((ds.map unitD).map V.int)) ∧ (ds.map isNum).all id = true := by
  have e1 : (ds.map isNum).all id = true := by
    rw [List.all_eq_true]
    intro b hb
    obtain ⟨d, hd, rfl⟩ := List.mem_map.mp hb
    obtain ⟨k, hk⟩ := List.mem_iff_getElem?.mp hd
    have := h1 k d hk
    cases d with
    | int i =>
      simp only [inI, Bool.and_eq_true, decide_eq_true_eq] at this
      simp only [isNum, id_eq, decide_eq_true_eq]
      exact this.1
    | _ => simp [inI] at this
  have e2 : (((ds.map unitD).zip (ds.map unitD).tail).map fun x => decide (x.1 < x.2)).all id = true := by
    rw [List.all_eq_true]
    intro b hb
    obtain ⟨x, hx, rfl⟩ := List.mem_map.mp hb
    obtain ⟨k, hk⟩ := List.mem_iff_getElem?.mp hx
    rw [List.getElem?_zip_eq_some, List.getElem?_tail] at hk
    simpa using h2 k x.1 x.2 hk.1 hk.2
  have e3 : ((ds.map unitD).map fun h => decide (h < m)).all id = true := by
    rw [List.all_eq_true]
    intro b hb
    obtain ⟨i, hi, rfl⟩ := List.mem_map.mp hb
    obtain ⟨d, hd, rfl⟩ := List.mem_map.mp hi
    obtain ⟨k, hk⟩ := List.mem_iff_getElem?.mp hd
    have := h1 k d hk
    cases d with
    | int i =>
      simp only [inI, Bool.and_eq_true, decide_eq_true_eq] at this
      exact decide_eq_true (show i < m by omega)
    | _ => simp [inI] at this
  refine ⟨?_, e1⟩
  simp only [isSide, isLot]
  rw [e1, e2, e3]
  simp
def spLSide (C : Addr) : Sp := fun vs H Q _ => ∃ p v x m L sp mo d, vs = [v, x] ∧ Tp C p H (planD m L sp mo) v ∧ Tp C p H d x ∧ (∀ ds, d = .tuple ds → ds.length ≤ 1000) ∧ Q (.bl (isSide m sp mo d)) H
/-! ### what a side lets out, house by house -/
def letTo (L : List Tie) (i j : Int) : Int := (L.find? (atP i j)).elim 0 fun q => if i > j then q.2.2.2 else q.2.2.1
def outO (L : List Tie) (ns : List Int) (h o : Int) : Int := if isIn ns o = true then 0 else letTo L h o
def outH (L : List Tie) (ns : List Int) (h : Int) : Int := ((aboveOf L h ++ belowOf L h).map (outO L ns h)).sum
def partT (ns : List Int) (h : Int) (q : Tie) : Int := (if h = q.1 then (if isIn ns q.2.1 = true then 0 else q.2.2.1) else 0) + (if h = q.2.1 then (if isIn ns q.1 = true then 0 else q.2.2.2) else 0)
theorem letTo_at {m : Int} {L : List Tie} {sp mo : Int} (hR : Right m L sp mo) {q : Tie} (hq : q ∈ L) : letTo L q.1 q.2.1 = q.2.2.1 ∧ letTo L q.2.1 q.1 = q.2.2.2 := by
  obtain ⟨k, hk⟩ := List.mem_iff_getElem?.mp hq
  have b := hR.most hk
  have a1 : atP q.1 q.2.1 q = true := by
    simp only [atP, Bool.and_eq_true, beq_iff_eq]
    omega
  unfold letTo
  rw [hR.find hk a1, hR.find hk (atP_comm a1)]
  show (if _ then _ else _) = _ ∧ (if _ then _ else _) = _
  rw [if_neg (by omega), if_pos (by omega)]
  exact ⟨rfl, rfl⟩
theorem outH_eq {m : Int} {L : List Tie} {sp mo : Int} (hR : Right m L sp mo) (ns : List Int) (h : Int) : outH L ns h = (L.map (partT ns h)).sum := by
  unfold outH aboveOf belowOf
  rw [List.map_append, List.sum_append, List.map_map, List.map_map, sum_filter, sum_filter, ← sum_both]
  congr 1
  refine List.map_congr_left fun q hq => ?_
  obtain ⟨e1, e2⟩ := letTo_at hR hq
  unfold partT
  congr 1
  · by_cases c : q.1 = h
    · subst c
      rw [if_pos rfl, if_pos (by simp)]
      show outO L ns q.1 q.2.1 = _
      unfold outO
      rw [e1]
    · rw [if_neg (by simpa using c), if_neg (Ne.symm c)]
  · by_cases c : q.2.1 = h
    · subst c
      rw [if_pos rfl, if_pos (by simp)]
      show outO L ns q.2.1 q.1 = _
      unfold outO
      rw [e2]
    · rw [if_neg (by simpa using c), if_neg (Ne.symm c)]
theorem sum_swapL {α β : Type} (f : α → β → Int) (l2 : List β) : ∀ l1 : List α, (l1.map fun a => (l2.map (f a)).sum).sum = (l2.map fun b => (l1.map fun a => f a b).sum).sum
  | [] => (sum_none (l := l2) (f := fun b => (([] : List α).map fun a => f a b).sum) fun _ _ => rfl).symm
  | a :: l1 => by
    rw [List.map_cons, List.sum_cons, sum_swapL f l2 l1, ← sum_both]
    congr 1
theorem sum_here {ns : List Int} (hd : ns.Nodup) (a c : Int) : (ns.map fun h => if h = a then c else 0).sum = if a ∈ ns then c else 0 := by
  induction ns with
  | nil => rfl
  | cons n ns ih =>
    obtain ⟨h1, h2⟩ := List.nodup_cons.mp hd
    rw [List.map_cons, List.sum_cons, ih h2]
    by_cases e : n = a
    · subst e
      rw [if_pos rfl, if_neg h1, if_pos (by simp)]
      omega
    · rw [if_neg e]
      by_cases e2 : a ∈ ns
      · rw [if_pos e2, if_pos (by simp [e2])]
        omega
      · rw [if_neg e2, if_neg (by simp [e2, Ne.symm e])]
        rfl
theorem outH_sum {m : Int} {L : List Tie} {sp mo : Int} (hR : Right m L sp mo) {ns : List Int} (hd : ns.Nodup) : (ns.map (outH L ns)).sum = outSum L ns := by
  rw [outSum_R, List.map_congr_left fun h _ => outH_eq hR ns h, sum_swapL]
  unfold outR
  congr 1
  refine List.map_congr_left fun q _ => ?_
  unfold partT outT
  rw [sum_both, sum_here hd, sum_here hd]
  have e1 : isIn ns q.1 = decide (q.1 ∈ ns) := inV_ints _ _
  have e2 : isIn ns q.2.1 = decide (q.2.1 ∈ ns) := inV_ints _ _
  rw [e1, e2]
  by_cases c1 : q.1 ∈ ns <;> by_cases c2 : q.2.1 ∈ ns <;> simp [c1, c2]
theorem rd_listKeysK {te : TE} {σ : L2.St} {H : Hp} {Q : VK} (h : te σ H fun x H1 => ∃ (d : Addr) (kvs : List (Key × V)) (ns : List Int), x = .ref d ∧ H1 d = some (.dK kvs) ∧ kvs.map (·.1) = ns.map Sum.inl ∧ ∀ (p : Addr), H1 p = none → Q (.ref p) (upd H1 p (.lst (ns.map V.int)))) : tListKeysK te σ H Q := h
def spLawSide (C : Addr) : Sp := fun vs H Q _ => ∃ (p : Addr) (v : V) (m : Int) (L : List Tie) (sp mo : Int) (c : Addr) (U : List Int), vs = [v, .ref c] ∧ Tp C p H (planD m L sp mo) v ∧ Right m L sp mo ∧ U.length = L.length ∧ H c = some (.tup (U.map V.int)) ∧
  ∀ (t : Addr) (ns : List Int) (Dd : Int → Nat) (H' : Hp), Same H H' → H t = none → H' t = some (.tup (ns.map V.int)) → NearL Dd ns → Far (roomTo L U) sp Dd → (∀ x ∈ ns, 0 ≤ x ∧ x < m) → Q (.ref t) H'
def spLawSW (C : Addr) : Sp := fun vs H Q _ => ∃ (p : Addr) (v : V) (m : Int) (L : List Tie) (sp mo : Int) (c : Addr) (ns : List Int), vs = [v, .ref c] ∧ Tp C p H (planD m L sp mo) v ∧ Right m L sp mo ∧ H c = some (.tup (ns.map V.int)) ∧ ns.Nodup ∧ ∀ H', Same H H' → Q (.int (outSum L ns)) H'
section
variable {P : Program} {w : World} {K : PySem.W.Frag} {mg : Str → Option Value} {base : Heap}
local macro_rules | `(tactic| walk_at "rd") => `(tactic| (repeat (first
  | ((with_reducible refine' rd_var ?h0 ?_); (case h0 => rfl))
  | with_reducible refine rd_c ?_
  | with_reducible refine rd_op ?_
  | with_reducible refine rd_nil ?_
  | with_reducible refine rd_cons ?_
  | with_reducible refine rd_tup ?_
  | with_reducible refine rd_lst ?_
  | with_reducible refine rd_ifs ?_
  | with_reducible refine rd_seq ?_
  | with_reducible refine rd_next ?_
  | with_reducible refine rd_ret ?_
  | with_reducible refine rd_asg ?_
  | ((with_reducible refine' rd_gset ?hs ?_); (case hs => ((simp only [L2.start, List.map_cons, List.map_nil, List.length_cons, List.length_nil, List.cons_append, List.nil_append, List.set_cons_zero, List.set_cons_succ, Nat.reduceAdd, Nat.reduceSub, Nat.zero_add, List.reduceReplicate]); rfl)))
  | with_reducible refine rd_drop ?_
  | with_reducible refine rd_test ?_
  | with_reducible refine rd_B ?_
  | with_reducible refine rd_bl ?_
  | with_reducible refine rd_blP ?_
  | with_reducible refine rd_andV ?_
  | with_reducible refine rd_orV ?_
  | with_reducible refine rd_notV ?_
  | with_reducible refine rd_and ?_
  | with_reducible refine rd_or ?_
  | with_reducible refine rd_not ?_
  | with_reducible refine rd_chain ?_
  | with_reducible refine rd_dput ?_
  | with_reducible refine rd_dget ?_
  | with_reducible refine rd_cb ?_
  | with_reducible refine rd_call ?_
  | with_reducible refine rd_un ?_
  | with_reducible refine rd_sl ?_
  | with_reducible refine rd_nopart ?_
  | with_reducible refine rd_part ?_
  | with_reducible refine rd_intP ?_
  | with_reducible refine rd_rU ?_
  | with_reducible refine rd_fld ?_
  | with_reducible refine rd_eqI ?_
  | with_reducible refine rd_neI ?_
  | with_reducible refine rd_mko ?_
  | with_reducible refine rd_bm ?_
  | with_reducible refine rd_gsub ?_
  | with_reducible refine rd_i0 ?_)))
theorem ok_law_is_side (T : Tx K mg) (B : Bk K mg T) : FnOk P w K mg base CX0 3 B.law_is_side.f B.law_is_side.fd ["plan", "thing"] (spLSide T.c_Web) := by
  have G_law_is_within := ok_law_is_within (P := P) (w := w) (base := base) T B
  refine B.law_is_side.F.ok sc_law_is_side (fun vs H Q E h => ?_) (fun cdv A outer s H vs Q E hr h => ?_)
  · obtain ⟨p, v, x, m, L, sp, mo, d, rfl, _⟩ := h
    rfl
  · obtain ⟨p, v, x, m, L, sp, mo, d, rfl, hv, hd, hsm, q⟩ := h
    refine ⟨_, (pss_cons (ps_if (pt_not (pt_val (pe_callB call_isi (by rfl) T.b_isinstance (by decide +kernel) (pa_cons (pv 1) (pa_cons (pe_bltn (v := .ty "tuple") (by rfl) T.b_tuple (by decide +kernel) rfl) pa_nil))))) (pss_one (ps_ret pe_bl)) pss_nil)
      (pss_cons (ps_for PassesOwn.never rfl (pi_range1 (by rfl) T.b_range (pa_cons (pe_callB call_len_seq (by rfl) T.b_len (by decide +kernel) (pa_cons (pv 1) pa_nil)) pa_nil)) (pg_name (i := 2) sc_law_is_side.nd rfl (Or.inl rfl)) (pss_one (ps_if (PW.pt (pw_or (pt_not (pt_val (pe_call G_law_is_within (hr.mono (by decide)) rfl B.law_is_within.m B.law_is_within.F.kp B.law_is_within.b .nil pass0 (pa_cons (pe_ix ix_tup (pv 1) (pv 2) (fun _ _ => rfl)) (pa_cons pe_int (pa_cons (pe_op op_sub (pe_ix ix_tup (pv 0) pe_int (fun _ _ => rfl)) pe_int) pa_nil)))))) (pw_or1 (PW.pt (pw_and (pt_cmpR op_gt (pv 2) pe_int (nomark _)) (pw_and1 (pt_cmpR op_le (pe_ix ix_tup (pv 1) (pv 2) (fun _ _ => rfl)) (pe_ix ix_tup (pv 1) (pe_op op_sub (pv 2) pe_int) (fun _ _ => rfl)) (nomark _)))))))) (pss_one (ps_ret pe_bl)) pss_nil)))
      (pss_one (ps_ret (pe_and (pe_cmpR op_in_seq (pe_ix ix_tup (pv 0) pe_int (fun _ _ => rfl)) (pv 1) rfl) (pe_one (pe_cmpR op_notIn_seq (pe_ix ix_tup (pv 0) pe_int (fun _ _ => rfl)) (pv 1) rfl))))))), ?_⟩
    obtain ⟨a, xs, rfl, ha, hx⟩ := tp_tup' (id hv)
    obtain ⟨v1, v2, v3, v4, rfl, t1, t2, t3, t4⟩ := tpAll4 hx
    cases tp_int' t1
    cases tp_int' t3
    cases tp_int' t4
    walk_at "rd"
    refine tp_isT T.W hd ?_
    cases d with
    | tuple ds =>
      have hl := hsm ds rfl
      obtain ⟨c, ys, rfl, hc, hy⟩ := tp_tup' hd
      have hly := hy.len
      walk_at "rd"
      refine rd_no rfl ?_
      walk_at "rd"
      show iRng1 _ _ _ _
      refine rd_rng1 ?_
      walk_at "rd"
      refine ⟨c, ys, rfl, .inr (SqT.of hc.2), ?_⟩
      refine ⟨_, rfl, by omega, by omega, for_range (lo := 0) (n := ((ys.length : Nat) : Int).toNat) (fun n σ H1 => H1 = H ∧ (∀ (j : Nat) d, j < n → ds[j]? = some d → inI 0 (m - 1) d = true) ∧ (∀ (j : Nat) (a b : Int), j + 1 < n → (ds.map unitD)[j]? = some a → (ds.map unitD)[j + 1]? = some b → a < b) ∧ ∃ u, σ = [some (.ref a), some (.ref c), u])
        ⟨rfl, fun j d hj => absurd hj (Nat.not_lt_zero _), fun j a b hj => absurd hj (by omega), _, rfl⟩ ?_ ?_⟩
      · rintro n σ H1 hn ⟨rfl, g1, g2, u, rfl⟩
        have hn2 : n < ys.length := by simpa using hn
        have hyn : ys[n]? = some ys[n] := by simp [hn2]
        obtain ⟨d1, hd1, td1⟩ := hy.get' hyn
        walk_at "rd"
        refine rd_ixT hc.2 (at_of (j := n) (by omega) hyn) ?_
        walk_at "rd"
        refine rd_ixT ha.2 rfl ?_
        walk_at "rd"
        refine ⟨p, d1, _, 0, m - 1, rfl, td1, ?_⟩
        walk_at "rd"
        refine rd_ite (fun h2 => ?_) (fun h2 => ?_)
        · refine rd_yes rfl ?_
          walk_at "rd"
          rw [isSide_false1 hd1 (by simpa using h2)] at q
          exact q
        · have hin : inI 0 (m - 1) d1 = true := by simpa using h2
          obtain ⟨i1, rfl⟩ : ∃ i, d1 = .int i := by
            cases d1 with
            | int i => exact ⟨i, rfl⟩
            | _ => simp [inI] at hin
          have ey : ys[n] = V.int i1 := tp_int' td1
          have hb1 : (ds.map unitD)[n]? = some i1 := by rw [List.getElem?_map, hd1]; rfl
          walk_at "rd"
          have grow : ∀ (j : Nat) d, j < n + 1 → ds[j]? = some d → inI 0 (m - 1) d = true := fun j d hj hjd => by
            rcases Nat.lt_succ_iff_lt_or_eq.mp hj with z | z
            · exact g1 j d z hjd
            · rw [z, hd1] at hjd
              cases hjd
              exact hin
          refine rd_ite (fun h3 => ?_) (fun h3 => ?_)
          · have hn0 : 0 < n := by
              have := of_decide_eq_true h3
              omega
            obtain ⟨n', rfl⟩ : ∃ n', n = n' + 1 := ⟨n - 1, by omega⟩
            have hyp : ys[n']? = some (ys[n']'(by omega)) := by simp
            obtain ⟨d0, hd0, td0⟩ := hy.get' hyp
            have hin0 := g1 n' d0 (by omega) hd0
            obtain ⟨i0, rfl⟩ : ∃ i, d0 = .int i := by
              cases d0 with
              | int i => exact ⟨i, rfl⟩
              | _ => simp [inI] at hin0
            have ey0 : ys[n']'(by omega) = V.int i0 := tp_int' td0
            have hb0 : (ds.map unitD)[n']? = some i0 := by rw [List.getElem?_map, hd0]; rfl
            walk_at "rd"
            refine rd_ixT hc.2 (at_of (j := n' + 1) (by omega) hyn) ?_
            rw [ey]
            walk_at "rd"
            refine rd_ixT hc.2 (at_of (j := n') (by omega) hyp) ?_
            rw [ey0]
            walk_at "rd"
            refine rd_ite (fun h4 => ?_) (fun h4 => ?_)
            · walk_at "rd"
              rw [isSide_false2 hb0 hb1 (by have := of_decide_eq_true h4; omega)] at q
              exact q
            · refine ⟨rfl, grow, fun j x y hj hx hy => ?_, _, rfl⟩
              rcases Nat.lt_succ_iff_lt_or_eq.mp hj with z | z
              · exact g2 j x y z hx hy
              · have : j = n' := by omega
                subst this
                rw [hb0] at hx
                rw [hb1] at hy
                cases hx
                cases hy
                have := of_decide_eq_false h4
                omega
          · try with_reducible refine rd_no rfl ?_
            refine ⟨rfl, grow, fun j x y hj hx hy => ?_, _, rfl⟩
            have := of_decide_eq_false h3
            have : n = 0 := by omega
            omega
      · rintro σ H1 ⟨rfl, g1, g2, u, rfl⟩
        obtain ⟨e1, e2⟩ := isSide_true (m := m) (sp := sp) (mo := mo) (ds := ds) (fun j d hd => g1 j d (by have := (List.getElem?_eq_some_iff.mp hd).1; simp; omega) hd) (fun j a b h1 h2 => g2 j a b (by have := (List.getElem?_eq_some_iff.mp h2).1; rw [List.length_map] at this; simp; omega) h1 h2)
        have ey := nums_ints e2 hy
        subst ey
        rw [e1] at q
        walk_at "rd"
        refine rd_ixT ha.2 rfl ?_
        walk_at "rd"
        refine ⟨c, _, rfl, .inr (SqT.of hc.2), rfl, ints_flat _, ?_⟩
        walk_at "rd"
        refine rd_ite (fun h3 => ?_) (fun h3 => ?_)
        · walk_at "rd"
          refine rd_ixT ha.2 rfl ?_
          walk_at "rd"
          refine ⟨c, _, rfl, .inr (SqT.of hc.2), rfl, ints_flat _, ?_⟩
          rw [show inV (V.int sp) ((ds.map unitD).map V.int) = true from h3, Bool.true_and] at q
          exact q
        · rw [show inV (V.int sp) ((ds.map unitD).map V.int) = false from h3, Bool.false_and] at q
          exact q
    | _ =>
      walk_at "rd"
      refine rd_yes rfl ?_
      walk_at "rd"
      exact q
theorem ok_law_side (T : Tx K mg) (B : Bk K mg T) : FnOk P w K mg base CX0 5 B.law_side.f B.law_side.fd ["plan", "stream"] (spLawSide T.c_Web) := by
  have G_law_reach := ok_law_reachB (P := P) (w := w) (base := base) T B
  refine B.law_side.F.ok sc_law_side (fun vs H Q E h => ?_) (fun cdv A outer s H vs Q E hr h => ?_)
  · obtain ⟨p, v, m, L, sp, mo, c, U, rfl, _⟩ := h
    rfl
  · obtain ⟨p, v, m, L, sp, mo, c, U, rfl, hv, hR, hU, hc, q⟩ := h
    refine ⟨_, (pss_one (ps_ret (pe_callTy call_tuple_of (by rfl) T.b_tuple (by decide +kernel) (pa_cons (pe_callB cr_sortedI (by rfl) T.b_sorted (by decide +kernel) (pa_cons (pe_listKeysK rfl (pe_call G_law_reach (hr.mono (by decide)) rfl B.law_reach.m B.law_reach.F.kp B.law_reach.b .nil pass0 (pa_cons (pv 0) (pa_cons (pv 1) (pa_cons (pe_ix ix_tup (pv 0) pe_int (fun _ _ => rfl)) pa_nil)))) (by rfl) T.b_list) pa_nil)) pa_nil)))), ?_⟩
    have hm := hR.ends
    obtain ⟨a, xs, rfl, ha, hx⟩ := tp_tup' (id hv)
    obtain ⟨v1, v2, v3, v4, rfl, t1, t2, t3, t4⟩ := tpAll4 hx
    cases tp_int' t1
    cases tp_int' t3
    cases tp_int' t4
    walk_at "rd"
    refine rd_listKeysK ?_
    walk_at "rd"
    refine rd_ixT ha.2 rfl ?_
    refine ⟨p, .ref a, m, L, sp, mo, c, U, sp, rfl, hv, hR, hU, hc, by omega, by omega, fun D ps Dd H1 s1 hD hT hFar hout hlow hpar => ?_⟩
    have hlen := hT.len
    refine ⟨D, _, lineOf sp ps, rfl, hD, ?_, fun l nl => ?_⟩
    · unfold kvsOf lineOf
      simp [List.map_map]
    · have s2 := s1.trans (same_new (o := .lst ((lineOf sp ps).map V.int)) nl)
      walk_at "rd"
      refine ⟨l, lineOf sp ps, rfl, SqL.of upd_same, fun ns p2 hpm hpw np2 => ?_⟩
      have s3 := s2.trans (same_new (o := .lst (ns.map V.int)) np2)
      walk_at "rd"
      refine ⟨p2, _, rfl, .inl ⟨SqL.of upd_same, fun t nt => ?_⟩⟩
      refine q t ns Dd _ (s3.trans (same_new nt)) (s3.free nt) upd_same ⟨hpm.nodup_iff.mpr hT.nd, hpw, fun v => ?_⟩ hFar fun x hx => hT.rg x (hpm.mem_iff.mp hx)
      rw [hpm.mem_iff]
      constructor
      · intro h
        have := hlow v h
        omega
      · intro h
        refine Classical.byContradiction fun c => ?_
        rw [hout v c] at h
        omega
theorem ok_law_side_worth (T : Tx K mg) (B : Bk K mg T) : FnOk P w K mg base CX0 3 B.law_side_worth.f B.law_side_worth.fd ["plan", "side"] (spLawSW T.c_Web) := by
  have G_law_near := ok_law_near (P := P) (w := w) (base := base) T B
  have G_law_lets := ok_law_lets (P := P) (w := w) (base := base) T B
  refine B.law_side_worth.F.ok sc_law_side_worth (fun vs H Q E h => ?_) (fun cdv A outer s H vs Q E hr h => ?_)
  · obtain ⟨p, v, m, L, sp, mo, c, ns, rfl, _⟩ := h
    rfl
  · obtain ⟨p, v, m, L, sp, mo, c, ns, rfl, hv, hR, hc, hd, q⟩ := h
    refine ⟨_, (pss_cons (ps_set (i := 2) sc_law_side_worth.nd rfl (Or.inl rfl) pe_int)
      (pss_cons (ps_for PassesOwn.never rfl (pi_tup (pv 1)) (pg_name (i := 3) sc_law_side_worth.nd rfl (Or.inl rfl)) (pss_one (ps_for PassesOwn.never rfl (pi_list (pe_call G_law_near (hr.mono (by decide)) rfl B.law_near.m B.law_near.F.kp B.law_near.b .nil pass0 (pa_cons (pv 0) (pa_cons (pv 3) pa_nil)))) (pg_name (i := 4) sc_law_side_worth.nd rfl (Or.inl rfl)) (pss_one (ps_if (pt_cmpR op_notIn_seq (pv 4) (pv 1) rfl) (pss_one (ps_set (i := 2) sc_law_side_worth.nd rfl (Or.inl rfl) (pe_op op_add (pv 2) (pe_call G_law_lets (hr.mono (by decide)) rfl B.law_lets.m B.law_lets.F.kp B.law_lets.b .nil pass0 (pa_cons (pv 0) (pa_cons (pv 3) (pa_cons (pv 4) pa_nil))))))) pss_nil)))))
      (pss_one (ps_ret (pv 2))))), ?_⟩
    have hL := hR.len
    walk_at "rd"
    refine ⟨_, rfl, c, rfl, ⟨_, SqT.of hc⟩, for_tup (K := K) (a := c) (xs := ns.map V.int) (fun n σ H1 => Same H H1 ∧ ∃ u1 u2, σ = [some v, some (.ref c), some (.int (((ns.take n).map (outH L ns)).sum)), u1, u2]) ⟨Same.refl H, _, _, rfl⟩ (fun n σ H1 _ hh => SqT.of (hh.1 _ _ hc)) ?_ ?_⟩
    · rintro n y σ H1 hi ⟨hs, u1, u2, rfl⟩
      obtain ⟨h, hn, rfl⟩ := mapint_get hi
      walk_at "rd"
      show iList _ _ _ _ _
      refine rd_ilist ?_
      walk_at "rd"
      refine ⟨p, v, m, L, sp, mo, h, rfl, Tp.keep (Keep.same hs) _ _ hv, hL, fun r ks H2 hr1 s2 hxr hpm hpw => ?_⟩
      have hs2 := hs.trans s2
      refine ⟨r, rfl, ⟨_, SqL.of hxr⟩, for_list (K := K) (a := r) (xs := ks.map V.int)
        (fun i σ H3 => Same H2 H3 ∧ ∃ u2, σ = [some v, some (.ref c), some (.int (((ns.take n).map (outH L ns)).sum + ((ks.take i).map (outO L ns h)).sum)), some (.int h), u2])
        ⟨Same.refl H2, _, by simp; rfl⟩ (fun i σ H3 _ hh => SqL.of (hh.1 _ _ hxr)) ?_ ?_⟩
      · rintro i y σ H3 hi2 ⟨hs3, u3, rfl⟩
        obtain ⟨o, ho, rfl⟩ := mapint_get hi2
        have s23 := hs2.trans hs3
        have hmem : o ∈ aboveOf L h ++ belowOf L h := hpm.mem_iff.mp (List.mem_of_getElem? ho)
        have e1 : ((ks.take (i + 1)).map (outO L ns h)).sum = ((ks.take i).map (outO L ns h)).sum + outO L ns h o := by
          rw [take_snoc ho, List.map_append, List.sum_append]
          simp
        walk_at "rd"
        refine ⟨c, _, rfl, .inr (SqT.of (s23 _ _ hc)), rfl, ints_flat _, ?_⟩
        walk_at "rd"
        refine rd_ite (fun h2 => ?_) (fun h2 => ?_)
        · have hno : isIn ns o = false := by simpa [isIn] using h2
          obtain ⟨q1, hq1, hat⟩ : ∃ q1, q1 ∈ L ∧ atP h o q1 = true := by
            rcases List.mem_append.mp hmem with z | z
            · obtain ⟨q1, hq1, rfl⟩ := List.mem_map.mp z
              obtain ⟨g1, g2⟩ := List.mem_filter.mp hq1
              have b := hR.parts.2.2.1 q1 g1
              simp only [TieIn] at b
              refine ⟨q1, g1, ?_⟩
              simp only [decide_eq_true_eq] at g2
              simp only [atP, Bool.and_eq_true, beq_iff_eq]
              omega
            · obtain ⟨q1, hq1, rfl⟩ := List.mem_map.mp z
              obtain ⟨g1, g2⟩ := List.mem_filter.mp hq1
              have b := hR.parts.2.2.1 q1 g1
              simp only [TieIn] at b
              refine ⟨q1, g1, ?_⟩
              simp only [decide_eq_true_eq] at g2
              simp only [atP, Bool.and_eq_true, beq_iff_eq]
              omega
          obtain ⟨k1, hk1⟩ := List.mem_iff_getElem?.mp hq1
          have hf := hR.find hk1 hat
          walk_at "rd"
          refine ⟨p, v, m, L, sp, mo, h, o, q1, rfl, Tp.keep (Keep.same s23) _ _ hv, hL, hf, fun H4 s4 => ?_⟩
          walk_at "rd"
          refine ⟨hs3.trans s4, some (.int o), ?_⟩
          have e3 : outO L ns h o = if h > o then q1.2.2.2 else q1.2.2.1 := by
            unfold outO letTo
            rw [if_neg (by rw [hno]; simp), hf]
            rfl
          rw [e1, e3, ← Int.add_assoc]
        · have hyes : isIn ns o = true := by simpa [isIn] using h2
          try with_reducible refine rd_no rfl ?_
          have e3 : outO L ns h o = 0 := by
            unfold outO
            rw [if_pos hyes]
          refine ⟨hs3, some (.int o), ?_⟩
          rw [e1, e3, Int.add_zero]
      · rintro σ H3 ⟨hs3, u3, rfl⟩
        refine ⟨hs2.trans hs3, some (.int h), u3, ?_⟩
        have e2 : (((ks.take (ks.map V.int).length)).map (outO L ns h)).sum = outH L ns h := by
          rw [List.length_map, List.take_length]
          unfold outH
          exact perm_sum (hpm.map _)
        rw [e2, take_snoc hn, List.map_append, List.sum_append]
        simp
    · rintro σ H1 ⟨hs, u1, u2, rfl⟩
      walk_at "rd"
      have z := q _ hs
      rw [List.length_map, List.take_length, outH_sum hR hd]
      exact z
end
end Mw

/-! S6 -/
set_option maxHeartbeats 8000000
namespace Mw
open PySem L2
theorem tp_ints {C p : Addr} {H : Hp} : ∀ U : List Int, TpAll C p H (U.map PyData.int) (U.map V.int)
  | [] => tpAll_nil
  | u :: U => tpAll_cons tp_int (tp_ints U)
section
variable {C p : Addr} {H H' : Hp} {K : PySem.W.Frag} {Q : VK}
theorem rd_catT {v u : V} {ds es : List PyData} (hp : ∃ o, H p = some o) (h1 : Tp C p H (.tuple ds) v) (h2 : Tp C p H (.tuple es) u) (hl : ds.length + es.length ≤ 1000) (q : ∀ r H', Same H H' → Tp C p H' (.tuple (ds ++ es)) r → Q r H') : rCatA K v u H Q := by
  obtain ⟨a, xs, rfl, a1, a2⟩ := tp_tup' h1
  obtain ⟨b, ys, rfl, b1, b2⟩ := tp_tup' h2
  obtain ⟨o, ho⟩ := hp
  have l1 := a2.len
  have l2 := b2.len
  refine ⟨a, b, xs, ys, rfl, rfl, SqT.of a1.2, SqT.of b1.2, Nat.le_trans (show xs.length + ys.length ≤ 1000 by omega) (by decide), fun e => ?_, fun _ e => ?_, fun _ _ c hc => ?_⟩
  · have e0 : ds = [] := List.eq_nil_of_length_eq_zero (by rw [l1, e]; rfl)
    rw [e0] at q
    exact q _ _ (Same.refl H) h2
  · have e0 : es = [] := List.eq_nil_of_length_eq_zero (by rw [l2, e]; rfl)
    rw [e0, List.append_nil] at q
    exact q _ _ (Same.refl H) h1
  · exact q _ _ (same_new hc) (tp_tup ⟨(ne_of_none ho hc).symm, upd_same⟩ (TpAll.keep (Keep.new hc) _ _ (a2.append b2)))
theorem rd_cutP {v : V} {ds : List PyData} {lo hi : Option Int} (hp : ∃ o, H p = some o) (h1 : Tp C p H (.tuple ds) v) (q : ∀ r es H', Same H H' → es.length ≤ ds.length → (∀ e ∈ es, e ∈ ds) → Tp C p H' (.tuple es) r → Q r H') : rSlA K v lo hi H Q := by
  obtain ⟨a, xs, rfl, a1, a2⟩ := tp_tup' (id h1)
  obtain ⟨o, ho⟩ := hp
  refine ⟨a, xs, rfl, SqT.of a1.2, fun _ => q _ ds _ (Same.refl H) (Nat.le_refl _) (fun _ h => h) h1, fun _ c hc => ?_⟩
  refine q _ ((ds.drop (HT.sIx xs.length 0 lo)).take (HT.sIx xs.length xs.length hi - HT.sIx xs.length 0 lo)) _ (same_new hc) ?_ (fun e h => List.mem_of_mem_drop (List.mem_of_mem_take h)) (tp_tup ⟨(ne_of_none ho hc).symm, upd_same⟩ (TpAll.keep (Keep.new hc) _ _ ((a2.drop _).take _)))
  rw [List.length_take, List.length_drop]
  omega
end
theorem tp_new {C p l0 a : Addr} {H : Hp} {ds : List PyData} {xs : List V} (hh : HandAt p l0 H) (n : H a = none) (r : TpAll C p H ds xs) : Tp C p (upd H a (.tup xs)) (.tuple ds) (.ref a) := tp_tup ⟨hh.ne n, upd_same⟩ (TpAll.keep (Keep.same (same_new n)) _ _ r)
theorem tp_newL {C p l0 a : Addr} {H : Hp} {ds : List PyData} {xs : List V} (hh : HandAt p l0 H) (n : H a = none) (r : TpAll C p H ds xs) : Tp C p (upd H a (.lst xs)) (.list ds) (.ref a) := tp_lst ⟨hh.ne n, upd_same⟩ (TpAll.keep (Keep.same (same_new n)) _ _ r)
theorem ps {C p : Addr} {H H' : Hp} {d : PyData} {v : V} (h : Tp C p H d v) (s : Same H H') : Tp C p H' d v := Tp.keep (Keep.same s) _ _ h
theorem pas {C p : Addr} {H H' : Hp} {ds : List PyData} {vs : List V} (h : TpAll C p H ds vs) (s : Same H H') : TpAll C p H' ds vs := TpAll.keep (Keep.same s) _ _ h
theorem psn {C p : Addr} {H H' : Hp} {ds : List PyData} {vs : List V} {d : PyData} {v : V} (h : TpAll C p H ds vs) (s : Same H H') (t : Tp C p H' d v) : TpAll C p H' (ds ++ [d]) (vs ++ [v]) := (pas h s).append (tpAll_cons t tpAll_nil)
theorem rd_slA2 {K : PySem.W.Frag} {H : Hp} {Q : VK} {a : Addr} {x0 x1 x2 x3 : V} (h : H a = some (.tup [x0, x1, x2, x3])) (q : ∀ r H', Same H H' → H' r = some (.tup [x2, x3]) → Q (.ref r) H') : rSlA K (.ref a) (some 2) none H Q :=
  ⟨a, _, rfl, SqT.of h, fun e => absurd e.1 (by simp [HT.sIx]), fun _ p hp => q p _ (same_new hp) upd_same⟩
/-- a side, ascending -/
structure SideL (m sp mo : Int) (ns : List Int) : Prop where
  nd : ns.Nodup
  st : ns.Pairwise (· ≤ ·)
  rg : ∀ x ∈ ns, 0 ≤ x ∧ x < m
  sp : sp ∈ ns
  mo : mo ∉ ns
theorem SideL.few {m sp mo : Int} {ns : List Int} (h : SideL m sp mo ns) (hm : m ≤ 10) : ns.length ≤ 10 := by
  have := few_int h.nd h.rg
  omega
def okS (d : PyData) : Prop := ∀ ds, d = .tuple ds → ds.length ≤ 1000
theorem okS_tup {ds : List PyData} (h : ds.length ≤ 1000) : okS (.tuple ds) := fun es e => by
  cases e
  exact h
theorem okS_list {ds : List PyData} : okS (.list ds) := fun es e => by cases e
theorem okS_small {d : PyData} (h : smallD d = true) : okS d := fun ds e => by
  subst e
  simp only [smallD, Bool.and_eq_true, decide_eq_true_eq] at h
  exact h.1
theorem Keep.put2 {p l : Addr} {H H' : Hp} {o : HO} (k : Keep p H H') (n : H l = none) : Keep p H (upd H' l o) := fun b u nb e => (upd_ne (ne_of_none e n)).trans (k b u nb e)
def spSomeSide (C : Addr) : Sp := fun vs H Q _ => ∃ (p l0 : Addr) (v : V) (m : Int) (L : List Tie) (sp mo : Int), vs = [.ref p, v] ∧ Tp C p H (planD m L sp mo) v ∧ Right m L sp mo ∧ HandAt p l0 H ∧
  ∀ (c : Addr) (ns : List Int) (H' : Hp), Keep p H H' → HandAt p l0 H' → At p H' c (.tup (ns.map V.int)) → SideL m sp mo ns → Q (.ref c) H'
def spBentS (C : Addr) : Sp := fun vs H Q _ => ∃ (p l0 : Addr) (v : V) (m : Int) (L : List Tie) (sp mo : Int) (c : Addr) (ns : List Int), vs = [.ref p, v, .ref c] ∧ HandAt p l0 H ∧ Tp C p H (planD m L sp mo) v ∧ Right m L sp mo ∧ At p H c (.tup (ns.map V.int)) ∧ ns.length ≤ 10 ∧
  ∀ d y H', okS d → Tp C p H' d y → HandAt p l0 H' → Keep p H H' → Q y H'
section
variable {P : Program} {w : World} {K : PySem.W.Frag} {mg : Str → Option Value} {base : Heap}
local macro_rules | `(tactic| walk_at "rd") => `(tactic| (repeat (first
  | ((with_reducible refine' rd_var ?h0 ?_); (case h0 => rfl))
  | with_reducible refine rd_c ?_
  | with_reducible refine rd_op ?_
  | with_reducible refine rd_nil ?_
  | with_reducible refine rd_cons ?_
  | with_reducible refine rd_tup ?_
  | with_reducible refine rd_lst ?_
  | with_reducible refine rd_ifs ?_
  | with_reducible refine rd_seq ?_
  | with_reducible refine rd_next ?_
  | with_reducible refine rd_ret ?_
  | with_reducible refine rd_asg ?_
  | ((with_reducible refine' rd_gset ?hs ?_); (case hs => ((simp only [L2.start, List.map_cons, List.map_nil, List.length_cons, List.length_nil, List.cons_append, List.nil_append, List.set_cons_zero, List.set_cons_succ, Nat.reduceAdd, Nat.reduceSub, Nat.zero_add, List.reduceReplicate]); rfl)))
  | with_reducible refine rd_drop ?_
  | with_reducible refine rd_test ?_
  | with_reducible refine rd_B ?_
  | with_reducible refine rd_bl ?_
  | with_reducible refine rd_blP ?_
  | with_reducible refine rd_andV ?_
  | with_reducible refine rd_orV ?_
  | with_reducible refine rd_notV ?_
  | with_reducible refine rd_and ?_
  | with_reducible refine rd_or ?_
  | with_reducible refine rd_not ?_
  | with_reducible refine rd_chain ?_
  | with_reducible refine rd_dput ?_
  | with_reducible refine rd_dget ?_
  | with_reducible refine rd_cb ?_
  | with_reducible refine rd_call ?_
  | with_reducible refine rd_un ?_
  | with_reducible refine rd_sl ?_
  | with_reducible refine rd_nopart ?_
  | with_reducible refine rd_part ?_
  | with_reducible refine rd_intP ?_
  | with_reducible refine rd_rU ?_
  | with_reducible refine rd_fld ?_
  | with_reducible refine rd_eqI ?_
  | with_reducible refine rd_neI ?_
  | with_reducible refine rd_mko ?_
  | with_reducible refine rd_bm ?_
  | with_reducible refine rd_gsub ?_
  | with_reducible refine rd_i0 ?_)))
theorem ok_law_some_side (T : Tx K mg) (B : Bk K mg T) : FnOk P w K mg base CX0 3 B.law_some_side.f B.law_some_side.fd ["hand", "plan"] (spSomeSide T.c_Web) := by
  have G_law_take := ok_law_take (P := P) (w := w) (base := base) T B
  refine B.law_some_side.F.ok sc_law_some_side (fun vs H Q E h => ?_) (fun cdv A outer s H vs Q E hr h => ?_)
  · obtain ⟨p, l0, v, m, L, sp, mo, rfl, _⟩ := h
    rfl
  · obtain ⟨p, l0, v, m, L, sp, mo, rfl, hv, hR, hh, q⟩ := h
    refine ⟨_, (pss_cons (ps_set (i := 2) sc_law_some_side.nd rfl (Or.inl rfl) (pe_lst (pa_cons (pe_ix ix_tup (pv 1) pe_int (fun _ _ => rfl)) pa_nil)))
      (pss_cons (ps_for PassesOwn.never rfl (pi_range1 (by rfl) T.b_range (pa_cons (pe_ix ix_tup (pv 1) pe_int (fun _ _ => rfl)) pa_nil)) (pg_name (i := 3) sc_law_some_side.nd rfl (Or.inl rfl)) (pss_one (ps_if (PW.pt (pw_and (pt_cmpR op_notIn_seq (pv 3) (pe_slice sl_tupA (pv 1) (po_some pe_int) po_none) rfl) (pw_and1 (pt_cmpR op_eq (pe_call G_law_take (hr.mono (by decide)) rfl B.law_take.m B.law_take.F.kp B.law_take.b .nil pass0 (pa_cons (pv 0) (pa_cons pe_int pa_nil))) pe_int (nomark _))))) (pss_one (ps_expr (pe_bm PySem.F.plainAttrs_list PySem.F.slot_list_append PySem.F.type_list_append mt_append (pv 2) (pa_cons (pv 3) pa_nil)))) pss_nil)))
      (pss_one (ps_ret (pe_callTy call_tuple_of (by rfl) T.b_tuple (by decide +kernel) (pa_cons (pe_callB cr_sortedI (by rfl) T.b_sorted (by decide +kernel) (pa_cons (pv 2) pa_nil)) pa_nil)))))), ?_⟩
    have hm := hR.ends
    have hp := hR.parts
    obtain ⟨a, xs, rfl, ha, hx⟩ := tp_tup' (id hv)
    obtain ⟨v1, v2, v3, v4, rfl, t1, t2, t3, t4⟩ := tpAll4 hx
    cases tp_int' t1
    cases tp_int' t3
    cases tp_int' t4
    walk_at "rd"
    refine rd_ixT ha.2 rfl ?_
    refine rd_disp rfl fun l nl => ?_
    have hlp := hh.ne nl
    have hl0 : l ≠ l0 := by
      obtain ⟨u, hu⟩ := hh.there2
      exact (ne_of_none hu nl).symm
    have s1 := same_new (o := .lst [.int sp]) nl
    walk_at "rd"
    show iRng1 _ _ _ _
    refine rd_rng1 ?_
    walk_at "rd"
    refine rd_ixT (s1 _ _ ha.2) rfl ?_
    refine ⟨_, rfl, by omega, by omega, for_range (lo := 0) (n := m.toNat) (fun n σ H2 => Keep p H H2 ∧ HandAt p l0 H2 ∧ (∃ fs : List Int, At p H2 l (.lst (fs.map V.int)) ∧ fs.Nodup ∧ (∀ x ∈ fs, 0 ≤ x ∧ x < m ∧ x ≠ mo ∧ (x = sp ∨ x < (n : Int))) ∧ sp ∈ fs) ∧ ∃ u1, σ = [some (.ref p), some (.ref a), some (.ref l), u1])
      ⟨Keep.same s1, hh.keep s1, ⟨[sp], ⟨hlp, upd_same⟩, by simp, fun x hx => by
        have : x = sp := by simpa using hx
        omega, by simp⟩, _, rfl⟩ ?_ ?_⟩
    · rintro n σ H2 hn ⟨k2, hh2, ⟨fs, hl, hnd, hrg, hsp⟩, u1, rfl⟩
      have hfew : fs.length ≤ m.toNat := few_int hnd fun x hx => by
        have := hrg x hx
        omega
      have stay : ∀ H3, Keep p H2 H3 → HandAt p l0 H3 → Keep p H H3 ∧ HandAt p l0 H3 ∧ (∃ fs : List Int, At p H3 l (.lst (fs.map V.int)) ∧ fs.Nodup ∧ (∀ x ∈ fs, 0 ≤ x ∧ x < m ∧ x ≠ mo ∧ (x = sp ∨ x < ((n + 1 : Nat) : Int))) ∧ sp ∈ fs) ∧ ∃ u1, [some (V.ref p), some (.ref a), some (.ref l), some (.int (0 + (n : Int)))] = [some (.ref p), some (.ref a), some (.ref l), u1] := fun H3 k3 hh3 => ⟨k2.trans k3, hh3, ⟨fs, hl.keep k3, hnd, fun x hx => by
        have := hrg x hx
        omega, hsp⟩, _, rfl⟩
      walk_at "rd"
      refine rd_slA2 (k2 _ _ ha.1 ha.2) fun r H3 s3 hr3 => ?_
      have hh3 := hh2.keep s3
      have hin : inV (.int (0 + (n : Int))) [V.int sp, .int mo] = (decide (0 + (n : Int) = sp) || decide (0 + (n : Int) = mo)) := by
        rw [show [V.int sp, V.int mo] = [sp, mo].map V.int from rfl, inV_ints, Bool.eq_iff_iff]
        simp
      refine ⟨r, _, rfl, .inr (SqT.of hr3), rfl, ints_flat [sp, mo], ?_⟩
      walk_at "rd"
      refine rd_ite (fun h1 => ?_) (fun h1 => ?_)
      · have hne : (n : Int) ≠ sp ∧ (n : Int) ≠ mo := by
          have e : inV (.int (0 + (n : Int))) [V.int sp, .int mo] = false := by simpa using h1
          rw [hin] at e
          simp at e
          exact e
        walk_at "rd"
        refine ⟨p, l0, _, rfl, by decide, by decide, hh3, fun b H4 b0 b1 hh4 k4 => ?_⟩
        have k34 := (Keep.same (p := p) s3).trans k4
        walk_at "rd"
        refine rd_ite (fun h2 => ?_) (fun h2 => ?_)
        · have hl4 := hl.keep k34
          walk_at "rd"
          refine ⟨.inl ⟨rfl, _, SqL.of hl4.2⟩, ?_⟩
          walk_at "rd"
          refine rd_append hl4.2 (small1000 (by rw [List.length_map]; omega)) ?_
          refine ⟨(k2.trans k34).put2 nl, hh4.put hlp hl0, ⟨fs ++ [(n : Int)], ⟨hlp, ?_⟩, ?_, fun x hx => ?_, by simp [hsp]⟩, _, rfl⟩
          · rw [upd_same, List.map_append, show (0 : Int) + (n : Int) = (n : Int) by omega]
            rfl
          · rw [List.nodup_append]
            refine ⟨hnd, by simp, fun x hx y hy e => ?_⟩
            have e2 : y = (n : Int) := by simpa using hy
            have := hrg x hx
            omega
          · rcases List.mem_append.mp hx with z | z
            · have := hrg x z
              omega
            · have e2 : x = (n : Int) := by simpa using z
              omega
        · exact stay _ k34 hh4
      · try with_reducible refine rd_no rfl ?_
        exact stay _ (Keep.same s3) hh3
    · rintro σ H2 ⟨k2, hh2, ⟨fs, hl, hnd, hrg, hsp⟩, u1, rfl⟩
      walk_at "rd"
      refine ⟨l, fs, rfl, SqL.of hl.2, fun ns p2 hpm hpw np2 => ?_⟩
      have s3 := same_new (o := .lst (ns.map V.int)) np2
      have hh3 := hh2.keep s3
      walk_at "rd"
      refine ⟨p2, _, rfl, .inl ⟨SqL.of upd_same, fun t nt => ?_⟩⟩
      refine q t ns _ (k2.trans (Keep.same (s3.trans (same_new nt)))) (hh3.keep (same_new nt)) ⟨hh3.ne nt, upd_same⟩ ⟨hpm.nodup_iff.mpr hnd, hpw, fun x hx => ?_, hpm.mem_iff.mpr hsp, fun hx => ?_⟩
      · have := hrg x (hpm.mem_iff.mp hx)
        omega
      · exact (hrg mo (hpm.mem_iff.mp hx)).2.2.1 rfl
theorem ok_law_bent_side (T : Tx K mg) (B : Bk K mg T) : FnOk P w K mg base CX0 10 B.law_bent_side.f B.law_bent_side.fd ["hand", "plan", "side"] (spBentS T.c_Web) := by
  have G_law_pick := ok_law_pick (P := P) (w := w) (base := base) T B
  have G_law_odd := ok_law_odd (P := P) (w := w) (base := base) T B
  refine B.law_bent_side.F.ok sc_law_bent_side (fun vs H Q E h => ?_) (fun cdv A outer s H vs Q E hr h => ?_)
  · obtain ⟨p, l0, v, m, L, sp, mo, c, ns, rfl, _⟩ := h
    rfl
  · obtain ⟨p, l0, v, m, L, sp, mo, c, ns, rfl, hh, hv, hR, hc, hn, q⟩ := h
    refine ⟨_, (pss_cons (ps_set (i := 3) sc_law_bent_side.nd rfl (Or.inl rfl) (pe_lst (pa_cons (pe_callTy call_list_of (by rfl) T.b_list (by decide +kernel) (pa_cons (pv 2) pa_nil)) (pa_cons (pe_op op_catA (pv 2) (pe_tup (pa_cons (pe_ix ix_tup (pv 1) pe_int (fun _ _ => rfl)) pa_nil))) (pa_cons (pe_slice sl_tupA (pv 2) (po_some pe_int) po_none) (pa_cons (pe_tup (pa_cons (pe_ix ix_tup (pv 1) pe_int (fun _ _ => rfl)) pa_nil)) (pa_cons (pe_op op_catA (pv 2) (pv 2)) (pa_cons (pe_tup pa_nil) (pa_cons pe_non (pa_cons (pe_callTy call_tuple_of (by rfl) T.b_tuple (by decide +kernel) (pa_cons (pe_op op_cat (pe_lst (pa_cons pe_bl pa_nil)) (pe_callTy call_list_of (by rfl) T.b_list (by decide +kernel) (pa_cons (pe_slice sl_tupA (pv 2) (po_some pe_int) po_none) pa_nil))) pa_nil)) (pa_cons (pe_call G_law_odd (hr.mono (by decide)) rfl B.law_odd.m B.law_odd.F.kp B.law_odd.b .nil pass0 (pa_cons (pv 0) pa_nil)) pa_nil)))))))))))
      (pss_one (ps_ret (pe_call G_law_pick (hr.mono (by decide)) rfl B.law_pick.m B.law_pick.F.kp B.law_pick.b .nil pass0 (pa_cons (pv 0) (pa_cons (pe_op op_cat (pv 3) (pe_lst (pa_cons (pe_callTy call_tuple_of (by rfl) T.b_tuple (by decide +kernel) (pa_cons (pe_lc (own := [("k", 4)]) (g := gName 4) rfl sc_law_bent_side.nd (pi_range1 (by rfl) T.b_range (pa_cons (pe_callB call_len_seq (by rfl) T.b_len (by decide +kernel) (pa_cons (pv 2) pa_nil)) pa_nil)) (blkOk_by (own := [("k", 4)]) (N := ["hand", "plan", "side", "menu", "k"]) (sc := defScope s_law_bent_side) (by decide +kernel)) (fun _ _ _ _ _ => pg_name (i := 4) sc_law_bent_side.nd rfl (Or.inl rfl)) (fun _ _ _ _ _ => pts_nil) (fun _ _ _ _ _ => (pe_ix (r := rIxT K) ix_tup (pv 2) (pe_op op_sub (pe_op op_sub (pe_callB (id := "len") (r := rLenS K) call_len_seq (by rfl) T.b_len (by decide +kernel) (pa_cons (pv 2) pa_nil)) pe_int) (pv 4)) (fun _ _ => rfl)))) pa_nil)) (pa_cons (pe_op op_catA (pv 2) (pe_tup (pa_cons (pe_ix ix_tup (pv 1) pe_int (fun _ _ => rfl)) pa_nil))) pa_nil)))) pa_nil)))))), ?_⟩
    obtain ⟨a, xs, rfl, ha, hx⟩ := tp_tup' (id hv)
    obtain ⟨v1, v2, v3, v4, rfl, t1, t2, t3, t4⟩ := tpAll4 hx
    cases tp_int' t1
    cases tp_int' t3
    cases tp_int' t4
    have tS : Tp T.c_Web p H (.tuple (ns.map PyData.int)) (.ref c) := tp_tup hc (tp_ints ns)
    have ln : (ns.map PyData.int).length ≤ 10 := by rw [List.length_map]; exact hn
    walk_at "rd"
    refine ⟨c, _, rfl, .inr (SqT.of hc.2), fun l1 n1 => ?_⟩
    have s1 := same_new (o := .lst (ns.map V.int)) n1
    have hh1 := hh.keep s1
    have y1 := tp_newL hh n1 (tp_ints (C := T.c_Web) ns)
    have m1 := psn (tpAll_nil (C := T.c_Web) (p := p)) s1 y1
    walk_at "rd"
    refine rd_ixT (s1 _ _ ha.2) rfl ?_
    refine rd_disp rfl fun l2 n2 => ?_
    have s2 := same_new (o := .tup [.int mo]) n2
    have hh2 := hh1.keep s2
    have y2 := tp_new hh1 n2 (tp_ints (C := T.c_Web) [mo])
    have S2 := s1.trans s2
    refine rd_catT hh2.there (ps tS S2) y2 (by simp at ln ⊢; omega) fun r3 H3 s3 y3 => ?_
    have hh3 := hh2.keep s3
    have S3 := S2.trans s3
    have m3 := psn m1 (s2.trans s3) y3
    walk_at "rd"
    refine rd_cutP hh3.there (ps tS S3) fun r4 e4 H4 s4 l4 k4 y4 => ?_
    have hh4 := hh3.keep s4
    have S4 := S3.trans s4
    have m4 := psn m3 s4 y4
    walk_at "rd"
    refine rd_ixT (S4 _ _ ha.2) rfl ?_
    refine rd_disp rfl fun l5 n5 => ?_
    have s5 := same_new (o := .tup [.int mo]) n5
    have hh5 := hh4.keep s5
    have S5 := S4.trans s5
    have m5 := psn m4 s5 (tp_new hh4 n5 (tp_ints (C := T.c_Web) [mo]))
    walk_at "rd"
    refine rd_catT hh5.there (ps tS S5) (ps tS S5) (by omega) fun r6 H6 s6 y6 => ?_
    have hh6 := hh5.keep s6
    have S6 := S5.trans s6
    have m6 := psn m5 s6 y6
    walk_at "rd"
    refine rd_disp rfl fun l7 n7 => ?_
    have s7 := same_new (o := .tup []) n7
    have hh7 := hh6.keep s7
    have S7 := S6.trans s7
    have m7 := psn m6 s7 (tp_new hh6 n7 (tpAll_nil (C := T.c_Web)))
    have m7n := psn m7 (Same.refl _) (tp_non (C := T.c_Web) (p := p))
    walk_at "rd"
    refine rd_disp rfl fun l8 n8 => ?_
    have s8 := same_new (o := .lst [.bl true]) n8
    have hh8 := hh7.keep s8
    have S8 := S7.trans s8
    walk_at "rd"
    refine rd_cutP hh8.there (ps tS S8) fun r9 e9 H9 s9 l9 k9 y9 => ?_
    have hh9 := hh8.keep s9
    have S9 := S8.trans s9
    obtain ⟨c9, ys9, rfl, hc9, hy9⟩ := tp_tup' y9
    have ly9 := hy9.len
    refine ⟨c9, _, rfl, .inr (SqT.of hc9.2), fun l10 n10 => ?_⟩
    have s10 := same_new (o := .lst ys9) n10
    have hh10 := hh9.keep s10
    refine ⟨l8, l10, _, _, rfl, rfl, s10 _ _ (s9 _ _ upd_same), upd_same, Nat.le_trans (show _ ≤ 1000 by simp; omega) (by decide), fun l11 n11 => ?_⟩
    have s11 := same_new (o := .lst ([.bl true] ++ ys9)) n11
    have hh11 := hh10.keep s11
    walk_at "rd"
    refine ⟨l11, _, rfl, .inl ⟨SqL.of upd_same, fun t12 n12 => ?_⟩⟩
    have s12 := same_new (o := .tup ([.bl true] ++ ys9)) n12
    have hh12 := hh11.keep s12
    have y12 : Tp T.c_Web p _ (.tuple ([.bool true] ++ e9)) (.ref t12) := tp_new hh11 n12 ((tpAll_cons (tp_bl (b := true)) tpAll_nil).append (pas hy9 (s10.trans s11)))
    have s812 := s8.trans (s9.trans (s10.trans (s11.trans s12)))
    have m12 := psn m7n s812 y12
    have S12 := S7.trans s812
    walk_at "rd"
    refine ⟨p, l0, rfl, hh12, fun d13 x13 H13 sm13 y13 hh13 k13 => ?_⟩
    have m13 := (TpAll.keep k13 _ _ m12).append (tpAll_cons y13 tpAll_nil)
    walk_at "rd"
    refine rd_disp rfl fun lm nm => ?_
    have s14 := same_new (o := .lst [.ref l1, r3, r4, .ref l5, r6, .ref l7, .non, .ref t12, x13]) nm
    have hh14 := hh13.keep s14
    have K14 : Keep p H _ := ((Keep.same S12).trans k13).trans (Keep.same s14)
    have m14 := pas m13 s14
    have hlm : At p _ lm _ := At.mk (p := p) (hh13.ne nm) (upd_same (H := H13) (a := lm) (o := .lst [.ref l1, r3, r4, .ref l5, r6, .ref l7, .non, .ref t12, x13]))
    have hc14 := hc.keep K14
    have tS14 := Tp.keep K14 _ _ tS
    walk_at "rd"
    show iRng1 _ _ _ _
    refine rd_rng1 ?_
    walk_at "rd"
    refine ⟨c, _, rfl, .inr (SqT.of hc14.2), ?_⟩
    generalize hW : ns.map V.int = W at *
    have lW : W.length = ns.length := by rw [← hW, List.length_map]
    refine ⟨_, rfl, by omega, by omega, fun D hD => lc_range (lo := 0) (n := W.length)
      (fun i H15 => Same _ H15 ∧ H15 D = some (.lst (W.reverse.take i))) ⟨same_new hD, upd_same⟩ ?_ ?_⟩
    · rintro i H15 hi ⟨hs, hacc⟩
      refine ⟨rfl, ?_⟩
      refine rd_tyes ?_
      refine rd_yes rfl ?_
      have er : W[W.length - 1 - i]? = some (W[W.length - 1 - i]'(by omega)) := by simp
      generalize W[W.length - 1 - i]'(by omega) = o at er
      have eR : W.reverse[i]? = some o := by rw [List.getElem?_reverse (by omega), er]
      walk_at "rd"
      refine ⟨c, _, rfl, .inr (SqT.of (hs _ _ hc14.2)), ?_⟩
      walk_at "rd"
      refine rd_ixT (hs _ _ hc14.2) (at_of (j := W.length - 1 - i) (by omega) er) ?_
      refine ⟨_, hacc, ?_, fun y o' e' => ?_, ?_⟩
      · refine Nat.lt_of_le_of_lt (?_ : _ ≤ 200) (by decide)
        exact Nat.le_trans (List.length_take_le' _ _) (by rw [List.length_reverse]; omega)
      · rw [upd_ne (ne_of_none e' hD)]
        exact hs y o' e'
      · rw [upd_same, take_snoc eR]
    · rintro H15 ⟨s15, hacc⟩
      rw [show W.length = W.reverse.length by rw [List.length_reverse], List.take_length] at hacc
      have hh15 := hh14.keep s15
      walk_at "rd"
      refine ⟨D, _, rfl, .inl ⟨SqL.of hacc, fun t16 n16 => ?_⟩⟩
      have s16 := same_new (o := .tup W.reverse) n16
      have hh16 := hh15.keep s16
      have y16 : Tp T.c_Web p _ (.tuple (ns.reverse.map PyData.int)) (.ref t16) := tp_new (xs := W.reverse) hh15 n16 (by rw [← hW, ← List.map_reverse]; exact tp_ints ns.reverse)
      have s1416 := s15.trans s16
      walk_at "rd"
      refine rd_ixT (s1416 _ _ (ha.keep K14).2) rfl ?_
      refine rd_disp rfl fun l17 n17 => ?_
      have s17 := same_new (o := .tup [.int m]) n17
      have hh17 := hh16.keep s17
      have y17 := tp_new hh16 n17 (tp_ints (C := T.c_Web) [m])
      have s1417 := s1416.trans s17
      refine rd_catT hh17.there (ps tS14 s1417) y17 (by simp at ln ⊢; omega) fun r18 H18 s18 y18 => ?_
      have hh18 := hh17.keep s18
      walk_at "rd"
      refine rd_disp rfl fun l19 n19 => ?_
      have s19 := same_new (o := .lst [.ref t16, r18]) n19
      have hh19 := hh18.keep s19
      have s1419 := (s1417.trans s18).trans s19
      have z2 := psn (psn (tpAll_nil (C := T.c_Web) (p := p)) s16 y16) (s17.trans s18) y18
      refine ⟨lm, l19, _, _, rfl, rfl, s1419 _ _ hlm.2, upd_same, Nat.le_trans (show _ ≤ 1000 by simp) (by decide), fun l20 n20 => ?_⟩
      have s20 := same_new (o := .lst ([.ref l1, r3, r4, .ref l5, r6, .ref l7, .non, .ref t12, x13] ++ [.ref t16, r18])) n20
      have hh20 := hh19.keep s20
      have mF := (pas m14 (s1419.trans s20)).append (pas z2 (s19.trans s20))
      have ok : ∀ e ∈ ([.list (ns.map PyData.int), .tuple (ns.map PyData.int ++ [mo].map PyData.int), .tuple e4, .tuple ([mo].map PyData.int), .tuple (ns.map PyData.int ++ ns.map PyData.int), .tuple [], .none, .tuple ([.bool true] ++ e9), d13] ++ [.tuple (ns.reverse.map PyData.int), .tuple (ns.map PyData.int ++ [m].map PyData.int)] : List PyData), okS e := fun e he => by
        simp only [List.cons_append, List.nil_append, List.mem_cons, List.not_mem_nil, or_false] at he
        rcases he with rfl | rfl | rfl | rfl | rfl | rfl | rfl | rfl | rfl | rfl | rfl
        · exact okS_list
        · exact okS_tup (by simp at ln ⊢; omega)
        · exact okS_tup (by omega)
        · exact okS_tup (by simp)
        · exact okS_tup (by simp at ln ⊢; omega)
        · exact okS_tup (by simp)
        · intro ds e
          cases e
        · exact okS_tup (by simp; omega)
        · exact okS_small sm13
        · exact okS_tup (by simp; omega)
        · exact okS_tup (by simp at ln ⊢; omega)
      walk_at "rd"
      refine ⟨p, l0, l20, _, rfl, ⟨hh19.ne n20, upd_same⟩, by simp, by simp, hh20, fun j y HF hj hhF kF => ?_⟩
      obtain ⟨dF, hdF, tdF⟩ := mF.get' hj
      exact q dF y HF (ok dF (List.mem_of_getElem? hdF)) (Tp.keep kF _ _ tdF) hhF ((K14.trans (Keep.same (s1419.trans s20))).trans kF)
end
end Mw

/-! S7 -/
set_option maxHeartbeats 8000000
namespace Mw
open PySem L2
def spLaw (K : PySem.W.Frag) : Sp := fun vs H Q _ => ∃ (a : Addr) (ns : List Int), vs = [.ref a] ∧ SqL K H a (ns.map V.int) ∧ ∀ H', Q (.bl true) H'
theorem tp_strm {C p : Addr} {H : Hp} {c : Addr} {U : List Int} (h : At p H c (.tup (U.map V.int))) : Tp C p H (strD U) (.ref c) := tp_tup h (tp_ints U)
theorem plain_ints : ∀ ns : List Int, plainAll (ns.map PyData.int) = true
  | [] => rfl
  | n :: ns => by
    show (true && plainAll (ns.map PyData.int)) = true
    rw [plain_ints ns]
    rfl
theorem depth_ints : ∀ ns : List Int, PyData.depthAll (ns.map PyData.int) = 0
  | [] => rfl
  | n :: ns => by
    show max 0 (PyData.depthAll (ns.map PyData.int)) = 0
    rw [depth_ints ns]
    rfl
theorem unit_ints (ns : List Int) : (ns.map PyData.int).map unitD = ns := by
  rw [List.map_map]
  conv => rhs; rw [← List.map_id ns]
  exact List.map_congr_left fun _ _ => rfl
theorem asc_lt {ns : List Int} (hd : ns.Nodup) (hs : ns.Pairwise (· ≤ ·)) {j : Nat} {a b : Int} (ha : ns[j]? = some a) (hb : ns[j + 1]? = some b) : a < b := by
  have h1 := (List.getElem?_eq_some_iff.mp ha).1
  have h2 := (List.getElem?_eq_some_iff.mp hb).1
  have e1 : ns[j] = a := (List.getElem?_eq_some_iff.mp ha).2
  have e2 : ns[j + 1] = b := (List.getElem?_eq_some_iff.mp hb).2
  have h3 := List.pairwise_iff_getElem.mp hs j (j + 1) h1 h2 (by omega)
  have h4 : a ≠ b := fun e => by
    subst e
    have := nodup_at hd ha hb
    omega
  omega
theorem SideL.is {m sp mo : Int} {ns : List Int} (h : SideL m sp mo ns) : isSide m sp mo (strD ns) = true := by
  unfold strD
  rw [(isSide_true (m := m) (sp := sp) (mo := mo) (ds := ns.map PyData.int) (fun j d hd => by
    rw [List.getElem?_map] at hd
    cases e : ns[j]? with
    | none =>
      rw [e] at hd
      cases hd
    | some x =>
      rw [e] at hd
      cases hd
      have := h.rg x (List.mem_of_getElem? e)
      simp only [inI, Bool.and_eq_true, decide_eq_true_eq]
      omega) fun j a b ha hb => by
    rw [unit_ints] at ha hb
    exact asc_lt h.nd h.st ha hb).1, unit_ints, inV_ints, inV_ints]
  simp [h.sp, h.mo]
/-- of a thing that is a side the numbers -/
theorem side_of_is {C p : Addr} {H : Hp} {m sp mo : Int} {d : PyData} {x : V} (h : isSide m sp mo d = true) (td : Tp C p H d x) : ∃ c ns, x = .ref c ∧ H c = some (.tup (ns.map V.int)) ∧ ns.Nodup ∧ unitsD d = ns := by
  cases d with
  | tuple ds =>
    have h' := h
    simp only [isSide, isLot, Bool.and_eq_true] at h'
    obtain ⟨⟨hn, hlt⟩, _⟩ := h'
    obtain ⟨c, ys, rfl, hc, hy⟩ := tp_tup' td
    have ey := nums_ints hn hy
    subst ey
    refine ⟨c, ds.map unitD, rfl, hc.2, ?_, rfl⟩
    have asc : ∀ l : List Int, (((l.zip l.tail).map fun x => decide (x.1 < x.2)).all id = true) → l.Pairwise (· < ·) := by
      intro l
      induction l with
      | nil => intro _; exact List.Pairwise.nil
      | cons a l ih =>
        intro hl
        cases l with
        | nil => simp
        | cons b l =>
          rw [List.tail_cons, List.zip_cons_cons, List.map_cons, List.all_cons, Bool.and_eq_true] at hl
          have ih' := ih hl.2
          have hab : a < b := by simpa using hl.1
          refine List.pairwise_cons.mpr ⟨fun z hz => ?_, ih'⟩
          rcases List.mem_cons.mp hz with e | hz
          · rw [e]
            exact hab
          · have := (List.pairwise_cons.mp ih').1 z hz
            omega
    exact (asc _ hlt).imp fun h => by omega
  | _ => cases h
def dueD (Dd : Int → Nat) (mo : Int) (ns : List Int) : PyData := if Dd mo < 10 then .none else strD ns
theorem side_one {C p a c : Addr} {H : Hp} {m : Int} {L : List Tie} {sp mo : Int} {U ns : List Int} {Dd : Int → Nat} {Q : VK} {E : XK} (hw : WebAt C p H a m L sp mo) (hR : Right m L sp mo) (hd : Tp C p H (strD U) (.ref c)) (hs : isStr m L sp mo (strD U) = true) (hF : Far (roomTo L U) sp Dd) (hN : NearL Dd ns) (hp : ∃ o, H p = some o)
    (q : ∀ x H', Same H H' → Tp C p H' (dueD Dd mo ns) x → Q x H') : spSideX C [.ref a, .ref c] H Q E :=
  ⟨p, a, m, L, sp, mo, c, U, Dd, rfl, hw, hR, hd, hs, hF, fun h H' s => q _ _ s (by unfold dueD; rw [if_pos h]; exact tp_non), fun h t ns' H' s nt ht hN' => q _ _ s (by
    unfold dueD
    rw [if_neg (by omega), hN.one hN']
    obtain ⟨o, ho⟩ := hp
    exact tp_strm ⟨(ne_of_none ho nt).symm, ht⟩)⟩
theorem due_plain (Dd : Int → Nat) (mo : Int) (ns : List Int) : plainD (dueD Dd mo ns) = true ∧ (dueD Dd mo ns).depth < 5 := by
  unfold dueD
  by_cases h : Dd mo < 10
  · rw [if_pos h]
    exact ⟨rfl, by decide⟩
  · rw [if_neg h]
    refine ⟨plain_ints ns, ?_⟩
    show PyData.depthAll (ns.map PyData.int) + 1 < 5
    rw [depth_ints]
    decide
section
variable {P : Program} {w : World} {K : PySem.W.Frag} {mg : Str → Option Value} {base : Heap}
local macro_rules | `(tactic| walk_at "rd") => `(tactic| (repeat (first
  | ((with_reducible refine' rd_var ?h0 ?_); (case h0 => rfl))
  | with_reducible refine rd_c ?_
  | with_reducible refine rd_op ?_
  | with_reducible refine rd_nil ?_
  | with_reducible refine rd_cons ?_
  | with_reducible refine rd_tup ?_
  | with_reducible refine rd_lst ?_
  | with_reducible refine rd_ifs ?_
  | with_reducible refine rd_seq ?_
  | with_reducible refine rd_next ?_
  | with_reducible refine rd_ret ?_
  | with_reducible refine rd_asg ?_
  | ((with_reducible refine' rd_gset ?hs ?_); (case hs => ((simp only [L2.start, List.map_cons, List.map_nil, List.length_cons, List.length_nil, List.cons_append, List.nil_append, List.set_cons_zero, List.set_cons_succ, Nat.reduceAdd, Nat.reduceSub, Nat.zero_add, List.reduceReplicate]); rfl)))
  | with_reducible refine rd_drop ?_
  | with_reducible refine rd_test ?_
  | with_reducible refine rd_B ?_
  | with_reducible refine rd_bl ?_
  | with_reducible refine rd_blP ?_
  | with_reducible refine rd_andV ?_
  | with_reducible refine rd_orV ?_
  | with_reducible refine rd_notV ?_
  | with_reducible refine rd_and ?_
  | with_reducible refine rd_or ?_
  | with_reducible refine rd_not ?_
  | with_reducible refine rd_chain ?_
  | with_reducible refine rd_dput ?_
  | with_reducible refine rd_dget ?_
  | with_reducible refine rd_cb ?_
  | with_reducible refine rd_call ?_
  | with_reducible refine rd_un ?_
  | with_reducible refine rd_sl ?_
  | with_reducible refine rd_nopart ?_
  | with_reducible refine rd_part ?_
  | with_reducible refine rd_intP ?_
  | with_reducible refine rd_rU ?_
  | with_reducible refine rd_fld ?_
  | with_reducible refine rd_eqI ?_
  | with_reducible refine rd_neI ?_
  | with_reducible refine rd_mko ?_
  | with_reducible refine rd_bm ?_
  | with_reducible refine rd_gsub ?_
  | with_reducible refine rd_i0 ?_)))
theorem ok_law (T : Tx K mg) (B : Bk K mg T) : FnOk P w K mg base CX0 11 B.law.f B.law.fd ["script"] (spLaw K) := by
  have G_law_hand := ok_law_hand (P := P) (w := w) (base := base) T B
  have G_law_web := ok_law_web (P := P) (w := w) (base := base) T B
  have G_law_sizes := ok_law_sizes (P := P) (w := w) (base := base) T B
  have G_law_web_of := ok_law_web_of (P := P) (w := w) (base := base) T B
  have G_law_greatest := ok_law_greatestB (P := P) (w := w) (base := base) T B
  have G_law_some_stream := ok_law_some_stream (P := P) (w := w) (base := base) T B
  have G_law_same := ok_law_same (P := P) (w := w) (base := base) T B 5
  have G_law_worth := ok_law_worth (P := P) (w := w) (base := base) T B
  have G_law_side := ok_law_side (P := P) (w := w) (base := base) T B
  have G_law_is_side := ok_law_is_side (P := P) (w := w) (base := base) T B
  have G_law_side_worth := ok_law_side_worth (P := P) (w := w) (base := base) T B
  have G_law_some_side := ok_law_some_side (P := P) (w := w) (base := base) T B
  have G_law_bent_side := ok_law_bent_side (P := P) (w := w) (base := base) T B
  have G_most := ok_most (P := P) (w := w) (base := base) T B
  have G_side_of := ok_side_ofX (P := P) (w := w) (base := base) T B
  have G_side_worth := ok_side_worth (P := P) (w := w) (base := base) T B
  have G_is_paper := ok_is_paperX (P := P) (w := w) (base := base) T B
  refine B.law.F.ok sc_law (fun vs H Q E h => ?_) (fun cdv A outer s H vs Q E hr h => ?_)
  · obtain ⟨a, ns, rfl, _⟩ := h
    rfl
  · obtain ⟨a, ns, rfl, ha, q⟩ := h
    refine ⟨_, (pss_cons (ps_set (i := 1) sc_law.nd rfl (Or.inl rfl) (pe_call G_law_hand (hr.mono (by decide)) rfl B.law_hand.m B.law_hand.F.kp B.law_hand.b .nil pass0 (pa_cons (pv 0) pa_nil)))
      (pss_cons (ps_set (i := 2) sc_law.nd rfl (Or.inl rfl) (pe_call G_law_web (hr.mono (by decide)) rfl B.law_web.m B.law_web.F.kp B.law_web.b .nil pass0 (pa_cons (pv 1) (pa_cons (pe_call G_law_sizes (hr.mono (by decide)) rfl B.law_sizes.m B.law_sizes.F.kp B.law_sizes.b .nil pass0 (pa_cons (pv 1) pa_nil)) pa_nil))))
      (pss_cons (ps_set (i := 3) sc_law.nd rfl (Or.inl rfl) (pe_call G_law_web_of (hr.mono (by decide)) rfl B.law_web_of.m B.law_web_of.F.kp B.law_web_of.b .nil passL (pa_cons (pv 2) pa_nil)))
      (pss_cons (ps_set (i := 4) sc_law.nd rfl (Or.inl rfl) (pe_call G_law_greatest (hr.mono (by decide)) rfl B.law_greatest.m B.law_greatest.F.kp B.law_greatest.b .nil pass0 (pa_cons (pv 2) pa_nil)))
      (pss_cons (ps_set (i := 5) sc_law.nd rfl (Or.inl rfl) (pe_call G_law_worth (hr.mono (by decide)) rfl B.law_worth.m B.law_worth.F.kp B.law_worth.b .nil pass0 (pa_cons (pv 2) (pa_cons (pv 4) pa_nil))))
      (pss_cons (ps_if (pt_not (pt_val (pe_call G_law_same (hr.mono (by decide)) rfl B.law_same.m B.law_same.F.kp B.law_same.b .nil pass0 (pa_cons (pe_call G_most (hr.mono (by decide)) rfl B.most.m B.most.F.kp B.most.b .nil pass0 (pa_cons (pv 3) pa_nil)) (pa_cons (pv 5) pa_nil))))) (pss_one (ps_ret pe_bl)) pss_nil)
      (pss_cons (ps_for PassesOwn.never rfl (pi_range1 (by rfl) T.b_range (pa_cons pe_int pa_nil)) (pg_name (i := 6) sc_law.nd rfl (Or.inl rfl)) (pss_cons (ps_set (i := 7) sc_law.nd rfl (Or.inl rfl) (pe_call G_law_some_stream (hr.mono (by decide)) rfl B.law_some_stream.m B.law_some_stream.F.kp B.law_some_stream.b .nil pass0 (pa_cons (pv 1) (pa_cons (pv 2) pa_nil))))
      (C8.pss_cut (ps_if (pt_cmpR op_eq (pv 6) pe_int (nomark _)) (pss_one (ps_set (i := 7) sc_law.nd rfl (Or.inl rfl) (pv 4))) pss_nil)
      (pss_cons (ps_set (i := 8) sc_law.nd rfl (Or.inl rfl) (pe_call G_law_side (hr.mono (by decide)) rfl B.law_side.m B.law_side.F.kp B.law_side.b .nil pass0 (pa_cons (pv 2) (pa_cons (pv 7) pa_nil))))
      (pss_cons (ps_set (i := 9) sc_law.nd rfl (Or.inl rfl) (pv 8))
      (C8.pss_cut (ps_if (pt_cmpR op_in_seq (pe_ix ix_tup (pv 2) pe_int (fun _ _ => rfl)) (pv 8) rfl) (pss_one (ps_set (i := 9) sc_law.nd rfl (Or.inl rfl) pe_non)) pss_nil)
      (pss_cons (ps_if (PW.pt (pw_or (pt_cmpR op_ne (pe_cmpR op_isN (pv 9) pe_non (nomark _)) (pe_cmpR op_lt (pe_call G_law_worth (hr.mono (by decide)) rfl B.law_worth.m B.law_worth.F.kp B.law_worth.b .nil pass0 (pa_cons (pv 2) (pa_cons (pv 7) pa_nil))) (pv 5) (nomark _)) (nomark _)) (pw_or1 (pt_not (pt_val (pe_call G_law_same (hr.mono (by decide)) rfl B.law_same.m B.law_same.F.kp B.law_same.b .nil pass0 (pa_cons (pe_call G_side_of (hr.mono (by decide)) rfl B.side_of.m B.side_of.F.kp B.side_of.b .nil passL (pa_cons (pv 3) (pa_cons (pv 7) pa_nil))) (pa_cons (pv 9) pa_nil)))))))) (pss_one (ps_ret pe_bl)) pss_nil)
      (pss_one (ps_for PassesOwn.never rfl (pi_range1 (by rfl) T.b_range (pa_cons pe_int pa_nil)) (pg_name (i := 10) sc_law.nd rfl (Or.inl rfl)) (pss_cons (ps_set (i := 11) sc_law.nd rfl (Or.inl rfl) (pe_call G_law_some_side (hr.mono (by decide)) rfl B.law_some_side.m B.law_some_side.F.kp B.law_some_side.b .nil pass0 (pa_cons (pv 1) (pa_cons (pv 2) pa_nil))))
      (C8.pss_cut (ps_if (PW.pt (pw_and (pt_cmpR op_eq (pv 10) pe_int (nomark _)) (pw_and1 (pt_cmpR op_notN (pv 9) pe_non (nomark _))))) (pss_one (ps_set (i := 11) sc_law.nd rfl (Or.inl rfl) (pv 8))) pss_nil)
      (pss_cons (ps_set (i := 12) sc_law.nd rfl (Or.inl rfl) (pe_call G_law_side_worth (hr.mono (by decide)) rfl B.law_side_worth.m B.law_side_worth.F.kp B.law_side_worth.b .nil pass0 (pa_cons (pv 2) (pa_cons (pv 11) pa_nil))))
      (pss_cons (ps_if (PW.pt (pw_or (pt_not (pt_val (pe_call G_law_same (hr.mono (by decide)) rfl B.law_same.m B.law_same.F.kp B.law_same.b .nil pass0 (pa_cons (pe_call G_side_worth (hr.mono (by decide)) rfl B.side_worth.m B.side_worth.F.kp B.side_worth.b .nil passL (pa_cons (pv 3) (pa_cons (pv 11) pa_nil))) (pa_cons (pv 12) pa_nil))))) (pw_or1 (pt_cmpR op_lt (pv 12) (pv 5) (nomark _))))) (pss_one (ps_ret pe_bl)) pss_nil)
      (pss_cons (ps_if (pt_not (pt_val (pe_call G_law_same (hr.mono (by decide)) rfl B.law_same.m B.law_same.F.kp B.law_same.b .nil pass0 (pa_cons (pe_call G_is_paper (hr.mono (by decide)) rfl B.is_paper.m B.is_paper.F.kp B.is_paper.b .nil passL (pa_cons (pv 3) (pa_cons (pv 7) (pa_cons (pv 11) pa_nil)))) (pa_cons (pe_cmpR op_eq (pv 12) (pe_call G_law_worth (hr.mono (by decide)) rfl B.law_worth.m B.law_worth.F.kp B.law_worth.b .nil pass0 (pa_cons (pv 2) (pa_cons (pv 7) pa_nil))) (nomark _)) pa_nil))))) (pss_one (ps_ret pe_bl)) pss_nil)
      (pss_cons (ps_set (i := 13) sc_law.nd rfl (Or.inl rfl) (pe_call G_law_bent_side (hr.mono (by decide)) rfl B.law_bent_side.m B.law_bent_side.F.kp B.law_bent_side.b .nil pass0 (pa_cons (pv 1) (pa_cons (pv 2) (pa_cons (pv 11) pa_nil)))))
      (pss_cons (ps_set (i := 14) sc_law.nd rfl (Or.inl rfl) (pe_and (pe_call G_law_is_side (hr.mono (by decide)) rfl B.law_is_side.m B.law_is_side.F.kp B.law_is_side.b .nil pass0 (pa_cons (pv 2) (pa_cons (pv 13) pa_nil))) (pe_one (pe_cmpR op_eq (pe_call G_law_side_worth (hr.mono (by decide)) rfl B.law_side_worth.m B.law_side_worth.F.kp B.law_side_worth.b .nil pass0 (pa_cons (pv 2) (pa_cons (pv 13) pa_nil))) (pe_call G_law_worth (hr.mono (by decide)) rfl B.law_worth.m B.law_worth.F.kp B.law_worth.b .nil pass0 (pa_cons (pv 2) (pa_cons (pv 7) pa_nil))) (nomark _)))))
      (pss_one (ps_if (pt_not (pt_val (pe_call G_law_same (hr.mono (by decide)) rfl B.law_same.m B.law_same.F.kp B.law_same.b .nil pass0 (pa_cons (pe_call G_is_paper (hr.mono (by decide)) rfl B.is_paper.m B.is_paper.F.kp B.is_paper.b .nil passL (pa_cons (pv 3) (pa_cons (pv 7) (pa_cons (pv 13) pa_nil)))) (pa_cons (pv 14) pa_nil))))) (pss_one (ps_ret pe_bl)) pss_nil))))))))))))))))))
      (pss_one (ps_ret pe_bl))))))))), ?_⟩
    walk_at "rd"
    refine ⟨a, ns, rfl, ha, fun p l0 H1 hp0 hh1 s1 => ?_⟩
    walk_at "rd"
    refine ⟨p, l0, rfl, hh1, fun m H2 m0 m1 hh2 k2 => ?_⟩
    walk_at "rd"
    refine ⟨p, l0, m, rfl, m0, m1, hh2, fun L0 sp mo v H3 hR0 hv0 hh3 k3 => ?_⟩
    walk_at "rd"
    refine ⟨p, v, .int m, .tuple (L0.map tieD), .int sp, .int mo, rfl, hv0, hh3.there, fun m' L sp' mo' e1 e2 e3 e4 hR w H4 hw hnw s4 => ?_, fun part hb => ?_⟩
    case refine_2 =>
      rw [show webBad (.int m) (.tuple (L0.map tieD)) (.int sp) (.int mo) = none from hR0] at hb
      cases hb
    cases e1
    cases e3
    cases e4
    have hv : Tp T.c_Web p H4 (planD m L sp mo) v := Tp.keep (Keep.same s4) _ _ (by
      unfold planD
      rw [← e2]
      exact hv0)
    have hh4 := hh3.keep s4
    have hL := hR.len
    obtain ⟨pa, xs, rfl, ha0, hx⟩ := tp_tup' (id hv)
    obtain ⟨v1, v2, v3, v4, rfl, t1, t2, t3, t4⟩ := tpAll4 hx
    cases tp_int' t1
    cases tp_int' t3
    cases tp_int' t4
    walk_at "rd"
    refine ⟨p, .ref pa, m, L, sp, mo, rfl, hv, hR, fun cB UB H5 s5 ncB hcB hSB hFB => ?_⟩
    obtain ⟨DB, hFB, hDB⟩ := hFB
    have hh5 := hh4.keep s5
    have hB : At p H5 cB (.tup (UB.map V.int)) := ⟨hh4.ne ncB, hcB⟩
    have shB := far_shut hFB hDB
    have gB := gain_shut hR hSB shB
    walk_at "rd"
    refine ⟨p, .ref pa, m, L, sp, mo, cB, UB, rfl, Tp.keep (Keep.same s5) _ _ hv, hR, hSB.len, hcB, fun H6 s6 => ?_⟩
    have s46 := s5.trans s6
    generalize htop : gainOf L UB mo = top at *
    have le_top : ∀ U, Strm m L sp mo U → gainOf L U mo ≤ top := fun U hS => by
      rw [gB]
      exact gain_le hR hS shB.sp shB.mo
    have out_top : ∀ R : Int → Bool, R sp = true → R mo = false → top ≤ outR L R := fun R h1 h0 => by
      rw [← htop]
      exact gain_le hR hSB h1 h0
    walk_at "rd"
    refine ⟨p, w, m, L, sp, mo, rfl, hw.keep (Keep.same s46), hR, fun t H7 s7 hT => ?_⟩
    have et : t = top := by
      obtain ⟨U, R, hS, hSh, rfl⟩ := hT
      have h1 := le_top U hS
      have h2 := out_top R hSh.sp hSh.mo
      rw [← gain_shut hR hS hSh] at h2
      omega
    subst et
    walk_at "rd"
    refine ⟨p, .int t, _, _, rfl, rfl, show (0 : Nat) < 5 by decide, tp_int, tp_int, fun H8 s8 => ?_⟩
    have s48 := s46.trans (s7.trans s8)
    have hh8 := ((hh5.keep s6).keep s7).keep s8
    have s58 := s6.trans (s7.trans s8)
    walk_at "rd"
    refine rd_no rfl ?_
    walk_at "rd"
    refine ⟨_, rfl, by decide, by decide, for_range (lo := 0) (n := 3) (fun n σ H9 => Keep p H8 H9 ∧ HandAt p l0 H9 ∧ ∃ u6 u7 u8 u9 u10 u11 u12 u13 u14, σ = [some (.ref a), some (.ref p), some (.ref pa), some (.ref w), some (.ref cB), some (.int t), u6, u7, u8, u9, u10, u11, u12, u13, u14])
      ⟨Keep.refl, hh8, _, _, _, _, _, _, _, _, _, rfl⟩ ?_ ?_⟩
    · rintro n σ H9 hn ⟨k9, hh9, u6, u7, u8, u9, u10, u11, u12, u13, u14, rfl⟩
      have k49 := (Keep.same (p := p) s48).trans k9
      walk_at "rd"
      refine ⟨p, l0, .ref pa, m, L, sp, mo, rfl, Tp.keep k49 _ _ hv, hR, hh9, fun c0 U0 HA kA hhA hc0 hS0 => ?_⟩
      have k4A := k49.trans kA
      have hBA := (hB.keep (Keep.same s58)).keep (k9.trans kA)
      walk_at "rd"
      refine ⟨fun σ' H' => ∃ c U, HA = H' ∧ At p HA c (.tup (U.map V.int)) ∧ Strm m L sp mo U ∧ σ' = [some (.ref a), some (.ref p), some (.ref pa), some (.ref w), some (.ref cB), some (.int t), some (.int (0 + (n : Int))), some (.ref c), u8, u9, u10, u11, u12, u13, u14], ?_, ?_⟩
      · walk_at "rd"
        refine rd_ite (fun _ => ?_) (fun _ => ?_)
        · walk_at "rd"
          exact ⟨cB, UB, rfl, hBA, hSB, rfl⟩
        · exact ⟨c0, U0, rfl, hc0, hS0, rfl⟩
      rintro σ' H' ⟨c, U, rfl, hc, hS, rfl⟩
      have tS := tp_strm (C := T.c_Web) hc
      have eS := hS.is
      walk_at "rd"
      refine ⟨p, .ref pa, m, L, sp, mo, c, U, rfl, Tp.keep k4A _ _ hv, hR, hS.len, hc.2, fun tb ns Dd HB sB ntb htb hN hF hrg => ?_⟩
      have hhB := hhA.keep sB
      have hcB2 : At p HB c (.tup (U.map V.int)) := hc.keep (Keep.same sB)
      have hsd : At p HB tb (.tup (ns.map V.int)) := ⟨hhA.ne ntb, htb⟩
      have k4B := k4A.trans (Keep.same sB)
      walk_at "rd"
      refine ⟨fun σ' H' => HB = H' ∧ σ' = [some (.ref a), some (.ref p), some (.ref pa), some (.ref w), some (.ref cB), some (.int t), some (.int (0 + (n : Int))), some (.ref c), some (.ref tb), some (if Dd mo < 10 then .non else .ref tb), u10, u11, u12, u13, u14], ?_, ?_⟩
      · walk_at "rd"
        refine rd_ixT (k4B _ _ ha0.1 ha0.2) rfl ?_
        walk_at "rd"
        refine ⟨tb, _, rfl, .inr (SqT.of htb), rfl, ints_flat _, ?_⟩
        walk_at "rd"
        rw [inV_ints]
        refine rd_ite (fun h1 => ?_) (fun h1 => ?_)
        · walk_at "rd"
          rw [if_pos ((hN.mem mo).mp (of_decide_eq_true h1))]
          exact ⟨rfl, rfl⟩
        · rw [if_neg fun z => of_decide_eq_false h1 ((hN.mem mo).mpr z)]
          exact ⟨rfl, rfl⟩
      rintro σ' H' ⟨rfl, rfl⟩
      have tdue : Tp T.c_Web p HB (dueD Dd mo ns) (if Dd mo < 10 then V.non else V.ref tb) := by
        unfold dueD
        by_cases h : Dd mo < 10
        · rw [if_pos h, if_pos h]
          exact tp_non
        · rw [if_neg h, if_neg h]
          exact tp_strm hsd
      have hnon : decide ((if Dd mo < 10 then V.non else V.ref tb) = V.non) = decide (gainOf L U mo < t) := by
        by_cases h : Dd mo < 10
        · rw [if_pos h]
          have := gain_lt (R := fun v => decide (DB v < 10)) hR hS shB.sp shB.mo (far_out (R := fun v => decide (DB v < 10)) hF h shB.sp shB.mo)
          rw [← gB] at this
          simp [this]
        · rw [if_neg h]
          have hD : Dd mo = 10 := by
            have := hF.top mo
            omega
          have shU := far_shut hF hD
          have h1 := gain_shut hR hS shU
          have h2 := out_top (fun v => decide (Dd v < 10)) shU.sp shU.mo
          have : ¬ gainOf L U mo < t := by omega
          simp [this]
      have hside : Dd mo ≥ 10 → SideL m sp mo ns := fun h => ⟨hN.nd, hN.st, hrg, (hN.mem sp).mpr (by rw [hF.beg]; decide), fun z => by
        have := (hN.mem mo).mp z
        omega⟩
      generalize hdue : (if Dd mo < 10 then V.non else V.ref tb) = due at *
      walk_at "rd"
      refine ⟨rfl, ?_⟩
      walk_at "rd"
      refine ⟨p, .ref pa, m, L, sp, mo, c, U, rfl, Tp.keep k4B _ _ hv, hR, hS.len, hcB2.2, fun HC sC => ?_⟩
      have k4C := k4B.trans (Keep.same sC)
      have hhC := hhB.keep sC
      walk_at "rd"
      refine ⟨rfl, ?_⟩
      walk_at "rd"
      refine rd_no (by rw [hnon]; simp) ?_
      walk_at "rd"
      refine .inl (side_one (hw.keep k4C) hR (Tp.keep (Keep.same (sB.trans sC)) _ _ tS) eS hF hN hhC.there fun x HD sD tx => ?_)
      have hhD := hhC.keep sD
      walk_at "rd"
      refine ⟨p, dueD Dd mo ns, x, due, rfl, (due_plain Dd mo ns).1, (due_plain Dd mo ns).2, tx, ps tdue (sC.trans sD), fun HE sE => ?_⟩
      have hhE := hhD.keep sE
      have sBE := sC.trans (sD.trans sE)
      have k4E := k4B.trans (Keep.same sBE)
      have hcE := hcB2.keep (Keep.same (p := p) sBE)
      have hsE := hsd.keep (Keep.same (p := p) sBE)
      walk_at "rd"
      refine rd_no rfl ?_
      walk_at "rd"
      refine ⟨_, rfl, by decide, by decide, for_range (lo := 0) (n := 3) (fun n2 σ HF => Keep p HE HF ∧ HandAt p l0 HF ∧ ∃ u10 u11 u12 u13 u14, σ = [some (.ref a), some (.ref p), some (.ref pa), some (.ref w), some (.ref cB), some (.int t), some (.int (0 + (n : Int))), some (.ref c), some (.ref tb), some due, u10, u11, u12, u13, u14])
        ⟨Keep.refl, hhE, _, _, _, _, _, rfl⟩ ?_ ?_⟩
      · rintro n2 σ HF hn2 ⟨kF, hhF, u10, u11, u12, u13, u14, rfl⟩
        have k4F := k4E.trans kF
        walk_at "rd"
        refine ⟨p, l0, .ref pa, m, L, sp, mo, rfl, Tp.keep k4F _ _ hv, hR, hhF, fun cG nG HG kG hhG hcG hsG => ?_⟩
        have kEG := kF.trans kG
        have k4G := k4E.trans kEG
        walk_at "rd"
        refine ⟨fun σ' H' => ∃ cT nT, HG = H' ∧ At p HG cT (.tup (nT.map V.int)) ∧ SideL m sp mo nT ∧ σ' = [some (.ref a), some (.ref p), some (.ref pa), some (.ref w), some (.ref cB), some (.int t), some (.int (0 + (n : Int))), some (.ref c), some (.ref tb), some due, some (.int (0 + (n2 : Int))), some (.ref cT), u12, u13, u14], ?_, ?_⟩
        · walk_at "rd"
          refine rd_ite (fun _ => ?_) (fun _ => ?_)
          · walk_at "rd"
            refine ⟨rfl, ?_⟩
            walk_at "rd"
            refine rd_ite (fun h2 => ?_) (fun _ => ?_)
            · walk_at "rd"
              refine ⟨tb, ns, rfl, hsE.keep kEG, hside ?_, rfl⟩
              refine Nat.le_of_not_lt fun z => ?_
              rw [if_pos z] at hdue
              rw [← hdue] at h2
              simp at h2
            · exact ⟨cG, nG, rfl, hcG, hsG, rfl⟩
          · try with_reducible refine rd_no rfl ?_
            exact ⟨cG, nG, rfl, hcG, hsG, rfl⟩
        rintro σ' H' ⟨cT, nT, rfl, hcT, hsT, rfl⟩
        have tT := tp_strm (C := T.c_Web) hcT
        have iT := hsT.is
        have lT := hsT.few hR.parts.2.1
        have okT' : okS (strD nT) := okS_tup (by rw [List.length_map]; omega)
        have hcG2 := hcE.keep kEG
        have tSG := tp_strm (C := T.c_Web) hcG2
        walk_at "rd"
        refine ⟨p, .ref pa, m, L, sp, mo, cT, nT, rfl, Tp.keep k4G _ _ hv, hR, hcT.2, hsT.nd, fun HI sI => ?_⟩
        have hou : t ≤ outSum L nT := by
          rw [outSum_R]
          exact out_top _ (by unfold isIn; rw [inV_ints]; simpa using hsT.sp) (by unfold isIn; rw [inV_ints]; simpa using hsT.mo)
        have k4I := k4G.trans (Keep.same sI)
        walk_at "rd"
        refine ⟨p, w, m, L, sp, mo, strD nT, .ref cT, rfl, hw.keep k4I, hL, ps tT sI, okT', fun ds HJ eds _ sJ => ?_, fun e => ?_⟩
        rotate_left
        · rw [iT] at e
          cases e
        cases eds
        rw [unit_ints]
        have sIJ := sI.trans sJ
        have hhJ := hhG.keep sIJ
        walk_at "rd"
        refine ⟨p, .int (outSum L nT), _, _, rfl, rfl, show (0 : Nat) < 5 by decide, tp_int, tp_int, fun HK sK => ?_⟩
        have sIK := sIJ.trans sK
        walk_at "rd"
        refine rd_no rfl ?_
        walk_at "rd"
        refine rd_no (decide_eq_false (by omega)) ?_
        have k4K := k4G.trans (Keep.same sIK)
        walk_at "rd"
        refine .inl ⟨p, w, m, L, sp, mo, c, U, strD nT, .ref cT, rfl, hw.keep k4K, hR, ps tSG sIK, eS, ps tT sIK, okT', fun HL sL => ?_⟩
        have sIL := sIK.trans sL
        have eP : isPaper m L sp mo U (strD nT) = decide (outSum L nT = gainOf L U mo) := by
          unfold isPaper
          rw [iT, Bool.true_and]
          show decide (outSum L ((nT.map PyData.int).map unitD) = _) = _
          rw [unit_ints]
        rw [eP]
        walk_at "rd"
        refine ⟨p, .ref pa, m, L, sp, mo, c, U, rfl, Tp.keep (k4G.trans (Keep.same sIL)) _ _ hv, hR, hS.len, sIL _ _ hcG2.2, fun HM sM => ?_⟩
        have sIM := sIL.trans sM
        walk_at "rd"
        refine ⟨p, .bool (decide (outSum L nT = gainOf L U mo)), _, _, rfl, rfl, show (0 : Nat) < 5 by decide, tp_bl, tp_bl, fun HN sN => ?_⟩
        have sIN := sIM.trans sN
        have hhN := hhG.keep sIN
        have kGN : Keep p HG HN := Keep.same sIN
        walk_at "rd"
        refine rd_no rfl ?_
        walk_at "rd"
        refine ⟨p, l0, .ref pa, m, L, sp, mo, cT, nT, rfl, hhN, Tp.keep (k4G.trans kGN) _ _ hv, hR, hcT.keep kGN, lT, fun d y HO okd td hhO kO => ?_⟩
        have kGO := kGN.trans kO
        have k4O := k4G.trans kGO
        have hcO := hcG2.keep kGO
        have tSO := Tp.keep kGO _ _ tSG
        walk_at "rd"
        refine ⟨p, .ref pa, y, m, L, sp, mo, d, rfl, Tp.keep k4O _ _ hv, td, okd, ?_⟩
        walk_at "rd"
        refine rd_ite (fun h3 => ?_) (fun h3 => ?_)
        · obtain ⟨cd, nd, rfl, hcd, hnd, eu⟩ := side_of_is h3 td
          walk_at "rd"
          refine ⟨p, .ref pa, m, L, sp, mo, cd, nd, rfl, Tp.keep k4O _ _ hv, hR, hcd, hnd, fun HP sP => ?_⟩
          walk_at "rd"
          refine ⟨p, .ref pa, m, L, sp, mo, c, U, rfl, Tp.keep (k4O.trans (Keep.same sP)) _ _ hv, hR, hS.len, sP _ _ hcO.2, fun HR sR => ?_⟩
          have sOR := sP.trans sR
          walk_at "rd"
          refine .inl ⟨p, w, m, L, sp, mo, c, U, d, .ref cd, rfl, hw.keep (k4O.trans (Keep.same sOR)), hR, ps tSO sOR, eS, ps td sOR, okd, fun HS sS => ?_⟩
          have eQ : isPaper m L sp mo U d = decide (outSum L nd = gainOf L U mo) := by
            unfold isPaper
            rw [h3, Bool.true_and, eu]
          rw [eQ]
          walk_at "rd"
          refine ⟨p, .bool (decide (outSum L nd = gainOf L U mo)), _, _, rfl, rfl, show (0 : Nat) < 5 by decide, tp_bl, tp_bl, fun HT sT => ?_⟩
          walk_at "rd"
          refine rd_no rfl ?_
          have sOT := sOR.trans (sS.trans sT)
          exact ⟨kEG.trans (kGO.trans (Keep.same sOT)), hhO.keep sOT, _, _, _, _, _, rfl⟩
        · walk_at "rd"
          refine .inl ⟨p, w, m, L, sp, mo, c, U, d, y, rfl, hw.keep k4O, hR, tSO, eS, td, okd, fun HS sS => ?_⟩
          have eQ : isPaper m L sp mo U d = false := by
            unfold isPaper
            rw [h3, Bool.false_and]
          rw [eQ]
          walk_at "rd"
          refine ⟨p, .bool false, _, _, rfl, rfl, show (0 : Nat) < 5 by decide, tp_bl, tp_bl, fun HT sT => ?_⟩
          walk_at "rd"
          refine rd_no rfl ?_
          have sOT := sS.trans sT
          exact ⟨kEG.trans (kGO.trans (Keep.same sOT)), hhO.keep sOT, _, _, _, _, _, rfl⟩
      · rintro σ HF ⟨kF, hhF, u10, u11, u12, u13, u14, rfl⟩
        exact ⟨kA.trans ((Keep.same (sB.trans sBE)).trans kF) |> fun z => k9.trans z, hhF, _, _, _, _, _, _, _, _, _, rfl⟩
    · rintro σ H9 ⟨k9, hh9, u6, u7, u8, u9, u10, u11, u12, u13, u14, rfl⟩
      walk_at "rd"
      exact q _
end
end Mw

/-! Z1 -/
namespace Mw
open PySem L2
theorem kit_bt {K : PySem.W.Frag} {C : Addr} {T : String} {b : Bool} (h : PySem.W.mroIn K C (.type T) = some b) (hm : PySem.W.kitMeta T = true) (hne : (Value.ref C == .type T) = false) : PySem.W.kitOne K (.ref C) (.type T) = some b := by
  unfold PySem.W.kitOne PySem.W.kitCls
  rw [if_neg (by rw [hne]; simp)]
  simp only [hm, if_true]
  exact h
theorem kit_cls {K : PySem.W.Frag} {t : Value} {C : Addr} {b : Bool} (hne : (t == .ref C) = false) (h2 : PySem.W.isClsIn K C = true) (h3 : PySem.W.typeIn K (.ref C) = some (.type "type")) (h : PySem.W.subIn K t (.ref C) = some b) : PySem.W.kitOne K t (.ref C) = some b := by
  have e2 : ((PySem.W.clsIn K C).isSome && PySem.W.typeIn K (.ref C) == some (.type "type")) = true := by
    have h2' : (PySem.W.clsIn K C).isSome = true := h2
    rw [h2', h3] <;> rfl
  unfold PySem.W.kitOne PySem.W.kitCls
  rw [if_neg (by rw [hne]; simp)]
  simp only [e2]
  exact h
theorem exm_cls {K : PySem.W.Frag} {S D : Addr} {b : Bool} (h1 : PySem.W.subIn K (.ref D) (.type "BaseException") = some true) (h2 : PySem.W.isClsIn K D = true) (h3 : PySem.W.typeIn K (.ref D) = some (.type "type")) (h4 : PySem.W.subIn K (.ref S) (.ref D) = some b) : PySem.W.exmOne K (.ref S) (.ref D) = some b := by
  have e2 : ((PySem.W.clsIn K D).isSome && PySem.W.typeIn K (.ref D) == some (.type "type")) = true := by
    have h2' : (PySem.W.clsIn K D).isSome = true := h2
    rw [h2', h3] <;> rfl
  unfold PySem.W.exmOne PySem.W.kitCls
  rw [if_pos (by rw [h1] <;> rfl)]
  simp only [e2]
  exact h4
theorem kit_subT {K : PySem.W.Frag} {C : Addr} {T : String} (hm : PySem.W.kitMeta T = true) (h : PySem.W.subIn K (.ref C) (.type T) = some true) : PySem.W.kitOne K (.ref C) (.type T) = some true := by
  unfold PySem.W.kitOne PySem.W.kitCls
  split
  · rfl
  · simp only [hm, if_true]
    exact h
theorem kit_subR {K : PySem.W.Frag} {A C : Addr} (h2 : PySem.W.isClsIn K C = true) (h3 : PySem.W.typeIn K (.ref C) = some (.type "type")) (h : PySem.W.subIn K (.ref A) (.ref C) = some true) : PySem.W.kitOne K (.ref A) (.ref C) = some true := by
  have e2 : ((PySem.W.clsIn K C).isSome && PySem.W.typeIn K (.ref C) == some (.type "type")) = true := by
    have h2' : (PySem.W.clsIn K C).isSome = true := h2
    rw [h2', h3] <;> rfl
  unfold PySem.W.kitOne PySem.W.kitCls
  split
  · rfl
  · simp only [e2]
    exact h
theorem kit_subN {K : PySem.W.Frag} {A C : Addr} (h2 : PySem.W.isClsIn K C = true) (h3 : PySem.W.typeIn K (.ref C) = some (.type "type")) (h : PySem.W.subIn K (.ref A) (.ref C) = some false) (hs : PySem.W.subIn K (.ref A) (.ref A) = some true) : PySem.W.kitOne K (.ref A) (.ref C) = some false := by
  have ne : A ≠ C := fun z => by
    rw [← z, hs] at h
    cases h
  have e2 : ((PySem.W.clsIn K C).isSome && PySem.W.typeIn K (.ref C) == some (.type "type")) = true := by
    have h2' : (PySem.W.clsIn K C).isSome = true := h2
    rw [h2', h3] <;> rfl
  unfold PySem.W.kitOne PySem.W.kitCls
  split
  · rename_i z
    exact absurd (Value.ref.inj (beq_iff_eq.mp z)) ne
  · simp only [e2]
    exact h
theorem tup_not {K : PySem.W.Frag} {C : Addr} : PySem.W.subIn K (.type "tuple") (.ref C) = some false := rfl
theorem fin_of {l : PySem.W.OpenLaw} {w : World} {K : PySem.W.Frag} {mg : Str → Option Value} {fa : Addr} (T : Tx K mg) (B : Bk K mg T) (hfa : mg "law" = some (.ref fa)) (hb : ∀ (s : Shared) (v : Value), BindsTo s B.law.fd ⟨[v], []⟩ [("script", v)]) :
    ∃ fd : FuncData, (∀ (s : Shared) (v : Value), BindsTo s fd ⟨[v], []⟩ [("script", v)]) ∧ ∀ base : Heap, K.In base → base.Ns mainGlobals mg → FnOk l.prog w K mg base CX0 11 fa fd ["script"] (spLaw K) := by
  have e : fa = B.law.f := by
    have z := hfa.symm.trans B.law.m
    injection z with z
    injection z
  subst e
  exact ⟨B.law.fd, hb, fun base _ _ => ok_law T B⟩
theorem all_mk {l : PySem.W.OpenLaw} {w : World} {K : PySem.W.Frag} {h : Heap} {mg : Str → Option Value} {fa c_Web c_BadWeb c_NoStream c_NoSide f0 f1 f2 f3 f4 f5 f6 f7 f8 f9 f10 f11 f12 f13 f14 f15 f16 f17 f18 f19 f20 f21 f22 f23 f24 f25 f26 f27 f28 f29 f30 f31 f32 f33 f34 f35 f36 f37 f38 f39 f40 f41 f42 f43 f44 f45 f46 f47 f48 f49 f50 f51 f52 f53 f54 f55 f56 f57 f58 f59 f60 : Addr} (X : K.In h) (G : h.Ns mainGlobals mg) (hfa : mg "law" = some (.ref fa)) {tk1 tk2 tk3 : Tok}
    {nm0 q0 : Str} {N0 ss0 : Addr} {bs0 : List Value} {sn0 : List Str} {sub0 : List Value} {ab0 : Bool} {col0 : Option Bool} {dd0 : Option Addr} {ma0 mb0 mc0 md0 me0 : Option Value} {nm1 q1 : Str} {N1 ss1 : Addr} {bs1 : List Value} {sn1 : List Str} {sub1 : List Value} {ab1 : Bool} {col1 : Option Bool} {dd1 : Option Addr} {ma1 mb1 mc1 md1 me1 : Option Value} {nm2 q2 : Str} {N2 ss2 : Addr} {bs2 : List Value} {sn2 : List Str} {sub2 : List Value} {ab2 : Bool} {col2 : Option Bool} {dd2 : Option Addr} {ma2 mb2 mc2 md2 me2 : Option Value}
    {od0 an0 : Option Addr} {sl0 : Array (Option Value)} {oc0 kV0 dc0 pm0 cd0 ct0 : Value}
    {od1 an1 : Option Addr} {sl1 : Array (Option Value)} {oc1 kV1 dc1 pm1 cd1 ct1 : Value}
    {od2 an2 : Option Addr} {sl2 : Array (Option Value)} {oc2 kV2 dc2 pm2 cd2 ct2 : Value}
    {od3 an3 : Option Addr} {sl3 : Array (Option Value)} {oc3 kV3 dc3 pm3 cd3 ct3 : Value}
    {od4 an4 : Option Addr} {sl4 : Array (Option Value)} {oc4 kV4 dc4 pm4 cd4 ct4 : Value}
    {od5 an5 : Option Addr} {sl5 : Array (Option Value)} {oc5 kV5 dc5 pm5 cd5 ct5 : Value}
    {od6 an6 : Option Addr} {sl6 : Array (Option Value)} {oc6 kV6 dc6 pm6 cd6 ct6 : Value}
    {od7 an7 : Option Addr} {sl7 : Array (Option Value)} {oc7 kV7 dc7 pm7 cd7 ct7 : Value}
    {od8 an8 : Option Addr} {sl8 : Array (Option Value)} {oc8 kV8 dc8 pm8 cd8 ct8 : Value}
    {od9 an9 : Option Addr} {sl9 : Array (Option Value)} {oc9 kV9 dc9 pm9 cd9 ct9 : Value}
    {od10 an10 : Option Addr} {sl10 : Array (Option Value)} {oc10 kV10 dc10 pm10 cd10 ct10 : Value}
    {od11 an11 : Option Addr} {sl11 : Array (Option Value)} {oc11 kV11 dc11 pm11 cd11 ct11 : Value}
    {od12 an12 : Option Addr} {sl12 : Array (Option Value)} {oc12 kV12 dc12 pm12 cd12 ct12 : Value}
    {od13 an13 : Option Addr} {sl13 : Array (Option Value)} {oc13 kV13 dc13 pm13 cd13 ct13 : Value}
    {od14 an14 : Option Addr} {sl14 : Array (Option Value)} {oc14 kV14 dc14 pm14 cd14 ct14 : Value}
    {od15 an15 : Option Addr} {sl15 : Array (Option Value)} {oc15 kV15 dc15 pm15 cd15 ct15 : Value}
    {od16 an16 : Option Addr} {sl16 : Array (Option Value)} {oc16 kV16 dc16 pm16 cd16 ct16 : Value}
    {od17 an17 : Option Addr} {sl17 : Array (Option Value)} {oc17 kV17 dc17 pm17 cd17 ct17 : Value}
    {od18 an18 : Option Addr} {sl18 : Array (Option Value)} {oc18 kV18 dc18 pm18 cd18 ct18 : Value}
    {od19 an19 : Option Addr} {sl19 : Array (Option Value)} {oc19 kV19 dc19 pm19 cd19 ct19 : Value}
    {od20 an20 : Option Addr} {sl20 : Array (Option Value)} {oc20 kV20 dc20 pm20 cd20 ct20 : Value}
    {od21 an21 : Option Addr} {sl21 : Array (Option Value)} {oc21 kV21 dc21 pm21 cd21 ct21 : Value}
    {od22 an22 : Option Addr} {sl22 : Array (Option Value)} {oc22 kV22 dc22 pm22 cd22 ct22 : Value}
    {od23 an23 : Option Addr} {sl23 : Array (Option Value)} {oc23 kV23 dc23 pm23 cd23 ct23 : Value}
    {od24 an24 : Option Addr} {sl24 : Array (Option Value)} {oc24 kV24 dc24 pm24 cd24 ct24 : Value}
    {od25 an25 : Option Addr} {sl25 : Array (Option Value)} {oc25 kV25 dc25 pm25 cd25 ct25 : Value}
    {od26 an26 : Option Addr} {sl26 : Array (Option Value)} {oc26 kV26 dc26 pm26 cd26 ct26 : Value}
    {od27 an27 : Option Addr} {sl27 : Array (Option Value)} {oc27 kV27 dc27 pm27 cd27 ct27 : Value}
    {od28 an28 : Option Addr} {sl28 : Array (Option Value)} {oc28 kV28 dc28 pm28 cd28 ct28 : Value}
    {od29 an29 : Option Addr} {sl29 : Array (Option Value)} {oc29 kV29 dc29 pm29 cd29 ct29 : Value}
    {od30 an30 : Option Addr} {sl30 : Array (Option Value)} {oc30 kV30 dc30 pm30 cd30 ct30 : Value}
    {od31 an31 : Option Addr} {sl31 : Array (Option Value)} {oc31 kV31 dc31 pm31 cd31 ct31 : Value}
    {od32 an32 : Option Addr} {sl32 : Array (Option Value)} {oc32 kV32 dc32 pm32 cd32 ct32 : Value}
    {od33 an33 : Option Addr} {sl33 : Array (Option Value)} {oc33 kV33 dc33 pm33 cd33 ct33 : Value}
    {od34 an34 : Option Addr} {sl34 : Array (Option Value)} {oc34 kV34 dc34 pm34 cd34 ct34 : Value}
    {od35 an35 : Option Addr} {sl35 : Array (Option Value)} {oc35 kV35 dc35 pm35 cd35 ct35 : Value}
    {od36 an36 : Option Addr} {sl36 : Array (Option Value)} {oc36 kV36 dc36 pm36 cd36 ct36 : Value}
    {od37 an37 : Option Addr} {sl37 : Array (Option Value)} {oc37 kV37 dc37 pm37 cd37 ct37 : Value}
    {od38 an38 : Option Addr} {sl38 : Array (Option Value)} {oc38 kV38 dc38 pm38 cd38 ct38 : Value}
    {od39 an39 : Option Addr} {sl39 : Array (Option Value)} {oc39 kV39 dc39 pm39 cd39 ct39 : Value}
    {od40 an40 : Option Addr} {sl40 : Array (Option Value)} {oc40 kV40 dc40 pm40 cd40 ct40 : Value}
    {od41 an41 : Option Addr} {sl41 : Array (Option Value)} {oc41 kV41 dc41 pm41 cd41 ct41 : Value}
    {od42 an42 : Option Addr} {sl42 : Array (Option Value)} {oc42 kV42 dc42 pm42 cd42 ct42 : Value}
    {od43 an43 : Option Addr} {sl43 : Array (Option Value)} {oc43 kV43 dc43 pm43 cd43 ct43 : Value}
    {od44 an44 : Option Addr} {sl44 : Array (Option Value)} {oc44 kV44 dc44 pm44 cd44 ct44 : Value}
    {od45 an45 : Option Addr} {sl45 : Array (Option Value)} {oc45 kV45 dc45 pm45 cd45 ct45 : Value}
    {od46 an46 : Option Addr} {sl46 : Array (Option Value)} {oc46 kV46 dc46 pm46 cd46 ct46 : Value}
    {od47 an47 : Option Addr} {sl47 : Array (Option Value)} {oc47 kV47 dc47 pm47 cd47 ct47 : Value}
    {od48 an48 : Option Addr} {sl48 : Array (Option Value)} {oc48 kV48 dc48 pm48 cd48 ct48 : Value}
    {od49 an49 : Option Addr} {sl49 : Array (Option Value)} {oc49 kV49 dc49 pm49 cd49 ct49 : Value}
    {od50 an50 : Option Addr} {sl50 : Array (Option Value)} {oc50 kV50 dc50 pm50 cd50 ct50 : Value}
    {od51 an51 : Option Addr} {sl51 : Array (Option Value)} {oc51 kV51 dc51 pm51 cd51 ct51 : Value}
    {od52 an52 : Option Addr} {sl52 : Array (Option Value)} {oc52 kV52 dc52 pm52 cd52 ct52 : Value}
    {od53 an53 : Option Addr} {sl53 : Array (Option Value)} {oc53 kV53 dc53 pm53 cd53 ct53 : Value}
    {od54 an54 : Option Addr} {sl54 : Array (Option Value)} {oc54 kV54 dc54 pm54 cd54 ct54 : Value}
    {od55 an55 : Option Addr} {sl55 : Array (Option Value)} {oc55 kV55 dc55 pm55 cd55 ct55 : Value}
    {od56 an56 : Option Addr} {sl56 : Array (Option Value)} {oc56 kV56 dc56 pm56 cd56 ct56 : Value}
    {od57 an57 : Option Addr} {sl57 : Array (Option Value)} {oc57 kV57 dc57 pm57 cd57 ct57 : Value}
    {od58 an58 : Option Addr} {sl58 : Array (Option Value)} {oc58 kV58 dc58 pm58 cd58 ct58 : Value}
    {od59 an59 : Option Addr} {sl59 : Array (Option Value)} {oc59 kV59 dc59 pm59 cd59 ct59 : Value}
    {od60 an60 : Option Addr} {sl60 : Array (Option Value)} {oc60 kV60 dc60 pm60 cd60 ct60 : Value}
    (g_c_Web : PySem.W.nsIn K mainGlobals "Web" = some (some (.ref c_Web)))
    (g_c_BadWeb : PySem.W.nsIn K mainGlobals "BadWeb" = some (some (.ref c_BadWeb)))
    (g_c_NoStream : PySem.W.nsIn K mainGlobals "NoStream" = some (some (.ref c_NoStream)))
    (g_c_NoSide : PySem.W.nsIn K mainGlobals "NoSide" = some (some (.ref c_NoSide)))
    (g_FEWEST_HOUSES : PySem.W.nsIn K mainGlobals "FEWEST_HOUSES" = some (some (.int 2 tk1)))
    (g_MOST_HOUSES : PySem.W.nsIn K mainGlobals "MOST_HOUSES" = some (some (.int 10 tk2)))
    (g_LETS_LIMIT : PySem.W.nsIn K mainGlobals "LETS_LIMIT" = some (some (.int 1000000 tk3)))
    (b_isinstance : PySem.W.nsIn K mainGlobals "isinstance" = some none)
    (b_int : PySem.W.nsIn K mainGlobals "int" = some none)
    (b_bool : PySem.W.nsIn K mainGlobals "bool" = some none)
    (b_tuple : PySem.W.nsIn K mainGlobals "tuple" = some none)
    (b_list : PySem.W.nsIn K mainGlobals "list" = some none)
    (b_str : PySem.W.nsIn K mainGlobals "str" = some none)
    (b_len : PySem.W.nsIn K mainGlobals "len" = some none)
    (b_range : PySem.W.nsIn K mainGlobals "range" = some none)
    (b_enumerate : PySem.W.nsIn K mainGlobals "enumerate" = some none)
    (b_zip : PySem.W.nsIn K mainGlobals "zip" = some none)
    (b_sorted : PySem.W.nsIn K mainGlobals "sorted" = some none)
    (b_set : PySem.W.nsIn K mainGlobals "set" = some none)
    (b_min : PySem.W.nsIn K mainGlobals "min" = some none)
    (b_max : PySem.W.nsIn K mainGlobals "max" = some none)
    (b_all : PySem.W.nsIn K mainGlobals "all" = some none)
    (b_sum : PySem.W.nsIn K mainGlobals "sum" = some none)
    (w_pg : PySem.W.plainGet K c_Web Str.empty = true)
    (w_hd : PySem.W.hasDictIn K c_Web = true)
    (w_po : PySem.W.plainOver K c_Web = true)
    (w_sa : PySem.W.findIn K (.ref c_Web) "__setattr__" = some (some (.builtin "object.__setattr__")))
    (w_ca : PySem.W.findIn K (.ref c_Web) "__class__" = some (some (.builtin "object.__class__")))
    (w_co : PySem.W.mroIn K c_Web (.type "object") = some true)
    (w_ki : PySem.W.mroIn K c_Web (.type "int") = some false)
    (w_kb : PySem.W.mroIn K c_Web (.type "bool") = some false)
    (w_kt : PySem.W.mroIn K c_Web (.type "tuple") = some false)
    (w_kl : PySem.W.mroIn K c_Web (.type "list") = some false)
    (w_ks : PySem.W.mroIn K c_Web (.type "str") = some false)
    (w_is : PySem.W.isClsIn K c_Web = true)
    (w_ty : PySem.W.typeIn K (.ref c_Web) = some (.type "type"))
    (w_mk : PySem.W.makesIn K c_Web = true)
    (w_kp : PySem.W.keepIn K (.ref c_Web) = true)
    (w_nf : PySem.W.notFirst K c_Web (.type "tuple") = true)
    (w_cg : PySem.W.specialIn K (.builtin "object.__class__") "__get__" = some (some (.builtin "getset_descriptor.__get__")))
    (w_ct : PySem.W.takesIn K (.builtin "object.__class__") = some true)
    (w_na_many : PySem.W.findIn K (.ref c_Web) "many" = some none)
    (w_na_ties : PySem.W.findIn K (.ref c_Web) "ties" = some none)
    (w_na_spring : PySem.W.findIn K (.ref c_Web) "spring" = some none)
    (w_na_mouth : PySem.W.findIn K (.ref c_Web) "mouth" = some none)
    (w_na_through : PySem.W.findIn K (.ref c_Web) "through" = some none)
    (w_na_around : PySem.W.findIn K (.ref c_Web) "around" = some none)
    (x0_l : K.lookup c_BadWeb = some (excClassObj nm0 q0 c_BadWeb N0 bs0 [.ref ss0, .type "ValueError", .type "Exception", .type "BaseException", .type "object"] true sn0 sub0 ab0 col0 dd0 ma0 mb0 mc0 md0 me0 "ValueError.__new__"))
    (x0_sa : PySem.W.findIn K (.ref c_BadWeb) "__setattr__" = some (some (.builtin "object.__setattr__")))
    (x0_ex : PySem.W.subIn K (.ref c_BadWeb) (.type "BaseException") = some true)
    (x0_ty : PySem.W.typeIn K (.ref c_BadWeb) = some (.type "type"))
    (x0_kp : PySem.W.keepIn K (.ref c_BadWeb) = true)
    (x0_is : PySem.W.isClsIn K c_BadWeb = true)
    (x1_l : K.lookup c_NoStream = some (excClassObj nm1 q1 c_NoStream N1 bs1 [.ref ss1, .type "ValueError", .type "Exception", .type "BaseException", .type "object"] true sn1 sub1 ab1 col1 dd1 ma1 mb1 mc1 md1 me1 "ValueError.__new__"))
    (x1_sa : PySem.W.findIn K (.ref c_NoStream) "__setattr__" = some (some (.builtin "object.__setattr__")))
    (x1_ex : PySem.W.subIn K (.ref c_NoStream) (.type "BaseException") = some true)
    (x1_ty : PySem.W.typeIn K (.ref c_NoStream) = some (.type "type"))
    (x1_kp : PySem.W.keepIn K (.ref c_NoStream) = true)
    (x1_is : PySem.W.isClsIn K c_NoStream = true)
    (x2_l : K.lookup c_NoSide = some (excClassObj nm2 q2 c_NoSide N2 bs2 [.ref ss2, .type "ValueError", .type "Exception", .type "BaseException", .type "object"] true sn2 sub2 ab2 col2 dd2 ma2 mb2 mc2 md2 me2 "ValueError.__new__"))
    (x2_sa : PySem.W.findIn K (.ref c_NoSide) "__setattr__" = some (some (.builtin "object.__setattr__")))
    (x2_ex : PySem.W.subIn K (.ref c_NoSide) (.type "BaseException") = some true)
    (x2_ty : PySem.W.typeIn K (.ref c_NoSide) = some (.type "type"))
    (x2_kp : PySem.W.keepIn K (.ref c_NoSide) = true)
    (x2_is : PySem.W.isClsIn K c_NoSide = true)
    (p0_na : PySem.W.findIn K (.ref c_BadWeb) "part" = some none)
    (p0_ga : PySem.W.findIn K (.ref c_BadWeb) "__getattribute__" = some (some (.builtin "BaseException.__getattribute__")))
    (p0_gg : PySem.W.findIn K (.ref c_BadWeb) "__getattr__" = some none)
    (p0_hd : PySem.W.hasDictIn K c_BadWeb = true)
    (a0 : PySem.W.findIn K (.ref c_BadWeb) "__init__" = some (some (.ref f0)))
    (i0 : PySem.W.isFn K (.ref f0) = true)
    (t0 : PySem.W.typeIn K (.ref f0) = some (.type "function"))
    (l0 : K.lookup f0 = some ⟨oc0, od0, .func (PySem.W.fnOf "__init__" "BadWeb.__init__" (defArgs s_BadWeb_init) (defBody s_BadWeb_init) (defScope s_BadWeb_init) .none kV0 dc0 pm0 an0 cd0 ct0), sl0⟩)
    (c0 : PySem.W.codeIn K cd0 "BadWeb.__init__" = true)
    (k0 : PySem.W.keepIn K (.ref f0) = true)
    (a1 : PySem.W.findIn K (.ref c_NoStream) "__init__" = some (some (.ref f1)))
    (i1 : PySem.W.isFn K (.ref f1) = true)
    (t1 : PySem.W.typeIn K (.ref f1) = some (.type "function"))
    (l1 : K.lookup f1 = some ⟨oc1, od1, .func (PySem.W.fnOf "__init__" "NoStream.__init__" (defArgs s_NoStream_init) (defBody s_NoStream_init) (defScope s_NoStream_init) .none kV1 dc1 pm1 an1 cd1 ct1), sl1⟩)
    (c1 : PySem.W.codeIn K cd1 "NoStream.__init__" = true)
    (k1 : PySem.W.keepIn K (.ref f1) = true)
    (a2 : PySem.W.findIn K (.ref c_NoSide) "__init__" = some (some (.ref f2)))
    (i2 : PySem.W.isFn K (.ref f2) = true)
    (t2 : PySem.W.typeIn K (.ref f2) = some (.type "function"))
    (l2 : K.lookup f2 = some ⟨oc2, od2, .func (PySem.W.fnOf "__init__" "NoSide.__init__" (defArgs s_NoSide_init) (defBody s_NoSide_init) (defScope s_NoSide_init) .none kV2 dc2 pm2 an2 cd2 ct2), sl2⟩)
    (c2 : PySem.W.codeIn K cd2 "NoSide.__init__" = true)
    (k2 : PySem.W.keepIn K (.ref f2) = true)
    (a3 : PySem.W.nsIn K mainGlobals "is_int" = some (some (.ref f3)))
    (l3 : K.lookup f3 = some ⟨oc3, od3, .func (PySem.W.fnOf "is_int" "is_int" (defArgs s_is_int) (defBody s_is_int) (defScope s_is_int) .none kV3 dc3 pm3 an3 cd3 ct3), sl3⟩)
    (c3 : PySem.W.codeIn K cd3 "is_int" = true)
    (k3 : PySem.W.keepIn K (.ref f3) = true)
    (a4 : PySem.W.nsIn K mainGlobals "is_number" = some (some (.ref f4)))
    (l4 : K.lookup f4 = some ⟨oc4, od4, .func (PySem.W.fnOf "is_number" "is_number" (defArgs s_is_number) (defBody s_is_number) (defScope s_is_number) .none kV4 dc4 pm4 an4 cd4 ct4), sl4⟩)
    (c4 : PySem.W.codeIn K cd4 "is_number" = true)
    (k4 : PySem.W.keepIn K (.ref f4) = true)
    (a5 : PySem.W.nsIn K mainGlobals "is_number_below" = some (some (.ref f5)))
    (l5 : K.lookup f5 = some ⟨oc5, od5, .func (PySem.W.fnOf "is_number_below" "is_number_below" (defArgs s_is_number_below) (defBody s_is_number_below) (defScope s_is_number_below) .none kV5 dc5 pm5 an5 cd5 ct5), sl5⟩)
    (c5 : PySem.W.codeIn K cd5 "is_number_below" = true)
    (k5 : PySem.W.keepIn K (.ref f5) = true)
    (a6 : PySem.W.nsIn K mainGlobals "is_tuple_of" = some (some (.ref f6)))
    (l6 : K.lookup f6 = some ⟨oc6, od6, .func (PySem.W.fnOf "is_tuple_of" "is_tuple_of" (defArgs s_is_tuple_of) (defBody s_is_tuple_of) (defScope s_is_tuple_of) .none kV6 dc6 pm6 an6 cd6 ct6), sl6⟩)
    (c6 : PySem.W.codeIn K cd6 "is_tuple_of" = true)
    (k6 : PySem.W.keepIn K (.ref f6) = true)
    (a7 : PySem.W.nsIn K mainGlobals "is_lot" = some (some (.ref f7)))
    (l7 : K.lookup f7 = some ⟨oc7, od7, .func (PySem.W.fnOf "is_lot" "is_lot" (defArgs s_is_lot) (defBody s_is_lot) (defScope s_is_lot) .none kV7 dc7 pm7 an7 cd7 ct7), sl7⟩)
    (c7 : PySem.W.codeIn K cd7 "is_lot" = true)
    (k7 : PySem.W.keepIn K (.ref f7) = true)
    (a8 : PySem.W.findIn K (.ref c_Web) "__init__" = some (some (.ref f8)))
    (i8 : PySem.W.isFn K (.ref f8) = true)
    (t8 : PySem.W.typeIn K (.ref f8) = some (.type "function"))
    (l8 : K.lookup f8 = some ⟨oc8, od8, .func (PySem.W.fnOf "__init__" "Web.__init__" (defArgs s_Web_init) (defBody s_Web_init) (defScope s_Web_init) .none kV8 dc8 pm8 an8 cd8 ct8), sl8⟩)
    (c8 : PySem.W.codeIn K cd8 "Web.__init__" = true)
    (k8 : PySem.W.keepIn K (.ref f8) = true)
    (a9 : PySem.W.findIn K (.ref c_Web) "__eq__" = some (some (.ref f9)))
    (i9 : PySem.W.isFn K (.ref f9) = true)
    (t9 : PySem.W.typeIn K (.ref f9) = some (.type "function"))
    (l9 : K.lookup f9 = some ⟨oc9, od9, .func (PySem.W.fnOf "__eq__" "Web.__eq__" (defArgs s_Web_eq) (defBody s_Web_eq) (defScope s_Web_eq) .none kV9 dc9 pm9 an9 cd9 ct9), sl9⟩)
    (c9 : PySem.W.codeIn K cd9 "Web.__eq__" = true)
    (k9 : PySem.W.keepIn K (.ref f9) = true)
    (a10 : PySem.W.nsIn K mainGlobals "_check_many" = some (some (.ref f10)))
    (l10 : K.lookup f10 = some ⟨oc10, od10, .func (PySem.W.fnOf "_check_many" "_check_many" (defArgs s_check_many) (defBody s_check_many) (defScope s_check_many) .none kV10 dc10 pm10 an10 cd10 ct10), sl10⟩)
    (c10 : PySem.W.codeIn K cd10 "_check_many" = true)
    (k10 : PySem.W.keepIn K (.ref f10) = true)
    (a11 : PySem.W.nsIn K mainGlobals "_check_ties" = some (some (.ref f11)))
    (l11 : K.lookup f11 = some ⟨oc11, od11, .func (PySem.W.fnOf "_check_ties" "_check_ties" (defArgs s_check_ties) (defBody s_check_ties) (defScope s_check_ties) .none kV11 dc11 pm11 an11 cd11 ct11), sl11⟩)
    (c11 : PySem.W.codeIn K cd11 "_check_ties" = true)
    (k11 : PySem.W.keepIn K (.ref f11) = true)
    (a12 : PySem.W.nsIn K mainGlobals "_is_tie" = some (some (.ref f12)))
    (l12 : K.lookup f12 = some ⟨oc12, od12, .func (PySem.W.fnOf "_is_tie" "_is_tie" (defArgs s_is_tie) (defBody s_is_tie) (defScope s_is_tie) .none kV12 dc12 pm12 an12 cd12 ct12), sl12⟩)
    (c12 : PySem.W.codeIn K cd12 "_is_tie" = true)
    (k12 : PySem.W.keepIn K (.ref f12) = true)
    (a13 : PySem.W.nsIn K mainGlobals "_through" = some (some (.ref f13)))
    (l13 : K.lookup f13 = some ⟨oc13, od13, .func (PySem.W.fnOf "_through" "_through" (defArgs s_through) (defBody s_through) (defScope s_through) .none kV13 dc13 pm13 an13 cd13 ct13), sl13⟩)
    (c13 : PySem.W.codeIn K cd13 "_through" = true)
    (k13 : PySem.W.keepIn K (.ref f13) = true)
    (a14 : PySem.W.nsIn K mainGlobals "_around" = some (some (.ref f14)))
    (l14 : K.lookup f14 = some ⟨oc14, od14, .func (PySem.W.fnOf "_around" "_around" (defArgs s_around) (defBody s_around) (defScope s_around) .none kV14 dc14 pm14 an14 cd14 ct14), sl14⟩)
    (c14 : PySem.W.codeIn K cd14 "_around" = true)
    (k14 : PySem.W.keepIn K (.ref f14) = true)
    (a15 : PySem.W.nsIn K mainGlobals "is_stream" = some (some (.ref f15)))
    (l15 : K.lookup f15 = some ⟨oc15, od15, .func (PySem.W.fnOf "is_stream" "is_stream" (defArgs s_is_stream) (defBody s_is_stream) (defScope s_is_stream) .none kV15 dc15 pm15 an15 cd15 ct15), sl15⟩)
    (c15 : PySem.W.codeIn K cd15 "is_stream" = true)
    (k15 : PySem.W.keepIn K (.ref f15) = true)
    (a16 : PySem.W.nsIn K mainGlobals "_fits" = some (some (.ref f16)))
    (l16 : K.lookup f16 = some ⟨oc16, od16, .func (PySem.W.fnOf "_fits" "_fits" (defArgs s_fits) (defBody s_fits) (defScope s_fits) .none kV16 dc16 pm16 an16 cd16 ct16), sl16⟩)
    (c16 : PySem.W.codeIn K cd16 "_fits" = true)
    (k16 : PySem.W.keepIn K (.ref f16) = true)
    (a17 : PySem.W.nsIn K mainGlobals "gain" = some (some (.ref f17)))
    (l17 : K.lookup f17 = some ⟨oc17, od17, .func (PySem.W.fnOf "gain" "gain" (defArgs s_gain) (defBody s_gain) (defScope s_gain) .none kV17 dc17 pm17 an17 cd17 ct17), sl17⟩)
    (c17 : PySem.W.codeIn K cd17 "gain" = true)
    (k17 : PySem.W.keepIn K (.ref f17) = true)
    (a18 : PySem.W.nsIn K mainGlobals "check_stream" = some (some (.ref f18)))
    (l18 : K.lookup f18 = some ⟨oc18, od18, .func (PySem.W.fnOf "check_stream" "check_stream" (defArgs s_check_stream) (defBody s_check_stream) (defScope s_check_stream) .none kV18 dc18 pm18 an18 cd18 ct18), sl18⟩)
    (c18 : PySem.W.codeIn K cd18 "check_stream" = true)
    (k18 : PySem.W.keepIn K (.ref f18) = true)
    (a19 : PySem.W.nsIn K mainGlobals "worth" = some (some (.ref f19)))
    (l19 : K.lookup f19 = some ⟨oc19, od19, .func (PySem.W.fnOf "worth" "worth" (defArgs s_worth) (defBody s_worth) (defScope s_worth) .none kV19 dc19 pm19 an19 cd19 ct19), sl19⟩)
    (c19 : PySem.W.codeIn K cd19 "worth" = true)
    (k19 : PySem.W.keepIn K (.ref f19) = true)
    (a20 : PySem.W.nsIn K mainGlobals "room_each_way" = some (some (.ref f20)))
    (l20 : K.lookup f20 = some ⟨oc20, od20, .func (PySem.W.fnOf "room_each_way" "room_each_way" (defArgs s_room_each_way) (defBody s_room_each_way) (defScope s_room_each_way) .none kV20 dc20 pm20 an20 cd20 ct20), sl20⟩)
    (c20 : PySem.W.codeIn K cd20 "room_each_way" = true)
    (k20 : PySem.W.keepIn K (.ref f20) = true)
    (a21 : PySem.W.nsIn K mainGlobals "_reached" = some (some (.ref f21)))
    (l21 : K.lookup f21 = some ⟨oc21, od21, .func (PySem.W.fnOf "_reached" "_reached" (defArgs s_reached) (defBody s_reached) (defScope s_reached) .none kV21 dc21 pm21 an21 cd21 ct21), sl21⟩)
    (c21 : PySem.W.codeIn K cd21 "_reached" = true)
    (k21 : PySem.W.keepIn K (.ref f21) = true)
    (a22 : PySem.W.nsIn K mainGlobals "_way_to_mouth" = some (some (.ref f22)))
    (l22 : K.lookup f22 = some ⟨oc22, od22, .func (PySem.W.fnOf "_way_to_mouth" "_way_to_mouth" (defArgs s_way_to_mouth) (defBody s_way_to_mouth) (defScope s_way_to_mouth) .none kV22 dc22 pm22 an22 cd22 ct22), sl22⟩)
    (c22 : PySem.W.codeIn K cd22 "_way_to_mouth" = true)
    (k22 : PySem.W.keepIn K (.ref f22) = true)
    (a23 : PySem.W.nsIn K mainGlobals "_steps" = some (some (.ref f23)))
    (l23 : K.lookup f23 = some ⟨oc23, od23, .func (PySem.W.fnOf "_steps" "_steps" (defArgs s_steps) (defBody s_steps) (defScope s_steps) .none kV23 dc23 pm23 an23 cd23 ct23), sl23⟩)
    (c23 : PySem.W.codeIn K cd23 "_steps" = true)
    (k23 : PySem.W.keepIn K (.ref f23) = true)
    (a24 : PySem.W.nsIn K mainGlobals "_narrowest" = some (some (.ref f24)))
    (l24 : K.lookup f24 = some ⟨oc24, od24, .func (PySem.W.fnOf "_narrowest" "_narrowest" (defArgs s_narrowest) (defBody s_narrowest) (defScope s_narrowest) .none kV24 dc24 pm24 an24 cd24 ct24), sl24⟩)
    (c24 : PySem.W.codeIn K cd24 "_narrowest" = true)
    (k24 : PySem.W.keepIn K (.ref f24) = true)
    (a25 : PySem.W.nsIn K mainGlobals "most" = some (some (.ref f25)))
    (l25 : K.lookup f25 = some ⟨oc25, od25, .func (PySem.W.fnOf "most" "most" (defArgs s_most) (defBody s_most) (defScope s_most) .none kV25 dc25 pm25 an25 cd25 ct25), sl25⟩)
    (c25 : PySem.W.codeIn K cd25 "most" = true)
    (k25 : PySem.W.keepIn K (.ref f25) = true)
    (a26 : PySem.W.nsIn K mainGlobals "_is_side" = some (some (.ref f26)))
    (l26 : K.lookup f26 = some ⟨oc26, od26, .func (PySem.W.fnOf "_is_side" "_is_side" (defArgs s_is_side) (defBody s_is_side) (defScope s_is_side) .none kV26 dc26 pm26 an26 cd26 ct26), sl26⟩)
    (c26 : PySem.W.codeIn K cd26 "_is_side" = true)
    (k26 : PySem.W.keepIn K (.ref f26) = true)
    (a27 : PySem.W.nsIn K mainGlobals "side_worth" = some (some (.ref f27)))
    (l27 : K.lookup f27 = some ⟨oc27, od27, .func (PySem.W.fnOf "side_worth" "side_worth" (defArgs s_side_worth) (defBody s_side_worth) (defScope s_side_worth) .none kV27 dc27 pm27 an27 cd27 ct27), sl27⟩)
    (c27 : PySem.W.codeIn K cd27 "side_worth" = true)
    (k27 : PySem.W.keepIn K (.ref f27) = true)
    (a28 : PySem.W.nsIn K mainGlobals "side_of" = some (some (.ref f28)))
    (l28 : K.lookup f28 = some ⟨oc28, od28, .func (PySem.W.fnOf "side_of" "side_of" (defArgs s_side_of) (defBody s_side_of) (defScope s_side_of) .none kV28 dc28 pm28 an28 cd28 ct28), sl28⟩)
    (c28 : PySem.W.codeIn K cd28 "side_of" = true)
    (k28 : PySem.W.keepIn K (.ref f28) = true)
    (a29 : PySem.W.nsIn K mainGlobals "is_paper" = some (some (.ref f29)))
    (l29 : K.lookup f29 = some ⟨oc29, od29, .func (PySem.W.fnOf "is_paper" "is_paper" (defArgs s_is_paper) (defBody s_is_paper) (defScope s_is_paper) .none kV29 dc29 pm29 an29 cd29 ct29), sl29⟩)
    (c29 : PySem.W.codeIn K cd29 "is_paper" = true)
    (k29 : PySem.W.keepIn K (.ref f29) = true)
    (a30 : PySem.W.nsIn K mainGlobals "_law_hand" = some (some (.ref f30)))
    (l30 : K.lookup f30 = some ⟨oc30, od30, .func (PySem.W.fnOf "_law_hand" "_law_hand" (defArgs s_law_hand) (defBody s_law_hand) (defScope s_law_hand) .none kV30 dc30 pm30 an30 cd30 ct30), sl30⟩)
    (c30 : PySem.W.codeIn K cd30 "_law_hand" = true)
    (k30 : PySem.W.keepIn K (.ref f30) = true)
    (a31 : PySem.W.nsIn K mainGlobals "_law_take" = some (some (.ref f31)))
    (l31 : K.lookup f31 = some ⟨oc31, od31, .func (PySem.W.fnOf "_law_take" "_law_take" (defArgs s_law_take) (defBody s_law_take) (defScope s_law_take) .none kV31 dc31 pm31 an31 cd31 ct31), sl31⟩)
    (c31 : PySem.W.codeIn K cd31 "_law_take" = true)
    (k31 : PySem.W.keepIn K (.ref f31) = true)
    (a32 : PySem.W.nsIn K mainGlobals "_law_pick" = some (some (.ref f32)))
    (l32 : K.lookup f32 = some ⟨oc32, od32, .func (PySem.W.fnOf "_law_pick" "_law_pick" (defArgs s_law_pick) (defBody s_law_pick) (defScope s_law_pick) .none kV32 dc32 pm32 an32 cd32 ct32), sl32⟩)
    (c32 : PySem.W.codeIn K cd32 "_law_pick" = true)
    (k32 : PySem.W.keepIn K (.ref f32) = true)
    (a33 : PySem.W.nsIn K mainGlobals "_law_is_integer" = some (some (.ref f33)))
    (l33 : K.lookup f33 = some ⟨oc33, od33, .func (PySem.W.fnOf "_law_is_integer" "_law_is_integer" (defArgs s_law_is_integer) (defBody s_law_is_integer) (defScope s_law_is_integer) .none kV33 dc33 pm33 an33 cd33 ct33), sl33⟩)
    (c33 : PySem.W.codeIn K cd33 "_law_is_integer" = true)
    (k33 : PySem.W.keepIn K (.ref f33) = true)
    (a34 : PySem.W.nsIn K mainGlobals "_law_is_within" = some (some (.ref f34)))
    (l34 : K.lookup f34 = some ⟨oc34, od34, .func (PySem.W.fnOf "_law_is_within" "_law_is_within" (defArgs s_law_is_within) (defBody s_law_is_within) (defScope s_law_is_within) .none kV34 dc34 pm34 an34 cd34 ct34), sl34⟩)
    (c34 : PySem.W.codeIn K cd34 "_law_is_within" = true)
    (k34 : PySem.W.keepIn K (.ref f34) = true)
    (a35 : PySem.W.nsIn K mainGlobals "_law_same" = some (some (.ref f35)))
    (l35 : K.lookup f35 = some ⟨oc35, od35, .func (PySem.W.fnOf "_law_same" "_law_same" (defArgs s_law_same) (defBody s_law_same) (defScope s_law_same) .none kV35 dc35 pm35 an35 cd35 ct35), sl35⟩)
    (c35 : PySem.W.codeIn K cd35 "_law_same" = true)
    (k35 : PySem.W.keepIn K (.ref f35) = true)
    (a36 : PySem.W.nsIn K mainGlobals "_law_odd" = some (some (.ref f36)))
    (l36 : K.lookup f36 = some ⟨oc36, od36, .func (PySem.W.fnOf "_law_odd" "_law_odd" (defArgs s_law_odd) (defBody s_law_odd) (defScope s_law_odd) .none kV36 dc36 pm36 an36 cd36 ct36), sl36⟩)
    (c36 : PySem.W.codeIn K cd36 "_law_odd" = true)
    (k36 : PySem.W.keepIn K (.ref f36) = true)
    (a37 : PySem.W.nsIn K mainGlobals "_law_units" = some (some (.ref f37)))
    (l37 : K.lookup f37 = some ⟨oc37, od37, .func (PySem.W.fnOf "_law_units" "_law_units" (defArgs s_law_units) (defBody s_law_units) (defScope s_law_units) .none kV37 dc37 pm37 an37 cd37 ct37), sl37⟩)
    (c37 : PySem.W.codeIn K cd37 "_law_units" = true)
    (k37 : PySem.W.keepIn K (.ref f37) = true)
    (a38 : PySem.W.nsIn K mainGlobals "_law_web" = some (some (.ref f38)))
    (l38 : K.lookup f38 = some ⟨oc38, od38, .func (PySem.W.fnOf "_law_web" "_law_web" (defArgs s_law_web) (defBody s_law_web) (defScope s_law_web) .none kV38 dc38 pm38 an38 cd38 ct38), sl38⟩)
    (c38 : PySem.W.codeIn K cd38 "_law_web" = true)
    (k38 : PySem.W.keepIn K (.ref f38) = true)
    (a39 : PySem.W.nsIn K mainGlobals "_law_web_of" = some (some (.ref f39)))
    (l39 : K.lookup f39 = some ⟨oc39, od39, .func (PySem.W.fnOf "_law_web_of" "_law_web_of" (defArgs s_law_web_of) (defBody s_law_web_of) (defScope s_law_web_of) .none kV39 dc39 pm39 an39 cd39 ct39), sl39⟩)
    (c39 : PySem.W.codeIn K cd39 "_law_web_of" = true)
    (k39 : PySem.W.keepIn K (.ref f39) = true)
    (a40 : PySem.W.nsIn K mainGlobals "_law_near" = some (some (.ref f40)))
    (l40 : K.lookup f40 = some ⟨oc40, od40, .func (PySem.W.fnOf "_law_near" "_law_near" (defArgs s_law_near) (defBody s_law_near) (defScope s_law_near) .none kV40 dc40 pm40 an40 cd40 ct40), sl40⟩)
    (c40 : PySem.W.codeIn K cd40 "_law_near" = true)
    (k40 : PySem.W.keepIn K (.ref f40) = true)
    (a41 : PySem.W.nsIn K mainGlobals "_law_at" = some (some (.ref f41)))
    (l41 : K.lookup f41 = some ⟨oc41, od41, .func (PySem.W.fnOf "_law_at" "_law_at" (defArgs s_law_at) (defBody s_law_at) (defScope s_law_at) .none kV41 dc41 pm41 an41 cd41 ct41), sl41⟩)
    (c41 : PySem.W.codeIn K cd41 "_law_at" = true)
    (k41 : PySem.W.keepIn K (.ref f41) = true)
    (a42 : PySem.W.nsIn K mainGlobals "_law_lets" = some (some (.ref f42)))
    (l42 : K.lookup f42 = some ⟨oc42, od42, .func (PySem.W.fnOf "_law_lets" "_law_lets" (defArgs s_law_lets) (defBody s_law_lets) (defScope s_law_lets) .none kV42 dc42 pm42 an42 cd42 ct42), sl42⟩)
    (c42 : PySem.W.codeIn K cd42 "_law_lets" = true)
    (k42 : PySem.W.keepIn K (.ref f42) = true)
    (a43 : PySem.W.nsIn K mainGlobals "_law_flow" = some (some (.ref f43)))
    (l43 : K.lookup f43 = some ⟨oc43, od43, .func (PySem.W.fnOf "_law_flow" "_law_flow" (defArgs s_law_flow) (defBody s_law_flow) (defScope s_law_flow) .none kV43 dc43 pm43 an43 cd43 ct43), sl43⟩)
    (c43 : PySem.W.codeIn K cd43 "_law_flow" = true)
    (k43 : PySem.W.keepIn K (.ref f43) = true)
    (a44 : PySem.W.nsIn K mainGlobals "_law_room" = some (some (.ref f44)))
    (l44 : K.lookup f44 = some ⟨oc44, od44, .func (PySem.W.fnOf "_law_room" "_law_room" (defArgs s_law_room) (defBody s_law_room) (defScope s_law_room) .none kV44 dc44 pm44 an44 cd44 ct44), sl44⟩)
    (c44 : PySem.W.codeIn K cd44 "_law_room" = true)
    (k44 : PySem.W.keepIn K (.ref f44) = true)
    (a45 : PySem.W.nsIn K mainGlobals "_law_come" = some (some (.ref f45)))
    (l45 : K.lookup f45 = some ⟨oc45, od45, .func (PySem.W.fnOf "_law_come" "_law_come" (defArgs s_law_come) (defBody s_law_come) (defScope s_law_come) .none kV45 dc45 pm45 an45 cd45 ct45), sl45⟩)
    (c45 : PySem.W.codeIn K cd45 "_law_come" = true)
    (k45 : PySem.W.keepIn K (.ref f45) = true)
    (a46 : PySem.W.nsIn K mainGlobals "_law_reach" = some (some (.ref f46)))
    (l46 : K.lookup f46 = some ⟨oc46, od46, .func (PySem.W.fnOf "_law_reach" "_law_reach" (defArgs s_law_reach) (defBody s_law_reach) (defScope s_law_reach) .none kV46 dc46 pm46 an46 cd46 ct46), sl46⟩)
    (c46 : PySem.W.codeIn K cd46 "_law_reach" = true)
    (k46 : PySem.W.keepIn K (.ref f46) = true)
    (a47 : PySem.W.nsIn K mainGlobals "_law_way" = some (some (.ref f47)))
    (l47 : K.lookup f47 = some ⟨oc47, od47, .func (PySem.W.fnOf "_law_way" "_law_way" (defArgs s_law_way) (defBody s_law_way) (defScope s_law_way) .none kV47 dc47 pm47 an47 cd47 ct47), sl47⟩)
    (c47 : PySem.W.codeIn K cd47 "_law_way" = true)
    (k47 : PySem.W.keepIn K (.ref f47) = true)
    (a48 : PySem.W.nsIn K mainGlobals "_law_sent" = some (some (.ref f48)))
    (l48 : K.lookup f48 = some ⟨oc48, od48, .func (PySem.W.fnOf "_law_sent" "_law_sent" (defArgs s_law_sent) (defBody s_law_sent) (defScope s_law_sent) .none kV48 dc48 pm48 an48 cd48 ct48), sl48⟩)
    (c48 : PySem.W.codeIn K cd48 "_law_sent" = true)
    (k48 : PySem.W.keepIn K (.ref f48) = true)
    (a49 : PySem.W.nsIn K mainGlobals "_law_least_room" = some (some (.ref f49)))
    (l49 : K.lookup f49 = some ⟨oc49, od49, .func (PySem.W.fnOf "_law_least_room" "_law_least_room" (defArgs s_law_least_room) (defBody s_law_least_room) (defScope s_law_least_room) .none kV49 dc49 pm49 an49 cd49 ct49), sl49⟩)
    (c49 : PySem.W.codeIn K cd49 "_law_least_room" = true)
    (k49 : PySem.W.keepIn K (.ref f49) = true)
    (a50 : PySem.W.nsIn K mainGlobals "_law_greatest" = some (some (.ref f50)))
    (l50 : K.lookup f50 = some ⟨oc50, od50, .func (PySem.W.fnOf "_law_greatest" "_law_greatest" (defArgs s_law_greatest) (defBody s_law_greatest) (defScope s_law_greatest) .none kV50 dc50 pm50 an50 cd50 ct50), sl50⟩)
    (c50 : PySem.W.codeIn K cd50 "_law_greatest" = true)
    (k50 : PySem.W.keepIn K (.ref f50) = true)
    (a51 : PySem.W.nsIn K mainGlobals "_law_worth" = some (some (.ref f51)))
    (l51 : K.lookup f51 = some ⟨oc51, od51, .func (PySem.W.fnOf "_law_worth" "_law_worth" (defArgs s_law_worth) (defBody s_law_worth) (defScope s_law_worth) .none kV51 dc51 pm51 an51 cd51 ct51), sl51⟩)
    (c51 : PySem.W.codeIn K cd51 "_law_worth" = true)
    (k51 : PySem.W.keepIn K (.ref f51) = true)
    (a52 : PySem.W.nsIn K mainGlobals "_law_ring" = some (some (.ref f52)))
    (l52 : K.lookup f52 = some ⟨oc52, od52, .func (PySem.W.fnOf "_law_ring" "_law_ring" (defArgs s_law_ring) (defBody s_law_ring) (defScope s_law_ring) .none kV52 dc52 pm52 an52 cd52 ct52), sl52⟩)
    (c52 : PySem.W.codeIn K cd52 "_law_ring" = true)
    (k52 : PySem.W.keepIn K (.ref f52) = true)
    (a53 : PySem.W.nsIn K mainGlobals "_law_some_stream" = some (some (.ref f53)))
    (l53 : K.lookup f53 = some ⟨oc53, od53, .func (PySem.W.fnOf "_law_some_stream" "_law_some_stream" (defArgs s_law_some_stream) (defBody s_law_some_stream) (defScope s_law_some_stream) .none kV53 dc53 pm53 an53 cd53 ct53), sl53⟩)
    (c53 : PySem.W.codeIn K cd53 "_law_some_stream" = true)
    (k53 : PySem.W.keepIn K (.ref f53) = true)
    (a54 : PySem.W.nsIn K mainGlobals "_law_side" = some (some (.ref f54)))
    (l54 : K.lookup f54 = some ⟨oc54, od54, .func (PySem.W.fnOf "_law_side" "_law_side" (defArgs s_law_side) (defBody s_law_side) (defScope s_law_side) .none kV54 dc54 pm54 an54 cd54 ct54), sl54⟩)
    (c54 : PySem.W.codeIn K cd54 "_law_side" = true)
    (k54 : PySem.W.keepIn K (.ref f54) = true)
    (a55 : PySem.W.nsIn K mainGlobals "_law_is_side" = some (some (.ref f55)))
    (l55 : K.lookup f55 = some ⟨oc55, od55, .func (PySem.W.fnOf "_law_is_side" "_law_is_side" (defArgs s_law_is_side) (defBody s_law_is_side) (defScope s_law_is_side) .none kV55 dc55 pm55 an55 cd55 ct55), sl55⟩)
    (c55 : PySem.W.codeIn K cd55 "_law_is_side" = true)
    (k55 : PySem.W.keepIn K (.ref f55) = true)
    (a56 : PySem.W.nsIn K mainGlobals "_law_side_worth" = some (some (.ref f56)))
    (l56 : K.lookup f56 = some ⟨oc56, od56, .func (PySem.W.fnOf "_law_side_worth" "_law_side_worth" (defArgs s_law_side_worth) (defBody s_law_side_worth) (defScope s_law_side_worth) .none kV56 dc56 pm56 an56 cd56 ct56), sl56⟩)
    (c56 : PySem.W.codeIn K cd56 "_law_side_worth" = true)
    (k56 : PySem.W.keepIn K (.ref f56) = true)
    (a57 : PySem.W.nsIn K mainGlobals "_law_sizes" = some (some (.ref f57)))
    (l57 : K.lookup f57 = some ⟨oc57, od57, .func (PySem.W.fnOf "_law_sizes" "_law_sizes" (defArgs s_law_sizes) (defBody s_law_sizes) (defScope s_law_sizes) .none kV57 dc57 pm57 an57 cd57 ct57), sl57⟩)
    (c57 : PySem.W.codeIn K cd57 "_law_sizes" = true)
    (k57 : PySem.W.keepIn K (.ref f57) = true)
    (a58 : PySem.W.nsIn K mainGlobals "_law_some_side" = some (some (.ref f58)))
    (l58 : K.lookup f58 = some ⟨oc58, od58, .func (PySem.W.fnOf "_law_some_side" "_law_some_side" (defArgs s_law_some_side) (defBody s_law_some_side) (defScope s_law_some_side) .none kV58 dc58 pm58 an58 cd58 ct58), sl58⟩)
    (c58 : PySem.W.codeIn K cd58 "_law_some_side" = true)
    (k58 : PySem.W.keepIn K (.ref f58) = true)
    (a59 : PySem.W.nsIn K mainGlobals "_law_bent_side" = some (some (.ref f59)))
    (l59 : K.lookup f59 = some ⟨oc59, od59, .func (PySem.W.fnOf "_law_bent_side" "_law_bent_side" (defArgs s_law_bent_side) (defBody s_law_bent_side) (defScope s_law_bent_side) .none kV59 dc59 pm59 an59 cd59 ct59), sl59⟩)
    (c59 : PySem.W.codeIn K cd59 "_law_bent_side" = true)
    (k59 : PySem.W.keepIn K (.ref f59) = true)
    (a60 : PySem.W.nsIn K mainGlobals "law" = some (some (.ref f60)))
    (l60 : K.lookup f60 = some ⟨oc60, od60, .func (PySem.W.fnOf "law" "law" (defArgs s_law) (defBody s_law) (defScope s_law) .none kV60 dc60 pm60 an60 cd60 ct60), sl60⟩)
    (c60 : PySem.W.codeIn K cd60 "law" = true)
    (k60 : PySem.W.keepIn K (.ref f60) = true) :
    ∃ fd : FuncData, (∀ (s : Shared) (v : Value), BindsTo s fd ⟨[v], []⟩ [("script", v)]) ∧ ∀ base : Heap, K.In base → base.Ns mainGlobals mg → FnOk l.prog w K mg base CX0 11 fa fd ["script"] (spLaw K) := by
  have hb : ∀ (s : Shared) (v : Value), BindsTo s (PySem.W.fnOf "law" "law" (defArgs s_law) (defBody s_law) (defScope s_law) .none kV60 dc60 pm60 an60 cd60 ct60) ⟨[v], []⟩ [("script", v)] := fun s v => .of_eq rfl
  let T : Tx K mg := {
    c_Web := c_Web, c_BadWeb := c_BadWeb, c_NoStream := c_NoStream, c_NoSide := c_NoSide,
    b_isinstance := PySem.W.mg_none_of X G b_isinstance,
    b_int := PySem.W.mg_none_of X G b_int,
    b_bool := PySem.W.mg_none_of X G b_bool,
    b_tuple := PySem.W.mg_none_of X G b_tuple,
    b_list := PySem.W.mg_none_of X G b_list,
    b_str := PySem.W.mg_none_of X G b_str,
    b_len := PySem.W.mg_none_of X G b_len,
    b_range := PySem.W.mg_none_of X G b_range,
    b_enumerate := PySem.W.mg_none_of X G b_enumerate,
    b_zip := PySem.W.mg_none_of X G b_zip,
    b_sorted := PySem.W.mg_none_of X G b_sorted,
    b_set := PySem.W.mg_none_of X G b_set,
    b_min := PySem.W.mg_none_of X G b_min,
    b_max := PySem.W.mg_none_of X G b_max,
    b_all := PySem.W.mg_none_of X G b_all,
    b_sum := PySem.W.mg_none_of X G b_sum,
    g_Web := PySem.W.mg_of X G g_c_Web,
    g_BadWeb := PySem.W.mg_of X G g_c_BadWeb,
    g_NoStream := PySem.W.mg_of X G g_c_NoStream,
    g_NoSide := PySem.W.mg_of X G g_c_NoSide,
    k1 := tk1, k2 := tk2, k3 := tk3,
    g_FEWEST_HOUSES := PySem.W.mg_of X G g_FEWEST_HOUSES,
    g_MOST_HOUSES := PySem.W.mg_of X G g_MOST_HOUSES,
    g_LETS_LIMIT := PySem.W.mg_of X G g_LETS_LIMIT,
    W := ⟨⟨w_pg, w_hd, w_po, w_sa⟩, w_ca, w_cg, w_ct, w_co, kit_bt w_ki rfl rfl, kit_bt w_kb rfl rfl, kit_bt w_kt rfl rfl, kit_bt w_kl rfl rfl, kit_bt w_ks rfl rfl⟩, makes := w_mk, keeps := w_kp, kTW := kit_cls rfl w_is w_ty tup_not, nfW := w_nf,
    na_many := w_na_many,
    na_ties := w_na_ties,
    na_spring := w_na_spring,
    na_mouth := w_na_mouth,
    na_through := w_na_through,
    na_around := w_na_around,
    x_BadWeb := ⟨⟨_, _, _, _, _, _, _, _, _, _, _, _, _, _, _, x0_l, rfl⟩, x0_sa, x0_ex, x0_ty, x0_kp⟩,
    x_NoStream := ⟨⟨_, _, _, _, _, _, _, _, _, _, _, _, _, _, _, x1_l, rfl⟩, x1_sa, x1_ex, x1_ty, x1_kp⟩,
    x_NoSide := ⟨⟨_, _, _, _, _, _, _, _, _, _, _, _, _, _, _, x2_l, rfl⟩, x2_sa, x2_ex, x2_ty, x2_kp⟩,
    xn_BadWeb := p0_na, xf_BadWeb := ⟨p0_ga, p0_gg, x0_ex, p0_hd⟩,
    na_part := p0_na }
  let B : Bk K mg T := {
    BadWeb_init := ⟨f0, _, fun_mk (st := s_BadWeb_init) l0 c0 k0, a0, i0, t0, (fun_mk (st := s_BadWeb_init) l0 c0 k0).binds (ps := ["self", "part"]) fun _ _ _ _ _ _ us hl => match us, hl with | [_, _], _ => rfl⟩,
    NoStream_init := ⟨f1, _, fun_mk (st := s_NoStream_init) l1 c1 k1, a1, i1, t1, (fun_mk (st := s_NoStream_init) l1 c1 k1).binds (ps := ["self"]) fun _ _ _ _ _ _ us hl => match us, hl with | [_], _ => rfl⟩,
    NoSide_init := ⟨f2, _, fun_mk (st := s_NoSide_init) l2 c2 k2, a2, i2, t2, (fun_mk (st := s_NoSide_init) l2 c2 k2).binds (ps := ["self"]) fun _ _ _ _ _ _ us hl => match us, hl with | [_], _ => rfl⟩,
    is_int := ⟨f3, _, fun_mk (st := s_is_int) l3 c3 k3, PySem.W.mg_of X G a3, (fun_mk (st := s_is_int) l3 c3 k3).binds (ps := ["thing"]) fun _ _ _ _ _ _ us hl => match us, hl with | [_], _ => rfl⟩,
    is_number := ⟨f4, _, fun_mk (st := s_is_number) l4 c4 k4, PySem.W.mg_of X G a4, (fun_mk (st := s_is_number) l4 c4 k4).binds (ps := ["thing"]) fun _ _ _ _ _ _ us hl => match us, hl with | [_], _ => rfl⟩,
    is_number_below := ⟨f5, _, fun_mk (st := s_is_number_below) l5 c5 k5, PySem.W.mg_of X G a5, (fun_mk (st := s_is_number_below) l5 c5 k5).binds (ps := ["limit", "thing"]) fun _ _ _ _ _ _ us hl => match us, hl with | [_, _], _ => rfl⟩,
    is_tuple_of := ⟨f6, _, fun_mk (st := s_is_tuple_of) l6 c6 k6, PySem.W.mg_of X G a6, (fun_mk (st := s_is_tuple_of) l6 c6 k6).binds (ps := ["many", "thing"]) fun _ _ _ _ _ _ us hl => match us, hl with | [_, _], _ => rfl⟩,
    is_lot := ⟨f7, _, fun_mk (st := s_is_lot) l7 c7 k7, PySem.W.mg_of X G a7, (fun_mk (st := s_is_lot) l7 c7 k7).binds (ps := ["thing"]) fun _ _ _ _ _ _ us hl => match us, hl with | [_], _ => rfl⟩,
    Web_init := ⟨f8, _, fun_mk (st := s_Web_init) l8 c8 k8, a8, i8, t8, (fun_mk (st := s_Web_init) l8 c8 k8).binds (ps := ["self", "many", "ties", "spring", "mouth"]) fun _ _ _ _ _ _ us hl => match us, hl with | [_, _, _, _, _], _ => rfl⟩,
    Web_eq := ⟨f9, _, fun_mk (st := s_Web_eq) l9 c9 k9, a9, i9, t9, (fun_mk (st := s_Web_eq) l9 c9 k9).binds (ps := ["self", "other"]) fun _ _ _ _ _ _ us hl => match us, hl with | [_, _], _ => rfl⟩,
    check_many := ⟨f10, _, fun_mk (st := s_check_many) l10 c10 k10, PySem.W.mg_of X G a10, (fun_mk (st := s_check_many) l10 c10 k10).binds (ps := ["many"]) fun _ _ _ _ _ _ us hl => match us, hl with | [_], _ => rfl⟩,
    check_ties := ⟨f11, _, fun_mk (st := s_check_ties) l11 c11 k11, PySem.W.mg_of X G a11, (fun_mk (st := s_check_ties) l11 c11 k11).binds (ps := ["many", "ties"]) fun _ _ _ _ _ _ us hl => match us, hl with | [_, _], _ => rfl⟩,
    is_tie := ⟨f12, _, fun_mk (st := s_is_tie) l12 c12 k12, PySem.W.mg_of X G a12, (fun_mk (st := s_is_tie) l12 c12 k12).binds (ps := ["many", "thing"]) fun _ _ _ _ _ _ us hl => match us, hl with | [_, _], _ => rfl⟩,
    through := ⟨f13, _, fun_mk (st := s_through) l13 c13 k13, PySem.W.mg_of X G a13, (fun_mk (st := s_through) l13 c13 k13).binds (ps := ["ties"]) fun _ _ _ _ _ _ us hl => match us, hl with | [_], _ => rfl⟩,
    around := ⟨f14, _, fun_mk (st := s_around) l14 c14 k14, PySem.W.mg_of X G a14, (fun_mk (st := s_around) l14 c14 k14).binds (ps := ["through", "house"]) fun _ _ _ _ _ _ us hl => match us, hl with | [_, _], _ => rfl⟩,
    is_stream := ⟨f15, _, fun_mk (st := s_is_stream) l15 c15 k15, PySem.W.mg_of X G a15, (fun_mk (st := s_is_stream) l15 c15 k15).binds (ps := ["web", "thing"]) fun _ _ _ _ _ _ us hl => match us, hl with | [_, _], _ => rfl⟩,
    fits := ⟨f16, _, fun_mk (st := s_fits) l16 c16 k16, PySem.W.mg_of X G a16, (fun_mk (st := s_fits) l16 c16 k16).binds (ps := ["tie", "units"]) fun _ _ _ _ _ _ us hl => match us, hl with | [_, _], _ => rfl⟩,
    gain := ⟨f17, _, fun_mk (st := s_gain) l17 c17 k17, PySem.W.mg_of X G a17, (fun_mk (st := s_gain) l17 c17 k17).binds (ps := ["web", "stream", "house"]) fun _ _ _ _ _ _ us hl => match us, hl with | [_, _, _], _ => rfl⟩,
    check_stream := ⟨f18, _, fun_mk (st := s_check_stream) l18 c18 k18, PySem.W.mg_of X G a18, (fun_mk (st := s_check_stream) l18 c18 k18).binds (ps := ["web", "stream"]) fun _ _ _ _ _ _ us hl => match us, hl with | [_, _], _ => rfl⟩,
    worth := ⟨f19, _, fun_mk (st := s_worth) l19 c19 k19, PySem.W.mg_of X G a19, (fun_mk (st := s_worth) l19 c19 k19).binds (ps := ["web", "stream"]) fun _ _ _ _ _ _ us hl => match us, hl with | [_, _], _ => rfl⟩,
    room_each_way := ⟨f20, _, fun_mk (st := s_room_each_way) l20 c20 k20, PySem.W.mg_of X G a20, (fun_mk (st := s_room_each_way) l20 c20 k20).binds (ps := ["web", "stream"]) fun _ _ _ _ _ _ us hl => match us, hl with | [_, _], _ => rfl⟩,
    reached := ⟨f21, _, fun_mk (st := s_reached) l21 c21 k21, PySem.W.mg_of X G a21, (fun_mk (st := s_reached) l21 c21 k21).binds (ps := ["web", "free"]) fun _ _ _ _ _ _ us hl => match us, hl with | [_, _], _ => rfl⟩,
    way_to_mouth := ⟨f22, _, fun_mk (st := s_way_to_mouth) l22 c22 k22, PySem.W.mg_of X G a22, (fun_mk (st := s_way_to_mouth) l22 c22 k22).binds (ps := ["web", "ahead"]) fun _ _ _ _ _ _ us hl => match us, hl with | [_, _], _ => rfl⟩,
    steps := ⟨f23, _, fun_mk (st := s_steps) l23 c23 k23, PySem.W.mg_of X G a23, (fun_mk (st := s_steps) l23 c23 k23).binds (ps := ["way"]) fun _ _ _ _ _ _ us hl => match us, hl with | [_], _ => rfl⟩,
    narrowest := ⟨f24, _, fun_mk (st := s_narrowest) l24 c24 k24, PySem.W.mg_of X G a24, (fun_mk (st := s_narrowest) l24 c24 k24).binds (ps := ["free", "way"]) fun _ _ _ _ _ _ us hl => match us, hl with | [_, _], _ => rfl⟩,
    most := ⟨f25, _, fun_mk (st := s_most) l25 c25 k25, PySem.W.mg_of X G a25, (fun_mk (st := s_most) l25 c25 k25).binds (ps := ["web"]) fun _ _ _ _ _ _ us hl => match us, hl with | [_], _ => rfl⟩,
    is_side := ⟨f26, _, fun_mk (st := s_is_side) l26 c26 k26, PySem.W.mg_of X G a26, (fun_mk (st := s_is_side) l26 c26 k26).binds (ps := ["web", "thing"]) fun _ _ _ _ _ _ us hl => match us, hl with | [_, _], _ => rfl⟩,
    side_worth := ⟨f27, _, fun_mk (st := s_side_worth) l27 c27 k27, PySem.W.mg_of X G a27, (fun_mk (st := s_side_worth) l27 c27 k27).binds (ps := ["web", "side"]) fun _ _ _ _ _ _ us hl => match us, hl with | [_, _], _ => rfl⟩,
    side_of := ⟨f28, _, fun_mk (st := s_side_of) l28 c28 k28, PySem.W.mg_of X G a28, (fun_mk (st := s_side_of) l28 c28 k28).binds (ps := ["web", "stream"]) fun _ _ _ _ _ _ us hl => match us, hl with | [_, _], _ => rfl⟩,
    is_paper := ⟨f29, _, fun_mk (st := s_is_paper) l29 c29 k29, PySem.W.mg_of X G a29, (fun_mk (st := s_is_paper) l29 c29 k29).binds (ps := ["web", "stream", "thing"]) fun _ _ _ _ _ _ us hl => match us, hl with | [_, _, _], _ => rfl⟩,
    law_hand := ⟨f30, _, fun_mk (st := s_law_hand) l30 c30 k30, PySem.W.mg_of X G a30, (fun_mk (st := s_law_hand) l30 c30 k30).binds (ps := ["script"]) fun _ _ _ _ _ _ us hl => match us, hl with | [_], _ => rfl⟩,
    law_take := ⟨f31, _, fun_mk (st := s_law_take) l31 c31 k31, PySem.W.mg_of X G a31, (fun_mk (st := s_law_take) l31 c31 k31).binds (ps := ["hand", "many"]) fun _ _ _ _ _ _ us hl => match us, hl with | [_, _], _ => rfl⟩,
    law_pick := ⟨f32, _, fun_mk (st := s_law_pick) l32 c32 k32, PySem.W.mg_of X G a32, (fun_mk (st := s_law_pick) l32 c32 k32).binds (ps := ["hand", "things"]) fun _ _ _ _ _ _ us hl => match us, hl with | [_, _], _ => rfl⟩,
    law_is_integer := ⟨f33, _, fun_mk (st := s_law_is_integer) l33 c33 k33, PySem.W.mg_of X G a33, (fun_mk (st := s_law_is_integer) l33 c33 k33).binds (ps := ["thing"]) fun _ _ _ _ _ _ us hl => match us, hl with | [_], _ => rfl⟩,
    law_is_within := ⟨f34, _, fun_mk (st := s_law_is_within) l34 c34 k34, PySem.W.mg_of X G a34, (fun_mk (st := s_law_is_within) l34 c34 k34).binds (ps := ["thing", "least", "top"]) fun _ _ _ _ _ _ us hl => match us, hl with | [_, _, _], _ => rfl⟩,
    law_same := ⟨f35, _, fun_mk (st := s_law_same) l35 c35 k35, PySem.W.mg_of X G a35, (fun_mk (st := s_law_same) l35 c35 k35).binds (ps := ["actual", "due"]) fun _ _ _ _ _ _ us hl => match us, hl with | [_, _], _ => rfl⟩,
    law_odd := ⟨f36, _, fun_mk (st := s_law_odd) l36 c36 k36, PySem.W.mg_of X G a36, (fun_mk (st := s_law_odd) l36 c36 k36).binds (ps := ["hand"]) fun _ _ _ _ _ _ us hl => match us, hl with | [_], _ => rfl⟩,
    law_units := ⟨f37, _, fun_mk (st := s_law_units) l37 c37 k37, PySem.W.mg_of X G a37, (fun_mk (st := s_law_units) l37 c37 k37).binds (ps := ["hand", "span"]) fun _ _ _ _ _ _ us hl => match us, hl with | [_, _], _ => rfl⟩,
    law_web := ⟨f38, _, fun_mk (st := s_law_web) l38 c38 k38, PySem.W.mg_of X G a38, (fun_mk (st := s_law_web) l38 c38 k38).binds (ps := ["hand", "size"]) fun _ _ _ _ _ _ us hl => match us, hl with | [_, _], _ => rfl⟩,
    law_web_of := ⟨f39, _, fun_mk (st := s_law_web_of) l39 c39 k39, PySem.W.mg_of X G a39, (fun_mk (st := s_law_web_of) l39 c39 k39).binds (ps := ["plan"]) fun _ _ _ _ _ _ us hl => match us, hl with | [_], _ => rfl⟩,
    law_near := ⟨f40, _, fun_mk (st := s_law_near) l40 c40 k40, PySem.W.mg_of X G a40, (fun_mk (st := s_law_near) l40 c40 k40).binds (ps := ["plan", "house"]) fun _ _ _ _ _ _ us hl => match us, hl with | [_, _], _ => rfl⟩,
    law_at := ⟨f41, _, fun_mk (st := s_law_at) l41 c41 k41, PySem.W.mg_of X G a41, (fun_mk (st := s_law_at) l41 c41 k41).binds (ps := ["plan", "one", "other"]) fun _ _ _ _ _ _ us hl => match us, hl with | [_, _, _], _ => rfl⟩,
    law_lets := ⟨f42, _, fun_mk (st := s_law_lets) l42 c42 k42, PySem.W.mg_of X G a42, (fun_mk (st := s_law_lets) l42 c42 k42).binds (ps := ["plan", "one", "other"]) fun _ _ _ _ _ _ us hl => match us, hl with | [_, _, _], _ => rfl⟩,
    law_flow := ⟨f43, _, fun_mk (st := s_law_flow) l43 c43 k43, PySem.W.mg_of X G a43, (fun_mk (st := s_law_flow) l43 c43 k43).binds (ps := ["plan", "stream", "one", "other"]) fun _ _ _ _ _ _ us hl => match us, hl with | [_, _, _, _], _ => rfl⟩,
    law_room := ⟨f44, _, fun_mk (st := s_law_room) l44 c44 k44, PySem.W.mg_of X G a44, (fun_mk (st := s_law_room) l44 c44 k44).binds (ps := ["plan", "stream", "one", "other"]) fun _ _ _ _ _ _ us hl => match us, hl with | [_, _, _, _], _ => rfl⟩,
    law_come := ⟨f45, _, fun_mk (st := s_law_come) l45 c45 k45, PySem.W.mg_of X G a45, (fun_mk (st := s_law_come) l45 c45 k45).binds (ps := ["plan", "stream", "house"]) fun _ _ _ _ _ _ us hl => match us, hl with | [_, _, _], _ => rfl⟩,
    law_reach := ⟨f46, _, fun_mk (st := s_law_reach) l46 c46 k46, PySem.W.mg_of X G a46, (fun_mk (st := s_law_reach) l46 c46 k46).binds (ps := ["plan", "stream", "begin"]) fun _ _ _ _ _ _ us hl => match us, hl with | [_, _, _], _ => rfl⟩,
    law_way := ⟨f47, _, fun_mk (st := s_law_way) l47 c47 k47, PySem.W.mg_of X G a47, (fun_mk (st := s_law_way) l47 c47 k47).binds (ps := ["plan", "stream", "begin", "end"]) fun _ _ _ _ _ _ us hl => match us, hl with | [_, _, _, _], _ => rfl⟩,
    law_sent := ⟨f48, _, fun_mk (st := s_law_sent) l48 c48 k48, PySem.W.mg_of X G a48, (fun_mk (st := s_law_sent) l48 c48 k48).binds (ps := ["plan", "stream", "houses", "units"]) fun _ _ _ _ _ _ us hl => match us, hl with | [_, _, _, _], _ => rfl⟩,
    law_least_room := ⟨f49, _, fun_mk (st := s_law_least_room) l49 c49 k49, PySem.W.mg_of X G a49, (fun_mk (st := s_law_least_room) l49 c49 k49).binds (ps := ["plan", "stream", "houses"]) fun _ _ _ _ _ _ us hl => match us, hl with | [_, _, _], _ => rfl⟩,
    law_greatest := ⟨f50, _, fun_mk (st := s_law_greatest) l50 c50 k50, PySem.W.mg_of X G a50, (fun_mk (st := s_law_greatest) l50 c50 k50).binds (ps := ["plan"]) fun _ _ _ _ _ _ us hl => match us, hl with | [_], _ => rfl⟩,
    law_worth := ⟨f51, _, fun_mk (st := s_law_worth) l51 c51 k51, PySem.W.mg_of X G a51, (fun_mk (st := s_law_worth) l51 c51 k51).binds (ps := ["plan", "stream"]) fun _ _ _ _ _ _ us hl => match us, hl with | [_, _], _ => rfl⟩,
    law_ring := ⟨f52, _, fun_mk (st := s_law_ring) l52 c52 k52, PySem.W.mg_of X G a52, (fun_mk (st := s_law_ring) l52 c52 k52).binds (ps := ["hand", "plan", "stream"]) fun _ _ _ _ _ _ us hl => match us, hl with | [_, _, _], _ => rfl⟩,
    law_some_stream := ⟨f53, _, fun_mk (st := s_law_some_stream) l53 c53 k53, PySem.W.mg_of X G a53, (fun_mk (st := s_law_some_stream) l53 c53 k53).binds (ps := ["hand", "plan"]) fun _ _ _ _ _ _ us hl => match us, hl with | [_, _], _ => rfl⟩,
    law_side := ⟨f54, _, fun_mk (st := s_law_side) l54 c54 k54, PySem.W.mg_of X G a54, (fun_mk (st := s_law_side) l54 c54 k54).binds (ps := ["plan", "stream"]) fun _ _ _ _ _ _ us hl => match us, hl with | [_, _], _ => rfl⟩,
    law_is_side := ⟨f55, _, fun_mk (st := s_law_is_side) l55 c55 k55, PySem.W.mg_of X G a55, (fun_mk (st := s_law_is_side) l55 c55 k55).binds (ps := ["plan", "thing"]) fun _ _ _ _ _ _ us hl => match us, hl with | [_, _], _ => rfl⟩,
    law_side_worth := ⟨f56, _, fun_mk (st := s_law_side_worth) l56 c56 k56, PySem.W.mg_of X G a56, (fun_mk (st := s_law_side_worth) l56 c56 k56).binds (ps := ["plan", "side"]) fun _ _ _ _ _ _ us hl => match us, hl with | [_, _], _ => rfl⟩,
    law_sizes := ⟨f57, _, fun_mk (st := s_law_sizes) l57 c57 k57, PySem.W.mg_of X G a57, (fun_mk (st := s_law_sizes) l57 c57 k57).binds (ps := ["hand"]) fun _ _ _ _ _ _ us hl => match us, hl with | [_], _ => rfl⟩,
    law_some_side := ⟨f58, _, fun_mk (st := s_law_some_side) l58 c58 k58, PySem.W.mg_of X G a58, (fun_mk (st := s_law_some_side) l58 c58 k58).binds (ps := ["hand", "plan"]) fun _ _ _ _ _ _ us hl => match us, hl with | [_, _], _ => rfl⟩,
    law_bent_side := ⟨f59, _, fun_mk (st := s_law_bent_side) l59 c59 k59, PySem.W.mg_of X G a59, (fun_mk (st := s_law_bent_side) l59 c59 k59).binds (ps := ["hand", "plan", "side"]) fun _ _ _ _ _ _ us hl => match us, hl with | [_, _, _], _ => rfl⟩,
    law := ⟨f60, _, fun_mk (st := s_law) l60 c60 k60, PySem.W.mg_of X G a60, (fun_mk (st := s_law) l60 c60 k60).binds (ps := ["script"]) fun _ _ _ _ _ _ us hl => match us, hl with | [_], _ => rfl⟩ }
  exact fin_of T B hfa hb
theorem walk {l : PySem.W.OpenLaw} {q : Program} {loose : List Str} {XP : (Str → Option Value) → Heap → Prop} {YP : World → Heap → Prop} {d : DefRec} {K : Params → PySem.W.Frag} (hn : l.most = some 63) (hdf : d.params.defaults = [])
    (hY : ∀ (w : World) (h : Heap), YP w h → (K w.params).In h)
    (F : ∀ (w : World) (mg : Str → Option Value) (fa : Addr) (h : Heap), (K w.params).In h → h.Ns mainGlobals mg → mg d.name = some (.ref fa) →
      ∃ fd : FuncData, (∀ (s : Shared) (u : Value), BindsTo s fd ⟨[u], []⟩ [("script", u)]) ∧ ∀ base : Heap, (K w.params).In base → base.Ns mainGlobals mg → FnOk l.prog w (K w.params) mg base CX0 11 fa fd ["script"] (spLaw (K w.params))) :
    PySem.W.WalkO q loose XP YP l.row.toRowW d [] (fun f vs => PySem.call f vs) :=
  L2.walk_of (n := 63) (k := 11) (x := "script") (CX := fun _ => CX0) (sp := fun w => spLaw (K w.params)) hn (by decide) hdf ⟨rfl, by decide, by decide⟩ hY F (fun _ _ a ns hl _ hS => ⟨a, ns, rfl, hS, fun _ => rfl⟩) fun _ _ _ _ _ z => z
end Mw

/-! Z2 -/
open PySem PySem.W PyProof.Rows in
set_option maxRecDepth 100000 in
set_option maxHeartbeats 0 in
theorem PySem.Challenge.cw_moststream_k03_whole_greatest_streams_an_holds : PySem.Challenge.rw_moststream_k03_whole_greatest_streams_an.Holds := by
  w_on; o_law; k_head; (case hw => w_witness2)
  k_fill
  refine Mw.walk (l := PySem.Challenge.rw_moststream_k03_whole_greatest_streams_an) rfl rfl (fun w h Y => PySem.W.kIn_of Y) ?F
  case F =>
    intro w mg fa h KX G hmg
    refine' Mw.all_mk KX G hmg ?g_c_Web ?g_c_BadWeb ?g_c_NoStream ?g_c_NoSide ?g_FEWEST_HOUSES ?g_MOST_HOUSES ?g_LETS_LIMIT ?b_isinstance ?b_int ?b_bool ?b_tuple ?b_list ?b_str ?b_len ?b_range ?b_enumerate ?b_zip ?b_sorted ?b_set ?b_min ?b_max ?b_all ?b_sum ?w_pg ?w_hd ?w_po ?w_sa ?w_ca ?w_co ?w_ki ?w_kb ?w_kt ?w_kl ?w_ks ?w_is ?w_ty ?w_mk ?w_kp ?w_nf ?w_cg ?w_ct ?w_na_many ?w_na_ties ?w_na_spring ?w_na_mouth ?w_na_through ?w_na_around ?x0_l ?x0_sa ?x0_ex ?x0_ty ?x0_kp ?x0_is ?x1_l ?x1_sa ?x1_ex ?x1_ty ?x1_kp ?x1_is ?x2_l ?x2_sa ?x2_ex ?x2_ty ?x2_kp ?x2_is ?p0_na ?p0_ga ?p0_gg ?p0_hd ?a0 ?i0 ?t0 ?l0 ?c0 ?k0 ?a1 ?i1 ?t1 ?l1 ?c1 ?k1 ?a2 ?i2 ?t2 ?l2 ?c2 ?k2 ?a3 ?l3 ?c3 ?k3 ?a4 ?l4 ?c4 ?k4 ?a5 ?l5 ?c5 ?k5 ?a6 ?l6 ?c6 ?k6 ?a7 ?l7 ?c7 ?k7 ?a8 ?i8 ?t8 ?l8 ?c8 ?k8 ?a9 ?i9 ?t9 ?l9 ?c9 ?k9 ?a10 ?l10 ?c10 ?k10 ?a11 ?l11 ?c11 ?k11 ?a12 ?l12 ?c12 ?k12 ?a13 ?l13 ?c13 ?k13 ?a14 ?l14 ?c14 ?k14 ?a15 ?l15 ?c15 ?k15 ?a16 ?l16 ?c16 ?k16 ?a17 ?l17 ?c17 ?k17 ?a18 ?l18 ?c18 ?k18 ?a19 ?l19 ?c19 ?k19 ?a20 ?l20 ?c20 ?k20 ?a21 ?l21 ?c21 ?k21 ?a22 ?l22 ?c22 ?k22 ?a23 ?l23 ?c23 ?k23 ?a24 ?l24 ?c24 ?k24 ?a25 ?l25 ?c25 ?k25 ?a26 ?l26 ?c26 ?k26 ?a27 ?l27 ?c27 ?k27 ?a28 ?l28 ?c28 ?k28 ?a29 ?l29 ?c29 ?k29 ?a30 ?l30 ?c30 ?k30 ?a31 ?l31 ?c31 ?k31 ?a32 ?l32 ?c32 ?k32 ?a33 ?l33 ?c33 ?k33 ?a34 ?l34 ?c34 ?k34 ?a35 ?l35 ?c35 ?k35 ?a36 ?l36 ?c36 ?k36 ?a37 ?l37 ?c37 ?k37 ?a38 ?l38 ?c38 ?k38 ?a39 ?l39 ?c39 ?k39 ?a40 ?l40 ?c40 ?k40 ?a41 ?l41 ?c41 ?k41 ?a42 ?l42 ?c42 ?k42 ?a43 ?l43 ?c43 ?k43 ?a44 ?l44 ?c44 ?k44 ?a45 ?l45 ?c45 ?k45 ?a46 ?l46 ?c46 ?k46 ?a47 ?l47 ?c47 ?k47 ?a48 ?l48 ?c48 ?k48 ?a49 ?l49 ?c49 ?k49 ?a50 ?l50 ?c50 ?k50 ?a51 ?l51 ?c51 ?k51 ?a52 ?l52 ?c52 ?k52 ?a53 ?l53 ?c53 ?k53 ?a54 ?l54 ?c54 ?k54 ?a55 ?l55 ?c55 ?k55 ?a56 ?l56 ?c56 ?k56 ?a57 ?l57 ?c57 ?k57 ?a58 ?l58 ?c58 ?k58 ?a59 ?l59 ?c59 ?k59 ?a60 ?l60 ?c60 ?k60
    (case g_c_Web => k_is)
    (case g_c_BadWeb => k_is)
    (case g_c_NoStream => k_is)
    (case g_c_NoSide => k_is)
    (case g_FEWEST_HOUSES => k_is)
    (case g_MOST_HOUSES => k_is)
    (case g_LETS_LIMIT => k_is)
    (case b_isinstance => k_is)
    (case b_int => k_is)
    (case b_bool => k_is)
    (case b_tuple => k_is)
    (case b_list => k_is)
    (case b_str => k_is)
    (case b_len => k_is)
    (case b_range => k_is)
    (case b_enumerate => k_is)
    (case b_zip => k_is)
    (case b_sorted => k_is)
    (case b_set => k_is)
    (case b_min => k_is)
    (case b_max => k_is)
    (case b_all => k_is)
    (case b_sum => k_is)
    (case w_pg => k_is)
    (case w_hd => k_is)
    (case w_po => k_is)
    (case w_sa => k_is)
    (case w_ca => k_is)
    (case w_co => k_is)
    (case w_ki => k_is)
    (case w_kb => k_is)
    (case w_kt => k_is)
    (case w_kl => k_is)
    (case w_ks => k_is)
    (case w_is => k_is)
    (case w_ty => k_is)
    (case w_mk => k_is)
    (case w_kp => k_is)
    (case w_nf => k_is)
    (case w_cg => k_is)
    (case w_ct => k_is)
    (case w_na_many => k_is)
    (case w_na_ties => k_is)
    (case w_na_spring => k_is)
    (case w_na_mouth => k_is)
    (case w_na_through => k_is)
    (case w_na_around => k_is)
    (case x0_l => k_is)
    (case x0_sa => k_is)
    (case x0_ex => k_is)
    (case x0_ty => k_is)
    (case x0_kp => k_is)
    (case x0_is => k_is)
    (case x1_l => k_is)
    (case x1_sa => k_is)
    (case x1_ex => k_is)
    (case x1_ty => k_is)
    (case x1_kp => k_is)
    (case x1_is => k_is)
    (case x2_l => k_is)
    (case x2_sa => k_is)
    (case x2_ex => k_is)
    (case x2_ty => k_is)
    (case x2_kp => k_is)
    (case x2_is => k_is)
    (case p0_na => k_is)
    (case p0_ga => k_is)
    (case p0_gg => k_is)
    (case p0_hd => k_is)
    (case a0 => k_is)
    (case i0 => k_is)
    (case t0 => k_is)
    (case l0 => k_is)
    (case c0 => k_is)
    (case k0 => k_is)
    (case a1 => k_is)
    (case i1 => k_is)
    (case t1 => k_is)
    (case l1 => k_is)
    (case c1 => k_is)
    (case k1 => k_is)
    (case a2 => k_is)
    (case i2 => k_is)
    (case t2 => k_is)
    (case l2 => k_is)
    (case c2 => k_is)
    (case k2 => k_is)
    (case a3 => k_is)
    (case l3 => k_is)
    (case c3 => k_is)
    (case k3 => k_is)
    (case a4 => k_is)
    (case l4 => k_is)
    (case c4 => k_is)
    (case k4 => k_is)
    (case a5 => k_is)
    (case l5 => k_is)
    (case c5 => k_is)
    (case k5 => k_is)
    (case a6 => k_is)
    (case l6 => k_is)
    (case c6 => k_is)
    (case k6 => k_is)
    (case a7 => k_is)
    (case l7 => k_is)
    (case c7 => k_is)
    (case k7 => k_is)
    (case a8 => k_is)
    (case i8 => k_is)
    (case t8 => k_is)
    (case l8 => k_is)
    (case c8 => k_is)
    (case k8 => k_is)
    (case a9 => k_is)
    (case i9 => k_is)
    (case t9 => k_is)
    (case l9 => k_is)
    (case c9 => k_is)
    (case k9 => k_is)
    (case a10 => k_is)
    (case l10 => k_is)
    (case c10 => k_is)
    (case k10 => k_is)
    (case a11 => k_is)
    (case l11 => k_is)
    (case c11 => k_is)
    (case k11 => k_is)
    (case a12 => k_is)
    (case l12 => k_is)
    (case c12 => k_is)
    (case k12 => k_is)
    (case a13 => k_is)
    (case l13 => k_is)
    (case c13 => k_is)
    (case k13 => k_is)
    (case a14 => k_is)
    (case l14 => k_is)
    (case c14 => k_is)
    (case k14 => k_is)
    (case a15 => k_is)
    (case l15 => k_is)
    (case c15 => k_is)
    (case k15 => k_is)
    (case a16 => k_is)
    (case l16 => k_is)
    (case c16 => k_is)
    (case k16 => k_is)
    (case a17 => k_is)
    (case l17 => k_is)
    (case c17 => k_is)
    (case k17 => k_is)
    (case a18 => k_is)
    (case l18 => k_is)
    (case c18 => k_is)
    (case k18 => k_is)
    (case a19 => k_is)
    (case l19 => k_is)
    (case c19 => k_is)
    (case k19 => k_is)
    (case a20 => k_is)
    (case l20 => k_is)
    (case c20 => k_is)
    (case k20 => k_is)
    (case a21 => k_is)
    (case l21 => k_is)
    (case c21 => k_is)
    (case k21 => k_is)
    (case a22 => k_is)
    (case l22 => k_is)
    (case c22 => k_is)
    (case k22 => k_is)
    (case a23 => k_is)
    (case l23 => k_is)
    (case c23 => k_is)
    (case k23 => k_is)
    (case a24 => k_is)
    (case l24 => k_is)
    (case c24 => k_is)
    (case k24 => k_is)
    (case a25 => k_is)
    (case l25 => k_is)
    (case c25 => k_is)
    (case k25 => k_is)
    (case a26 => k_is)
    (case l26 => k_is)
    (case c26 => k_is)
    (case k26 => k_is)
    (case a27 => k_is)
    (case l27 => k_is)
    (case c27 => k_is)
    (case k27 => k_is)
    (case a28 => k_is)
    (case l28 => k_is)
    (case c28 => k_is)
    (case k28 => k_is)
    (case a29 => k_is)
    (case l29 => k_is)
    (case c29 => k_is)
    (case k29 => k_is)
    (case a30 => k_is)
    (case l30 => k_is)
    (case c30 => k_is)
    (case k30 => k_is)
    (case a31 => k_is)
    (case l31 => k_is)
    (case c31 => k_is)
    (case k31 => k_is)
    (case a32 => k_is)
    (case l32 => k_is)
    (case c32 => k_is)
    (case k32 => k_is)
    (case a33 => k_is)
    (case l33 => k_is)
    (case c33 => k_is)
    (case k33 => k_is)
    (case a34 => k_is)
    (case l34 => k_is)
    (case c34 => k_is)
    (case k34 => k_is)
    (case a35 => k_is)
    (case l35 => k_is)
    (case c35 => k_is)
    (case k35 => k_is)
    (case a36 => k_is)
    (case l36 => k_is)
    (case c36 => k_is)
    (case k36 => k_is)
    (case a37 => k_is)
    (case l37 => k_is)
    (case c37 => k_is)
    (case k37 => k_is)
    (case a38 => k_is)
    (case l38 => k_is)
    (case c38 => k_is)
    (case k38 => k_is)
    (case a39 => k_is)
    (case l39 => k_is)
    (case c39 => k_is)
    (case k39 => k_is)
    (case a40 => k_is)
    (case l40 => k_is)
    (case c40 => k_is)
    (case k40 => k_is)
    (case a41 => k_is)
    (case l41 => k_is)
    (case c41 => k_is)
    (case k41 => k_is)
    (case a42 => k_is)
    (case l42 => k_is)
    (case c42 => k_is)
    (case k42 => k_is)
    (case a43 => k_is)
    (case l43 => k_is)
    (case c43 => k_is)
    (case k43 => k_is)
    (case a44 => k_is)
    (case l44 => k_is)
    (case c44 => k_is)
    (case k44 => k_is)
    (case a45 => k_is)
    (case l45 => k_is)
    (case c45 => k_is)
    (case k45 => k_is)
    (case a46 => k_is)
    (case l46 => k_is)
    (case c46 => k_is)
    (case k46 => k_is)
    (case a47 => k_is)
    (case l47 => k_is)
    (case c47 => k_is)
    (case k47 => k_is)
    (case a48 => k_is)
    (case l48 => k_is)
    (case c48 => k_is)
    (case k48 => k_is)
    (case a49 => k_is)
    (case l49 => k_is)
    (case c49 => k_is)
    (case k49 => k_is)
    (case a50 => k_is)
    (case l50 => k_is)
    (case c50 => k_is)
    (case k50 => k_is)
    (case a51 => k_is)
    (case l51 => k_is)
    (case c51 => k_is)
    (case k51 => k_is)
    (case a52 => k_is)
    (case l52 => k_is)
    (case c52 => k_is)
    (case k52 => k_is)
    (case a53 => k_is)
    (case l53 => k_is)
    (case c53 => k_is)
    (case k53 => k_is)
    (case a54 => k_is)
    (case l54 => k_is)
    (case c54 => k_is)
    (case k54 => k_is)
    (case a55 => k_is)
    (case l55 => k_is)
    (case c55 => k_is)
    (case k55 => k_is)
    (case a56 => k_is)
    (case l56 => k_is)
    (case c56 => k_is)
    (case k56 => k_is)
    (case a57 => k_is)
    (case l57 => k_is)
    (case c57 => k_is)
    (case k57 => k_is)
    (case a58 => k_is)
    (case l58 => k_is)
    (case c58 => k_is)
    (case k58 => k_is)
    (case a59 => k_is)
    (case l59 => k_is)
    (case c59 => k_is)
    (case k59 => k_is)
    (case a60 => k_is)
    (case l60 => k_is)
    (case c60 => k_is)
    (case k60 => k_is)
