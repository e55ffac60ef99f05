import PyProof.Rows.All
import Wide.All
import OpenK.AllK
import Wide.FinOn
import PyProof.EqAt
import PyProof.EqKinds
import PyProof.TupleCall
import HandS.Base
import HandS.Call
import HandS.List
import HandS.Comp
import HandS.Iter
import HandS.Ends
import HandS.Exc
import HandS.Words
import PyProof.Draws
import HandS.Zip0
import KE.KFromBytes
import HandS.ExcInit
import HandS.OwnEq
import HandS.IsInst
import HandS.ForMost
import HandS.ForExc
import HandS.TryMany
import HandS.ExcField
import HandS.TupAny
import HandS.TupLe
import HandS.TupSets
import HandS.Zip
import HandS.Style
import HandS.Conv
import HandS.SortInts
import KE.KDictSum
import KE.KDictWalk
import HandS.Dict
import HandS.More
import HandS.Codes
import HandS.GenList
import KE.KDictZip
import KE.GoesEnumKw
import PyProof.Rows.CallKwBuiltin
import HandS.WordsDict
import PyProof.P3Eq
import PySem.Challenge.RW_moststream_k27_whole_links_and_their_sta
set_option Elab.async false
set_option linter.all false
set_option maxRecDepth 100000
set_option maxHeartbeats 4000000
/-! M0 -/
/-! Readings one step at a time: each lemma turns a reading into what is left to be shown. -/
namespace Mw
open PySem L2
section
variable {σ : St} {H : Hp} {v x y : V} {i : Nat} {Q : VK} {ta tb te : TE} {r : R2} {D : Ends} {K : PySem.W.Frag}
theorem rd_var (h : σ[i]? = some (some v)) (q : Q v H) : tVar i σ H Q := ⟨v, h, q⟩
theorem rd_c (q : Q v H) : tC v σ H Q := q
theorem rd_op (h : ta σ H fun x H1 => tb σ H1 fun y H2 => r x y H2 Q) : tOp r ta tb σ H Q := h
theorem rd_un {r : V → Hp → VK → Prop} (h : ta σ H fun x H1 => r x H1 Q) : tUn r ta σ H Q := h
theorem rd_nil {Q : List V → Hp → Prop} (q : Q [] H) : tNil σ H Q := q
theorem rd_cons {tr : TA} {Q : List V → Hp → Prop} (h : ta σ H fun x H1 => tr σ H1 fun xs H2 => Q (x :: xs) H2) : tCons ta tr σ H Q := h
theorem rd_disp {xs : List V} {B : Prop} (hl : Nat.ble xs.length 1000 = true) (q : B) : xs.length ≤ sizeLine ∧ B := ⟨Nat.le_trans (Nat.le_of_ble_eq_true hl) (by decide), q⟩
theorem rd_tup {t : TA} (h : t σ H fun xs H1 => xs.length ≤ sizeLine ∧ ∀ p, H1 p = none → Q (.ref p) (upd H1 p (.tup xs))) : tTup t σ H Q := h
theorem rd_lst {t : TA} (h : t σ H fun xs H1 => xs.length ≤ sizeLine ∧ ∀ p, H1 p = none → Q (.ref p) (upd H1 p (.lst xs))) : tLst t σ H Q := h
theorem rd_ifs {c : TT} {t u : TS} (h : c σ H fun b H1 => if b = true then t D σ H1 else u D σ H1) : tIfS c t u D σ H := h
theorem rd_seq {t u : TS} (h : t { D with nx := u D } σ H) : tSeq t u D σ H := h
theorem rd_next (h : D.nx σ H) : tNext D σ H := h
theorem rd_ret (h : te σ H D.rt) : tRet te D σ H := h
theorem rd_asg {g : TG} (h : te σ H fun x H1 => g x σ H1 D.nx) : tAsg te g D σ H := h
theorem rd_gname {Q : St → Hp → Prop} (h : Q (σ.set i (some v)) H) : gName i v σ H Q := h
theorem rd_drop (h : te σ H fun _ H1 => D.nx σ H1) : tDrop te D σ H := h
theorem rd_test {Q : Bool → Hp → Prop} (h : te σ H fun x H' => ∃ k, x = .bl k ∧ Q k H') : tTest te σ H Q := h
theorem rd_B {Q : Bool → Hp → Prop} (h : te σ H fun x H1 => ∃ c, x = .bl c ∧ Q c H1) : tB te σ H Q := h
theorem rd_bl {b : Bool} {Q : Bool → Hp → Prop} (q : Q b H) : ∃ k, V.bl b = .bl k ∧ Q k H := ⟨b, rfl, q⟩
theorem rd_blP {b : Bool} {Q : Bool → Prop} (q : Q b) : ∃ k, V.bl b = .bl k ∧ Q k := ⟨b, rfl, q⟩
theorem rd_andV (h : ta σ H fun x H1 => ∃ c, x = .bl c ∧ if c = true then tb σ H1 Q else Q (.bl false) H1) : tAndV ta tb σ H Q := h
theorem rd_orV (h : ta σ H fun x H1 => ∃ c, x = .bl c ∧ if c = true then Q (.bl true) H1 else tb σ H1 Q) : tOrV ta tb σ H Q := h
theorem rd_notV (h : ta σ H fun x H1 => ∃ c, x = .bl c ∧ Q (.bl (!c)) H1) : tNotV ta σ H Q := h
theorem rd_and {t u : TT} {Q : Bool → Hp → Prop} (h : t σ H fun c H1 => if c = true then u σ H1 Q else Q false H1) : tAnd t u σ H Q := h
theorem rd_or {t u : TT} {Q : Bool → Hp → Prop} (h : t σ H fun c H1 => if c = true then Q true H1 else u σ H1 Q) : tOr t u σ H Q := h
theorem rd_not {t : TT} {Q : Bool → Hp → Prop} (h : t σ H fun c H1 => Q (!c) H1) : tNot t σ H Q := h
theorem rd_cb {r : List V → Hp → VK → Prop} {t : TA} (h : t σ H fun vs H1 => r vs H1 Q) : tCB r t σ H Q := h
theorem rd_call {sp : Sp} {dvs : List V} {E : XK} {t : TA} (h : t σ H fun vs H1 => sp (vs ++ dvs) H1 Q E) : tCall sp dvs E t σ H Q := h
theorem rd_i0 {g : Int → Int → V} {a b : Int} (q : Q (g a b) H) : rI0 g (.int a) (.int b) H Q := ⟨a, b, rfl, rfl, q⟩
theorem rd_eq (hs : scal x y = true) (q : Q (.bl (decide (x = y))) H) : rEq x y H Q := ⟨hs, q⟩
end
section
variable {σ : L2.St} {H : Hp} {x y : V} {Q : VK} {te : TE} {K : PySem.W.Frag}
theorem rd_sl {r : V → Option Int → Option Int → Hp → VK → Prop} {tl th : TO} (h : te σ H fun x H1 => tl σ H1 fun l H2 => th σ H2 fun u H3 => r x l u H3 Q) : tSl r te tl th σ H Q := h
theorem rd_nopart {Q : Option Int → Hp → Prop} (h : Q none H) : tNoPart σ H Q := h
theorem rd_part {Q : Option Int → Hp → Prop} (h : te σ H fun x H1 => ∃ i, x = .int i ∧ Q (some i) H1) : tPart te σ H Q := h
theorem rd_intP {j : Int} {P : Int → Prop} (h : P j) : ∃ i, V.int j = .int i ∧ P i := ⟨j, rfl, h⟩
theorem rd_fld {f : Str} (h : te σ H fun x H1 => ∃ a C dx fs v, x = .ref a ∧ H1 a = some (.ins C dx fs) ∧ Cls K C ∧ NoAttr K C f ∧ fs.lookup f = some v ∧ Q v H1) : tFld K te f σ H Q := h
theorem rd_ne (hs : scal x y = true) (q : Q (.bl (!decide (x = y))) H) : rNe x y H Q := ⟨hs, q⟩
theorem rd_rU {g : Int → V} {a : Int} (q : Q (g a) H) : rU g (.int a) H Q := ⟨a, rfl, q⟩
theorem rd_iC {C : Int → Int → Prop} {g : Int → Int → V} {a b : Int} (hc : C a b) (q : Q (g a b) H) : rI C g (.int a) (.int b) H Q := ⟨a, b, rfl, rfl, hc, q⟩
theorem rd_eqI {a b : Int} (q : Q (.bl (decide (a = b))) H) : rEq (.int a) (.int b) H Q := ⟨rfl, by rw [show decide (V.int a = V.int b) = decide (a = b) by simp]; exact q⟩
theorem rd_neI {a b : Int} (q : Q (.bl (!decide (a = b))) H) : rNe (.int a) (.int b) H Q := ⟨rfl, by rw [show decide (V.int a = V.int b) = decide (a = b) by simp]; exact q⟩
end
/-! the step: all that needs no choice -/
local macro_rules | `(tactic| walk_at "rd") => `(tactic| (repeat (first
  | ((with_reducible refine' rd_var ?h0 ?_); (case h0 => rfl))
  | with_reducible refine rd_c ?_
  | with_reducible refine rd_op ?_
  | with_reducible refine rd_nil ?_
  | with_reducible refine rd_cons ?_
  | with_reducible refine rd_tup ?_
  | with_reducible refine rd_lst ?_
  | with_reducible refine rd_ifs ?_
  | with_reducible refine rd_seq ?_
  | with_reducible refine rd_next ?_
  | with_reducible refine rd_ret ?_
  | with_reducible refine rd_asg ?_
  | with_reducible refine rd_gname ?_
  | with_reducible refine rd_drop ?_
  | with_reducible refine rd_test ?_
  | with_reducible refine rd_B ?_
  | with_reducible refine rd_bl ?_
  | with_reducible refine rd_blP ?_
  | with_reducible refine rd_andV ?_
  | with_reducible refine rd_orV ?_
  | with_reducible refine rd_notV ?_
  | with_reducible refine rd_and ?_
  | with_reducible refine rd_or ?_
  | with_reducible refine rd_not ?_
  | with_reducible refine rd_cb ?_
  | with_reducible refine rd_call ?_
  | with_reducible refine rd_un ?_
  | with_reducible refine rd_sl ?_
  | with_reducible refine rd_nopart ?_
  | with_reducible refine rd_part ?_
  | with_reducible refine rd_intP ?_
  | with_reducible refine rd_rU ?_
  | with_reducible refine rd_fld ?_
  | with_reducible refine rd_eqI ?_
  | with_reducible refine rd_neI ?_
  | with_reducible refine rd_i0 ?_)))
end Mw

/-! MR1 -/
/-! enumerate over a tuple. -/
namespace Mw
open PySem PySem.Spec PyProof.Rows L2
section
variable {prog : Program} {w : World} {A : Around} {E : Value → Shared → Prop} {s : Shared}
/-- a tuple's own iterator, as something that is drawn from -/
theorem drawsT (hh : A.handled = none) {it a : Addr} {items : Array Value} (hne : a ≠ it) :
    Draws prog w A it [it, a] items.size (fun i x => items[i]? = some x) (fun i h => h.IsTupleIter it a i ∧ h.IsTuple a items) where
  live := fun i h st => by
    obtain ⟨⟨o, ho, _⟩, _⟩ := st
    exact ⟨o, ho⟩
  frame := fun i h h' st k => by
    obtain ⟨⟨o, ho, r⟩, ⟨o2, ho2, r2⟩⟩ := st
    exact ⟨⟨o, k it (by simp) o ho, r⟩, ⟨o2, k a (by simp) o2 ho2, r2⟩⟩
  item := fun i s Q E hi st hQ => by
    obtain ⟨h1, h2⟩ := st
    refine RZ.nextOf_tuple_item h1 h2 (x := items[i]) (by simp [hi]) fun h' hit' sb => ?_
    obtain ⟨o2, ho2, r2⟩ := h2
    exact hQ _ h' s.toks (by simp [hi]) ⟨hit', ⟨o2, (sb.2 a hne).trans ho2, r2⟩⟩ sb
  done := fun s Q E st hE => RZ.nextOf_tuple_end hh st.1 st.2 (by simp) hE
theorem enum_newT (l : Addr) (items : Array Value) :
    Meets (Builtin.«enumerate.__new__» ⟨[.type "enumerate", .ref l], []⟩) (fun _ R s => s.heap.IsTuple l items ∧
      R (.ok (.ret (.ref (s.heap.push { cls := .type "tuple_iterator", data := .fields #[.ref l, .int 0 0] }).objs.size)))
        { s with heap := (s.heap.push { cls := .type "tuple_iterator", data := .fields #[.ref l, .int 0 0] }).push { cls := .type "enumerate", data := .fields #[.none, .bool false, .ref s.heap.objs.size, rawInt 0, .none, .none] } }) :=
  .of_wp fun prog w A R s h => by
    obtain ⟨hp, g, d, tk, os⟩ := s
    obtain ⟨hl, h⟩ := h
    have hsub := sub_enumerate
    have hT : Heap.IsTuple (Shared.heap ⟨hp, g, d, tk, os⟩) l items := hl
    wp_walk using wpAny_pyIter_tuple hT
    refine wpAny_stack_any fun st => wpAny_pure ?_
    split
    · rename_i c _ _ _ _ _
      cases (c == Value.type "enumerate")
      all_goals
        wp_walk using wpAny_pyIter_tuple hT
        exact ⟨_, rfl, h⟩
    · wp_walk using wpAny_pyIter_tuple hT
      exact ⟨_, rfl, h⟩
theorem call_enumT {l : Addr} {items : Array Value} {Q : Value → Shared → Prop} (hT : s.heap.IsTuple l items)
    (h : ∀ h', IsEnum h' (s.heap.objs.size + 1) s.heap.objs.size 0 .none → h'.IsTupleIter s.heap.objs.size l 0 →
      (∀ c u, s.heap.get? c = some u → h'.get? c = some u) → Q (.ref (s.heap.objs.size + 1)) { s with heap := h' }) :
    wpAny (model prog w) A (call (.type "enumerate") [.ref l]) Q E s := by
  refine callType_new F.called_enumerate (by decide) (F.typeCall_enumerate_1 _) (F.newCall_enumerate_1 _) (fun o => F.args_object_init_2 o _) F.entry_enumerate_new (enum_newT l items) ⟨hT, ?_⟩
  generalize hit : ({ cls := .type "tuple_iterator", data := .fields #[.ref l, .int 0 0] } : Obj) = oi
  have hz : (s.heap.push oi).objs.size = s.heap.objs.size + 1 := Heap.size_push ..
  show _ ∧ _
  rw [hz]
  have he : IsEnum ((s.heap.push oi).push { cls := .type "enumerate", data := .fields #[.none, .bool false, .ref s.heap.objs.size, rawInt 0, .none, .none] }) (s.heap.objs.size + 1) s.heap.objs.size 0 .none := by
    have q := Heap.get?_push_size (s.heap.push oi) (o := { cls := .type "enumerate", data := .fields #[.none, .bool false, .ref s.heap.objs.size, rawInt 0, .none, .none] }) rfl
    rw [hz] at q
    exact q
  refine ⟨⟨_, he, rfl⟩, h _ he ⟨oi, Heap.get?_push_of_some _ (Heap.get?_push_size _ (by rw [← hit]; rfl)), by rw [← hit], by rw [← hit]; rfl⟩ fun c u x => Heap.get?_push_of_some _ (Heap.get?_push_of_some _ x)⟩
end
/-- the tuple at a, each item in a new pair with its number -/
def IteT (K : PySem.W.Frag) (a : Addr) : It :=
  ⟨fun i H => ∃ (xs : List V) (x : V), SqT K H a xs ∧ xs[i]? = some x, fun i H v H' => ∃ T x, v = .ref T ∧ H T = none ∧ H' = upd H T (.tup [.int (i : Nat), x]) ∧ ∀ ys, SqT K H a ys → ys[i]? = some x,
    fun i H => ∃ xs : List V, SqT K H a xs ∧ xs.length ≤ i⟩
theorem turn_enumT {P : Program} {w : World} {K : PySem.W.Frag} {elts : List Expr} {kk : Nat} {tpos : Pos} (a e it : Addr) (hea : e ≠ a) (hia : a ≠ it) :
    Turn P w K (.Tuple elts kk tpos) (IteT K a) [e, it] e (fun i h => (∃ old, IsEnum h e it ((i : Nat) : Int) old) ∧ h.IsTupleIter it a i ∧ e ≠ it) where
  mem := by simp
  obj := fun i h st b hb => by
    obtain ⟨⟨old, he⟩, ⟨o, ho, hc, hd⟩, _⟩ := st
    have e' : b = e ∨ b = it := by simpa using hb
    rcases e' with z | z
    · rw [z]; exact ⟨_, he, fun v q => nomatch q⟩
    · exact ⟨o, by rw [z]; exact ho, fun v q => by rw [hd] at q; cases q⟩
  keep := fun i h h' st k => by
    obtain ⟨⟨old, he⟩, hi, hne⟩ := st
    exact ⟨⟨old, k e (by simp) _ he⟩, hi.at fun o q => k it (by simp) o q, hne⟩
  item := by
    intro X hP hw hK hc i pins s σ H E I hf st hg
    subst hP hw hK
    obtain ⟨⟨old, he⟩, hit, hne⟩ := st
    obtain ⟨xs, x, hq, hx⟩ := hg
    obtain ⟨its, rv, p, hz⟩ := I.tuple hq
    obtain ⟨u, hu, ru⟩ := rv.get hx
    have hel : e < s.heap.objs.size := Heap.lt_size he
    have hil : it < s.heap.objs.size := by
      obtain ⟨_, q, _⟩ := hit
      exact Heap.lt_size q
    have hT : s.heap.IsTuple a its.toArray := p
    have hlt : i < its.toArray.size := by
      have q := (List.getElem?_eq_some_iff.mp hu).1
      simpa using q
    refine wpAny_pyNext_enum_itemD (drawsT (A := X.A.in1) (prog := X.prog) (w := X.w) (I.ok.hd hc) hia) he ⟨hit, hT⟩ hlt hne (by simp [hne, hea]) fun x' h' tk hx' ho hs' hT' hsz hk => ?_
    obtain rfl : x' = u := by
      have q : its[i]? = some x' := by simpa using hx'
      rw [hu] at q
      exact (Option.some.inj q).symm
    refine ⟨_, rfl, wpAny_letOwnedTupleGo_enum (s := { s with heap := h', toks := tk + 1 }) ho fun h2 he2 sb => ?_⟩
    have hT2 : h2.get? s.heap.objs.size = some { cls := .type "tuple", data := .seq #[.int i tk, x'] } := (sb.2 _ (Nat.ne_of_gt hel)).trans hT'
    have new : ObjOk X.prog X.w (upd H s.heap.objs.size (.tup [.int (i : Nat), x])) h2 s.heap.objs.size (.tup [.int (i : Nat), x]) :=
      ⟨(by decide : 2 ≤ sizeLine), [.int i tk, x'], .cons ⟨_, rfl⟩ (.cons ru .nil), ⟨_, hT2, rfl, _, rfl⟩⟩
    have I1 : Inv X pins σ (upd H s.heap.objs.size (.tup [.int (i : Nat), x])) { s with heap := h2, toks := tk + 1 } :=
      I.turnedNew (ch := [e, it]) (fun b u hb q => (sb.2 b fun z => hb (by simp [z])).trans (hk b u (fun z => hb (by simp [z])) (fun z => hb (by simp [z])) q)) hf (Nat.le_refl _) new
    refine ⟨.ref s.heap.objs.size, _, I1, rfl, ⟨_, x, rfl, I.hok.fresh (Nat.le_refl _), rfl, fun ys hy => by rw [I.tuple_inj hy hq]; exact hx⟩, ⟨⟨x', ?_⟩, hs'.1.at fun o q => (sb.2 it (Ne.symm hne)).trans q, hne⟩, fun b hb => ?_⟩
    · rw [show ((i + 1 : Nat) : Int) = (i : Int) + 1 by omega]
      exact he2
    · have hb' : b < s.heap.objs.size := by
        have e' : b = e ∨ b = it := by simpa using hb
        rcases e' with z | z <;> rw [z] <;> assumption
      rw [upd_ne (Nat.ne_of_lt hb')]
      exact (hf b hb).1
  done := by
    intro X hP hw hK hc i pins s σ H E I hf st hg
    subst hP hw hK
    obtain ⟨⟨old, he⟩, hit, hne⟩ := st
    obtain ⟨xs, hq, hx⟩ := hg
    obtain ⟨its, rv, p, hz⟩ := I.tuple hq
    obtain ⟨f0, f1, f2, f3, f4, f5⟩ := hf it (by simp)
    have hl := rv.length
    have hT : s.heap.IsTuple a its.toArray := p
    have D : Draws X.prog X.w X.A.in1 it [it, a] i (fun _ _ => False) (fun j h => j = i ∧ h.IsTupleIter it a i ∧ h.IsTuple a its.toArray) := {
      live := fun j h st => (drawsT (A := X.A.in1) (prog := X.prog) (w := X.w) (items := its.toArray) (I.ok.hd hc) hia).live i h st.2
      frame := fun j h h' st k => ⟨st.1, (drawsT (A := X.A.in1) (prog := X.prog) (w := X.w) (items := its.toArray) (I.ok.hd hc) hia).frame i h h' st.2 k⟩
      item := fun j s Q E hj st hQ => absurd hj (by rw [st.1]; omega)
      done := fun s Q E st hE => RZ.nextOf_tuple_end (I.ok.hd hc) st.2.1 st.2.2 (by simp; omega) hE }
    exact wpAny_pyNext_enum_endD D he ⟨rfl, hit, hT⟩ fun h' eb => ⟨rfl, I.turned (t' := s.toks) (fun b o hb q => eb b o hb q) f0 f1 f3 f4 f5⟩
  self := fun A i s Q E st h => by
    obtain ⟨⟨_, he⟩, _⟩ := st
    exact wpAny_pyIter_enum he h
def iEnumT (K : PySem.W.Frag) (ta : TA) : TI := fun σ H R => ta σ H fun vs H1 => ∃ a xs, vs = [.ref a] ∧ SqT K H1 a xs ∧ R (IteT K a) H1
theorem pi_enumT {X : Cx} {e : Expr} {ta : TA} {p pos tpos : Pos} {elts : List Expr} {kk : Nat} (hg : Gl X "enumerate") (hm : X.mg "enumerate" = none) (ha : PA X [e] ta) (hs : starEach [e] X.env = [(false, eval e X.env)] := by rfl) :
    PI X (.Tuple elts kk tpos) (.Call (.Name "enumerate" p) [e] [] pos) (iEnumT X.K ta) := by
  refine ⟨fun pins s σ H R I h => ?_⟩
  refine Call_ (ld_blt I hg hm boot_enumerate (PyProof.Rows.callWith_type1 (thn (ha.run pos pins s σ H _ I h) fun us s1 hh => ?_) hs rfl))
  obtain ⟨vs, H1, I1, r1, a, xs, ex, hq, q⟩ := hh
  subst ex
  cases r1 with
  | cons r rr =>
    cases rr
    cases r
    obtain ⟨its, rv, p1, hz⟩ := I1.tuple hq
    have hT : s1.heap.IsTuple a its.toArray := p1
    have hal : a < s1.heap.objs.size := by
      obtain ⟨o, ho, _⟩ := id hT
      exact Heap.lt_size ho
    refine call_enumT hT fun h' he hit hk => wpAny_pyIter_enum he ?_
    have I2 : Inv X pins σ H1 { s1 with heap := h' } := I1.kept (t' := s1.toks) hk
    refine ⟨s1.heap.objs.size + 1, [s1.heap.objs.size + 1, s1.heap.objs.size], _, _, H1, rfl, I2, turn_enumT a (s1.heap.objs.size + 1) s1.heap.objs.size (Nat.ne_of_gt (Nat.lt_succ_of_lt hal)) (Nat.ne_of_lt hal), ⟨⟨.none, he⟩, hit, Nat.succ_ne_self _⟩, fun b hb => ?_, q⟩
    have e' : b = s1.heap.objs.size + 1 ∨ b = s1.heap.objs.size := by simpa using hb
    have hle : s1.heap.objs.size ≤ b := by
      rcases e' with z | z
      · exact Nat.le_trans (Nat.le_succ _) (Nat.le_of_eq z.symm)
      · exact Nat.le_of_eq z.symm
    exact I1.fpOk hle (I1.hok.fresh hle)
/-- a loop over it -/
theorem for_enumT {K : PySem.W.Frag} {a : Addr} {xs : List V} {g : TG} {tb : TS} {D : Ends} {σ : L2.St} {H : Hp} (Pv : Nat → L2.St → Hp → Prop) (h0 : Pv 0 σ H) (hl : ∀ i σ H, Pv i σ H → SqT K H a xs)
    (hs : ∀ i x T σ H, xs[i]? = some x → Pv i σ H → H T = none → g (.ref T) σ (upd H T (.tup [.int (i : Nat), x])) fun σ2 H2 => tb { D with nx := Pv (i + 1), ct := Pv (i + 1), bk := D.nx } σ2 H2) (hd : ∀ σ H, Pv xs.length σ H → D.nx σ H) :
    ∃ W : Nat → Nat → L2.St → Hp → Prop, (∃ m, W 0 m σ H) ∧ ∀ i m σ H, W i m σ H →
      ((IteT K a).stop i H ∧ D.nx σ H) ∨ ((IteT K a).go i H ∧ ∃ N : L2.St → Hp → Prop, (∀ σ' H', N σ' H' → ∃ m', m' < m ∧ W (i + 1) m' σ' H') ∧ ∀ x H', (IteT K a).yld i H x H' → g x σ H' fun σ2 H2 => tb { D with nx := N, ct := N, bk := D.nx } σ2 H2) := by
  refine ⟨fun i m σ H => m + i = xs.length ∧ Pv i σ H, ⟨xs.length, rfl, h0⟩, ?_⟩
  rintro i m σ H ⟨hm, pv⟩
  have q := hl i σ H pv
  cases m with
  | zero =>
    have e : i = xs.length := by omega
    subst e
    exact .inl ⟨⟨xs, q, Nat.le_refl _⟩, hd σ H pv⟩
  | succ m =>
    have hlt : i < xs.length := by omega
    have hx : xs[i]? = some xs[i] := by simp [hlt]
    refine .inr ⟨⟨xs, xs[i], q, hx⟩, Pv (i + 1), fun σ' H' p' => ⟨m, by omega, by omega, p'⟩, fun v H' y => ?_⟩
    obtain ⟨T, x, ev, hT, eH, hy⟩ := y
    subst ev eH
    have hx2 := hy xs q
    exact hs i x T σ H hx2 pv hT
end Mw

/-! MR2 -/
/-! An own error whose __init__ only passes; is of a flag; == by an own __eq__ with both answers. -/
namespace Mw
open PySem PySem.Spec PyProof.Rows L2
abbrev Sl := L2.St
/-- C(), its own __init__ keeping sp: it takes the new exception and leaves all as it was -/
def tMkP (C : Addr) (sp : Sp) : Sl → Hp → XK → Prop := fun _ H Q => ∀ a, H a = none → sp [.ref a] (upd H a (exo a C none)) (fun v H2 => v = .non ∧ H2 = upd H a (exo a C none)) (fun _ _ _ => False) ∧ Q (.ref C) none H
theorem mkP_end {X : Cx} {pins : List (Addr × Obj)} {σ : Sl} {H : Hp} {Q : XK} {hp hp2 h2 : Heap} {g1 g2 : Array GenState} {d1 d2 : Drawn} {t1 t2 : Nat} {os1 os2 : OsState} {a C : Addr} (T : Raises X (.ref C)) (I : Inv X pins σ H ⟨hp, g1, d1, t1, os1⟩)
    (ha : hp.objs.size ≤ a) (k : ∀ c u, hp.get? c = some u → hp2.get? c = some u) (un : Un (frs X.stack) [] (upd H a (exo a C none)) (upd H a (exo a C none)) hp2 h2) (hok : HOk X.prog X.w (upd H a (exo a C none)) h2) (ho : os2 = os1) (hb : AllBare g2)
    (q : Q (.ref C) none H) : MkP X pins σ Q (.ref a) ⟨h2, g2, d2, t2, os2⟩ := by
  obtain ⟨t0, hoe⟩ := exo_at hok (upd_same (H := H) (a := a) (o := exo a C none))
  have hn : H a = none := I.hok.fresh ha
  obtain ⟨G, y1, y2⟩ := restrict h2 fun c => decide (c ≠ a)
  have gk : ∀ c, c ≠ a → G.get? c = h2.get? c := fun c hc => y1 c (decide_eq_true hc)
  have ge : G.get? a = none := y2 a (by simp)
  have nha : ∀ {c : Addr} {u : Obj}, hp.get? c = some u → c ≠ a := fun {c u} z => Nat.ne_of_lt (Nat.lt_of_lt_of_le (Heap.lt_size z) ha)
  have up : ∀ {c : Addr}, c ≠ a → H c = none → upd H a (exo a C none) c = none := fun {c} hc n => (upd_ne hc).trans n
  have U : Un (frs X.stack) [] H H hp G := {
    keep := fun c u z n hf hx => (gk c (nha z)).trans (un.keep c u (k c u z) (up (nha z) n) hf hx)
    slot := fun c u z n hf hx => by
      obtain ⟨sl, e⟩ := un.slot c u (k c u z) (up (nha z) n) hf hx
      exact ⟨sl, (gk c (nha z)).trans e⟩
    free := fun _ _ _ n _ => n
    there := fun c u z hx => by
      obtain ⟨u', e⟩ := un.there c u (k c u z) hx
      exact ⟨u', (gk c (nha z)).trans e⟩
    tups := fun _ _ z => z
    frzs := fun _ _ _ z => z
    tbls := fun _ ps z => ⟨#[], by rw [z]; simp⟩ }
  have hok3 : HOk X.prog X.w H G := fun c o z => by
    have hca : c ≠ a := ne_of_none z hn
    have z2 : upd H a (exo a C none) c = some o := (upd_ne hca).trans z
    have noa : ∀ {x : Addr} {u : HO}, upd H a (exo a C none) x = some u → u ≠ exo a C none → x ≠ a := fun {x u} hx hu e => hu (by rw [e, upd_same] at hx; exact (Option.some.inj hx).symm)
    refine (hok c o z2).stay (fun x v hx y => ?_) (fun x hx => ?_) (fun x xs hx => ?_)
    · have hxa : x ≠ a := by
        rcases hx with hx | hx
        · rw [hx]
          exact hca
        · exact noa hx (Ne.symm exo_own)
      exact (gk x hxa).trans y
    · exact (upd_ne (noa hx (Ne.symm exo_own))).symm.trans hx
    · exact (upd_ne (noa hx (Ne.symm exo_tup))).symm.trans hx
  have J : Inv X pins σ H ⟨G, g2, d2, t2, os2⟩ := I.call' (ch := []) ho U hok3 hb (fun c z => absurd z (by simp))
  refine ⟨a, _, _, ⟨G, g2, d2, t2, os2⟩, H, .ref C, none, rfl, J, fun c u z => ?_, ge, hoe, ⟨rfl, rfl⟩, rfl, rfl, hn, rfl, hb, T, q⟩
  by_cases hca : c = a
  · rw [hca, ge] at z
    cases z
  · exact (gk c hca).symm.trans z
theorem pmk_pass {X : Cx} {CX : CXT} {x : Str} {C fI : Addr} {k : Nat} {fd : FuncData} {ps : List Str} {sp : Sp} {p pos : Pos} (T : OexC X.K C) (iC : PySem.W.findIn X.K (.ref C) "__init__" = some (some (.ref fI))) (tI : PySem.W.typeIn X.K (.ref fI) = some (.type "function"))
    (F1 : FnOk X.prog X.w X.K X.mg X.base CX k fI fd ps sp) (hr : Room (k + 1) X.A) (hb : Binds X.K fd ps []) (hx : Passes CX X (fun _ _ _ => False)) (hg : Gl X x) (hm : X.mg x = some (.ref C))
    (hdb : (x == ("__debug__" : Str)) = false := by decide) : PMk X (.Call (.Name x p) [] [] pos) (tMkP C sp) := by
  intro pins s σ H Q I h
  obtain ⟨nm, q, N, bs, bm, sn, sub, ab, col, dd, k0, k1, k2, k3, k5, hC, hbm⟩ := T.cls
  refine wpAny_Call_Name_kw (ld_glob I hg hm ?_ hdb)
  refine PySem.W.callWith_K0 I.kIn T.kC ?_
  obtain ⟨hp, g, dr, tk, os⟩ := s
  have hsz : hp.objs.size ≤ hp.objs.size + 1 := Nat.le_succ _
  obtain ⟨hq, hQ⟩ := h (hp.objs.size + 1) (I.hok.fresh hsz)
  have kk : ∀ c u, hp.get? c = some u → ((hp.push (PySem.W.kdv_tup [])).push (PySem.HandSPX.excO C hp.objs.size)).get? c = some u := fun c u e => Heap.get?_push_of_some _ (Heap.get?_push_of_some _ e)
  have hget : ((hp.push (PySem.W.kdv_tup [])).push (PySem.HandSPX.excO C hp.objs.size)).get? (hp.objs.size + 1) = some (PySem.HandSPX.excO C hp.objs.size) := by heap_get
  have I2 : Inv X pins σ (upd H (hp.objs.size + 1) (exo (hp.objs.size + 1) C none)) ⟨(hp.push (PySem.W.kdv_tup [])).push (PySem.HandSPX.excO C hp.objs.size), g, dr, tk, os⟩ :=
    I.laid (t' := tk) (a := hp.objs.size + 1) (o := exo (hp.objs.size + 1) C none) (h' := (hp.push (PySem.W.kdv_tup [])).push (PySem.HandSPX.excO C hp.objs.size)) kk hsz (exo_ok hget)
  have hl : [Value.ref (hp.objs.size + 1)].length = ps.length := (F1.len _ _ _ _ hq)
  refine wpAny_call (PySem.HandSPX.call_own F.excBase_ValueError (fun Y => PySem.HandSPX.refsVE_contains Y bm hbm) (I.kIn _ _ hC) (PySem.W.looks_findIn I.kIn iC) (fun self => PySem.W.bind_fn I.kIn self tI) (by show 0 ≤ sizeLine; exact Nat.zero_le _)
    (codeAny_mono (F1.run _ X.stack _ _ ⟨[Value.ref (hp.objs.size + 1)], []⟩ [Value.ref (hp.objs.size + 1)] [V.ref (hp.objs.size + 1)] _ (fun _ _ _ => False) (hr.make C [] []) (I2.env0.make C [] []) (by
      have b := hb _ [Value.ref (hp.objs.size + 1)] I2.kIn hl
      simpa using b) (show Vals [V.ref _] [Value.ref _] from .cons rfl .nil) hq) fun r s' hq' => ?_))
  cases r with
  | error er => exact hx pins σ _ _ er s' I2 hq'
  | ok fl =>
    cases fl with
    | ret u =>
      obtain ⟨v, H2, os2, bare2, un2, hok2, rv, ev, eH⟩ := hq'
      subst ev eH
      obtain ⟨h2, g2, d2, t2, os'⟩ := s'
      exact ⟨rv, mkP_end (raises_own T.exC T.tyC) I hsz kk un2 hok2 os2 bare2 hQ⟩
    | next => exact False.elim hq'
    | brk => exact False.elim hq'
    | cont => exact False.elim hq'

/-! ### is True, is False -/
theorem is_flag {X : Cx} {b : Bool} : OpR X (compareOp .Is) (fun x y H Q => y = .bl b ∧ Q (.bl (decide (x = .bl b))) H) := by
  intro pins s σ H x y v u Q I rx ry h
  obtain ⟨rfl, q⟩ := h
  cases (show u = Value.bool b from ry)
  by_cases e : x = .bl b
  · subst e
    cases (show v = Value.bool b from rx)
    exact wpAny_is_self rfl ⟨.bl true, H, I, rfl, by simpa using q⟩
  · have q' : Q (.bl false) H := by simpa [e] using q
    cases x with
    | bl c =>
      cases (show v = Value.bool c from rx)
      exact wpAny_is_other rfl (fun z => e (by cases z; rfl)) ⟨.bl false, H, I, rfl, q'⟩
    | int i =>
      obtain ⟨_, z⟩ := (show ∃ t, v = Value.int i t from rx)
      subst z
      exact wpAny_is_other rfl (fun z => nomatch z) ⟨.bl false, H, I, rfl, q'⟩
    | str i =>
      obtain ⟨_, z⟩ := (show ∃ t, v = Value.str i t from rx)
      subst z
      exact wpAny_is_other rfl (fun z => nomatch z) ⟨.bl false, H, I, rfl, q'⟩
    | byt i =>
      obtain ⟨_, z⟩ := (show ∃ t, v = Value.bytes i t from rx)
      subst z
      exact wpAny_is_other rfl (fun z => nomatch z) ⟨.bl false, H, I, rfl, q'⟩
    | flt i =>
      obtain ⟨_, z⟩ := (show ∃ t, v = Value.float i t from rx)
      subst z
      exact wpAny_is_other rfl (fun z => nomatch z) ⟨.bl false, H, I, rfl, q'⟩
    | non =>
      cases (show v = Value.none from rx)
      exact wpAny_is_other rfl (fun z => nomatch z) ⟨.bl false, H, I, rfl, q'⟩
    | ref i =>
      cases (show v = Value.ref i from rx)
      exact wpAny_is_other rfl (fun z => nomatch z) ⟨.bl false, H, I, rfl, q'⟩
    | ty i =>
      cases (show v = Value.type i from rx)
      exact wpAny_is_other rfl (fun z => nomatch z) ⟨.bl false, H, I, rfl, q'⟩

/-! ### == by an own __eq__ of the class at C, whatever it answers -/
/-- what __eq__ promises: of the instance at a and the value y it answers r -/
def spEq2 (R : Addr → V → Hp → Bool → Prop) : Sp := fun vs H Q _ => ∃ a y r, vs = [.ref a, y] ∧ R a y H r ∧ Q (.bl r) H
/-- the left one an instance of C, the right one another such or a tuple -/
def rEqI (C : Addr) (R : Addr → V → Hp → Bool → Prop) : R2 := fun x y H Q => ∃ a b dx fs r, x = .ref a ∧ y = .ref b ∧ H a = some (.ins C dx fs) ∧ ((∃ dy gs, H b = some (.ins C dy gs)) ∨ ∃ ys, H b = some (.tup ys)) ∧ R a y H r ∧ Q (.bl r) H
theorem op_eqI {X : Cx} {CX : CXT} {n : Nat} {C f : Addr} {fd : FuncData} {ps : List Str} {R : Addr → V → Hp → Bool → Prop} {E : XK} (F : FnOk X.prog X.w X.K X.mg X.base CX n f fd ps (spEq2 R)) (hr : Room n X.A)
    (hs : PySem.W.findIn X.K (.ref C) "__eq__" = some (some (.ref f))) (hf : PySem.W.isFn X.K (.ref f) = true) (hb : Binds X.K fd ps []) (hx : Passes CX X E) (hn : PySem.W.notFirst X.K C (.type "tuple") = true) : OpR X (compareOp .Eq) (rEqI C R) := by
  intro pins s σ H x y u v Q I rx ry h
  obtain ⟨a, b, dx, fs, r0, rfl, rfl, ha, hb', hR, q⟩ := h
  cases rx
  cases ry
  have hsp : spEq2 R [.ref a, .ref b] H Q E := ⟨a, _, r0, rfl, hR, q⟩
  have hl := F.len _ _ _ _ hsp
  have r2 : Vals [V.ref a, V.ref b] [Value.ref a, Value.ref b] := .cons rfl (.cons rfl .nil)
  have go : wpAny (model X.prog X.w) X.A (call (.ref f) [.ref a, .ref b]) (PySem.W.CmpBack (EP X pins σ Q)) X.xe s := by
    refine wpAny_call (codeAny_mono (F.run X.A X.stack s H ⟨[.ref a, .ref b], []⟩ [.ref a, .ref b] [.ref a, .ref b] (fun z H' => (∃ c, z = .bl c) ∧ Q z H') E hr I.env0 (by
      have z := hb s [.ref a, .ref b] I.kIn (by simpa using hl)
      simpa using z) r2 ⟨a, _, r0, rfl, hR, ⟨_, rfl⟩, q⟩) fun r s' hq => ?_)
    cases r with
    | error e => exact hx pins σ H s e s' I hq
    | ok fl =>
      cases fl with
      | ret w =>
        obtain ⟨z, H', I', rz, ⟨c, ez⟩, q'⟩ := I.after hq
        subst ez
        cases rz
        exact ⟨V.bl c, H', I', rfl, q'⟩
      | next => exact False.elim hq
      | brk => exact False.elim hq
      | cont => exact False.elim hq
  obtain ⟨mA, J, _⟩ := ins_get I.hok ha
  obtain ⟨od, J, _⟩ := J.look
  obtain ⟨m, hF⟩ := I.fr
  rcases hb' with ⟨dy, gs, hb'⟩ | ⟨ys, hb'⟩
  · obtain ⟨mB, J', _⟩ := ins_get I.hok hb'
    obtain ⟨od', J', _⟩ := J'.look
    exact PySem.W.cmp_K (op := .Eq) (tb := .ref C) hr.units0 hF I.ok.mod.kin J J'.type (by simp [PySem.W.notFirst]) hs hf go
  · obtain ⟨P, Z, p, _⟩ := kit_of I (show L2.RelV (V.ref b) (Value.ref b) from rfl) (TyX.base (TyOf.tup hb'))
    exact PySem.W.cmp_K (op := .Eq) (tb := .type "tuple") hr.units0 hF I.ok.mod.kin J (Z.ty _ _ I.kIn p) hn hs hf go
end Mw

/-! M1 -/
/-! Data: what stands behind a value, apart from one object p (the hand) that may change. -/
namespace Mw
open PySem L2
/-- an object at a, not the one at p -/
def At (p : Addr) (H : Hp) (a : Addr) (o : HO) : Prop := a ≠ p ∧ H a = some o
/-- all but the object at p is as it was -/
def Keep (p : Addr) (H H' : Hp) : Prop := ∀ a o, a ≠ p → H a = some o → H' a = some o
theorem Keep.refl {p : Addr} {H : Hp} : Keep p H H := fun _ _ _ h => h
theorem Keep.trans {p : Addr} {H H1 H2 : Hp} (x : Keep p H H1) (y : Keep p H1 H2) : Keep p H H2 := fun a o n h => y a o n (x a o n h)
theorem Keep.same {p : Addr} {H H1 : Hp} (x : Same H H1) : Keep p H H1 := fun a o _ h => x a o h
theorem Keep.new {p q : Addr} {H : Hp} {o : HO} (h : H q = none) : Keep p H (upd H q o) := fun a u _ e => (upd_ne (ne_of_none e h)).trans e
theorem Keep.put {p q : Addr} {H H1 : Hp} {o : HO} (x : Keep p H H1) (h : H1 q = none) : Keep p H (upd H1 q o) := x.trans (Keep.new h)
theorem Keep.mut {p : Addr} {H : Hp} {o : HO} : Keep p H (upd H p o) := fun a u n e => (upd_ne n).trans e
theorem Same.put {q : Addr} {H H1 : Hp} {o : HO} (x : Same H H1) (h : H1 q = none) : Same H (upd H1 q o) := fun a u e => (upd_ne (ne_of_none (x a u e) h)).trans (x a u e)
theorem same_new {q : Addr} {H : Hp} {o : HO} (h : H q = none) : Same H (upd H q o) := fun _ _ e => (upd_ne (ne_of_none e h)).trans e
theorem At.keep {p a : Addr} {H H' : Hp} {o : HO} (x : At p H a o) (k : Keep p H H') : At p H' a o := ⟨x.1, k a o x.1 x.2⟩
theorem At.new {p a : Addr} {H : Hp} {o u : HO} (hp : H p = some u) (h : H a = none) : At p (upd H a o) a o := ⟨(ne_of_none hp h).symm, upd_same⟩
/-- what isinstance asks of the class at C -/
structure WebTy (K : PySem.W.Frag) (C : Addr) : Prop where
  cl : Cls K C
  ca : PySem.W.findIn K (.ref C) "__class__" = some (some (.builtin "object.__class__"))
  cg : PySem.W.specialIn K (.builtin "object.__class__") "__get__" = some (some (.builtin "getset_descriptor.__get__"))
  ct : PySem.W.takesIn K (.builtin "object.__class__") = some true
  co : PySem.W.mroIn K C (.type "object") = some true
  ki : PySem.W.kitOne K (.ref C) (.type "int") = some false
  kb : PySem.W.kitOne K (.ref C) (.type "bool") = some false
  kt : PySem.W.kitOne K (.ref C) (.type "tuple") = some false
  kl : PySem.W.kitOne K (.ref C) (.type "list") = some false
  ks : PySem.W.kitOne K (.ref C) (.type "str") = some false
/-- a thing that is none of the judged kinds: an empty dict, an instance of the class at C -/
def Oth (C p : Addr) (H : Hp) (v : V) : Prop := ∃ a, v = .ref a ∧ a ≠ p ∧ (H a = some (.dK []) ∨ ∃ dx fs, H a = some (.ins C dx fs))
mutual
def Tp (C p : Addr) (H : Hp) : PyData → V → Prop
  | .none, v => v = .non
  | .bool b, v => v = .bl b
  | .int i, v => v = .int i
  | .str s, v => v = .str s
  | .list ds, v => ∃ a xs, v = .ref a ∧ a ≠ p ∧ H a = some (.lst xs) ∧ TpAll C p H ds xs
  | .tuple ds, v => ∃ a xs, v = .ref a ∧ a ≠ p ∧ H a = some (.tup xs) ∧ TpAll C p H ds xs
  | .dict _, v => Oth C p H v
def TpAll (C p : Addr) (H : Hp) : List PyData → List V → Prop
  | [], xs => xs = []
  | d :: ds, xs => ∃ x r, xs = x :: r ∧ Tp C p H d x ∧ TpAll C p H ds r
end
section
variable {C p : Addr} {H H' : Hp} {K : PySem.W.Frag}
mutual
theorem Tp.keep (k : Keep p H H') : ∀ (d : PyData) (v : V), Tp C p H d v → Tp C p H' d v
  | .none, v, h => by simpa only [Tp] using h
  | .bool b, v, h => by simpa only [Tp] using h
  | .int i, v, h => by simpa only [Tp] using h
  | .str s, v, h => by simpa only [Tp] using h
  | .list ds, v, h => by
    simp only [Tp] at h ⊢
    obtain ⟨a, xs, e, n, ha, r⟩ := h
    exact ⟨a, xs, e, n, k a _ n ha, TpAll.keep k ds xs r⟩
  | .tuple ds, v, h => by
    simp only [Tp] at h ⊢
    obtain ⟨a, xs, e, n, ha, r⟩ := h
    exact ⟨a, xs, e, n, k a _ n ha, TpAll.keep k ds xs r⟩
  | .dict _, v, h => by
    simp only [Tp] at h ⊢
    obtain ⟨a, e, n, ha | ⟨dx, fs, ha⟩⟩ := h
    · exact ⟨a, e, n, .inl (k a _ n ha)⟩
    · exact ⟨a, e, n, .inr ⟨dx, fs, k a _ n ha⟩⟩
theorem TpAll.keep (k : Keep p H H') : ∀ (ds : List PyData) (xs : List V), TpAll C p H ds xs → TpAll C p H' ds xs
  | [], xs, h => by simpa only [TpAll] using h
  | d :: ds, xs, h => by
    simp only [TpAll] at h ⊢
    obtain ⟨x, r, e, h1, h2⟩ := h
    exact ⟨x, r, e, Tp.keep k d x h1, TpAll.keep k ds r h2⟩
end
theorem tpAll_iff : ∀ (ds : List PyData) (xs : List V), TpAll C p H ds xs ↔ ds.length = xs.length ∧ ∀ (i : Nat) d x, ds[i]? = some d → xs[i]? = some x → Tp C p H d x
  | [], xs => by
    simp only [TpAll]
    constructor
    · rintro rfl
      exact ⟨rfl, fun i d x h _ => by simp at h⟩
    · rintro ⟨h, _⟩
      exact List.length_eq_zero_iff.mp h.symm
  | d :: ds, xs => by
    simp only [TpAll]
    constructor
    · rintro ⟨x, r, rfl, h1, h2⟩
      obtain ⟨hl, hi⟩ := (tpAll_iff ds r).mp h2
      refine ⟨by simp [hl], fun i d' x' e1 e2 => ?_⟩
      cases i with
      | zero =>
        simp only [List.getElem?_cons_zero, Option.some.injEq] at e1 e2
        subst e1 e2
        exact h1
      | succ i =>
        simp only [List.getElem?_cons_succ] at e1 e2
        exact hi i d' x' e1 e2
    · rintro ⟨hl, hi⟩
      cases xs with
      | nil => simp at hl
      | cons x r => exact ⟨x, r, rfl, hi 0 d x rfl rfl, (tpAll_iff ds r).mpr ⟨by simpa using hl, fun i d' x' e1 e2 => hi (i + 1) d' x' (by simpa using e1) (by simpa using e2)⟩⟩
theorem TpAll.len {ds : List PyData} {xs : List V} (h : TpAll C p H ds xs) : ds.length = xs.length := ((tpAll_iff ds xs).mp h).1
theorem TpAll.get {ds : List PyData} {xs : List V} (h : TpAll C p H ds xs) {i : Nat} {d : PyData} (e : ds[i]? = some d) : ∃ x, xs[i]? = some x ∧ Tp C p H d x := by
  obtain ⟨hl, hi⟩ := (tpAll_iff ds xs).mp h
  have hlt := (List.getElem?_eq_some_iff.mp e).1
  have hx : xs[i]? = some (xs[i]'(by omega)) := by simp [show i < xs.length by omega]
  exact ⟨_, hx, hi i d _ e hx⟩
theorem TpAll.get' {ds : List PyData} {xs : List V} (h : TpAll C p H ds xs) {i : Nat} {x : V} (e : xs[i]? = some x) : ∃ d, ds[i]? = some d ∧ Tp C p H d x := by
  obtain ⟨hl, hi⟩ := (tpAll_iff ds xs).mp h
  have hlt := (List.getElem?_eq_some_iff.mp e).1
  have hx : ds[i]? = some (ds[i]'(by omega)) := by simp [show i < ds.length by omega]
  exact ⟨_, hx, hi i _ x hx e⟩
theorem TpAll.append {ds es : List PyData} {xs ys : List V} (h1 : TpAll C p H ds xs) (h2 : TpAll C p H es ys) : TpAll C p H (ds ++ es) (xs ++ ys) := by
  induction ds generalizing xs with
  | nil =>
    simp only [TpAll] at h1
    subst h1
    exact h2
  | cons d ds ih =>
    simp only [TpAll] at h1
    obtain ⟨x, r, rfl, a, b⟩ := h1
    show TpAll C p H (d :: (ds ++ es)) _
    simp only [TpAll]
    exact ⟨x, r ++ ys, rfl, a, ih b⟩
theorem TpAll.take {ds : List PyData} {xs : List V} (h : TpAll C p H ds xs) (n : Nat) : TpAll C p H (ds.take n) (xs.take n) := by
  obtain ⟨hl, hi⟩ := (tpAll_iff ds xs).mp h
  refine (tpAll_iff _ _).mpr ⟨by simp [hl], fun i d x e1 e2 => ?_⟩
  rw [List.getElem?_take] at e1 e2
  by_cases q : i < n
  · rw [if_pos q] at e1 e2
    exact hi i d x e1 e2
  · rw [if_neg q] at e1
    cases e1
theorem TpAll.drop {ds : List PyData} {xs : List V} (h : TpAll C p H ds xs) (n : Nat) : TpAll C p H (ds.drop n) (xs.drop n) := by
  obtain ⟨hl, hi⟩ := (tpAll_iff ds xs).mp h
  refine (tpAll_iff _ _).mpr ⟨by simp [hl], fun i d x e1 e2 => ?_⟩
  rw [List.getElem?_drop] at e1 e2
  exact hi _ d x e1 e2
theorem tpAll_nil : TpAll C p H [] [] := by simp only [TpAll]
theorem tpAll_cons {d : PyData} {ds : List PyData} {x : V} {xs : List V} (h1 : Tp C p H d x) (h2 : TpAll C p H ds xs) : TpAll C p H (d :: ds) (x :: xs) := by
  simp only [TpAll]
  exact ⟨x, xs, rfl, h1, h2⟩
theorem tp_int {i : Int} : Tp C p H (.int i) (.int i) := by simp only [Tp]
theorem tp_str {s : Str} : Tp C p H (.str s) (.str s) := by simp only [Tp]
theorem tp_bl {b : Bool} : Tp C p H (.bool b) (.bl b) := by simp only [Tp]
theorem tp_non : Tp C p H .none .non := by simp only [Tp]
theorem tp_tup {a : Addr} {ds : List PyData} {xs : List V} (h : At p H a (.tup xs)) (r : TpAll C p H ds xs) : Tp C p H (.tuple ds) (.ref a) := by
  simp only [Tp]
  exact ⟨a, xs, rfl, h.1, h.2, r⟩
theorem tp_lst {a : Addr} {ds : List PyData} {xs : List V} (h : At p H a (.lst xs)) (r : TpAll C p H ds xs) : Tp C p H (.list ds) (.ref a) := by
  simp only [Tp]
  exact ⟨a, xs, rfl, h.1, h.2, r⟩
theorem tp_tup' {v : V} {ds : List PyData} (h : Tp C p H (.tuple ds) v) : ∃ a xs, v = .ref a ∧ At p H a (.tup xs) ∧ TpAll C p H ds xs := by
  simp only [Tp] at h
  obtain ⟨a, xs, e, n, ha, r⟩ := h
  exact ⟨a, xs, e, ⟨n, ha⟩, r⟩
theorem tp_int' {v : V} {i : Int} (h : Tp C p H (.int i) v) : v = .int i := by simpa only [Tp] using h
theorem tp_str' {v : V} {i : Str} (h : Tp C p H (.str i) v) : v = .str i := by simpa only [Tp] using h

/-! ### kinds -/
def isI : PyData → Bool | .int _ => true | .bool _ => true | _ => false
def isB : PyData → Bool | .bool _ => true | _ => false
def isT : PyData → Bool | .tuple _ => true | _ => false
def isL : PyData → Bool | .list _ => true | _ => false
def isS : PyData → Bool | .str _ => true | _ => false
/-- an integer (no flag) within bounds -/
def inI (lo hi : Int) : PyData → Bool | .int i => decide (lo ≤ i) && decide (i ≤ hi) | _ => false
def isInt : PyData → Bool | .int _ => true | _ => false
theorem Tp.ty (W : WebTy K C) (d : PyData) (v : V) (h : Tp C p H d v) : ∃ t, TyX K H v t ∧ PySem.W.kitOne K t (.type "int") = some (isI d) ∧ PySem.W.kitOne K t (.type "bool") = some (isB d) ∧ PySem.W.kitOne K t (.type "tuple") = some (isT d) ∧
    PySem.W.kitOne K t (.type "list") = some (isL d) ∧ PySem.W.kitOne K t (.type "str") = some (isS d) := by
  cases d with
  | none =>
    simp only [Tp] at h
    subst h
    exact ⟨_, .base .non, kit_ty (show kitB "NoneType" "int" = some false from by decide +kernel), kit_ty (show kitB "NoneType" "bool" = some false from by decide +kernel), kit_ty (show kitB "NoneType" "tuple" = some false from by decide +kernel), kit_ty (show kitB "NoneType" "list" = some false from by decide +kernel), kit_ty (show kitB "NoneType" "str" = some false from by decide +kernel)⟩
  | bool b =>
    simp only [Tp] at h
    subst h
    exact ⟨_, .base (.bl b), kit_ty (show kitB "bool" "int" = some true from by decide +kernel), kit_ty (show kitB "bool" "bool" = some true from by decide +kernel), kit_ty (show kitB "bool" "tuple" = some false from by decide +kernel), kit_ty (show kitB "bool" "list" = some false from by decide +kernel), kit_ty (show kitB "bool" "str" = some false from by decide +kernel)⟩
  | int i =>
    simp only [Tp] at h
    subst h
    exact ⟨_, .base (.int i), kit_ty (show kitB "int" "int" = some true from by decide +kernel), kit_ty (show kitB "int" "bool" = some false from by decide +kernel), kit_ty (show kitB "int" "tuple" = some false from by decide +kernel), kit_ty (show kitB "int" "list" = some false from by decide +kernel), kit_ty (show kitB "int" "str" = some false from by decide +kernel)⟩
  | str s =>
    simp only [Tp] at h
    subst h
    exact ⟨_, .base (.str s), kit_ty (show kitB "str" "int" = some false from by decide +kernel), kit_ty (show kitB "str" "bool" = some false from by decide +kernel), kit_ty (show kitB "str" "tuple" = some false from by decide +kernel), kit_ty (show kitB "str" "list" = some false from by decide +kernel), kit_ty (show kitB "str" "str" = some true from by decide +kernel)⟩
  | list ds =>
    simp only [Tp] at h
    obtain ⟨a, xs, rfl, n, ha, r⟩ := h
    exact ⟨_, .base (.lst ha), kit_ty (show kitB "list" "int" = some false from by decide +kernel), kit_ty (show kitB "list" "bool" = some false from by decide +kernel), kit_ty (show kitB "list" "tuple" = some false from by decide +kernel), kit_ty (show kitB "list" "list" = some true from by decide +kernel), kit_ty (show kitB "list" "str" = some false from by decide +kernel)⟩
  | tuple ds =>
    simp only [Tp] at h
    obtain ⟨a, xs, rfl, n, ha, r⟩ := h
    exact ⟨_, .base (.tup ha), kit_ty (show kitB "tuple" "int" = some false from by decide +kernel), kit_ty (show kitB "tuple" "bool" = some false from by decide +kernel), kit_ty (show kitB "tuple" "tuple" = some true from by decide +kernel), kit_ty (show kitB "tuple" "list" = some false from by decide +kernel), kit_ty (show kitB "tuple" "str" = some false from by decide +kernel)⟩
  | dict kvs =>
    simp only [Tp] at h
    obtain ⟨a, rfl, n, ha | ⟨dx, fs, ha⟩⟩ := h
    · exact ⟨_, .base (.dK ha), kit_ty (show kitB "dict" "int" = some false from by decide +kernel), kit_ty (show kitB "dict" "bool" = some false from by decide +kernel), kit_ty (show kitB "dict" "tuple" = some false from by decide +kernel), kit_ty (show kitB "dict" "list" = some false from by decide +kernel), kit_ty (show kitB "dict" "str" = some false from by decide +kernel)⟩
    · exact ⟨_, .base (.ins ha W.cl W.ca W.cg W.ct W.co), W.ki, W.kb, W.kt, W.kl, W.ks⟩
theorem tp_isI (W : WebTy K C) {d : PyData} {v : V} {Q : VK} (h : Tp C p H d v) (q : Q (.bl (isI d)) H) : rIsi K [v, .ty "int"] H Q := by
  obtain ⟨t, ty, k, _⟩ := h.ty W
  exact ⟨v, _, t, _, _, rfl, .ty _, ty, k, q⟩
theorem tp_isB (W : WebTy K C) {d : PyData} {v : V} {Q : VK} (h : Tp C p H d v) (q : Q (.bl (isB d)) H) : rIsi K [v, .ty "bool"] H Q := by
  obtain ⟨t, ty, _, k, _⟩ := h.ty W
  exact ⟨v, _, t, _, _, rfl, .ty _, ty, k, q⟩
theorem tp_isT (W : WebTy K C) {d : PyData} {v : V} {Q : VK} (h : Tp C p H d v) (q : Q (.bl (isT d)) H) : rIsi K [v, .ty "tuple"] H Q := by
  obtain ⟨t, ty, _, _, k, _⟩ := h.ty W
  exact ⟨v, _, t, _, _, rfl, .ty _, ty, k, q⟩
theorem tp_isL (W : WebTy K C) {d : PyData} {v : V} {Q : VK} (h : Tp C p H d v) (q : Q (.bl (isL d)) H) : rIsi K [v, .ty "list"] H Q := by
  obtain ⟨t, ty, _, _, _, k, _⟩ := h.ty W
  exact ⟨v, _, t, _, _, rfl, .ty _, ty, k, q⟩
theorem tp_isS (W : WebTy K C) {d : PyData} {v : V} {Q : VK} (h : Tp C p H d v) (q : Q (.bl (isS d)) H) : rIsi K [v, .ty "str"] H Q := by
  obtain ⟨t, ty, _, _, _, _, k⟩ := h.ty W
  exact ⟨v, _, t, _, _, rfl, .ty _, ty, k, q⟩
end
theorem rd_mko {C : Addr} {sp : Sp} {dvs : List V} {ta : TA} {σ : L2.St} {H : Hp} {Q : XK} (h : ta σ H fun vs H1 => vs.length ≤ 1000 ∧ ∀ a, H1 a = none → sp (.ref a :: (vs ++ dvs)) (upd H1 a (exo a C none))
  (fun v H2 => v = .non ∧ ∃ (d : Addr) (fs : List (Str × V)), H2 a = some (exo a C (some d)) ∧ H2 d = some (exd d fs) ∧ H1 d = none ∧ Q (.ref C) (some d) (upd (del H2 a) d (.xd fs))) (fun _ _ _ => False)) : tMkO C sp dvs ta σ H Q := h
end Mw

/-! MS -/
/-! The text by places, what the top leaves. -/
namespace Mw
open PySem L2
def top (i : Nat) : Stmt := PySem.Challenge.pw_moststream_k27_whole_links_and_their_sta.main.body.getD i (.Pass ⟨0, 0, 0, 0⟩)
/-- what the top has left: the names of the built-in things are free, the classes stand -/
structure Tx (K : PySem.W.Frag) (mg : Str → Option Value) where
  c_Outgoing : Addr
  c_Incoming : Addr
  c_NoNumber : Addr
  c_NoState : Addr
  b_isinstance : mg "isinstance" = none
  b_int : mg "int" = none
  b_bool : mg "bool" = none
  b_tuple : mg "tuple" = none
  b_list : mg "list" = none
  b_str : mg "str" = none
  b_dict : mg "dict" = none
  b_len : mg "len" = none
  b_range : mg "range" = none
  b_enumerate : mg "enumerate" = none
  b_zip : mg "zip" = none
  b_sorted : mg "sorted" = none
  b_max : mg "max" = none
  b_all : mg "all" = none
  g_Outgoing : mg "Outgoing" = some (.ref c_Outgoing)
  g_Incoming : mg "Incoming" = some (.ref c_Incoming)
  g_NoNumber : mg "NoNumber" = some (.ref c_NoNumber)
  g_NoState : mg "NoState" = some (.ref c_NoState)
  k1 : Tok
  k2 : Tok
  g_NUMBER_LIMIT : mg "NUMBER_LIMIT" = some (.int 4294967296 k1)
  g_HELD_AHEAD : mg "HELD_AHEAD" = some (.int 1000 k2)
  W_Outgoing : WebTy K c_Outgoing
  W_Incoming : WebTy K c_Incoming
  mk_Outgoing : PySem.W.makesIn K c_Outgoing = true ∧ PySem.W.keepIn K (.ref c_Outgoing) = true
  mk_Incoming : PySem.W.makesIn K c_Incoming = true ∧ PySem.W.keepIn K (.ref c_Incoming) = true
  x_NoNumber : OexC K c_NoNumber
  x_NoState : OexC K c_NoState
  e_NoStateNoState : PySem.W.exmOne K (.ref c_NoState) (.ref c_NoState) = some true
  na_let_go : NoAttr K c_Outgoing "let_go"
  na_things : NoAttr K c_Outgoing "things"
  na_many : NoAttr K c_Incoming "many"
  na_ahead : NoAttr K c_Incoming "ahead"
/-- a def of the top by its name -/
structure Df (K : PySem.W.Frag) (mg : Str → Option Value) (x : Str) (st : Stmt) (ps : List Str) where
  f : Addr
  fd : FuncData
  F : Fun K x x st f fd
  m : mg x = some (.ref f)
  b : Binds K fd ps []
/-- a method of a class -/
structure Dm (K : PySem.W.Frag) (C : Addr) (x q : Str) (st : Stmt) (ps : List Str) where
  f : Addr
  fd : FuncData
  F : Fun K x q st f fd
  a : PySem.W.findIn K (.ref C) x = some (some (.ref f))
  i : PySem.W.isFn K (.ref f) = true
  t : PySem.W.typeIn K (.ref f) = some (.type "function")
  b : Binds K fd ps []
abbrev s_NoNumber_init : Stmt := inClass (top 2) 0
theorem sc_NoNumber_init : FnScope ["self"] ["self"] (defScope s_NoNumber_init) := ⟨rfl, rfl, rfl, by decide +kernel, rfl, by decide +kernel, by decide +kernel⟩
abbrev s_NoState_init : Stmt := inClass (top 3) 0
theorem sc_NoState_init : FnScope ["self"] ["self"] (defScope s_NoState_init) := ⟨rfl, rfl, rfl, by decide +kernel, rfl, by decide +kernel, by decide +kernel⟩
abbrev s_is_int : Stmt := top 5
theorem sc_is_int : FnScope ["thing"] ["thing"] (defScope s_is_int) := ⟨rfl, rfl, rfl, by decide +kernel, rfl, by decide +kernel, by decide +kernel⟩
abbrev s_is_number : Stmt := top 6
theorem sc_is_number : FnScope ["thing"] ["thing"] (defScope s_is_number) := ⟨rfl, rfl, rfl, by decide +kernel, rfl, by decide +kernel, by decide +kernel⟩
abbrev s_is_number_below : Stmt := top 7
theorem sc_is_number_below : FnScope ["limit", "thing"] ["limit", "thing"] (defScope s_is_number_below) := ⟨rfl, rfl, rfl, by decide +kernel, rfl, by decide +kernel, by decide +kernel⟩
abbrev s_is_tuple_of : Stmt := top 8
theorem sc_is_tuple_of : FnScope ["many", "thing"] ["many", "thing"] (defScope s_is_tuple_of) := ⟨rfl, rfl, rfl, by decide +kernel, rfl, by decide +kernel, by decide +kernel⟩
abbrev s_is_link_number : Stmt := top 12
theorem sc_is_link_number : FnScope ["thing"] ["thing"] (defScope s_is_link_number) := ⟨rfl, rfl, rfl, by decide +kernel, rfl, by decide +kernel, by decide +kernel⟩
abbrev s_Outgoing_init : Stmt := inClass (top 13) 0
theorem sc_Outgoing_init : FnScope ["self"] ["self"] (defScope s_Outgoing_init) := ⟨rfl, rfl, rfl, by decide +kernel, rfl, by decide +kernel, by decide +kernel⟩
abbrev s_Outgoing_put : Stmt := inClass (top 13) 1
theorem sc_Outgoing_put : FnScope ["self", "thing"] ["self", "thing"] (defScope s_Outgoing_put) := ⟨rfl, rfl, rfl, by decide +kernel, rfl, by decide +kernel, by decide +kernel⟩
abbrev s_Outgoing_known : Stmt := inClass (top 13) 2
theorem sc_Outgoing_known : FnScope ["self", "number", "newly"] ["self", "number"] (defScope s_Outgoing_known) := ⟨rfl, rfl, rfl, by decide +kernel, rfl, by decide +kernel, by decide +kernel⟩
abbrev s_Outgoing_waiting : Stmt := inClass (top 13) 3
theorem sc_Outgoing_waiting : FnScope ["self"] ["self"] (defScope s_Outgoing_waiting) := ⟨rfl, rfl, rfl, by decide +kernel, rfl, by decide +kernel, by decide +kernel⟩
abbrev s_Outgoing_many_put : Stmt := inClass (top 13) 4
theorem sc_Outgoing_many_put : FnScope ["self"] ["self"] (defScope s_Outgoing_many_put) := ⟨rfl, rfl, rfl, by decide +kernel, rfl, by decide +kernel, by decide +kernel⟩
abbrev s_Outgoing_state : Stmt := inClass (top 13) 5
theorem sc_Outgoing_state : FnScope ["self"] ["self"] (defScope s_Outgoing_state) := ⟨rfl, rfl, rfl, by decide +kernel, rfl, by decide +kernel, by decide +kernel⟩
abbrev s_Outgoing_copy : Stmt := inClass (top 13) 6
theorem sc_Outgoing_copy : FnScope ["self"] ["self"] (defScope s_Outgoing_copy) := ⟨rfl, rfl, rfl, by decide +kernel, rfl, by decide +kernel, by decide +kernel⟩
abbrev s_outgoing : Stmt := top 14
theorem sc_outgoing : FnScope ["let_go", "things", "end"] ["let_go", "things"] (defScope s_outgoing) := ⟨rfl, rfl, rfl, by decide +kernel, rfl, by decide +kernel, by decide +kernel⟩
abbrev s_is_outgoing_state : Stmt := top 15
theorem sc_is_outgoing_state : FnScope ["thing", "item"] ["thing"] (defScope s_is_outgoing_state) := ⟨rfl, rfl, rfl, by decide +kernel, rfl, by decide +kernel, by decide +kernel⟩
abbrev s_outgoing_of : Stmt := top 16
theorem sc_outgoing_of : FnScope ["state"] ["state"] (defScope s_outgoing_of) := ⟨rfl, rfl, rfl, by decide +kernel, rfl, by decide +kernel, by decide +kernel⟩
abbrev s_is_thing : Stmt := top 17
theorem sc_is_thing : FnScope ["thing", "left", "inner", "item"] ["thing"] (defScope s_is_thing) := ⟨rfl, rfl, rfl, by decide +kernel, rfl, by decide +kernel, by decide +kernel⟩
abbrev s_Incoming_init : Stmt := inClass (top 18) 0
theorem sc_Incoming_init : FnScope ["self"] ["self"] (defScope s_Incoming_init) := ⟨rfl, rfl, rfl, by decide +kernel, rfl, by decide +kernel, by decide +kernel⟩
abbrev s_Incoming_take : Stmt := inClass (top 18) 1
theorem sc_Incoming_take : FnScope ["self", "number", "thing", "newly"] ["self", "number", "thing"] (defScope s_Incoming_take) := ⟨rfl, rfl, rfl, by decide +kernel, rfl, by decide +kernel, by decide +kernel⟩
abbrev s_Incoming_taken : Stmt := inClass (top 18) 2
theorem sc_Incoming_taken : FnScope ["self"] ["self"] (defScope s_Incoming_taken) := ⟨rfl, rfl, rfl, by decide +kernel, rfl, by decide +kernel, by decide +kernel⟩
abbrev s_Incoming_held : Stmt := inClass (top 18) 3
theorem sc_Incoming_held : FnScope ["self"] ["self"] (defScope s_Incoming_held) := ⟨rfl, rfl, rfl, by decide +kernel, rfl, by decide +kernel, by decide +kernel⟩
abbrev s_Incoming_state : Stmt := inClass (top 18) 4
theorem sc_Incoming_state : FnScope ["self", "number"] ["self"] (defScope s_Incoming_state) := ⟨rfl, rfl, rfl, by decide +kernel, rfl, by decide +kernel, by decide +kernel⟩
abbrev s_Incoming_copy : Stmt := inClass (top 18) 5
theorem sc_Incoming_copy : FnScope ["self"] ["self"] (defScope s_Incoming_copy) := ⟨rfl, rfl, rfl, by decide +kernel, rfl, by decide +kernel, by decide +kernel⟩
abbrev s_incoming : Stmt := top 19
theorem sc_incoming : FnScope ["state", "end", "number", "thing"] ["state"] (defScope s_incoming) := ⟨rfl, rfl, rfl, by decide +kernel, rfl, by decide +kernel, by decide +kernel⟩
abbrev s_is_incoming_state : Stmt := top 20
theorem sc_is_incoming_state : FnScope ["thing"] ["thing"] (defScope s_is_incoming_state) := ⟨rfl, rfl, rfl, by decide +kernel, rfl, by decide +kernel, by decide +kernel⟩
abbrev s_incoming_of : Stmt := top 21
theorem sc_incoming_of : FnScope ["state"] ["state"] (defScope s_incoming_of) := ⟨rfl, rfl, rfl, by decide +kernel, rfl, by decide +kernel, by decide +kernel⟩
abbrev s_can_be_held : Stmt := top 22
theorem sc_can_be_held : FnScope ["many", "pairs", "numbers", "pair", "one", "other"] ["many", "pairs"] (defScope s_can_be_held) := ⟨rfl, rfl, rfl, by decide +kernel, rfl, by decide +kernel, by decide +kernel⟩
abbrev s_is_numbered : Stmt := top 23
theorem sc_is_numbered : FnScope ["thing"] ["thing"] (defScope s_is_numbered) := ⟨rfl, rfl, rfl, by decide +kernel, rfl, by decide +kernel, by decide +kernel⟩
abbrev s_law_hand : Stmt := top 25
theorem sc_law_hand : FnScope ["script"] ["script"] (defScope s_law_hand) := ⟨rfl, rfl, rfl, by decide +kernel, rfl, by decide +kernel, by decide +kernel⟩
abbrev s_law_take : Stmt := top 26
theorem sc_law_take : FnScope ["hand", "many", "cell", "found", "number"] ["hand", "many"] (defScope s_law_take) := ⟨rfl, rfl, rfl, by decide +kernel, rfl, by decide +kernel, by decide +kernel⟩
abbrev s_law_pick : Stmt := top 27
theorem sc_law_pick : FnScope ["hand", "things"] ["hand", "things"] (defScope s_law_pick) := ⟨rfl, rfl, rfl, by decide +kernel, rfl, by decide +kernel, by decide +kernel⟩
abbrev s_law_is_integer : Stmt := top 28
theorem sc_law_is_integer : FnScope ["thing"] ["thing"] (defScope s_law_is_integer) := ⟨rfl, rfl, rfl, by decide +kernel, rfl, by decide +kernel, by decide +kernel⟩
abbrev s_law_same : Stmt := top 29
theorem sc_law_same : FnScope ["actual", "due", "one", "other"] ["actual", "due"] (defScope s_law_same) := ⟨rfl, rfl, rfl, by decide +kernel, rfl, by decide +kernel, by decide +kernel⟩
abbrev s_law_item : Stmt := top 30
theorem sc_law_item : FnScope ["hand", "deep", "way", "k"] ["hand", "deep"] (defScope s_law_item) := ⟨rfl, rfl, rfl, by decide +kernel, rfl, by decide +kernel, by decide +kernel⟩
abbrev s_law_thing : Stmt := top 31
theorem sc_law_thing : FnScope ["hand", "k"] ["hand"] (defScope s_law_thing) := ⟨rfl, rfl, rfl, by decide +kernel, rfl, by decide +kernel, by decide +kernel⟩
abbrev s_law_heard : Stmt := top 32
theorem sc_law_heard : FnScope ["mind", "number", "thing", "held", "found", "k"] ["mind", "number", "thing"] (defScope s_law_heard) := ⟨rfl, rfl, rfl, by decide +kernel, rfl, by decide +kernel, by decide +kernel⟩
abbrev s_law_ends_right : Stmt := top 33
theorem sc_law_ends_right : FnScope ["out", "end", "things", "gone", "mind", "waiting", "k"] ["out", "end", "things", "gone", "mind"] (defScope s_law_ends_right) := ⟨rfl, rfl, rfl, by decide +kernel, rfl, by decide +kernel, by decide +kernel⟩
abbrev s_law_deed : Stmt := top 34
theorem sc_law_deed : FnScope ["hand", "out", "end", "things", "gone", "mind", "all_taken", "way", "number", "some", "due"] ["hand", "out", "end", "things", "gone", "mind", "all_taken"] (defScope s_law_deed) := ⟨rfl, rfl, rfl, by decide +kernel, rfl, by decide +kernel, by decide +kernel⟩
abbrev s_law_drained : Stmt := top 35
theorem sc_law_drained : FnScope ["out", "end", "many", "k", "number", "thing"] ["out", "end", "many"] (defScope s_law_drained) := ⟨rfl, rfl, rfl, by decide +kernel, rfl, by decide +kernel, by decide +kernel⟩
abbrev s_law_first : Stmt := top 36
theorem sc_law_first : FnScope ["script", "hand", "out", "end", "things", "all_taken", "mind", "gone", "kept", "k", "right", "far", "told"] ["script"] (defScope s_law_first) := ⟨rfl, rfl, rfl, by decide +kernel, rfl, by decide +kernel, by decide +kernel⟩
abbrev s_law_is_within : Stmt := top 37
theorem sc_law_is_within : FnScope ["thing", "least", "most"] ["thing", "least", "most"] (defScope s_law_is_within) := ⟨rfl, rfl, rfl, by decide +kernel, rfl, by decide +kernel, by decide +kernel⟩
abbrev s_law_odd : Stmt := top 38
theorem sc_law_odd : FnScope ["hand", "way"] ["hand"] (defScope s_law_odd) := ⟨rfl, rfl, rfl, by decide +kernel, rfl, by decide +kernel, by decide +kernel⟩
abbrev s_law_is_thing : Stmt := top 39
theorem sc_law_is_thing : FnScope ["thing", "item"] ["thing"] (defScope s_law_is_thing) := ⟨rfl, rfl, rfl, by decide +kernel, rfl, by decide +kernel, by decide +kernel⟩
abbrev s_law_some_thing : Stmt := top 40
theorem sc_law_some_thing : FnScope ["hand"] ["hand"] (defScope s_law_some_thing) := ⟨rfl, rfl, rfl, by decide +kernel, rfl, by decide +kernel, by decide +kernel⟩
abbrev s_law_out_state : Stmt := top 41
theorem sc_law_out_state : FnScope ["hand", "gone", "k"] ["hand"] (defScope s_law_out_state) := ⟨rfl, rfl, rfl, by decide +kernel, rfl, by decide +kernel, by decide +kernel⟩
abbrev s_law_in_state : Stmt := top 42
theorem sc_law_in_state : FnScope ["hand", "taken", "found", "number", "k"] ["hand"] (defScope s_law_in_state) := ⟨rfl, rfl, rfl, by decide +kernel, rfl, by decide +kernel, by decide +kernel⟩
abbrev s_law_spoilt : Stmt := top 43
theorem sc_law_spoilt : FnScope ["hand", "state", "way", "some", "at", "other", "menu"] ["hand", "state"] (defScope s_law_spoilt) := ⟨rfl, rfl, rfl, by decide +kernel, rfl, by decide +kernel, by decide +kernel⟩
abbrev s_law_is_out : Stmt := top 44
theorem sc_law_is_out : FnScope ["thing", "item"] ["thing"] (defScope s_law_is_out) := ⟨rfl, rfl, rfl, by decide +kernel, rfl, by decide +kernel, by decide +kernel⟩
abbrev s_law_is_in : Stmt := top 45
theorem sc_law_is_in : FnScope ["thing", "last", "pair"] ["thing"] (defScope s_law_is_in) := ⟨rfl, rfl, rfl, by decide +kernel, rfl, by decide +kernel, by decide +kernel⟩
abbrev s_law_out_top : Stmt := top 46
theorem sc_law_out_top : FnScope ["state"] ["state"] (defScope s_law_out_top) := ⟨rfl, rfl, rfl, by decide +kernel, rfl, by decide +kernel, by decide +kernel⟩
abbrev s_law_in_top : Stmt := top 47
theorem sc_law_in_top : FnScope ["state", "pair"] ["state"] (defScope s_law_in_top) := ⟨rfl, rfl, rfl, by decide +kernel, rfl, by decide +kernel, by decide +kernel⟩
abbrev s_law_out_told : Stmt := top 48
theorem sc_law_out_told : FnScope ["thing", "is_asked", "end"] ["thing", "is_asked"] (defScope s_law_out_told) := ⟨rfl, rfl, rfl, by decide +kernel, rfl, by decide +kernel, by decide +kernel⟩
abbrev s_law_in_told : Stmt := top 49
theorem sc_law_in_told : FnScope ["thing", "is_asked", "end"] ["thing", "is_asked"] (defScope s_law_in_told) := ⟨rfl, rfl, rfl, by decide +kernel, rfl, by decide +kernel, by decide +kernel⟩
abbrev s_law_judged : Stmt := top 50
theorem sc_law_judged : FnScope ["thing", "due", "is_asked"] ["thing"] (defScope s_law_judged) := ⟨rfl, rfl, rfl, by decide +kernel, rfl, by decide +kernel, by decide +kernel⟩
abbrev s_law_out_goes_on : Stmt := top 51
theorem sc_law_out_goes_on : FnScope ["hand", "state", "out", "twin", "number"] ["hand", "state"] (defScope s_law_out_goes_on) := ⟨rfl, rfl, rfl, by decide +kernel, rfl, by decide +kernel, by decide +kernel⟩
abbrev s_law_goes_on : Stmt := top 52
theorem sc_law_goes_on : FnScope ["hand", "state", "other", "end", "copied", "due", "k", "left"] ["hand", "state", "other"] (defScope s_law_goes_on) := ⟨rfl, rfl, rfl, by decide +kernel, rfl, by decide +kernel, by decide +kernel⟩
abbrev s_law_second : Stmt := top 53
theorem sc_law_second : FnScope ["script", "hand", "state", "other", "k"] ["script"] (defScope s_law_second) := ⟨rfl, rfl, rfl, by decide +kernel, rfl, by decide +kernel, by decide +kernel⟩
abbrev s_law : Stmt := top 54
theorem sc_law : FnScope ["script"] ["script"] (defScope s_law) := ⟨rfl, rfl, rfl, by decide +kernel, rfl, by decide +kernel, by decide +kernel⟩
structure Bk (K : PySem.W.Frag) (mg : Str → Option Value) (T : Tx K mg) where
  NoNumber_init : Dm K T.c_NoNumber "__init__" "NoNumber.__init__" s_NoNumber_init ["self"]
  NoState_init : Dm K T.c_NoState "__init__" "NoState.__init__" s_NoState_init ["self"]
  is_int : Df K mg "is_int" s_is_int ["thing"]
  is_number : Df K mg "is_number" s_is_number ["thing"]
  is_number_below : Df K mg "is_number_below" s_is_number_below ["limit", "thing"]
  is_tuple_of : Df K mg "is_tuple_of" s_is_tuple_of ["many", "thing"]
  is_link_number : Df K mg "is_link_number" s_is_link_number ["thing"]
  Outgoing_init : Dm K T.c_Outgoing "__init__" "Outgoing.__init__" s_Outgoing_init ["self"]
  Outgoing_put : Dm K T.c_Outgoing "put" "Outgoing.put" s_Outgoing_put ["self", "thing"]
  Outgoing_known : Dm K T.c_Outgoing "known" "Outgoing.known" s_Outgoing_known ["self", "number"]
  Outgoing_waiting : Dm K T.c_Outgoing "waiting" "Outgoing.waiting" s_Outgoing_waiting ["self"]
  Outgoing_many_put : Dm K T.c_Outgoing "many_put" "Outgoing.many_put" s_Outgoing_many_put ["self"]
  Outgoing_state : Dm K T.c_Outgoing "state" "Outgoing.state" s_Outgoing_state ["self"]
  Outgoing_copy : Dm K T.c_Outgoing "copy" "Outgoing.copy" s_Outgoing_copy ["self"]
  outgoing : Df K mg "_outgoing" s_outgoing ["let_go", "things"]
  is_outgoing_state : Df K mg "is_outgoing_state" s_is_outgoing_state ["thing"]
  outgoing_of : Df K mg "outgoing_of" s_outgoing_of ["state"]
  is_thing : Df K mg "_is_thing" s_is_thing ["thing"]
  Incoming_init : Dm K T.c_Incoming "__init__" "Incoming.__init__" s_Incoming_init ["self"]
  Incoming_take : Dm K T.c_Incoming "take" "Incoming.take" s_Incoming_take ["self", "number", "thing"]
  Incoming_taken : Dm K T.c_Incoming "taken" "Incoming.taken" s_Incoming_taken ["self"]
  Incoming_held : Dm K T.c_Incoming "held" "Incoming.held" s_Incoming_held ["self"]
  Incoming_state : Dm K T.c_Incoming "state" "Incoming.state" s_Incoming_state ["self"]
  Incoming_copy : Dm K T.c_Incoming "copy" "Incoming.copy" s_Incoming_copy ["self"]
  incoming : Df K mg "_incoming" s_incoming ["state"]
  is_incoming_state : Df K mg "is_incoming_state" s_is_incoming_state ["thing"]
  incoming_of : Df K mg "incoming_of" s_incoming_of ["state"]
  can_be_held : Df K mg "_can_be_held" s_can_be_held ["many", "pairs"]
  is_numbered : Df K mg "_is_numbered" s_is_numbered ["thing"]
  law_hand : Df K mg "_law_hand" s_law_hand ["script"]
  law_take : Df K mg "_law_take" s_law_take ["hand", "many"]
  law_pick : Df K mg "_law_pick" s_law_pick ["hand", "things"]
  law_is_integer : Df K mg "_law_is_integer" s_law_is_integer ["thing"]
  law_same : Df K mg "_law_same" s_law_same ["actual", "due"]
  law_item : Df K mg "_law_item" s_law_item ["hand", "deep"]
  law_thing : Df K mg "_law_thing" s_law_thing ["hand"]
  law_heard : Df K mg "_law_heard" s_law_heard ["mind", "number", "thing"]
  law_ends_right : Df K mg "_law_ends_right" s_law_ends_right ["out", "end", "things", "gone", "mind"]
  law_deed : Df K mg "_law_deed" s_law_deed ["hand", "out", "end", "things", "gone", "mind", "all_taken"]
  law_drained : Df K mg "_law_drained" s_law_drained ["out", "end", "many"]
  law_first : Df K mg "_law_first" s_law_first ["script"]
  law_is_within : Df K mg "_law_is_within" s_law_is_within ["thing", "least", "most"]
  law_odd : Df K mg "_law_odd" s_law_odd ["hand"]
  law_is_thing : Df K mg "_law_is_thing" s_law_is_thing ["thing"]
  law_some_thing : Df K mg "_law_some_thing" s_law_some_thing ["hand"]
  law_out_state : Df K mg "_law_out_state" s_law_out_state ["hand"]
  law_in_state : Df K mg "_law_in_state" s_law_in_state ["hand"]
  law_spoilt : Df K mg "_law_spoilt" s_law_spoilt ["hand", "state"]
  law_is_out : Df K mg "_law_is_out" s_law_is_out ["thing"]
  law_is_in : Df K mg "_law_is_in" s_law_is_in ["thing"]
  law_out_top : Df K mg "_law_out_top" s_law_out_top ["state"]
  law_in_top : Df K mg "_law_in_top" s_law_in_top ["state"]
  law_out_told : Df K mg "_law_out_told" s_law_out_told ["thing", "is_asked"]
  law_in_told : Df K mg "_law_in_told" s_law_in_told ["thing", "is_asked"]
  law_judged : Df K mg "_law_judged" s_law_judged ["thing"]
  law_out_goes_on : Df K mg "_law_out_goes_on" s_law_out_goes_on ["hand", "state"]
  law_goes_on : Df K mg "_law_goes_on" s_law_goes_on ["hand", "state", "other"]
  law_second : Df K mg "_law_second" s_law_second ["script"]
  law : Df K mg "law" s_law ["script"]
theorem mk_of_Outgoing {K : PySem.W.Frag} {mg : Str → Option Value} (T : Tx K mg) {q : Str} {st : Stmt} {ps : List Str} (D : Dm K T.c_Outgoing "__init__" q st ps) : Mk K T.c_Outgoing D.f := ⟨T.mk_Outgoing.1, D.a, D.i, T.mk_Outgoing.2⟩
theorem mk_of_Incoming {K : PySem.W.Frag} {mg : Str → Option Value} (T : Tx K mg) {q : Str} {st : Stmt} {ps : List Str} (D : Dm K T.c_Incoming "__init__" q st ps) : Mk K T.c_Incoming D.f := ⟨T.mk_Incoming.1, D.a, D.i, T.mk_Incoming.2⟩
end Mw

/-! MR5 -/
/-! sorted(d) of a dict with whole numbers as keys. -/
namespace L2
open PySem PySem.Spec PyProof.Rows
def rSortedD : List V → Hp → VK → Prop := fun vs H Q => ∃ (d : Addr) (kvs : List (Key × V)) (ns : List Int), vs = [.ref d] ∧ H d = some (.dK kvs) ∧ kvs.map (·.1) = ns.map Sum.inl ∧
  ∀ (ns' : List Int) (p : Addr), ns'.Perm ns → ns'.Pairwise (· ≤ ·) → H p = none → Q (.ref p) (upd H p (.lst (ns'.map V.int)))
theorem cr_sortedD {X : Cx} (hc : X.calm = true) : CallR X (.builtin "sorted") rSortedD := by
  intro pins s σ H vs us Q I r h
  obtain ⟨d, kvs, ns, rfl, hk, en, q⟩ := h
  rw [Vals.ref1 r]
  obtain ⟨z, lo, ws, rk, hd⟩ := (show ObjOk X.prog X.w H s.heap d (.dK kvs) from I.hok d _ hk)
  obtain ⟨ep, hat⟩ := hd.dictAt
  have hl : kvs.length = ws.length := Paired.length rk
  refine Calls.call_function_entry kind_sorted plain_sorted entry_sorted (args_sorted1 _) ?_
  unfold Builtin.«sorted»
  refine wpAny_bind (m := checkCount "sorted" 1 1 _) (wpAny_pure ?_)
  refine wpAny_bind (PySem.W.kdu_collect (PySem.W.kdl_dict (knd := mixKind X.prog X.w) (kvs := ws) (ep := ep) lo) (I.ok.hd hc) hat (by rw [← hl]; exact z) fun h' tk acc kp hacc => ?_)
  have el : acc.toList.length = kvs.length := by rw [Array.length_toList, hacc.1, hl]
  have hns : ns.length = kvs.length := by
    have e := congrArg List.length en
    rw [List.length_map, List.length_map] at e
    exact e.symm
  have rv : Vals (ns.map V.int) acc.toList := by
    refine vals_of_at (by rw [List.length_map, el, hns]) fun j x w h1 h2 => ?_
    obtain ⟨k, y, hky, hi⟩ := hacc.2 j w (by rw [← Array.getElem?_toList]; exact h2)
    have e1 : (kvs.map (·.1))[j]? = some k := by rw [KV.keys rk, List.getElem?_map, hky] <;> rfl
    rw [en, List.getElem?_map] at e1
    rw [List.getElem?_map] at h1
    cases e2 : ns[j]? with
    | none =>
      rw [e2] at h1
      cases h1
    | some n =>
      rw [e2] at h1 e1
      cases h1
      have e3 : k = Sum.inl n := (Option.some.inj e1).symm
      have e4 : RelV (kV k) w := keyIs_rel hi
      rw [e3] at e4
      exact e4
  have hi := rv.ints
  have hz : acc.toList.length ≤ sizeLine := by rw [el]; exact z
  refine wpAny_bind (wpAny_newList ?_ hz)
  have hoL : (h'.push (seqObj "list" acc.toList.toArray 0)).get? h'.objs.size = some (seqObj "list" acc.toList.toArray 0) := Heap.get?_push_size _ rfl
  show wpAny _ _ _ _ _ { s with heap := h'.push (seqObj "list" acc.toList.toArray 0), toks := tk }
  refine wpAny_bind (wpAny_holding (wpAny_call_entry slot_list_sort ⟨_, hoL, rfl⟩ entry_list_sort (SrtO.list_sort_ord SrtO.swo_int hoL hz (fun h2 => SrtO.ints_sortable hi h2) fun out h1 h2 => ⟨_, rfl, ?_⟩) (args_list_sort _)))
  refine wpAny_pure ⟨_, rfl, ?_⟩
  obtain ⟨k1, k2, k3⟩ := SrtO.ints_out hi h1 h2
  obtain ⟨e, he⟩ := PyProof.Rows.sortedHeap_at (out := out.toArray) hoL
  have up : ∀ b o, h'.get? b = some o → (sortedHeap (h'.push (seqObj "list" acc.toList.toArray 0)) h'.objs.size acc.toList out.toArray).get? b = some o := fun b o hb => by
    have hlt : b < h'.objs.size := Heap.lt_size hb
    rw [PyProof.Rows.sortedHeap_old (Nat.ne_of_lt hlt) (by rw [size_push']; exact Nat.lt_succ_of_lt hlt)]
    exact Heap.get?_push_of_some _ hb
  have I1 : Inv X pins σ H { s with heap := h', toks := tk } := I.kept kp
  refine ⟨.ref h'.objs.size, upd H h'.objs.size (.lst ((out.map SrtO.iv).map V.int)), I1.laid (t' := tk) up (Nat.le_refl _) ⟨?_, out, e, vals_of_ints k1, he⟩, rfl, q _ _ k2 k3 (I1.hok.fresh (Nat.le_refl _))⟩
  rw [List.length_map, k2.length_eq, hns]
  exact z
end L2

/-! MR6 -/
/-! list(d.keys()) of a dict with pairs as keys. -/
namespace L2
open PySem PySem.Spec PyProof.Rows PySem.W
theorem lk_src {prog : Program} {w : World} {r d : Addr} {o : Obj} {es : Array DictEntry} {ep : Nat} (hx : o.ExactDict) (hd : o.data = .dict es ep) :
    KdlSrc prog w "dict_keys" r d es.size (fun i v => ∃ en : DictEntry, es[i]? = some en ∧ v = en.key) (fun h => KdlKeysView h r d ∧ h.get? d = some o) where
  type := fun _ hm => hm.1.typeIs
  there := fun _ hm => ⟨let ⟨_, ho, _⟩ := hm.1; Heap.lt_size ho, Heap.lt_size hm.2⟩
  keep := fun _ _ hm hk => ⟨let ⟨q, hq, x⟩ := hm.1; ⟨q, hk r (.inl rfl) q hq, x⟩, hk d (.inr rfl) _ hm.2⟩
  notList := by decide
  notTuple := by decide
  hint := fun _ _ _ _ hm hq => kdl_hint_keys hm.1.typeIs hq
  iter := fun _ s hh hm => ⟨_, _, (fun _ _ hq => wpAny_pyIter_keys_raw hm.1 ⟨o, hm.2, hx, hd⟩ hq), walks_raw hh _ d (Nat.ne_of_lt (Heap.lt_size hm.2)) hd, ⟨⟨_, Heap.get?_push_size _ rfl, rfl, rfl⟩, Heap.get?_push_of_some _ hm.2⟩⟩
section
variable {X : Cx}
def tListKeysT (te : TE) : TE := fun σ H Q => te σ H fun x H1 => ∃ (d : Addr) (kvs : List (List Key × V)), x = .ref d ∧ H1 d = some (.dT kvs) ∧ ∀ (p : Addr) (bs : List Addr), H1 p = none → IsKeys H1 kvs bs → Q (.ref p) (upd H1 p (.lst (bs.map V.ref)))
theorem pe_listKeysT {e : Expr} {te : TE} {p pos apos cpos : Pos} (hc : X.calm = true) (he : PE X e te) (hg : Gl X "list") (hm : X.mg "list" = none) (hbase : attributeBase e "keys" X.env (eval e X.env) = eval e X.env := by rfl) (hline : (apos.endLine == cpos.line) = true := by rfl)
    (hs : starEach [Expr.Call (.Attribute e "keys" apos) [] [] cpos] X.env = (false, eval (.Call (.Attribute e "keys" apos) [] [] cpos) X.env) :: starEach [] X.env := by rfl) :
    PE X (.Call (.Name "list" p) [.Call (.Attribute e "keys" apos) [] [] cpos] [] pos) (tListKeysT te) := by
  refine ⟨fun pins s σ H Q I hq => ?_⟩
  refine wpAny_Call_Name_kw (ld_blt I hg hm boot_list ?_)
  refine PyProof.Rows.callWith_type1 ?_ hs rfl
  rw [hs]
  show wpAny _ _ (spliced ((false, eval (.Call (.Attribute e "keys" apos) [] [] cpos) X.env) :: backTo pos (starEach [] X.env))) _ _ s
  refine Calls.spliced_cons ?_
  refine wpAny_Call_method (T := "dict") (id := "dict.keys") hbase rfl hline F.plainAttrs_dict F.slot_dict_keys F.type_dict_keys (thn (he.run pins s σ H _ I hq) fun u s1 ⟨x, H1, I1, rx, d, kvs, ex, hd, q⟩ => ?_)
  subst ex
  obtain rfl : u = Value.ref d := rx
  obtain ⟨z, lo, ks, pr, o, es, ep, ho, hx, hdt, hen, hn⟩ := dt_of I1.hok hd
  have l1 : es.size = ks.length := size_of_entries hen
  have l2 : kvs.length = ks.length := Paired.length pr
  have raw : s1.heap.DictRaw d es ep := ⟨o, ho, hx, hdt⟩
  have I2 : Inv X pins σ H1 { s1 with heap := s1.heap.push { cls := .type "dict_keys", data := .fields #[.ref d] } } := I1.kept (t' := s1.toks) fun b ob q => Heap.get?_push_of_some _ q
  refine ⟨raw.typeIs, fun b eb => ⟨o, by cases eb; exact ho, hx.2.1⟩, ?_⟩
  show wpAny _ _ (callWith cpos (.builtin "dict.keys") [.ref d] [] []) _ X.xe s1
  refine method_meetsIn F.slot_dict_keys F.entry_dict_keys rfl (PySem.evalArgs_none ⟨rfl, raw.typeIs, F.args_dict_keys_1 _, _, meets_dict_keys_raw d lo, ⟨es, ep, raw⟩, ?_⟩)
  refine Calls.spliced_nil ?_
  refine kdl_call (lk_src hx hdt) (I1.ok.hd hc) ⟨⟨_, Heap.get?_push_size _ rfl, rfl, rfl⟩, Heap.get?_push_of_some _ ho⟩ (by omega) fun h' tk acc' c' kp e it => ?_
  have ea : acc'.toList = ks.map fun x => Value.ref x.2.1 := by
    have hl : acc'.toList.length = ks.length := by rw [Array.length_toList, it.1]; exact l1
    apply List.ext_getElem?
    intro j
    rw [List.getElem?_map]
    cases hj : acc'.toList[j]? with
    | none =>
      have h1 := List.getElem?_eq_none_iff.mp hj
      rw [List.getElem?_eq_none (by omega)]
      rfl
    | some v =>
      obtain ⟨en, hen2, hv⟩ := it.2 j v (by rw [← Array.getElem?_toList]; exact hj)
      have qe := entry_at hen j
      rw [hen2] at qe
      cases hb : ks[j]? with
      | none =>
        rw [hb] at qe
        exact nomatch (show some en = none from qe)
      | some b =>
        rw [hb] at qe
        have e2 : en = entryOfKey (tupleKind (mixKind X.prog X.w)) b := Option.some.inj qe
        rw [hv, e2]
        rfl
  have eb : acc'.toList = (ks.map fun x => x.2.1).map Value.ref := by
    rw [ea, List.map_map]
    rfl
  have rv : Vals ((ks.map fun x => x.2.1).map V.ref) acc'.toList := by
    rw [eb]
    exact vals_refs _
  have hz : ((ks.map fun x => x.2.1).map V.ref).length ≤ sizeLine := by
    rw [List.length_map, List.length_map]
    omega
  refine ⟨.ref _, _, I2.laid (t' := tk) (o := .lst ((ks.map fun x => x.2.1).map V.ref)) kp (Nat.le_refl _) ⟨hz, acc'.toList, c', rv, by rw [Array.toArray_toList]; exact e⟩, rfl, q _ _ (I2.hok.fresh (Nat.le_refl _)) (isKeys_of pr)⟩
end
end L2

/-! MR8 -/
/-! list(d.keys()) of a dict with whole numbers as keys. -/
namespace L2
open PySem PySem.Spec PyProof.Rows PySem.W
section
variable {X : Cx}
def tListKeysK (te : TE) : TE := fun σ H Q => te σ H fun x H1 => ∃ (d : Addr) (kvs : List (Key × V)) (ns : List Int), x = .ref d ∧ H1 d = some (.dK kvs) ∧ kvs.map (·.1) = ns.map Sum.inl ∧ ∀ (p : Addr), H1 p = none → Q (.ref p) (upd H1 p (.lst (ns.map V.int)))
theorem pe_listKeysK {e : Expr} {te : TE} {p pos apos cpos : Pos} (hc : X.calm = true) (he : PE X e te) (hg : Gl X "list") (hm : X.mg "list" = none) (hbase : attributeBase e "keys" X.env (eval e X.env) = eval e X.env := by rfl) (hline : (apos.endLine == cpos.line) = true := by rfl)
    (hs : starEach [Expr.Call (.Attribute e "keys" apos) [] [] cpos] X.env = (false, eval (.Call (.Attribute e "keys" apos) [] [] cpos) X.env) :: starEach [] X.env := by rfl) :
    PE X (.Call (.Name "list" p) [.Call (.Attribute e "keys" apos) [] [] cpos] [] pos) (tListKeysK te) := by
  refine ⟨fun pins s σ H Q I hq => ?_⟩
  refine wpAny_Call_Name_kw (ld_blt I hg hm boot_list ?_)
  refine PyProof.Rows.callWith_type1 ?_ hs rfl
  rw [hs]
  show wpAny _ _ (spliced ((false, eval (.Call (.Attribute e "keys" apos) [] [] cpos) X.env) :: backTo pos (starEach [] X.env))) _ _ s
  refine Calls.spliced_cons ?_
  refine wpAny_Call_method (T := "dict") (id := "dict.keys") hbase rfl hline F.plainAttrs_dict F.slot_dict_keys F.type_dict_keys (thn (he.run pins s σ H _ I hq) fun u s1 ⟨x, H1, I1, rx, d, kvs, ns, ex, hd, en, q⟩ => ?_)
  subst ex
  obtain rfl : u = Value.ref d := rx
  obtain ⟨z, lo, ws, rk, hd'⟩ := dk_of I1.hok hd
  obtain ⟨es, ep, raw, hsz, hent⟩ := hd'.raw
  obtain ⟨o, ho, hx, hdt⟩ := id raw
  have l2 : kvs.length = ws.length := Paired.length rk
  have hns : ns.length = kvs.length := by
    have e := congrArg List.length en
    rw [List.length_map, List.length_map] at e
    exact e.symm
  have I2 : Inv X pins σ H1 { s1 with heap := s1.heap.push { cls := .type "dict_keys", data := .fields #[.ref d] } } := I1.kept (t' := s1.toks) fun b ob q => Heap.get?_push_of_some _ q
  refine ⟨raw.typeIs, fun b eb => ⟨o, by cases eb; exact ho, hx.2.1⟩, ?_⟩
  show wpAny _ _ (callWith cpos (.builtin "dict.keys") [.ref d] [] []) _ X.xe s1
  refine method_meetsIn F.slot_dict_keys F.entry_dict_keys rfl (PySem.evalArgs_none ⟨rfl, raw.typeIs, F.args_dict_keys_1 _, _, meets_dict_keys_raw d lo, ⟨es, ep, raw⟩, ?_⟩)
  refine Calls.spliced_nil ?_
  refine kdl_call (lk_src hx hdt) (I1.ok.hd hc) ⟨⟨_, Heap.get?_push_size _ rfl, rfl, rfl⟩, Heap.get?_push_of_some _ ho⟩ (by omega) fun h' tk acc' c' kp e it => ?_
  have el : acc'.toList.length = kvs.length := by rw [Array.length_toList, it.1, hsz, l2]
  have rv : Vals (ns.map V.int) acc'.toList := by
    refine vals_of_at (by rw [List.length_map, el, hns]) fun j x w h1 h2 => ?_
    obtain ⟨ent, hen, hv⟩ := it.2 j w (by rw [← Array.getElem?_toList]; exact h2)
    obtain ⟨hj, ej⟩ := Array.getElem?_eq_some_iff.mp hen
    have hjw : j < ws.length := by omega
    have hwj : ws[j]? = some (ws[j].1, ws[j].2) := by simp [hjw]
    obtain ⟨hi, _⟩ := hent j hj ws[j].1 ws[j].2 hwj
    have e1 : (kvs.map (·.1))[j]? = some ws[j].1 := by rw [KV.keys rk, List.getElem?_map, hwj] <;> rfl
    rw [en, List.getElem?_map] at e1
    rw [List.getElem?_map] at h1
    cases e2 : ns[j]? with
    | none =>
      rw [e2] at h1
      cases h1
    | some n =>
      rw [e2] at h1 e1
      cases h1
      have e3 : ws[j].1 = Sum.inl n := (Option.some.inj e1).symm
      rw [ej] at hi
      have e4 : RelV (kV ws[j].1) ent.key := keyIs_rel hi
      rw [e3] at e4
      rw [hv]
      exact e4
  have hz : (ns.map V.int).length ≤ sizeLine := by
    rw [List.length_map]
    omega
  refine ⟨.ref _, _, I2.laid (t' := tk) (o := .lst (ns.map V.int)) kp (Nat.le_refl _) ⟨hz, acc'.toList, c', rv, by rw [Array.toArray_toList]; exact e⟩, rfl, q _ (I2.hok.fresh (Nat.le_refl _))⟩
end
end L2

/-! C1 -/
namespace Mw
open PySem L2
def spJ (C : Addr) (g : PyData → Bool) : Sp := fun vs H Q _ => ∃ p d x, vs = [x] ∧ Tp C p H d x ∧ Q (.bl (g d)) H
def spJ2 (C : Addr) (g : Int → PyData → Bool) : Sp := fun vs H Q _ => ∃ p i d x, vs = [.int i, x] ∧ Tp C p H d x ∧ Q (.bl (g i d)) H
def spPass : Sp := fun vs H Q _ => ∃ a, vs = [.ref a] ∧ Q .non H
theorem rd_ite {b : Bool} {A B : Prop} (h1 : b = true → A) (h0 : b = false → B) : if b = true then A else B := by
  cases b
  · rw [if_neg Bool.false_ne_true]
    exact h0 rfl
  · rw [if_pos rfl]
    exact h1 rfl
def isNum : PyData → Bool | .int i => decide (0 ≤ i) | _ => false
def isNb (l : Int) : PyData → Bool | .int i => decide (0 ≤ i) && decide (i < l) | _ => false
section
variable {K : PySem.W.Frag}
theorem rd_ixT {H : Hp} {Q : VK} {a : Addr} {xs : List V} {i : Int} {v : V} (h : H a = some (.tup xs)) (e : atI xs i = some v) (q : Q v H) : rIxT K (.ref a) (.int i) H Q := ⟨a, xs, i, v, rfl, rfl, SqT.of h, e, q⟩
theorem rd_ixL {H : Hp} {Q : VK} {a : Addr} {xs : List V} {i : Int} {v : V} (h : H a = some (.lst xs)) (e : atI xs i = some v) (q : Q v H) : rIxL K (.ref a) (.int i) H Q := ⟨a, xs, i, v, rfl, rfl, SqL.of h, e, q⟩
end
theorem take_snoc {α : Type} {L : List α} {i : Nat} {q : α} (h : L[i]? = some q) : L.take (i + 1) = L.take i ++ [q] := by
  rw [List.take_add_one, h]
  rfl
theorem rd_gset {Q : L2.St → Hp → Prop} {σ σ' : L2.St} {i : Nat} {v : V} {H : Hp} (h : List.set σ i (some v) = σ') (q : Q σ' H) : L2.gName i v σ H Q := by
  subst h
  exact q
theorem rd_dput {td ty tv : TE} {D : Ends} {σ : L2.St} {H : Hp} (h : tv σ H fun v H1 => td σ H1 fun x H2 => ty σ H2 fun y H3 => ∃ a H4, x = V.ref a ∧ DPut H3 a y v H4 ∧ D.nx σ H4) : sDPut td ty tv D σ H := h
theorem rd_dget {td ty : TE} {σ : L2.St} {H : Hp} {Q : VK} (h : td σ H fun x H1 => ty σ H1 fun y H2 => ∃ a v, x = V.ref a ∧ DGet H2 a y (some v) ∧ Q v H2) : tDGet td ty σ H Q := h
theorem rd_chain {r r' : R2} {ta tb tc : TE} {σ : L2.St} {H : Hp} {Q : VK} (h : ta σ H fun x H1 => tb σ H1 fun y H2 => r x y H2 fun z H3 => ∃ k, z = V.bl k ∧ if k = true then tc σ H3 fun w' H4 => r' y w' H4 Q else Q (V.bl false) H3) : tChain r r' ta tb tc σ H Q := h
theorem rd_gsub {to ti : TE} {t : TSet} {v : V} {σ : L2.St} {H : Hp} {Q : L2.St → Hp → Prop} (h : to σ H fun o H1 => ti σ H1 fun i H2 => t o i v H2 fun H3 => Q σ H3) : gSub to ti t v σ H Q := h
theorem rd_setL {a : Addr} {xs : List V} {i : Int} {j : Nat} {v : V} {H : Hp} {Q : Hp → Prop} (h : H a = some (.lst xs)) (e : ixN xs.length i = some j) (q : Q (upd H a (.lst (xs.set j v)))) : rSetL (.ref a) (.int i) v H Q := ⟨a, xs, i, j, rfl, rfl, h, e, q⟩
def HandAt (p l : Addr) (H : Hp) : Prop := ∃ (ns : List Int) (i : Nat) (c z t : Int), H p = some (.lst [.ref l, .int (i : Nat), .int c, .int z, .int t]) ∧ l ≠ p ∧ H l = some (.lst (ns.map V.int)) ∧ 0 ≤ c ∧ 0 ≤ z ∧ z < 2147483647
theorem HandAt.keep {p l : Addr} {H H' : Hp} (s : Same H H') (h : HandAt p l H) : HandAt p l H' := by
  obtain ⟨ns, i, c, z, t, h1, h2, h3, r⟩ := h
  exact ⟨ns, i, c, z, t, s _ _ h1, h2, s _ _ h3, r⟩
theorem HandAt.there {p l : Addr} {H : Hp} (h : HandAt p l H) : ∃ u, H p = some u := by
  obtain ⟨ns, i, c, z, t, h1, _⟩ := h
  exact ⟨_, h1⟩
theorem HandAt.there2 {p l : Addr} {H : Hp} (h : HandAt p l H) : ∃ u, H l = some u := by
  obtain ⟨ns, i, c, z, t, h1, h2, h3, _⟩ := h
  exact ⟨_, h3⟩
def spHand (K : PySem.W.Frag) : Sp := fun vs H Q _ => ∃ (a : Addr) (ns : List Int), vs = [.ref a] ∧ SqL K H a (ns.map V.int) ∧ ∀ p l H', H p = none → H l = none → HandAt p l H' → Same H H' → Q (.ref p) H'
def spTake : Sp := fun vs H Q _ => ∃ (p l : Addr) (m : Int), vs = [.ref p, .int m] ∧ 1 ≤ m ∧ m < 1073741824 ∧ HandAt p l H ∧ ∀ r H', 0 ≤ r → r < m → HandAt p l H' → Keep p H H' → Q (.int r) H'
theorem HandAt.ne {p l0 q : Addr} {H : Hp} (h : HandAt p l0 H) (n : H q = none) : q ≠ p := by
  obtain ⟨u, hu⟩ := h.there
  exact (ne_of_none hu n).symm
section
variable {σ : L2.St} {H : Hp} {Q : VK} {K : PySem.W.Frag}
theorem rd_bm {n : String} {r : V → List V → Hp → VK → Prop} {to : TE} {t : TA} (h : to σ H fun x H1 => tyV K n x H1 ∧ t σ H1 fun xs H2 => r x xs H2 Q) : tBM K n r to t σ H Q := h
theorem rd_append {l : Addr} {xs : List V} {y : V} (h : H l = some (.lst xs)) (hl : xs.length < sizeLine) (q : Q .non (upd H l (.lst (xs ++ [y])))) : rAppend (.ref l) [y] H Q := ⟨l, xs, y, rfl, rfl, h, hl, q⟩
end
theorem rd_rng1 {ta : TA} {σ : L2.St} {H : Hp} {R : It → Hp → Prop} (h : ta σ H fun vs H1 => ∃ j : Int, vs = [.int j] ∧ -(2 ^ 62) ≤ j ∧ j < 2 ^ 62 ∧ R (Itr 0 j.toNat) H1) : iRng1 ta σ H R := h
theorem rd_ilist {K : PySem.W.Frag} {te : TE} {σ : L2.St} {H : Hp} {R : It → Hp → Prop} (h : te σ H fun x H1 => ∃ a, x = .ref a ∧ (∃ xs, SqL K H1 a xs) ∧ R (Itl K a) H1) : iList K te σ H R := h
theorem HandAt.put {p l0 l : Addr} {H : Hp} {o : HO} (h : HandAt p l0 H) (n1 : l ≠ p) (n2 : l ≠ l0) : HandAt p l0 (upd H l o) := by
  obtain ⟨ns, i, c, z, t, h1, h2, h3, r⟩ := h
  exact ⟨ns, i, c, z, t, (upd_ne n1.symm).trans h1, h2, (upd_ne n2.symm).trans h3, r⟩
theorem rd_make {C : Addr} {sp : Sp} {dvs : List V} {E : XK} {t : TA} {σ : L2.St} {H : Hp} {Q : VK} (h : t σ H fun vs H1 => ∀ x dx, H1 x = none → H1 dx = none → dx ≠ x → sp (.ref x :: (vs ++ dvs)) (upd (upd H1 dx (.own x)) x (.ins C dx [])) (fun v H2 => v = .non ∧ Q (.ref x) H2) E) : tMake C sp dvs E t σ H Q := h
theorem rd_no {b : Bool} {A B : Prop} (e : b = false) (h : B) : if b = true then A else B := by
  rw [e]
  exact iteF h
theorem rd_yes {b : Bool} {A B : Prop} (e : b = true) (h : A) : if b = true then A else B := by
  rw [e]
  exact iteT h
theorem mapint_get {U : List Int} {i : Nat} {y : V} (h : (U.map V.int)[i]? = some y) : ∃ u, U[i]? = some u ∧ y = V.int u := by
  rw [List.getElem?_map] at h
  cases e : U[i]? with
  | none =>
    rw [e] at h
    cases h
  | some u =>
    rw [e] at h
    exact ⟨u, rfl, (Option.some.inj h).symm⟩
theorem zip_snoc {α β : Type} {L : List α} {U : List β} {i : Nat} {q : α} {u : β} (h1 : L[i]? = some q) (h2 : U[i]? = some u) : (L.zip U).take (i + 1) = (L.zip U).take i ++ [(q, u)] := by
  have h : (L.zip U)[i]? = some (q, u) := by rw [List.getElem?_zip_eq_some]; exact ⟨h1, h2⟩
  exact take_snoc h
section
variable {K : PySem.W.Frag}
theorem rd_izip {ta : TA} {σ : L2.St} {H : Hp} {R : It → Hp → Prop} (h : ta σ H fun vs H1 => ∃ a b xs ys, vs = [.ref a, .ref b] ∧ ((SqL K H1 a xs ∧ SqL K H1 b ys ∧ R (Itz K a b) H1) ∨ (SqT K H1 a xs ∧ SqT K H1 b ys ∧ R (RZ.ItzT K a b) H1))) : RZ.iZipA K ta σ H R := h
end
theorem rd_break {D : Ends} {σ : L2.St} {H : Hp} (h : D.bk σ H) : tBreak D σ H := h
theorem rd_tyes {σ : L2.St} {H : Hp} {Q : Bool → Hp → Prop} (q : Q true H) : tYes σ H Q := q
theorem rd_disp1 {tk tv : TE} {σ : L2.St} {H : Hp} {Q : VK} (h : ∀ p, H p = none → tk σ (upd H p (.dK [])) fun x H1 => tv σ H1 fun y H2 => H2 p = some (.dK []) ∧ ∃ kvs : List (Key × V), [(x, y)] = kvs.map (fun kv => (kV kv.1, kv.2)) ∧ kvs.length ≤ 15 ∧ Q (.ref p) (upd H2 p (.dK (mergeK [] kvs)))) : tDisp [(tk, tv)] σ H Q := h
theorem rd_dnotin {td ty : TE} {σ : L2.St} {H : Hp} {Q : VK} (h : ty σ H fun y H1 => td σ H1 fun x H2 => ∃ a o, x = .ref a ∧ DGet H2 a y o ∧ Q (.bl (!o.isSome)) H2) : tDNotIn ty td σ H Q := h
theorem rd_din {td ty : TE} {σ : L2.St} {H : Hp} {Q : VK} (h : ty σ H fun y H1 => td σ H1 fun x H2 => ∃ a o, x = .ref a ∧ DGet H2 a y o ∧ Q (.bl o.isSome) H2) : tDIn ty td σ H Q := h
theorem rd_aug {i : Nat} {te : TE} {ti : TIp} {D : Ends} {σ : L2.St} {H : Hp} {x : V} (h : σ[i]? = some (some x)) (q : te σ H fun y H1 => ti x y H1 fun z H2 => D.nx (σ.set i (some z)) H2) : tAug i te ti D σ H := ⟨x, h, q⟩
theorem rd_daug {td ty tv : TE} {rd : V → V → Hp → VK → Prop} {D : Ends} {σ : L2.St} {H : Hp} (h : td σ H fun x H1 => ty σ H1 fun y H2 => ∃ a v, x = .ref a ∧ DGet H2 a y (some v) ∧ tv σ H2 fun y2 H3 => rd v y2 H3 fun z H4 => ∃ H5, DPut H4 a y z H5 ∧ D.nx σ H5) : sDAug td ty tv rd D σ H := h
theorem rd_listKeysK {te : TE} {σ : L2.St} {H : Hp} {Q : VK} (h : te σ H fun x H1 => ∃ (d : Addr) (kvs : List (Key × V)) (ns : List Int), x = .ref d ∧ H1 d = some (.dK kvs) ∧ kvs.map (·.1) = ns.map Sum.inl ∧ ∀ (p : Addr), H1 p = none → Q (.ref p) (upd H1 p (.lst (ns.map V.int)))) : tListKeysK te σ H Q := h
def rLenS (K : PySem.W.Frag) : List V → Hp → VK → Prop := fun xs H Q => ∃ p ys, xs = [V.ref p] ∧ (SqL K H p ys ∨ SqT K H p ys) ∧ Q (V.int (ys.length : Nat)) H
theorem tp_ints {C p : Addr} {H : Hp} : ∀ U : List Int, TpAll C p H (U.map PyData.int) (U.map V.int)
  | [] => tpAll_nil
  | u :: U => tpAll_cons tp_int (tp_ints U)
section
variable {C p : Addr} {H H' : Hp} {K : PySem.W.Frag} {Q : VK}
theorem rd_catT {v u : V} {ds es : List PyData} (hp : ∃ o, H p = some o) (h1 : Tp C p H (.tuple ds) v) (h2 : Tp C p H (.tuple es) u) (hl : ds.length + es.length ≤ 1000) (q : ∀ r H', Same H H' → Tp C p H' (.tuple (ds ++ es)) r → Q r H') : rCatA K v u H Q := by
  obtain ⟨a, xs, rfl, a1, a2⟩ := tp_tup' h1
  obtain ⟨b, ys, rfl, b1, b2⟩ := tp_tup' h2
  obtain ⟨o, ho⟩ := hp
  have l1 := a2.len
  have l2 := b2.len
  refine ⟨a, b, xs, ys, rfl, rfl, SqT.of a1.2, SqT.of b1.2, Nat.le_trans (show xs.length + ys.length ≤ 1000 by omega) (by decide), fun e => ?_, fun _ e => ?_, fun _ _ c hc => ?_⟩
  · have e0 : ds = [] := List.eq_nil_of_length_eq_zero (by rw [l1, e]; rfl)
    rw [e0] at q
    exact q _ _ (Same.refl H) h2
  · have e0 : es = [] := List.eq_nil_of_length_eq_zero (by rw [l2, e]; rfl)
    rw [e0, List.append_nil] at q
    exact q _ _ (Same.refl H) h1
  · exact q _ _ (same_new hc) (tp_tup ⟨(ne_of_none ho hc).symm, upd_same⟩ (TpAll.keep (Keep.new hc) _ _ (a2.append b2)))
theorem rd_cutP {v : V} {ds : List PyData} {lo hi : Option Int} (hp : ∃ o, H p = some o) (h1 : Tp C p H (.tuple ds) v) (q : ∀ r es H', Same H H' → es.length ≤ ds.length → (∀ e ∈ es, e ∈ ds) → Tp C p H' (.tuple es) r → Q r H') : rSlA K v lo hi H Q := by
  obtain ⟨a, xs, rfl, a1, a2⟩ := tp_tup' (id h1)
  obtain ⟨o, ho⟩ := hp
  refine ⟨a, xs, rfl, SqT.of a1.2, fun _ => q _ ds _ (Same.refl H) (Nat.le_refl _) (fun _ h => h) h1, fun _ c hc => ?_⟩
  refine q _ ((ds.drop (HT.sIx xs.length 0 lo)).take (HT.sIx xs.length xs.length hi - HT.sIx xs.length 0 lo)) _ (same_new hc) ?_ (fun e h => List.mem_of_mem_drop (List.mem_of_mem_take h)) (tp_tup ⟨(ne_of_none ho hc).symm, upd_same⟩ (TpAll.keep (Keep.new hc) _ _ ((a2.drop _).take _)))
  rw [List.length_take, List.length_drop]
  omega
end
theorem tp_new {C p l0 a : Addr} {H : Hp} {ds : List PyData} {xs : List V} (hh : HandAt p l0 H) (n : H a = none) (r : TpAll C p H ds xs) : Tp C p (upd H a (.tup xs)) (.tuple ds) (.ref a) := tp_tup ⟨hh.ne n, upd_same⟩ (TpAll.keep (Keep.same (same_new n)) _ _ r)
theorem tp_newL {C p l0 a : Addr} {H : Hp} {ds : List PyData} {xs : List V} (hh : HandAt p l0 H) (n : H a = none) (r : TpAll C p H ds xs) : Tp C p (upd H a (.lst xs)) (.list ds) (.ref a) := tp_lst ⟨hh.ne n, upd_same⟩ (TpAll.keep (Keep.same (same_new n)) _ _ r)
theorem ps {C p : Addr} {H H' : Hp} {d : PyData} {v : V} (h : Tp C p H d v) (s : Same H H') : Tp C p H' d v := Tp.keep (Keep.same s) _ _ h
theorem pas {C p : Addr} {H H' : Hp} {ds : List PyData} {vs : List V} (h : TpAll C p H ds vs) (s : Same H H') : TpAll C p H' ds vs := TpAll.keep (Keep.same s) _ _ h
theorem psn {C p : Addr} {H H' : Hp} {ds : List PyData} {vs : List V} {d : PyData} {v : V} (h : TpAll C p H ds vs) (s : Same H H') (t : Tp C p H' d v) : TpAll C p H' (ds ++ [d]) (vs ++ [v]) := (pas h s).append (tpAll_cons t tpAll_nil)
theorem Keep.put2 {p l : Addr} {H H' : Hp} {o : HO} (k : Keep p H H') (n : H l = none) : Keep p H (upd H' l o) := fun b u nb e => (upd_ne (ne_of_none e n)).trans (k b u nb e)
theorem sorted_one : ∀ {l1 l2 : List Int}, l1.Perm l2 → l1.Pairwise (· ≤ ·) → l2.Pairwise (· ≤ ·) → l1 = l2
  | [], l2, h, _, _ => h.nil_eq
  | x :: l1, [], h, _, _ => absurd h.length_eq (by simp)
  | x :: l1, y :: l2, h, h1, h2 => by
    have hx := List.pairwise_cons.mp h1
    have hy := List.pairwise_cons.mp h2
    have e : x = y := by
      have a1 : x ∈ y :: l2 := h.mem_iff.mp (by simp)
      have a2 : y ∈ x :: l1 := h.mem_iff.mpr (by simp)
      rcases List.mem_cons.mp a1 with z | z
      · exact z
      · rcases List.mem_cons.mp a2 with z2 | z2
        · exact z2.symm
        · have := hx.1 y z2
          have := hy.1 x z
          omega
    subst e
    rw [sorted_one ((List.perm_cons x).mp h) hx.2 hy.2]
theorem perm_mem : ∀ {l1 l2 : List Int}, l1.Nodup → l2.Nodup → (∀ v, v ∈ l1 ↔ v ∈ l2) → l1.Perm l2
  | [], [], _, _, _ => .nil
  | [], y :: l2, _, _, h => absurd ((h y).mpr (by simp)) (by simp)
  | x :: l1, l2, h1, h2, h => by
    have hx : x ∈ l2 := (h x).mp (by simp)
    obtain ⟨h3, h4⟩ := List.nodup_cons.mp h1
    refine (List.Perm.cons x (perm_mem h4 (h2.erase x) fun v => ?_)).trans (List.perm_cons_erase hx).symm
    rw [h2.mem_erase_iff]
    constructor
    · intro hv
      exact ⟨fun e => h3 (e ▸ hv), (h v).mp (by simp [hv])⟩
    · rintro ⟨n, hv⟩
      rcases List.mem_cons.mp ((h v).mpr hv) with e | e
      · exact absurd e n
      · exact e
def spPick : Sp := fun vs H Q _ => ∃ (p l0 a : Addr) (xs : List V), vs = [.ref p, .ref a] ∧ At p H a (.lst xs) ∧ 1 ≤ xs.length ∧ xs.length ≤ 1000 ∧ HandAt p l0 H ∧ ∀ (j : Nat) x H', xs[j]? = some x → HandAt p l0 H' → Keep p H H' → Q x H'
def isTupN (n : Int) : PyData → Bool
  | .tuple ds => decide ((ds.length : Int) = n)
  | _ => false
def spTupOf (C : Addr) : Sp := fun vs H Q _ => ∃ p n d x, vs = [.int n, x] ∧ Tp C p H d x ∧ Q (.bl (isTupN n d)) H
section
variable {P : Program} {w : World} {K : PySem.W.Frag} {mg : Str → Option Value} {base : Heap}
local macro_rules | `(tactic| walk_at "rd") => `(tactic| (repeat (first
  | ((with_reducible refine' rd_var ?h0 ?_); (case h0 => rfl))
  | with_reducible refine rd_c ?_
  | with_reducible refine rd_op ?_
  | with_reducible refine rd_nil ?_
  | with_reducible refine rd_cons ?_
  | with_reducible refine rd_tup ?_
  | with_reducible refine rd_lst ?_
  | with_reducible refine rd_ifs ?_
  | with_reducible refine rd_seq ?_
  | with_reducible refine rd_next ?_
  | with_reducible refine rd_ret ?_
  | with_reducible refine rd_asg ?_
  | ((with_reducible refine' rd_gset ?hs ?_); (case hs => ((simp only [L2.start, List.map_cons, List.map_nil, List.length_cons, List.length_nil, List.cons_append, List.nil_append, List.set_cons_zero, List.set_cons_succ, Nat.reduceAdd, Nat.reduceSub, Nat.zero_add, List.reduceReplicate]); rfl)))
  | with_reducible refine rd_drop ?_
  | with_reducible refine rd_test ?_
  | with_reducible refine rd_B ?_
  | with_reducible refine rd_bl ?_
  | with_reducible refine rd_blP ?_
  | with_reducible refine rd_andV ?_
  | with_reducible refine rd_orV ?_
  | with_reducible refine rd_notV ?_
  | with_reducible refine rd_and ?_
  | with_reducible refine rd_or ?_
  | with_reducible refine rd_not ?_
  | with_reducible refine rd_chain ?_
  | with_reducible refine rd_dput ?_
  | with_reducible refine rd_dget ?_
  | with_reducible refine rd_cb ?_
  | with_reducible refine rd_call ?_
  | with_reducible refine rd_un ?_
  | with_reducible refine rd_sl ?_
  | with_reducible refine rd_nopart ?_
  | with_reducible refine rd_part ?_
  | with_reducible refine rd_intP ?_
  | with_reducible refine rd_rU ?_
  | with_reducible refine rd_fld ?_
  | with_reducible refine rd_eqI ?_
  | with_reducible refine rd_neI ?_
  | with_reducible refine rd_mko ?_
  | with_reducible refine rd_bm ?_
  | with_reducible refine rd_gsub ?_
  | with_reducible refine rd_i0 ?_)))
theorem ok_is_int (T : Tx K mg) (B : Bk K mg T) : FnOk P w K mg base CX0 1 B.is_int.f B.is_int.fd ["thing"] (spJ T.c_Outgoing isInt) := by
  refine B.is_int.F.ok sc_is_int (fun vs H Q E h => ?_) (fun cdv A outer s H vs Q E hr h => ?_)
  · obtain ⟨p, d, x, rfl, _⟩ := h
    rfl
  · obtain ⟨p, d, x, rfl, hd, q⟩ := h
    refine ⟨_, (pss_one (ps_ret (pe_and (pe_callB call_isi (by rfl) T.b_isinstance (by decide +kernel) (pa_cons (pv 0) (pa_cons (pe_bltn (v := .ty "int") (by rfl) T.b_int (by decide +kernel) rfl) pa_nil))) (pe_one (pe_not (pe_callB call_isi (by rfl) T.b_isinstance (by decide +kernel) (pa_cons (pv 0) (pa_cons (pe_bltn (v := .ty "bool") (by rfl) T.b_bool (by decide +kernel) rfl) pa_nil)))))))), ?_⟩
    walk_at "rd"
    refine tp_isI T.W_Outgoing hd ?_
    walk_at "rd"
    refine rd_ite (fun h1 => ?_) (fun h0 => ?_)
    · walk_at "rd"
      refine tp_isB T.W_Outgoing hd ?_
      walk_at "rd"
      have e : isInt d = !isB d := by cases d <;> simp_all [isI, isB, isInt]
      rw [e] at q
      exact q
    · have e : isInt d = false := by cases d <;> simp_all [isI, isB, isInt]
      rw [e] at q
      exact q
theorem ok_is_number (T : Tx K mg) (B : Bk K mg T) : FnOk P w K mg base CX0 2 B.is_number.f B.is_number.fd ["thing"] (spJ T.c_Outgoing isNum) := by
  have G_is_int := ok_is_int (P := P) (w := w) (base := base) T B
  refine B.is_number.F.ok sc_is_number (fun vs H Q E h => ?_) (fun cdv A outer s H vs Q E hr h => ?_)
  · obtain ⟨p, d, x, rfl, _⟩ := h
    rfl
  · obtain ⟨p, d, x, rfl, hd, q⟩ := h
    refine ⟨_, (pss_one (ps_ret (pe_and (pe_call G_is_int (hr.mono (by decide)) rfl B.is_int.m B.is_int.F.kp B.is_int.b .nil pass0 (pa_cons (pv 0) pa_nil)) (pe_one (pe_cmpR op_ge (pv 0) pe_int (nomark _)))))), ?_⟩
    walk_at "rd"
    refine ⟨p, d, x, rfl, hd, ?_⟩
    walk_at "rd"
    refine rd_ite (fun h1 => ?_) (fun h0 => ?_)
    · cases d with
      | int i =>
        cases tp_int' hd
        walk_at "rd"
        exact q
      | _ => cases h1
    · have e : isNum d = false := by cases d <;> simp_all [isNum, isInt]
      rw [e] at q
      exact q
theorem ok_is_number_below (T : Tx K mg) (B : Bk K mg T) : FnOk P w K mg base CX0 3 B.is_number_below.f B.is_number_below.fd ["limit", "thing"] (spJ2 T.c_Outgoing isNb) := by
  have G_is_number := ok_is_number (P := P) (w := w) (base := base) T B
  refine B.is_number_below.F.ok sc_is_number_below (fun vs H Q E h => ?_) (fun cdv A outer s H vs Q E hr h => ?_)
  · obtain ⟨p, i, d, x, rfl, _⟩ := h
    rfl
  · obtain ⟨p, i, d, x, rfl, hd, q⟩ := h
    refine ⟨_, (pss_one (ps_ret (pe_and (pe_call G_is_number (hr.mono (by decide)) rfl B.is_number.m B.is_number.F.kp B.is_number.b .nil pass0 (pa_cons (pv 1) pa_nil)) (pe_one (pe_cmpR op_lt (pv 1) (pv 0) (nomark _)))))), ?_⟩
    walk_at "rd"
    refine ⟨p, d, x, rfl, hd, ?_⟩
    walk_at "rd"
    refine rd_ite (fun h1 => ?_) (fun h0 => ?_)
    · cases d with
      | int j =>
        cases tp_int' hd
        walk_at "rd"
        have e : isNb i (.int j) = decide (j < i) := by simp_all [isNb, isNum]
        rw [e] at q
        exact q
      | _ => cases h1
    · have e : isNb i d = false := by
        cases d <;> simp_all [isNum, isNb]
        omega
      rw [e] at q
      exact q
theorem ok_is_link_number (T : Tx K mg) (B : Bk K mg T) : FnOk P w K mg base CX0 4 B.is_link_number.f B.is_link_number.fd ["thing"] (spJ T.c_Outgoing (isNb 4294967296)) := by
  have G_is_number_below := ok_is_number_below (P := P) (w := w) (base := base) T B
  refine B.is_link_number.F.ok sc_is_link_number (fun vs H Q E h => ?_) (fun cdv A outer s H vs Q E hr h => ?_)
  · obtain ⟨p, d, x, rfl, _⟩ := h
    rfl
  · obtain ⟨p, d, x, rfl, hd, q⟩ := h
    refine ⟨_, (pss_one (ps_ret (pe_call G_is_number_below (hr.mono (by decide)) rfl B.is_number_below.m B.is_number_below.F.kp B.is_number_below.b .nil pass0 (pa_cons (pe_glob (v := .int 4294967296) (by rfl) T.g_NUMBER_LIMIT ⟨_, rfl⟩) (pa_cons (pv 0) pa_nil))))), ?_⟩
    walk_at "rd"
    exact ⟨p, _, d, x, rfl, hd, q⟩
theorem ok_is_tuple_of (T : Tx K mg) (B : Bk K mg T) : FnOk P w K mg base CX0 1 B.is_tuple_of.f B.is_tuple_of.fd ["many", "thing"] (spTupOf T.c_Outgoing) := by
  refine B.is_tuple_of.F.ok sc_is_tuple_of (fun vs H Q E h => ?_) (fun cdv A outer s H vs Q E hr h => ?_)
  · obtain ⟨p, n, d, x, rfl, _⟩ := h
    rfl
  · obtain ⟨p, n, d, x, rfl, hd, q⟩ := h
    refine ⟨_, (pss_one (ps_ret (pe_and (pe_callB call_isi (by rfl) T.b_isinstance (by decide +kernel) (pa_cons (pv 1) (pa_cons (pe_bltn (v := .ty "tuple") (by rfl) T.b_tuple (by decide +kernel) rfl) pa_nil))) (pe_one (pe_cmpR op_eq (pe_callB call_len_seq (by rfl) T.b_len (by decide +kernel) (pa_cons (pv 1) pa_nil)) (pv 0) (nomark _)))))), ?_⟩
    walk_at "rd"
    refine tp_isT T.W_Outgoing hd ?_
    walk_at "rd"
    cases d with
    | tuple ds =>
      obtain ⟨c, ys, rfl, hc, hy⟩ := tp_tup' hd
      have hl := hy.len
      refine rd_yes rfl ?_
      walk_at "rd"
      refine ⟨c, ys, rfl, .inr (SqT.of hc.2), ?_⟩
      walk_at "rd"
      replace q : Q (.bl (decide ((ds.length : Int) = n))) H := q
      rw [hl] at q
      exact q
    | _ =>
      refine rd_no rfl ?_
      exact q
theorem ok_number_init (T : Tx K mg) (B : Bk K mg T) : FnOk P w K mg base CX0 1 B.NoNumber_init.f B.NoNumber_init.fd ["self"] spPass := by
  refine B.NoNumber_init.F.ok sc_NoNumber_init (fun vs H Q E h => ?_) (fun cdv A outer s H vs Q E hr h => ?_)
  · obtain ⟨a, rfl, _⟩ := h
    rfl
  · obtain ⟨a, rfl, q⟩ := h
    refine ⟨_, (pss_one ps_pass), ?_⟩
    exact q
theorem ok_state_init (T : Tx K mg) (B : Bk K mg T) : FnOk P w K mg base CX0 1 B.NoState_init.f B.NoState_init.fd ["self"] spPass := by
  refine B.NoState_init.F.ok sc_NoState_init (fun vs H Q E h => ?_) (fun cdv A outer s H vs Q E hr h => ?_)
  · obtain ⟨a, rfl, _⟩ := h
    rfl
  · obtain ⟨a, rfl, q⟩ := h
    refine ⟨_, (pss_one ps_pass), ?_⟩
    exact q
end
end Mw

/-! C2 -/
namespace Mw
open PySem L2
abbrev oF (g : Int) (l : Addr) : List (Str × V) := [(("let_go" : Str), .int g), (("things" : Str), .ref l)]
theorem oF_go (g : Int) (l : Addr) : (oF g l).lookup ("let_go" : Str) = some (.int g) := rfl
theorem oF_th (g : Int) (l : Addr) : (oF g l).lookup ("things" : Str) = some (.ref l) := rfl
theorem oF_put (g g' : Int) (l : Addr) : putF ("let_go" : Str) (.int g') (oF g l) = oF g' l := rfl
theorem oF_set (g : Int) (l l' : Addr) : putF ("things" : Str) (.ref l') (oF g l) = oF g l' := rfl
/-- an end at which things are put, at a; its list at l -/
def OutAt (C : Addr) (H : Hp) (a l : Addr) (g : Int) (xs : List V) : Prop := (∃ dx, H a = some (.ins C dx (oF g l))) ∧ H l = some (.lst xs)
/-- all is as it was but what stands at some places -/
def Fr (M : List Addr) (H H' : Hp) : Prop := ∀ b o, b ∉ M → H b = some o → H' b = some o
theorem Fr.same {M : List Addr} {H H' : Hp} (s : Same H H') : Fr M H H' := fun b o _ e => s b o e
theorem Fr.trans {M : List Addr} {H H1 H2 : Hp} (x : Fr M H H1) (y : Fr M H1 H2) : Fr M H H2 := fun b o n e => y b o n (x b o n e)
theorem Fr.more {M N : List Addr} {H H' : Hp} (x : Fr M H H') (h : ∀ b ∈ M, b ∈ N) : Fr N H H' := fun b o n e => x b o (fun z => n (h b z)) e
theorem Fr.mut {a : Addr} {H : Hp} {o : HO} : Fr [a] H (upd H a o) := fun b u n e => (upd_ne (by simpa using n)).trans e
theorem Fr.one {a b : Addr} {H H' : Hp} {o : HO} (x : Fr [a] H H') (n : b ≠ a) (e : H b = some o) : H' b = some o := x b o (by simpa using n) e
theorem Fr.free {M : List Addr} {H H' : Hp} {q : Addr} (x : Fr M H H') (n : H' q = none) (hq : q ∉ M) : H q = none := by
  cases e : H q with
  | none => rfl
  | some o => rw [x q o hq e] at n; cases n
/-- tuples stay -/
def KT (H H' : Hp) : Prop := ∀ a xs, H a = some (.tup xs) → H' a = some (.tup xs)
theorem KT.refl {H : Hp} : KT H H := fun _ _ e => e
theorem KT.trans {H H1 H2 : Hp} (x : KT H H1) (y : KT H1 H2) : KT H H2 := fun a xs e => y a xs (x a xs e)
theorem KT.same {H H' : Hp} (s : Same H H') : KT H H' := fun a xs e => s _ _ e
theorem KT.fr {M : List Addr} {H H' : Hp} (x : Fr M H H') (h : ∀ b ∈ M, ∀ xs, H b ≠ some (.tup xs)) : KT H H' := fun a xs e => x a _ (fun z => h a z xs e) e
theorem OutAt.ne {C a l : Addr} {H : Hp} {g : Int} {xs : List V} (h : OutAt C H a l g xs) : a ≠ l := by
  obtain ⟨⟨dx, h1⟩, h2⟩ := h
  exact ne_of h1 h2 (by intro z; cases z)
theorem OutAt.same {C a l : Addr} {H H' : Hp} {g : Int} {xs : List V} (h : OutAt C H a l g xs) (s : Same H H') : OutAt C H' a l g xs := by
  obtain ⟨⟨dx, h1⟩, h2⟩ := h
  exact ⟨⟨dx, s _ _ h1⟩, s _ _ h2⟩
theorem OutAt.fr {C a l : Addr} {H H' : Hp} {g : Int} {xs : List V} {M : List Addr} (h : OutAt C H a l g xs) (s : Fr M H H') (n1 : a ∉ M) (n2 : l ∉ M) : OutAt C H' a l g xs := by
  obtain ⟨⟨dx, h1⟩, h2⟩ := h
  exact ⟨⟨dx, s _ _ n1 h1⟩, s _ _ n2 h2⟩
def spOutInit (C : Addr) : Sp := fun vs H Q _ => ∃ a dx, vs = [.ref a] ∧ H a = some (.ins C dx []) ∧ ∀ l H', Fr [a] H H' → H l = none → OutAt C H' a l 0 [] → Q .non H'
def spMany (C : Addr) : Sp := fun vs H Q _ => ∃ a l g xs, vs = [.ref a] ∧ OutAt C H a l g xs ∧ Q (.int (g + (xs.length : Nat))) H
def spPut (C : Addr) : Sp := fun vs H Q _ => ∃ a l g xs y, vs = [.ref a, y] ∧ OutAt C H a l g xs ∧ xs.length < 1000 ∧ ∀ H', Fr [l] H H' → OutAt C H' a l g (xs ++ [y]) → Q (.int (g + (xs.length : Nat))) H'
def spKnown (C : Addr) : Sp := fun vs H Q _ => ∃ a l g xs n, vs = [.ref a, .int n] ∧ OutAt C H a l g xs ∧ 0 ≤ n ∧ n ≤ g + (xs.length : Nat) ∧ xs.length ≤ 1000 ∧
  ∀ (l' : Addr) (u : Nat) (H' : Hp), (u : Int) = (if 0 < n - g then n - g else 0) → Fr [a] H H' → H l' = none → OutAt C H' a l' (g + u) (xs.drop u) → Q (.int u) H'
def spOState (C : Addr) : Sp := fun vs H Q _ => ∃ a l g xs, vs = [.ref a] ∧ OutAt C H a l g xs ∧ ∀ t u H', Same H H' → H t = none → H' t = some (.tup [.int g, .ref u]) → H' u = some (.tup xs) → H u = none → Q (.ref t) H'
def spOutg (C : Addr) : Sp := fun vs H Q _ => ∃ g s xs, vs = [.int g, .ref s] ∧ (H s = some (.lst xs) ∨ H s = some (.tup xs)) ∧ ∀ a l H', Same H H' → H a = none → H l = none → OutAt C H' a l g xs → Q (.ref a) H'
def spOCopy (C : Addr) : Sp := fun vs H Q _ => ∃ a l g xs, vs = [.ref a] ∧ OutAt C H a l g xs ∧ ∀ a2 l2 H', Same H H' → H a2 = none → H l2 = none → OutAt C H' a2 l2 g xs → Q (.ref a2) H'
theorem rd_meth {C : Addr} {m : Str} {sp : Sp} {dvs : List V} {E : XK} {ta : TE} {t : TA} {σ : L2.St} {H : Hp} {Q : VK} (h : ta σ H fun x H1 => ∃ a dx fs, x = .ref a ∧ H1 a = some (.ins C dx fs) ∧ fs.lookup m = none ∧ t σ H1 fun vs H2 => sp (x :: (vs ++ dvs)) H2 Q E) : tMeth C m sp dvs E ta t σ H Q := h
theorem rd_sfld {K : PySem.W.Frag} {ta tv : TE} {f : Str} {D : Ends} {σ : L2.St} {H : Hp} (h : tv σ H fun y H1 => ta σ H1 fun x H2 => ∃ a C dx fs, x = .ref a ∧ H2 a = some (.ins C dx fs) ∧ Cls K C ∧ NoAttr K C f ∧ fs.length < 1000 ∧ D.nx σ (upd H2 a (.ins C dx (putF f y fs)))) : sFld K ta tv f D σ H := h
theorem rd_sfldaug {K : PySem.W.Frag} {ta tv : TE} {rd : V → V → Hp → VK → Prop} {f : Str} {D : Ends} {σ : L2.St} {H : Hp} (h : ta σ H fun x H1 => ∃ a C dx fs v, x = .ref a ∧ H1 a = some (.ins C dx fs) ∧ Cls K C ∧ NoAttr K C f ∧ fs.lookup f = some v ∧
  tv σ H1 fun y H2 => rd v y H2 fun z H3 => ∃ dx' fs', H3 a = some (.ins C dx' fs') ∧ fs'.length < 1000 ∧ D.nx σ (upd H3 a (.ins C dx' (putF f z fs')))) : sFldAug K ta tv rd f D σ H := h
section
variable {P : Program} {w : World} {K : PySem.W.Frag} {mg : Str → Option Value} {base : Heap}
local macro_rules | `(tactic| walk_at "rd") => `(tactic| (repeat (first
  | ((with_reducible refine' rd_var ?h0 ?_); (case h0 => rfl))
  | with_reducible refine rd_c ?_
  | with_reducible refine rd_op ?_
  | with_reducible refine rd_nil ?_
  | with_reducible refine rd_cons ?_
  | with_reducible refine rd_tup ?_
  | with_reducible refine rd_lst ?_
  | with_reducible refine rd_ifs ?_
  | with_reducible refine rd_seq ?_
  | with_reducible refine rd_next ?_
  | with_reducible refine rd_ret ?_
  | with_reducible refine rd_asg ?_
  | ((with_reducible refine' rd_gset ?hs ?_); (case hs => ((simp only [L2.start, List.map_cons, List.map_nil, List.length_cons, List.length_nil, List.cons_append, List.nil_append, List.set_cons_zero, List.set_cons_succ, Nat.reduceAdd, Nat.reduceSub, Nat.zero_add, List.reduceReplicate]); rfl)))
  | with_reducible refine rd_drop ?_
  | with_reducible refine rd_test ?_
  | with_reducible refine rd_B ?_
  | with_reducible refine rd_bl ?_
  | with_reducible refine rd_blP ?_
  | with_reducible refine rd_andV ?_
  | with_reducible refine rd_orV ?_
  | with_reducible refine rd_notV ?_
  | with_reducible refine rd_and ?_
  | with_reducible refine rd_or ?_
  | with_reducible refine rd_not ?_
  | with_reducible refine rd_chain ?_
  | with_reducible refine rd_dput ?_
  | with_reducible refine rd_dget ?_
  | with_reducible refine rd_cb ?_
  | with_reducible refine rd_call ?_
  | with_reducible refine rd_un ?_
  | with_reducible refine rd_sl ?_
  | with_reducible refine rd_nopart ?_
  | with_reducible refine rd_part ?_
  | with_reducible refine rd_intP ?_
  | with_reducible refine rd_rU ?_
  | with_reducible refine rd_fld ?_
  | with_reducible refine rd_eqI ?_
  | with_reducible refine rd_neI ?_
  | with_reducible refine rd_mko ?_
  | with_reducible refine rd_bm ?_
  | with_reducible refine rd_gsub ?_
  | with_reducible refine rd_i0 ?_)))
theorem ok_out_init (T : Tx K mg) (B : Bk K mg T) : FnOk P w K mg base CX0 1 B.Outgoing_init.f B.Outgoing_init.fd ["self"] (spOutInit T.c_Outgoing) := by
  refine B.Outgoing_init.F.ok sc_Outgoing_init (fun vs H Q E h => ?_) (fun cdv A outer s H vs Q E hr h => ?_)
  · obtain ⟨a, dx, rfl, _⟩ := h
    rfl
  · obtain ⟨a, dx, rfl, ha, q⟩ := h
    refine ⟨_, (pss_cons (ps_fld (pv 0) pe_int rfl)
      (pss_one (ps_fld (pv 0) (pe_lst pa_nil) rfl))), ?_⟩
    walk_at "rd"
    refine rd_sfld ?_
    walk_at "rd"
    refine ⟨a, T.c_Outgoing, dx, _, rfl, ha, T.W_Outgoing.cl, T.na_let_go, (by show 0 < 1000; decide), ?_⟩
    dsimp only
    walk_at "rd"
    refine rd_sfld ?_
    walk_at "rd"
    refine rd_disp rfl fun l nl => ?_
    have nal : a ≠ l := ne_of_none upd_same nl
    walk_at "rd"
    refine ⟨a, T.c_Outgoing, dx, _, rfl, (upd_ne nal).trans upd_same, T.W_Outgoing.cl, T.na_things, (by show 1 < 1000; decide), ?_⟩
    have nl0 : H l = none := by
      rw [upd_ne nal.symm] at nl
      exact nl
    refine q l _ (fun b o n e => ?_) nl0 ⟨⟨dx, upd_same⟩, ?_⟩
    · have nb : b ≠ a := by simpa using n
      rw [upd_ne nb, upd_ne (ne_of_none e nl0), upd_ne nb]
      exact e
    · rw [upd_ne nal.symm]
      exact upd_same
theorem ok_many_put (T : Tx K mg) (B : Bk K mg T) : FnOk P w K mg base CX0 1 B.Outgoing_many_put.f B.Outgoing_many_put.fd ["self"] (spMany T.c_Outgoing) := by
  refine B.Outgoing_many_put.F.ok sc_Outgoing_many_put (fun vs H Q E h => ?_) (fun cdv A outer s H vs Q E hr h => ?_)
  · obtain ⟨a, l, g, xs, rfl, _⟩ := h
    rfl
  · obtain ⟨a, l, g, xs, rfl, ⟨⟨dx, ha⟩, hl⟩, q⟩ := h
    refine ⟨_, (pss_one (ps_ret (pe_op op_add (pe_fld (pv 0) rfl) (pe_callB call_len_seq (by rfl) T.b_len (by decide +kernel) (pa_cons (pe_fld (pv 0) rfl) pa_nil))))), ?_⟩
    walk_at "rd"
    refine ⟨a, T.c_Outgoing, dx, _, _, rfl, ha, T.W_Outgoing.cl, T.na_let_go, oF_go _ _, ?_⟩
    walk_at "rd"
    refine ⟨a, T.c_Outgoing, dx, _, _, rfl, ha, T.W_Outgoing.cl, T.na_things, oF_th _ _, ?_⟩
    walk_at "rd"
    refine ⟨l, xs, rfl, .inl (SqL.of hl), ?_⟩
    walk_at "rd"
    exact q
theorem ok_put (T : Tx K mg) (B : Bk K mg T) : FnOk P w K mg base CX0 2 B.Outgoing_put.f B.Outgoing_put.fd ["self", "thing"] (spPut T.c_Outgoing) := by
  have G_Outgoing_many_put := ok_many_put (P := P) (w := w) (base := base) T B
  refine B.Outgoing_put.F.ok sc_Outgoing_put (fun vs H Q E h => ?_) (fun cdv A outer s H vs Q E hr h => ?_)
  · obtain ⟨a, l, g, xs, y, rfl, _⟩ := h
    rfl
  · obtain ⟨a, l, g, xs, y, rfl, ho, hx, q⟩ := h
    obtain ⟨⟨dx, ha⟩, hl⟩ := id ho
    have nal := ho.ne
    refine ⟨_, (pss_cons (ps_expr (pe_bm PySem.F.plainAttrs_list PySem.F.slot_list_append PySem.F.type_list_append mt_append (pe_fld (pv 0) rfl) (pa_cons (pv 1) pa_nil)))
      (pss_one (ps_ret (pe_op op_sub (pe_meth0 (pv 0) T.W_Outgoing.cl ⟨B.Outgoing_many_put.a, B.Outgoing_many_put.i, B.Outgoing_many_put.F.kp⟩ G_Outgoing_many_put (hr.mono (by decide)) B.Outgoing_many_put.b .nil pass0) pe_int)))), ?_⟩
    walk_at "rd"
    refine ⟨a, T.c_Outgoing, dx, _, _, rfl, ha, T.W_Outgoing.cl, T.na_things, oF_th _ _, ?_⟩
    refine ⟨.inl ⟨rfl, _, SqL.of hl⟩, ?_⟩
    walk_at "rd"
    refine rd_append hl (small1000 (by omega)) ?_
    have ho2 : OutAt T.c_Outgoing (upd H l (.lst (xs ++ [y]))) a l g (xs ++ [y]) := ⟨⟨dx, (upd_ne nal).trans ha⟩, upd_same⟩
    walk_at "rd"
    refine rd_meth ?_
    walk_at "rd"
    refine ⟨a, dx, _, rfl, (upd_ne nal).trans ha, rfl, ?_⟩
    walk_at "rd"
    refine ⟨a, l, g, _, rfl, ho2, ?_⟩
    walk_at "rd"
    have e : g + ((xs ++ [y]).length : Nat) - 1 = g + (xs.length : Nat) := by
      rw [List.length_append]
      simp
      omega
    rw [e]
    exact q _ Fr.mut ho2
theorem ok_known (T : Tx K mg) (B : Bk K mg T) : FnOk P w K mg base (L2.CX P w) 3 B.Outgoing_known.f B.Outgoing_known.fd ["self", "number"] (spKnown T.c_Outgoing) := by
  have G_is_number := ok_is_number (P := P) (w := w) (base := base) T B
  have G_Outgoing_many_put := ok_many_put (P := P) (w := w) (base := base) T B
  have G_NoNumber_init := ok_number_init (P := P) (w := w) (base := base) T B
  refine B.Outgoing_known.F.okX sc_Outgoing_known (fun vs H Q E h => ?_) (fun cdv A outer s H vs Q E hr h => ?_)
  · obtain ⟨a, l, g, xs, n, rfl, _⟩ := h
    rfl
  · obtain ⟨a, l, g, xs, n, rfl, ho, h0, h1, hx, q⟩ := h
    obtain ⟨⟨dx, ha⟩, hl⟩ := id ho
    have nal := ho.ne
    refine ⟨_, (pss_cons (ps_if (PW.pt (pw_or (pt_not (pt_val (pe_call G_is_number (hr.mono (by decide)) rfl B.is_number.m B.is_number.F.kp B.is_number.b .nil pass0 (pa_cons (pv 1) pa_nil)))) (pw_or1 (pt_cmpR op_gt (pv 1) (pe_meth0 (pv 0) T.W_Outgoing.cl ⟨B.Outgoing_many_put.a, B.Outgoing_many_put.i, B.Outgoing_many_put.F.kp⟩ G_Outgoing_many_put (hr.mono (by decide)) B.Outgoing_many_put.b .nil pass0) (nomark _))))) (pss_one (ps_raise rfl (takes_of rfl rfl rfl rfl) (pmk_pass T.x_NoNumber B.NoNumber_init.a B.NoNumber_init.t G_NoNumber_init (hr.mono (by decide)) B.NoNumber_init.b pass0 rfl T.g_NoNumber))) pss_nil)
      (pss_cons (ps_set (i := 2) sc_Outgoing_known.nd rfl (Or.inl rfl) (pe_callB (call_max2 rfl) (by rfl) T.b_max (by decide +kernel) (pa_cons (pe_op op_sub (pv 1) (pe_fld (pv 0) rfl)) (pa_cons pe_int pa_nil))))
      (pss_cons (ps_fldaug (pv 0) (pv 2) in_add)
      (pss_cons (ps_fld (pv 0) (pe_slice sl_list (pe_fld (pv 0) rfl) (po_some (pv 2)) po_none) rfl)
      (pss_one (ps_ret (pv 2))))))), ?_⟩
    walk_at "rd"
    refine ⟨a, .int n, .int n, rfl, tp_int, ?_⟩
    walk_at "rd"
    refine rd_no (by simp [isNum, h0]) ?_
    walk_at "rd"
    refine rd_meth ?_
    walk_at "rd"
    refine ⟨a, dx, _, rfl, ha, rfl, ?_⟩
    walk_at "rd"
    refine ⟨a, l, g, _, rfl, ho, ?_⟩
    walk_at "rd"
    refine rd_no (decide_eq_false (by omega)) ?_
    walk_at "rd"
    refine ⟨a, T.c_Outgoing, dx, _, _, rfl, ha, T.W_Outgoing.cl, T.na_let_go, oF_go _ _, ?_⟩
    walk_at "rd"
    refine ⟨n - g, 0, rfl, ?_⟩
    obtain ⟨u, hu⟩ : ∃ u : Nat, (u : Int) = (if 0 > n - g then (0 : Int) else n - g) := ⟨(if 0 > n - g then (0 : Int) else n - g).toNat, by split <;> omega⟩
    have hu2 : (u : Int) = if 0 < n - g then n - g else 0 := by
      rw [hu]
      by_cases c : 0 < n - g
      · rw [if_pos c, if_neg (by omega)]
      · rw [if_neg c]
        split <;> omega
    rw [← hu]
    walk_at "rd"
    refine rd_sfldaug ?_
    walk_at "rd"
    refine ⟨a, T.c_Outgoing, dx, _, _, rfl, ha, T.W_Outgoing.cl, T.na_let_go, oF_go _ _, ?_⟩
    walk_at "rd"
    refine ⟨_, _, rfl, rfl, dx, _, ha, (by show 2 < 1000; decide), ?_⟩
    rw [oF_put]
    dsimp only
    walk_at "rd"
    refine rd_sfld ?_
    walk_at "rd"
    refine ⟨a, T.c_Outgoing, dx, _, _, rfl, upd_same, T.W_Outgoing.cl, T.na_things, oF_th _ _, ?_⟩
    walk_at "rd"
    refine ⟨l, _, rfl, SqL.of ((upd_ne nal.symm).trans hl), fun l' hl' => ?_⟩
    have nal' : a ≠ l' := ne_of_none upd_same hl'
    have nl0 : H l' = none := by
      rw [upd_ne nal'.symm] at hl'
      exact hl'
    walk_at "rd"
    refine ⟨a, T.c_Outgoing, dx, _, rfl, (upd_ne nal').trans upd_same, T.W_Outgoing.cl, T.na_things, (by show 2 < 1000; decide), ?_⟩
    rw [oF_set]
    walk_at "rd"
    have ec : cutV xs (some (u : Int)) none = xs.drop u := by
      unfold cutV
      rw [HT.sIx_none]
      have hul : u ≤ xs.length := by
        by_cases c : 0 < n - g
        · rw [if_pos c] at hu2
          omega
        · rw [if_neg c] at hu2
          omega
      rw [HT.sIx_nat, Nat.min_eq_left hul, List.take_of_length_le (by rw [List.length_drop]; omega)]
    refine q l' u _ hu2 (fun b o nb e => ?_) nl0 ⟨⟨dx, upd_same⟩, ?_⟩
    · have nb' : b ≠ a := by simpa using nb
      rw [upd_ne nb', upd_ne (ne_of_none e nl0), upd_ne nb']
      exact e
    · rw [upd_ne nal'.symm, upd_same, ec]
theorem ok_ostate (T : Tx K mg) (B : Bk K mg T) : FnOk P w K mg base CX0 1 B.Outgoing_state.f B.Outgoing_state.fd ["self"] (spOState T.c_Outgoing) := by
  refine B.Outgoing_state.F.ok sc_Outgoing_state (fun vs H Q E h => ?_) (fun cdv A outer s H vs Q E hr h => ?_)
  · obtain ⟨a, l, g, xs, rfl, _⟩ := h
    rfl
  · obtain ⟨a, l, g, xs, rfl, ⟨⟨dx, ha⟩, hl⟩, q⟩ := h
    refine ⟨_, (pss_one (ps_ret (pe_tup (pa_cons (pe_fld (pv 0) rfl) (pa_cons (pe_callTy call_tuple_of (by rfl) T.b_tuple (by decide +kernel) (pa_cons (pe_fld (pv 0) rfl) pa_nil)) pa_nil))))), ?_⟩
    walk_at "rd"
    refine ⟨a, T.c_Outgoing, dx, _, _, rfl, ha, T.W_Outgoing.cl, T.na_let_go, oF_go _ _, ?_⟩
    walk_at "rd"
    refine ⟨a, T.c_Outgoing, dx, _, _, rfl, ha, T.W_Outgoing.cl, T.na_things, oF_th _ _, ?_⟩
    walk_at "rd"
    refine ⟨l, xs, rfl, .inl ⟨SqL.of hl, fun u nu => ?_⟩⟩
    walk_at "rd"
    refine rd_disp rfl fun t nt => ?_
    have s1 := same_new (o := .tup xs) nu
    exact q t u _ (s1.trans (same_new nt)) (s1.free nt) upd_same ((upd_ne (ne_of_none upd_same nt)).trans upd_same) nu
theorem ok_outg (T : Tx K mg) (B : Bk K mg T) : FnOk P w K mg base CX0 3 B.outgoing.f B.outgoing.fd ["let_go", "things"] (spOutg T.c_Outgoing) := by
  have G_Outgoing_init := ok_out_init (P := P) (w := w) (base := base) T B
  refine B.outgoing.F.ok sc_outgoing (fun vs H Q E h => ?_) (fun cdv A outer s H vs Q E hr h => ?_)
  · obtain ⟨g, s, xs, rfl, _⟩ := h
    rfl
  · obtain ⟨g, s, xs, rfl, hs, q⟩ := h
    refine ⟨_, (pss_cons (ps_set (i := 2) sc_outgoing.nd rfl (Or.inl rfl) (pe_make0 (mk_of_Outgoing T B.Outgoing_init) G_Outgoing_init (hr.mono (by decide)) rfl T.g_Outgoing B.Outgoing_init.b .nil pass0))
      (pss_cons (ps_fld (pv 2) (pv 0) rfl)
      (pss_cons (ps_fld (pv 2) (pe_callTy call_list_of (by rfl) T.b_list (by decide +kernel) (pa_cons (pv 1) pa_nil)) rfl)
      (pss_one (ps_ret (pv 2)))))), ?_⟩
    walk_at "rd"
    refine rd_make ?_
    walk_at "rd"
    intro x dx nx ndx ne
    refine ⟨x, dx, rfl, upd_same, fun l0 H1 f1 nl0 ho => ⟨rfl, ?_⟩⟩
    have S1 : Same H H1 := fun b o e => f1 b o (by simpa using ne_of_none e nx) (by rw [upd_ne (ne_of_none e nx), upd_ne (ne_of_none e ndx)]; exact e)
    obtain ⟨⟨dx1, hx1⟩, hl0⟩ := ho
    walk_at "rd"
    refine rd_sfld ?_
    walk_at "rd"
    refine ⟨x, T.c_Outgoing, dx1, _, rfl, hx1, T.W_Outgoing.cl, T.na_let_go, (by show 2 < 1000; decide), ?_⟩
    rw [oF_put]
    dsimp only
    walk_at "rd"
    refine rd_sfld ?_
    walk_at "rd"
    have hs1 : (upd H1 x (.ins T.c_Outgoing dx1 (oF g l0))) s = some (.lst xs) ∨ (upd H1 x (.ins T.c_Outgoing dx1 (oF g l0))) s = some (.tup xs) := by
      rcases hs with hs | hs
      · exact .inl ((upd_ne (ne_of_none hs nx)).trans (S1 _ _ hs))
      · exact .inr ((upd_ne (ne_of_none hs nx)).trans (S1 _ _ hs))
    refine ⟨s, xs, rfl, hs1.imp (fun h => SqL.of h) (fun h => SqT.of h), fun l nl => ?_⟩
    have nxl : x ≠ l := ne_of_none upd_same nl
    walk_at "rd"
    refine ⟨x, T.c_Outgoing, dx1, _, rfl, (upd_ne nxl).trans upd_same, T.W_Outgoing.cl, T.na_things, (by show 2 < 1000; decide), ?_⟩
    rw [oF_set]
    walk_at "rd"
    have nl1 : H l = none := by
      rw [upd_ne nxl.symm] at nl
      exact S1.free nl
    refine q x l _ (fun b o e => ?_) nx nl1 ⟨⟨dx1, upd_same⟩, (upd_ne nxl.symm).trans upd_same⟩
    have nb := ne_of_none e nx
    rw [upd_ne nb, upd_ne (ne_of_none e nl1), upd_ne nb]
    exact S1 _ _ e
theorem ok_ocopy (T : Tx K mg) (B : Bk K mg T) : FnOk P w K mg base CX0 4 B.Outgoing_copy.f B.Outgoing_copy.fd ["self"] (spOCopy T.c_Outgoing) := by
  have G_outgoing := ok_outg (P := P) (w := w) (base := base) T B
  refine B.Outgoing_copy.F.ok sc_Outgoing_copy (fun vs H Q E h => ?_) (fun cdv A outer s H vs Q E hr h => ?_)
  · obtain ⟨a, l, g, xs, rfl, _⟩ := h
    rfl
  · obtain ⟨a, l, g, xs, rfl, ⟨⟨dx, ha⟩, hl⟩, q⟩ := h
    refine ⟨_, (pss_one (ps_ret (pe_call G_outgoing (hr.mono (by decide)) rfl B.outgoing.m B.outgoing.F.kp B.outgoing.b .nil pass0 (pa_cons (pe_fld (pv 0) rfl) (pa_cons (pe_fld (pv 0) rfl) pa_nil))))), ?_⟩
    walk_at "rd"
    refine ⟨a, T.c_Outgoing, dx, _, _, rfl, ha, T.W_Outgoing.cl, T.na_let_go, oF_go _ _, ?_⟩
    walk_at "rd"
    refine ⟨a, T.c_Outgoing, dx, _, _, rfl, ha, T.W_Outgoing.cl, T.na_things, oF_th _ _, ?_⟩
    walk_at "rd"
    exact ⟨g, l, xs, rfl, .inl hl, q⟩
end
end Mw

/-! C3 -/
namespace Mw
open PySem L2
abbrev iF (k : Int) (d : Addr) : List (Str × V) := [(("many" : Str), .int k), (("ahead" : Str), .ref d)]
theorem iF_mn (k : Int) (d : Addr) : (iF k d).lookup ("many" : Str) = some (.int k) := rfl
theorem iF_ah (k : Int) (d : Addr) : (iF k d).lookup ("ahead" : Str) = some (.ref d) := rfl
theorem iF_put (k k' : Int) (d : Addr) : putF ("many" : Str) (.int k') (iF k d) = iF k' d := rfl
/-- the other end, at e; what is held ahead at d -/
def IncAt (C : Addr) (H : Hp) (e d : Addr) (k : Int) (m : List (Key × V)) : Prop := (∃ dx, H e = some (.ins C dx (iF k d))) ∧ H d = some (.dK m)
theorem IncAt.ne {C e d : Addr} {H : Hp} {k : Int} {m : List (Key × V)} (h : IncAt C H e d k m) : e ≠ d := by
  obtain ⟨⟨dx, h1⟩, h2⟩ := h
  exact ne_of h1 h2 (by intro z; cases z)
theorem IncAt.same {C e d : Addr} {H H' : Hp} {k : Int} {m : List (Key × V)} (h : IncAt C H e d k m) (s : Same H H') : IncAt C H' e d k m := by
  obtain ⟨⟨dx, h1⟩, h2⟩ := h
  exact ⟨⟨dx, s _ _ h1⟩, s _ _ h2⟩
theorem IncAt.fr {C e d : Addr} {H H' : Hp} {k : Int} {m : List (Key × V)} {M : List Addr} (h : IncAt C H e d k m) (s : Fr M H H') (n1 : e ∉ M) (n2 : d ∉ M) : IncAt C H' e d k m := by
  obtain ⟨⟨dx, h1⟩, h2⟩ := h
  exact ⟨⟨dx, s _ _ n1 h1⟩, s _ _ n2 h2⟩
/-- what goes out, one number behind the other -/
def drn : Nat → Int → List (Key × V) → Int × List (Key × V) × List V
  | 0, k, m => (k, m, [])
  | n + 1, k, m => match valV m (.inl k) with
    | none => (k, m, [])
    | some v => ((drn n (k + 1) (dropK m (.inl k))).1, (drn n (k + 1) (dropK m (.inl k))).2.1, v :: (drn n (k + 1) (dropK m (.inl k))).2.2)
theorem drop_lt {m : List (Key × V)} {k : Key} {v : V} (h : valV m k = some v) : (dropK m k).length < m.length := by
  have e := valV_any (κ := Key) k m
  rw [h] at e
  unfold dropK
  induction m with
  | nil => cases e
  | cons x m ih =>
    rw [List.filter_cons]
    by_cases c : x.1 = k
    · rw [if_neg (by simp [c])]
      have := List.length_filter_le (fun kv : Key × V => decide (kv.1 ≠ k)) m
      rw [List.length_cons]
      omega
    · rw [if_pos (by simp [c]), List.length_cons, List.length_cons]
      rw [valV_neg c] at h
      rw [List.any_cons] at e
      have := ih h (by simpa [c] using e)
      omega
theorem drn_more : ∀ (n : Nat) (k : Int) (m : List (Key × V)), m.length ≤ n → drn n k m = drn m.length k m := by
  intro n
  induction n with
  | zero =>
    intro k m h
    have : m.length = 0 := by omega
    rw [this]
  | succ n ih =>
    intro k m h
    cases hv : valV m (.inl k) with
    | none =>
      have e1 : drn (n + 1) k m = (k, m, []) := by
        unfold drn
        rw [hv]
      rw [e1]
      cases hm : m.length with
      | zero => rfl
      | succ j =>
        unfold drn
        rw [hv]
    | some v =>
      have h1 := drop_lt hv
      obtain ⟨j, hj⟩ : ∃ j, m.length = j + 1 := ⟨m.length - 1, by omega⟩
      have e1 : ∀ i, drn (i + 1) k m = ((drn i (k + 1) (dropK m (.inl k))).1, (drn i (k + 1) (dropK m (.inl k))).2.1, v :: (drn i (k + 1) (dropK m (.inl k))).2.2) := fun i => by
        show (match valV m (.inl k) with | none => _ | some v => _) = _
        rw [hv]
      rw [hj, e1, e1, ih _ _ (by omega)]
      by_cases c : j ≤ n
      · have e2 : drn j (k + 1) (dropK m (.inl k)) = drn (dropK m (.inl k)).length (k + 1) (dropK m (.inl k)) := by
          have key : ∀ i, (dropK m (.inl k)).length ≤ i → i ≤ n → drn i (k + 1) (dropK m (.inl k)) = drn (dropK m (.inl k)).length (k + 1) (dropK m (.inl k)) := by
            intro i hi hin
            have g1 := ih (k + 1) (dropK m (.inl k)) (by omega)
            by_cases z : i = n
            · rw [z]
              exact g1
            · exact drn_aux i (k + 1) _ hi
          exact key j (by omega) c
        rw [e2]
      · omega
where
  drn_aux : ∀ (n : Nat) (k : Int) (m : List (Key × V)), m.length ≤ n → drn n k m = drn m.length k m := by
    intro n
    induction n with
    | zero =>
      intro k m h
      have : m.length = 0 := by omega
      rw [this]
    | succ n ih =>
      intro k m h
      by_cases c : m.length = n + 1
      · rw [c]
      · have g := ih k m (by omega)
        rw [← g]
        have step : ∀ (i : Nat) (k : Int) (m : List (Key × V)), m.length ≤ i → drn (i + 1) k m = drn i k m := by
          intro i
          induction i with
          | zero =>
            intro k m h
            have : m = [] := List.eq_nil_of_length_eq_zero (by omega)
            subst this
            rfl
          | succ i ih2 =>
            intro k m h
            cases hv : valV m (.inl k) with
            | none =>
              show (match valV m (.inl k) with | none => _ | some v => _) = (match valV m (.inl k) with | none => _ | some v => _)
              rw [hv]
            | some v =>
              have h1 := drop_lt hv
              show (match valV m (.inl k) with | none => _ | some v => _) = (match valV m (.inl k) with | none => _ | some v => _)
              rw [hv]
              show ((drn (i + 1) (k + 1) (dropK m (.inl k))).1, (drn (i + 1) (k + 1) (dropK m (.inl k))).2.1, v :: (drn (i + 1) (k + 1) (dropK m (.inl k))).2.2) = _
              rw [ih2 _ _ (by omega)]
        exact step n k m (by omega)
def drain (k : Int) (m : List (Key × V)) : Int × List (Key × V) × List V := drn m.length k m
theorem drain_no {k : Int} {m : List (Key × V)} (h : valV m (.inl k) = none) : drain k m = (k, m, []) := by
  unfold drain
  cases hm : m.length with
  | zero => rfl
  | succ j =>
    unfold drn
    rw [h]
theorem drain_yes {k : Int} {m : List (Key × V)} {v : V} (h : valV m (.inl k) = some v) : drain k m = ((drain (k + 1) (dropK m (.inl k))).1, (drain (k + 1) (dropK m (.inl k))).2.1, v :: (drain (k + 1) (dropK m (.inl k))).2.2) := by
  have h1 := drop_lt h
  obtain ⟨j, hj⟩ : ∃ j, m.length = j + 1 := ⟨m.length - 1, by omega⟩
  unfold drain
  rw [hj]
  show (match valV m (.inl k) with | none => _ | some v => _) = _
  rw [h]
  show ((drn j (k + 1) (dropK m (.inl k))).1, (drn j (k + 1) (dropK m (.inl k))).2.1, v :: (drn j (k + 1) (dropK m (.inl k))).2.2) = _
  rw [drn_more j _ _ (by omega)]
/-- what stands ahead behind one that is heard -/
def hear (k n : Int) (y : V) (m : List (Key × V)) : List (Key × V) := if k ≤ n ∧ n < k + 1000 ∧ valV m (.inl n) = none then m ++ [(.inl n, y)] else m
theorem hear_len {k n : Int} {y : V} {m : List (Key × V)} : (hear k n y m).length ≤ m.length + 1 := by
  unfold hear
  split
  · rw [List.length_append]
    exact Nat.le_refl _
  · omega
def spIncInit (C : Addr) : Sp := fun vs H Q _ => ∃ a dx, vs = [.ref a] ∧ H a = some (.ins C dx []) ∧ ∀ d H', Fr [a] H H' → H d = none → IncAt C H' a d 0 [] → Q .non H'
def spITake (C : Addr) : Sp := fun vs H Q _ => ∃ e d k m n y, vs = [.ref e, .int n, y] ∧ IncAt C H e d k m ∧ 0 ≤ n ∧ n < 4294967296 ∧ m.length ≤ 1000 ∧
  ∀ (L : Addr) (H' : Hp), Fr [e, d] H H' → H L = none → IncAt C H' e d (drain k (hear k n y m)).1 (drain k (hear k n y m)).2.1 → H' L = some (.lst (drain k (hear k n y m)).2.2) → Q (.ref L) H'
def spTaken (C : Addr) : Sp := fun vs H Q _ => ∃ e d k m, vs = [.ref e] ∧ IncAt C H e d k m ∧ Q (.int k) H
def spHeld (C : Addr) : Sp := fun vs H Q _ => ∃ e d k m ns, vs = [.ref e] ∧ IncAt C H e d k m ∧ m.map (·.1) = ns.map Sum.inl ∧ ∀ (t : Addr) (ns' : List Int) (H' : Hp), Same H H' → H t = none → H' t = some (.tup (ns'.map V.int)) → ns'.Perm ns → ns'.Pairwise (· ≤ ·) → Q (.ref t) H'
/-- pairs of number and thing, at addresses -/
def PrsAt (H : Hp) (ts : List Addr) (ps : List (Int × V)) : Prop := ts.length = ps.length ∧ ∀ (j : Nat) t x, ts[j]? = some t → ps[j]? = some x → H t = some (.tup [.int x.1, x.2])
theorem PrsAt.same {H H' : Hp} {ts : List Addr} {ps : List (Int × V)} (h : PrsAt H ts ps) (s : KT H H') : PrsAt H' ts ps := ⟨h.1, fun j t x h1 h2 => s _ _ (h.2 j t x h1 h2)⟩
def spIState (C : Addr) : Sp := fun vs H Q _ => ∃ e d k m ns, vs = [.ref e] ∧ IncAt C H e d k m ∧ m.map (·.1) = ns.map Sum.inl ∧ ns.length ≤ 1000 ∧
  ∀ (t u : Addr) (ts : List Addr) (ps : List (Int × V)) (H' : Hp), Same H H' → H t = none → H u = none → H' t = some (.tup [.int k, .ref u]) → H' u = some (.tup (ts.map V.ref)) → PrsAt H' ts ps → (ps.map (·.1)).Perm ns → (ps.map (·.1)).Pairwise (· ≤ ·) → (∀ x ∈ ps, valV m (.inl x.1) = some x.2) → Q (.ref t) H'
def spIncg (C : Addr) : Sp := fun vs H Q _ => ∃ s u k ts ps, vs = [.ref s] ∧ H s = some (.tup [.int k, .ref u]) ∧ H u = some (.tup (ts.map V.ref)) ∧ PrsAt H ts ps ∧ ps.length ≤ 1000 ∧ (ps.map (·.1)).Nodup ∧
  ∀ e d H', Same H H' → H e = none → H d = none → IncAt C H' e d k (ps.map fun x => (.inl x.1, x.2)) → Q (.ref e) H'
def spICopy (C : Addr) : Sp := fun vs H Q _ => ∃ e d k m ns, vs = [.ref e] ∧ IncAt C H e d k m ∧ m.map (·.1) = ns.map Sum.inl ∧ ns.length ≤ 1000 ∧ ns.Nodup ∧
  ∀ (e2 d2 : Addr) (ps : List (Int × V)) (H' : Hp), Same H H' → H e2 = none → H d2 = none → IncAt C H' e2 d2 k (ps.map fun x => (.inl x.1, x.2)) → (ps.map (·.1)).Perm ns → (ps.map (·.1)).Pairwise (· ≤ ·) → (∀ x ∈ ps, valV m (.inl x.1) = some x.2) → Q (.ref e2) H'
theorem rd_dpop1 {td ty : TE} {σ : L2.St} {H : Hp} {Q : VK} (h : td σ H fun x H1 => ∃ a, x = .ref a ∧ IsD H1 a ∧ ty σ H1 fun y H2 => ∃ kvs k v, H2 a = some (.dK kvs) ∧ y = kV k ∧ valV kvs k = some v ∧ Q v (upd H2 a (.dK (dropK kvs k)))) : tDPop1 td ty σ H Q := h
theorem isD_k {H : Hp} {a : Addr} {m : List (Key × V)} (h : H a = some (.dK m)) : IsD H a := .inl ⟨m, .inl h⟩
theorem rd_itup {K : PySem.W.Frag} {te : TE} {σ : L2.St} {H : Hp} {R : It → Hp → Prop} (h : te σ H fun x H1 => ∃ a, x = .ref a ∧ (∃ xs, SqT K H1 a xs) ∧ R (Itt K a) H1) : iTup K te σ H R := h
theorem key_there {m : List (Key × V)} {ns : List Int} (en : m.map (·.1) = ns.map Sum.inl) {n : Int} (h : n ∈ ns) : ∃ v, valV m (.inl n) = some v := by
  have e := valV_any (κ := Key) (.inl n) m
  cases z : valV m (.inl n) with
  | some v => exact ⟨v, rfl⟩
  | none =>
    rw [z] at e
    have hm : (Sum.inl n : Key) ∈ m.map (·.1) := by
      rw [en]
      exact List.mem_map.mpr ⟨n, h, rfl⟩
    obtain ⟨x, hx, ex⟩ := List.mem_map.mp hm
    have := List.any_eq_false.mp e x hx
    exact absurd (decide_eq_true ex) this
theorem PrsAt.nil {H : Hp} : PrsAt H [] [] := ⟨rfl, fun j t x h => by simp at h⟩
theorem PrsAt.snoc {H : Hp} {ts : List Addr} {ps : List (Int × V)} {t : Addr} {x : Int × V} (h : PrsAt H ts ps) (ht : H t = some (.tup [.int x.1, x.2])) : PrsAt H (ts ++ [t]) (ps ++ [x]) := by
  refine ⟨by rw [List.length_append, List.length_append, h.1]; rfl, fun j t' x' h1 h2 => ?_⟩
  rw [List.getElem?_append] at h1 h2
  by_cases c : j < ts.length
  · rw [if_pos c] at h1
    rw [if_pos (by rw [← h.1]; exact c)] at h2
    exact h.2 j t' x' h1 h2
  · rw [if_neg c] at h1
    rw [if_neg (by rw [← h.1]; exact c)] at h2
    have e : j - ts.length = 0 := by
      have := (List.getElem?_eq_some_iff.mp h1).1
      simp at this
      omega
    rw [e] at h1
    rw [← h.1, e] at h2
    simp at h1 h2
    subst h1 h2
    exact ht
section
variable {P : Program} {w : World} {K : PySem.W.Frag} {mg : Str → Option Value} {base : Heap}
local macro_rules | `(tactic| walk_at "rd") => `(tactic| (repeat (first
  | ((with_reducible refine' rd_var ?h0 ?_); (case h0 => rfl))
  | with_reducible refine rd_c ?_
  | with_reducible refine rd_op ?_
  | with_reducible refine rd_nil ?_
  | with_reducible refine rd_cons ?_
  | with_reducible refine rd_tup ?_
  | with_reducible refine rd_lst ?_
  | with_reducible refine rd_ifs ?_
  | with_reducible refine rd_seq ?_
  | with_reducible refine rd_next ?_
  | with_reducible refine rd_ret ?_
  | with_reducible refine rd_asg ?_
  | ((with_reducible refine' rd_gset ?hs ?_); (case hs => ((simp only [L2.start, List.map_cons, List.map_nil, List.length_cons, List.length_nil, List.cons_append, List.nil_append, List.set_cons_zero, List.set_cons_succ, Nat.reduceAdd, Nat.reduceSub, Nat.zero_add, List.reduceReplicate]); rfl)))
  | with_reducible refine rd_drop ?_
  | with_reducible refine rd_test ?_
  | with_reducible refine rd_B ?_
  | with_reducible refine rd_bl ?_
  | with_reducible refine rd_blP ?_
  | with_reducible refine rd_andV ?_
  | with_reducible refine rd_orV ?_
  | with_reducible refine rd_notV ?_
  | with_reducible refine rd_and ?_
  | with_reducible refine rd_or ?_
  | with_reducible refine rd_not ?_
  | with_reducible refine rd_chain ?_
  | with_reducible refine rd_dput ?_
  | with_reducible refine rd_dget ?_
  | with_reducible refine rd_cb ?_
  | with_reducible refine rd_call ?_
  | with_reducible refine rd_un ?_
  | with_reducible refine rd_sl ?_
  | with_reducible refine rd_nopart ?_
  | with_reducible refine rd_part ?_
  | with_reducible refine rd_intP ?_
  | with_reducible refine rd_rU ?_
  | with_reducible refine rd_fld ?_
  | with_reducible refine rd_eqI ?_
  | with_reducible refine rd_neI ?_
  | with_reducible refine rd_mko ?_
  | with_reducible refine rd_bm ?_
  | with_reducible refine rd_gsub ?_
  | with_reducible refine rd_i0 ?_)))
theorem ok_inc_init (T : Tx K mg) (B : Bk K mg T) : FnOk P w K mg base CX0 1 B.Incoming_init.f B.Incoming_init.fd ["self"] (spIncInit T.c_Incoming) := by
  refine B.Incoming_init.F.ok sc_Incoming_init (fun vs H Q E h => ?_) (fun cdv A outer s H vs Q E hr h => ?_)
  · obtain ⟨a, dx, rfl, _⟩ := h
    rfl
  · obtain ⟨a, dx, rfl, ha, q⟩ := h
    refine ⟨_, (pss_cons (ps_fld (pv 0) pe_int rfl)
      (pss_one (ps_fld (pv 0) pe_dnewK rfl))), ?_⟩
    walk_at "rd"
    refine rd_sfld ?_
    walk_at "rd"
    refine ⟨a, T.c_Incoming, dx, _, rfl, ha, T.W_Incoming.cl, T.na_many, (by show 0 < 1000; decide), ?_⟩
    dsimp only
    walk_at "rd"
    refine rd_sfld ?_
    walk_at "rd"
    intro l nl
    have nal : a ≠ l := ne_of_none upd_same nl
    walk_at "rd"
    refine ⟨a, T.c_Incoming, dx, _, rfl, (upd_ne nal).trans upd_same, T.W_Incoming.cl, T.na_ahead, (by show 1 < 1000; decide), ?_⟩
    have nl0 : H l = none := by
      rw [upd_ne nal.symm] at nl
      exact nl
    refine q l _ (fun b o n e => ?_) nl0 ⟨⟨dx, upd_same⟩, ?_⟩
    · have nb : b ≠ a := by simpa using n
      rw [upd_ne nb, upd_ne (ne_of_none e nl0), upd_ne nb]
      exact e
    · rw [upd_ne nal.symm]
      exact upd_same
theorem ok_taken (T : Tx K mg) (B : Bk K mg T) : FnOk P w K mg base CX0 1 B.Incoming_taken.f B.Incoming_taken.fd ["self"] (spTaken T.c_Incoming) := by
  refine B.Incoming_taken.F.ok sc_Incoming_taken (fun vs H Q E h => ?_) (fun cdv A outer s H vs Q E hr h => ?_)
  · obtain ⟨e, d, k, m, rfl, _⟩ := h
    rfl
  · obtain ⟨e, d, k, m, rfl, ⟨⟨dx, he⟩, hd⟩, q⟩ := h
    refine ⟨_, (pss_one (ps_ret (pe_fld (pv 0) rfl))), ?_⟩
    walk_at "rd"
    exact ⟨e, T.c_Incoming, dx, _, _, rfl, he, T.W_Incoming.cl, T.na_many, iF_mn _ _, q⟩
theorem ok_held (T : Tx K mg) (B : Bk K mg T) : FnOk P w K mg base CX0 1 B.Incoming_held.f B.Incoming_held.fd ["self"] (spHeld T.c_Incoming) := by
  refine B.Incoming_held.F.ok sc_Incoming_held (fun vs H Q E h => ?_) (fun cdv A outer s H vs Q E hr h => ?_)
  · obtain ⟨e, d, k, m, ns, rfl, _⟩ := h
    rfl
  · obtain ⟨e, d, k, m, ns, rfl, ⟨⟨dx, he⟩, hd⟩, en, q⟩ := h
    refine ⟨_, (pss_one (ps_ret (pe_callTy call_tuple_of (by rfl) T.b_tuple (by decide +kernel) (pa_cons (pe_callB (cr_sortedD rfl) (by rfl) T.b_sorted (by decide +kernel) (pa_cons (pe_fld (pv 0) rfl) pa_nil)) pa_nil)))), ?_⟩
    walk_at "rd"
    refine ⟨e, T.c_Incoming, dx, _, _, rfl, he, T.W_Incoming.cl, T.na_ahead, iF_ah _ _, ?_⟩
    walk_at "rd"
    refine ⟨d, m, ns, rfl, hd, en, fun ns' l hpm hpw nl => ?_⟩
    walk_at "rd"
    refine ⟨l, _, rfl, .inl ⟨SqL.of upd_same, fun t nt => ?_⟩⟩
    have s1 := same_new (o := .lst (ns'.map V.int)) nl
    exact q t ns' _ (s1.trans (same_new nt)) (s1.free nt) upd_same hpm hpw
theorem ok_itake (T : Tx K mg) (B : Bk K mg T) : FnOk P w K mg base (L2.CX P w) 5 B.Incoming_take.f B.Incoming_take.fd ["self", "number", "thing"] (spITake T.c_Incoming) := by
  have G_is_link_number := ok_is_link_number (P := P) (w := w) (base := base) T B
  have G_NoNumber_init := ok_number_init (P := P) (w := w) (base := base) T B
  refine B.Incoming_take.F.okX sc_Incoming_take (fun vs H Q E h => ?_) (fun cdv A outer s H vs Q E hr h => ?_)
  · obtain ⟨e, d, k, m, n, y, rfl, _⟩ := h
    rfl
  · obtain ⟨e, d, k, m, n, y, rfl, hi, n0, n1, hm, q⟩ := h
    obtain ⟨⟨dx, he⟩, hd⟩ := id hi
    have ned := hi.ne
    refine ⟨_, (pss_cons (ps_if (pt_not (pt_val (pe_call G_is_link_number (hr.mono (by decide)) rfl B.is_link_number.m B.is_link_number.F.kp B.is_link_number.b .nil pass0 (pa_cons (pv 1) pa_nil)))) (pss_one (ps_raise rfl (takes_of rfl rfl rfl rfl) (pmk_pass T.x_NoNumber B.NoNumber_init.a B.NoNumber_init.t G_NoNumber_init (hr.mono (by decide)) B.NoNumber_init.b pass0 rfl T.g_NoNumber))) pss_nil)
      (C8.pss_cut (ps_if (PW.pt (pw_and (pt_chain op_le op_lt (pe_fld (pv 0) rfl) (pv 1) (pe_op op_add (pe_fld (pv 0) rfl) (pe_glob (v := .int 1000) (by rfl) T.g_HELD_AHEAD ⟨_, rfl⟩))) (pw_and1 (pt_cmp (pc_dnotin (hu_of hr) (pv 1) (pe_fld (pv 0) rfl)))))) (pss_one (ps_dput (hu_of hr) (pe_fld (pv 0) rfl) (pv 1) (pv 2) rfl)) pss_nil)
      (pss_cons (ps_set (i := 3) sc_Incoming_take.nd rfl (Or.inl rfl) (pe_lst pa_nil))
      (pss_cons (ps_while (passes_of rfl) (pt_cmp (pc_din (hu_of hr) (pe_fld (pv 0) rfl) (pe_fld (pv 0) rfl))) (pss_cons (ps_expr (pe_bm PySem.F.plainAttrs_list PySem.F.slot_list_append PySem.F.type_list_append mt_append (pv 3) (pa_cons (pe_dpop1 (pe_fld (pv 0) rfl) (pe_fld (pv 0) rfl) ⟨rfl, rfl, rfl, rfl⟩) pa_nil)))
      (pss_one (ps_fldaug (pv 0) pe_int in_add))))
      (pss_one (ps_ret (pv 3))))))), ?_⟩
    walk_at "rd"
    refine ⟨e, .int n, .int n, rfl, tp_int, ?_⟩
    walk_at "rd"
    refine rd_no (by simp [isNb, n0, n1]) ?_
    walk_at "rd"
    refine ⟨fun σ1 H1 => σ1 = [some (.ref e), some (.int n), some y, none] ∧ Fr [d] H H1 ∧ IncAt T.c_Incoming H1 e d k (hear k n y m), ?_, ?_⟩
    · have stay : ¬ (k ≤ n ∧ n < k + 1000 ∧ valV m (.inl n) = none) → [some (V.ref e), some (.int n), some y, none] = [some (.ref e), some (.int n), some y, none] ∧ Fr [d] H H ∧ IncAt T.c_Incoming H e d k (hear k n y m) := fun c => ⟨rfl, Fr.same (Same.refl H), by unfold hear; rw [if_neg c]; exact hi⟩
      walk_at "rd"
      refine ⟨e, T.c_Incoming, dx, _, _, rfl, he, T.W_Incoming.cl, T.na_many, iF_mn _ _, ?_⟩
      walk_at "rd"
      refine rd_ite (fun h1 => ?_) (fun h1 => ?_)
      · walk_at "rd"
        refine ⟨e, T.c_Incoming, dx, _, _, rfl, he, T.W_Incoming.cl, T.na_many, iF_mn _ _, ?_⟩
        walk_at "rd"
        refine rd_ite (fun h2 => ?_) (fun h2 => ?_)
        · walk_at "rd"
          refine rd_dnotin ?_
          walk_at "rd"
          refine ⟨e, T.c_Incoming, dx, _, _, rfl, he, T.W_Incoming.cl, T.na_ahead, iF_ah _ _, ?_⟩
          refine ⟨d, _, rfl, DGet.k (k := .inl n) hd, ?_⟩
          walk_at "rd"
          refine rd_ite (fun h3 => ?_) (fun h3 => ?_)
          · have hv : valV m (.inl n) = none := by
              cases z : valV m (.inl n) with
              | none => rfl
              | some x =>
                rw [z] at h3
                cases h3
            walk_at "rd"
            refine ⟨e, T.c_Incoming, dx, _, _, rfl, he, T.W_Incoming.cl, T.na_ahead, iF_ah _ _, ?_⟩
            walk_at "rd"
            refine ⟨d, _, rfl, DPut.k (k := .inl n) hd (small1000 (by omega)), ?_⟩
            refine ⟨rfl, Fr.mut, ⟨dx, (upd_ne ned).trans he⟩, ?_⟩
            rw [upd_same, putK_new _ hv]
            unfold hear
            rw [if_pos ⟨of_decide_eq_true h1, of_decide_eq_true h2, hv⟩]
          · refine stay fun c => ?_
            rw [c.2.2] at h3
            cases h3
        · try with_reducible refine rd_no rfl ?_
          exact stay fun c => of_decide_eq_false h2 c.2.1
      · walk_at "rd"
        refine rd_no rfl ?_
        exact stay fun c => of_decide_eq_false h1 c.1
    rintro σ1 H1 ⟨rfl, f1, hi1⟩
    have hml := hear_len (k := k) (n := n) (y := y) (m := m)
    generalize hear k n y m = m1 at *
    walk_at "rd"
    refine rd_disp rfl fun L nL => ?_
    have nLd : L ≠ d := fun z => by
      rw [z, hi1.2] at nL
      cases nL
    have nLe : L ≠ e := fun z => by
      obtain ⟨⟨dx1, g⟩, _⟩ := hi1
      rw [z, g] at nL
      cases nL
    have nL0 : H L = none := f1.free nL (by simpa using nLd)
    walk_at "rd"
    refine ⟨fun μ σ H2 => ∃ k2 m2 acc, σ = [some (.ref e), some (.int n), some y, some (.ref L)] ∧ Fr [e, d] H H2 ∧ IncAt T.c_Incoming H2 e d k2 m2 ∧ H2 L = some (.lst acc) ∧ μ = m2.length ∧ m2.length + acc.length ≤ 1001 ∧ ((drain k2 m2).1, (drain k2 m2).2.1, acc ++ (drain k2 m2).2.2) = drain k m1,
      ⟨_, k, m1, [], rfl, (f1.more (by simp)).trans (Fr.same (same_new nL)), hi1.same (same_new nL), upd_same, rfl, by simp; omega, rfl⟩, ?_⟩
    rintro μ σ H2 ⟨k2, m2, acc, rfl, f2, hi2, hL2, hμ, hlen, hdr⟩
    obtain ⟨⟨dx2, he2⟩, hd2⟩ := id hi2
    walk_at "rd"
    refine rd_din ?_
    walk_at "rd"
    refine ⟨e, T.c_Incoming, dx2, _, _, rfl, he2, T.W_Incoming.cl, T.na_many, iF_mn _ _, ?_⟩
    walk_at "rd"
    refine ⟨e, T.c_Incoming, dx2, _, _, rfl, he2, T.W_Incoming.cl, T.na_ahead, iF_ah _ _, ?_⟩
    refine ⟨d, _, rfl, DGet.k (k := .inl k2) hd2, ?_⟩
    walk_at "rd"
    refine rd_ite (fun h1 => ?_) (fun h1 => ?_)
    · obtain ⟨v, hv⟩ : ∃ v, valV m2 (.inl k2) = some v := by
        cases z : valV m2 (.inl k2) with
        | none =>
          rw [z] at h1
          cases h1
        | some x => exact ⟨x, rfl⟩
      have hlt := drop_lt hv
      refine ⟨fun σ' H' => ∃ m', m' < μ ∧ ∃ k2 m2 acc, σ' = [some (.ref e), some (.int n), some y, some (.ref L)] ∧ Fr [e, d] H H' ∧ IncAt T.c_Incoming H' e d k2 m2 ∧ H' L = some (.lst acc) ∧ m' = m2.length ∧ m2.length + acc.length ≤ 1001 ∧ ((drain k2 m2).1, (drain k2 m2).2.1, acc ++ (drain k2 m2).2.2) = drain k m1, fun _ _ h => h, ?_⟩
      walk_at "rd"
      refine ⟨.inl ⟨rfl, _, SqL.of hL2⟩, ?_⟩
      walk_at "rd"
      refine rd_dpop1 ?_
      walk_at "rd"
      refine ⟨e, T.c_Incoming, dx2, _, _, rfl, he2, T.W_Incoming.cl, T.na_ahead, iF_ah _ _, ?_⟩
      refine ⟨d, rfl, isD_k hd2, ?_⟩
      walk_at "rd"
      refine ⟨e, T.c_Incoming, dx2, _, _, rfl, he2, T.W_Incoming.cl, T.na_many, iF_mn _ _, ?_⟩
      refine ⟨m2, .inl k2, v, hd2, rfl, hv, ?_⟩
      walk_at "rd"
      have hL3 : (upd H2 d (.dK (dropK m2 (.inl k2)))) L = some (.lst acc) := (upd_ne nLd).trans hL2
      refine rd_append hL3 (small1000 (by omega)) ?_
      dsimp only
      walk_at "rd"
      refine rd_sfldaug ?_
      walk_at "rd"
      have he3 : (upd (upd H2 d (.dK (dropK m2 (.inl k2)))) L (.lst (acc ++ [v]))) e = some (.ins T.c_Incoming dx2 (iF k2 d)) := (upd_ne nLe.symm).trans ((upd_ne ned).trans he2)
      refine ⟨e, T.c_Incoming, dx2, _, _, rfl, he3, T.W_Incoming.cl, T.na_many, iF_mn _ _, ?_⟩
      walk_at "rd"
      refine ⟨_, _, rfl, rfl, dx2, _, he3, (by show 2 < 1000; decide), ?_⟩
      rw [iF_put]
      refine ⟨_, by omega, k2 + 1, dropK m2 (.inl k2), acc ++ [v], rfl, fun b o nb eb => ?_, ⟨⟨dx2, upd_same⟩, ?_⟩, ?_, rfl, by rw [List.length_append]; simp; omega, ?_⟩
      · have nbe : b ≠ e := fun z => nb (by simp [z])
        have nbd : b ≠ d := fun z => nb (by simp [z])
        rw [upd_ne nbe, upd_ne (ne_of_none eb nL0), upd_ne nbd]
        exact f2 b o nb eb
      · rw [upd_ne ned.symm, upd_ne nLd.symm]
        exact upd_same
      · rw [upd_ne nLe]
        exact upd_same
      · rw [← hdr, drain_yes hv]
        simp
    · have hv : valV m2 (.inl k2) = none := by
        cases z : valV m2 (.inl k2) with
        | none => rfl
        | some x =>
          rw [z] at h1
          cases h1
      rw [drain_no hv] at hdr
      simp only [List.append_nil] at hdr
      walk_at "rd"
      rw [← hdr] at q
      exact q L H2 f2 nL0 hi2 hL2
theorem ok_istate (T : Tx K mg) (B : Bk K mg T) : FnOk P w K mg base CX0 2 B.Incoming_state.f B.Incoming_state.fd ["self"] (spIState T.c_Incoming) := by
  have G_Incoming_held := ok_held (P := P) (w := w) (base := base) T B
  refine B.Incoming_state.F.ok sc_Incoming_state (fun vs H Q E h => ?_) (fun cdv A outer s H vs Q E hr h => ?_)
  · obtain ⟨e, d, k, m, ns, rfl, _⟩ := h
    rfl
  · obtain ⟨e, d, k, m, ns, rfl, hi, en, hn, q⟩ := h
    obtain ⟨⟨dx, he⟩, hd⟩ := id hi
    refine ⟨_, (pss_one (ps_ret (pe_tup (pa_cons (pe_fld (pv 0) rfl) (pa_cons (pe_callTy call_tuple_of (by rfl) T.b_tuple (by decide +kernel) (pa_cons (pe_lc (own := [("number", 1)]) (g := gName 1) rfl sc_Incoming_state.nd (pi_tup (pe_meth0 (pv 0) T.W_Incoming.cl ⟨B.Incoming_held.a, B.Incoming_held.i, B.Incoming_held.F.kp⟩ G_Incoming_held (hr.mono (by decide)) B.Incoming_held.b .nil pass0)) (blkOk_by (own := [("number", 1)]) (N := ["self", "number"]) (sc := defScope s_Incoming_state) (by decide +kernel)) (fun _ _ _ _ _ => pg_name (i := 1) sc_Incoming_state.nd rfl (Or.inl rfl)) (fun _ _ _ _ _ => pts_nil) (fun _ _ _ _ _ => (pe_tup (pa_cons (pv 1) (pa_cons (pe_dget (hu_of hr) (show PE _ _ (tFld K (tVar 0) "ahead") from pe_fld (pv 0) rfl) (pv 1) (fun _ _ => rfl)) pa_nil))))) pa_nil)) pa_nil))))), ?_⟩
    walk_at "rd"
    refine ⟨e, T.c_Incoming, dx, _, _, rfl, he, T.W_Incoming.cl, T.na_many, iF_mn _ _, ?_⟩
    walk_at "rd"
    show iTup _ _ _ _ _
    refine rd_itup ?_
    refine rd_meth ?_
    walk_at "rd"
    refine ⟨e, dx, _, rfl, he, rfl, ?_⟩
    walk_at "rd"
    refine ⟨e, d, k, m, ns, rfl, hi, en, fun t ns' H1 s1 nt ht hpm hpw => ?_⟩
    generalize hps : (ns'.map fun n => (n, (valV m (.inl n)).getD .non)) = ps
    have epn : ps.map (·.1) = ns' := by
      rw [← hps, List.map_map]
      conv => rhs; rw [← List.map_id ns']
      exact List.map_congr_left fun _ _ => rfl
    have hln : ns'.length = ns.length := hpm.length_eq
    have hlp : ps.length = ns'.length := by rw [← hps, List.length_map]
    refine ⟨t, rfl, ⟨_, SqT.of ht⟩, fun D hD => lc_tup (K := K) (a := t) (xs := ns'.map V.int)
      (fun i H2 => Same H1 H2 ∧ ∃ ts, H2 D = some (.lst (ts.map V.ref)) ∧ PrsAt H2 ts (ps.take i)) ⟨same_new hD, [], upd_same, PrsAt.nil⟩ (fun i H2 _ hh => SqT.of (hh.1 _ _ ht)) ?_ ?_⟩
    · rintro i y H2 hi2 ⟨hs, ts, hacc, hpr⟩
      obtain ⟨n, hn2, rfl⟩ := mapint_get hi2
      obtain ⟨v, hv⟩ := key_there en (hpm.mem_iff.mp (List.mem_of_getElem? hn2))
      have hpi : ps[i]? = some (n, v) := by
        rw [← hps, List.getElem?_map, hn2, Option.map_some, hv]
        rfl
      have il := (List.getElem?_eq_some_iff.mp hn2).1
      refine ⟨rfl, ?_⟩
      refine rd_tyes ?_
      refine rd_yes rfl ?_
      walk_at "rd"
      refine ⟨e, T.c_Incoming, dx, _, _, rfl, hs _ _ (s1 _ _ he), T.W_Incoming.cl, T.na_ahead, iF_ah _ _, ?_⟩
      walk_at "rd"
      refine ⟨d, v, rfl, by rw [← hv]; exact DGet.k (k := .inl n) (hs _ _ (s1 _ _ hd)), ?_⟩
      refine rd_disp rfl fun t1 nt1 => ?_
      have hacc2 : (upd H2 t1 (.tup [.int n, v])) D = some (.lst (ts.map V.ref)) := (upd_ne (ne_of_none hacc nt1)).trans hacc
      have s2 := same_new (o := .tup [.int n, v]) nt1
      have nDt : t1 ≠ D := (ne_of_none hacc nt1).symm
      have htl := hpr.1
      rw [List.length_take] at htl
      refine ⟨_, hacc2, ?_, fun b o eb => ?_, ts ++ [t1], ?_, ?_⟩
      · refine Nat.lt_of_le_of_lt (?_ : _ ≤ 1000) (by decide)
        rw [List.length_map]
        omega
      · rw [upd_ne (ne_of_none eb hD)]
        exact s2 _ _ (hs b o eb)
      · rw [upd_same, List.map_append]
        rfl
      · rw [take_snoc hpi]
        refine (hpr.same fun a xs ha => ?_).snoc ?_
        · rw [upd_ne (ne_of ha hacc (by intro z; cases z))]
          exact s2 _ _ ha
        · rw [upd_ne nDt]
          exact upd_same
    · rintro H2 ⟨s2, ts, hacc, hpr⟩
      rw [List.length_map, ← hlp, List.take_length] at hpr
      walk_at "rd"
      refine ⟨D, _, rfl, .inl ⟨SqL.of hacc, fun u nu => ?_⟩⟩
      have s12 := s1.trans s2
      have s3 := same_new (o := .tup (ts.map V.ref)) nu
      walk_at "rd"
      refine rd_disp rfl fun t2 nt2 => ?_
      have s4 := same_new (o := .tup [.int k, .ref u]) nt2
      refine q t2 u ts ps _ (s12.trans (s3.trans s4)) ((s12.trans s3).free nt2) (s12.free nu) upd_same ((upd_ne (ne_of_none upd_same nt2)).trans upd_same) (hpr.same (KT.same (s3.trans s4))) (by rw [epn]; exact hpm) (by rw [epn]; exact hpw) fun x hx => ?_
      rw [← hps] at hx
      obtain ⟨n, hn2, rfl⟩ := List.mem_map.mp hx
      obtain ⟨v, hv⟩ := key_there en (hpm.mem_iff.mp hn2)
      show valV m (.inl n) = some ((valV m (.inl n)).getD .non)
      rw [hv]
      rfl
theorem ok_incg (T : Tx K mg) (B : Bk K mg T) : FnOk P w K mg base CX0 3 B.incoming.f B.incoming.fd ["state"] (spIncg T.c_Incoming) := by
  have G_Incoming_init := ok_inc_init (P := P) (w := w) (base := base) T B
  refine B.incoming.F.ok sc_incoming (fun vs H Q E h => ?_) (fun cdv A outer s H vs Q E hr h => ?_)
  · obtain ⟨s, u, k, ts, ps, rfl, _⟩ := h
    rfl
  · obtain ⟨s, u, k, ts, ps, rfl, hs, hu, hpr, hl, hnd, q⟩ := h
    refine ⟨_, (pss_cons (ps_set (i := 1) sc_incoming.nd rfl (Or.inl rfl) (pe_make0 (mk_of_Incoming T B.Incoming_init) G_Incoming_init (hr.mono (by decide)) rfl T.g_Incoming B.Incoming_init.b .nil pass0))
      (pss_cons (ps_fld (pv 1) (pe_ix ix_tup (pv 0) pe_int (fun _ _ => rfl)) rfl)
      (pss_cons (ps_for PassesOwn.never rfl (pi_tup (pe_ix ix_tup (pv 0) pe_int (fun _ _ => rfl))) (pg_tup (by rfl) (pgs_cons (pg_name (i := 2) sc_incoming.nd rfl (Or.inl rfl)) (pgs_cons (pg_name (i := 3) sc_incoming.nd rfl (Or.inl rfl)) pgs_nil))) (pss_one (ps_dput (hu_of hr) (pe_fld (pv 1) rfl) (pv 2) (pv 3) rfl)))
      (pss_one (ps_ret (pv 1)))))), ?_⟩
    walk_at "rd"
    refine rd_make ?_
    walk_at "rd"
    intro x dx nx ndx ne
    refine ⟨x, dx, rfl, upd_same, fun d H1 f1 nd ho => ⟨rfl, ?_⟩⟩
    have S1 : Same H H1 := fun b o e => f1 b o (by simpa using ne_of_none e nx) (by rw [upd_ne (ne_of_none e nx), upd_ne (ne_of_none e ndx)]; exact e)
    have nxd := ho.ne
    obtain ⟨⟨dx1, hx1⟩, hd1⟩ := ho
    have nd0 : H d = none := by
      cases z : H d with
      | none => rfl
      | some o =>
        have n1 : d ≠ x := ne_of_none z nx
        have n2 : d ≠ dx := ne_of_none z ndx
        rw [upd_ne n1, upd_ne n2, z] at nd
        cases nd
    walk_at "rd"
    refine rd_sfld ?_
    walk_at "rd"
    refine rd_ixT (S1 _ _ hs) rfl ?_
    walk_at "rd"
    refine ⟨x, T.c_Incoming, dx1, _, rfl, hx1, T.W_Incoming.cl, T.na_many, (by show 2 < 1000; decide), ?_⟩
    rw [iF_put]
    dsimp only
    walk_at "rd"
    have S2 : Same H (upd H1 x (.ins T.c_Incoming dx1 (iF k d))) := fun b o e => (upd_ne (ne_of_none e nx)).trans (S1 b o e)
    have hd2 : (upd H1 x (.ins T.c_Incoming dx1 (iF k d))) d = some (.dK []) := (upd_ne nxd.symm).trans hd1
    show iTup _ _ _ _ _
    refine rd_itup ?_
    walk_at "rd"
    refine rd_ixT (S2 _ _ hs) rfl ?_
    refine ⟨u, rfl, ⟨_, SqT.of (S2 _ _ hu)⟩, for_tup (K := K) (a := u) (xs := ts.map V.ref) (fun i σ H2 => Same H H2 ∧ H2 x = some (.ins T.c_Incoming dx1 (iF k d)) ∧ H2 d = some (.dK ((ps.take i).map fun x => ((.inl x.1 : Key), x.2))) ∧ ∃ u1 u2, σ = [some (.ref s), some (.ref x), u1, u2])
      ⟨S2, upd_same, hd2, _, _, rfl⟩ (fun i σ H2 _ hh => SqT.of (hh.1 _ _ hu)) ?_ ?_⟩
    · rintro i y σ H2 hi ⟨hs2, hx2, hd3, u1, u2, rfl⟩
      rw [List.getElem?_map] at hi
      cases ht : ts[i]? with
      | none =>
        rw [ht] at hi
        cases hi
      | some t =>
        rw [ht] at hi
        obtain rfl : V.ref t = y := Option.some.inj hi
        have il := (List.getElem?_eq_some_iff.mp ht).1
        have ilp : i < ps.length := by rw [← hpr.1]; exact il
        have hpi : ps[i]? = some ps[i] := by simp [ilp]
        generalize ps[i] = pr at hpi
        have htt := hs2 _ _ (hpr.2 i t pr ht hpi)
        have hno : valV ((ps.take i).map fun x => ((.inl x.1 : Key), x.2)) (.inl pr.1) = none := by
          have e := valV_any (κ := Key) (.inl pr.1) ((ps.take i).map fun x => ((.inl x.1 : Key), x.2))
          cases z : valV ((ps.take i).map fun x => ((.inl x.1 : Key), x.2)) (.inl pr.1) with
          | none => rfl
          | some v =>
            rw [z] at e
            exfalso
            simp only [Option.isSome_some, List.any_map, List.any_eq_true, Function.comp_apply, decide_eq_true_eq] at e
            obtain ⟨x0, hx0, ex0⟩ := e
            obtain ⟨j, hj⟩ := List.mem_iff_getElem?.mp hx0
            rw [List.getElem?_take] at hj
            split at hj
            · have ex1 : x0.1 = pr.1 := by simpa using ex0
              have g1 : (ps.map (·.1))[j]? = some pr.1 := by rw [List.getElem?_map, hj, Option.map_some, ex1]
              have g2 : (ps.map (·.1))[i]? = some pr.1 := by rw [List.getElem?_map, hpi]; rfl
              have := (List.getElem?_inj (List.getElem?_eq_some_iff.mp g1).1 hnd).mp (g1.trans g2.symm)
              omega
            · cases hj
        refine ⟨t, _, rfl, SqT.of htt, rfl, _, _, rfl, _, _, rfl, rfl, ?_⟩
        walk_at "rd"
        refine ⟨x, T.c_Incoming, dx1, _, _, rfl, hx2, T.W_Incoming.cl, T.na_ahead, iF_ah _ _, ?_⟩
        walk_at "rd"
        refine ⟨d, _, rfl, DPut.k (k := .inl pr.1) hd3 (small1000 (by rw [List.length_map, List.length_take]; omega)), ?_⟩
        refine ⟨fun b o eb => (upd_ne (ne_of_none eb nd0)).trans (hs2 b o eb), (upd_ne nxd).trans hx2, ?_, _, _, rfl⟩
        rw [upd_same, putK_new _ hno, take_snoc hpi, List.map_append]
        rfl
    · rintro σ H2 ⟨hs2, hx2, hd3, u1, u2, rfl⟩
      walk_at "rd"
      rw [List.length_map, hpr.1, List.take_length] at hd3
      exact q x d H2 hs2 nx nd0 ⟨⟨dx1, hx2⟩, hd3⟩
theorem ok_icopy (T : Tx K mg) (B : Bk K mg T) : FnOk P w K mg base CX0 4 B.Incoming_copy.f B.Incoming_copy.fd ["self"] (spICopy T.c_Incoming) := by
  have G_Incoming_state := ok_istate (P := P) (w := w) (base := base) T B
  have G_incoming := ok_incg (P := P) (w := w) (base := base) T B
  refine B.Incoming_copy.F.ok sc_Incoming_copy (fun vs H Q E h => ?_) (fun cdv A outer s H vs Q E hr h => ?_)
  · obtain ⟨e, d, k, m, ns, rfl, _⟩ := h
    rfl
  · obtain ⟨e, d, k, m, ns, rfl, hi, en, hn, hnd, q⟩ := h
    obtain ⟨⟨dx, he⟩, hd⟩ := id hi
    refine ⟨_, (pss_one (ps_ret (pe_call G_incoming (hr.mono (by decide)) rfl B.incoming.m B.incoming.F.kp B.incoming.b .nil pass0 (pa_cons (pe_meth0 (pv 0) T.W_Incoming.cl ⟨B.Incoming_state.a, B.Incoming_state.i, B.Incoming_state.F.kp⟩ G_Incoming_state (hr.mono (by decide)) B.Incoming_state.b .nil pass0) pa_nil)))), ?_⟩
    walk_at "rd"
    refine rd_meth ?_
    walk_at "rd"
    refine ⟨e, dx, _, rfl, he, rfl, ?_⟩
    walk_at "rd"
    refine ⟨e, d, k, m, ns, rfl, hi, en, hn, fun t u ts ps H1 s1 nt nu ht hu hpr hpm hpw hpv => ?_⟩
    walk_at "rd"
    have hlp : ps.length = ns.length := by
      have := hpm.length_eq
      rwa [List.length_map] at this
    exact ⟨t, u, k, ts, ps, rfl, ht, hu, hpr, by omega, hpm.nodup_iff.mpr hnd, fun e2 d2 H2 s2 ne nd hi2 => q e2 d2 ps H2 (s1.trans s2) (s1.free ne) (s1.free nd) hi2 hpm hpw hpv⟩
end
end Mw

/-! C4 -/
namespace Mw
open PySem L2
mutual
def plainD : PyData → Bool
  | .none | .bool _ | .int _ | .str _ => true
  | .tuple ds => plainAll ds
  | .list _ | .dict _ => false
def plainAll : List PyData → Bool
  | [] => true
  | d :: ds => plainD d && plainAll ds
end
theorem plainAll_get : ∀ {ds : List PyData} {i : Nat} {d : PyData}, plainAll ds = true → ds[i]? = some d → plainD d = true
  | [], i, d, _, e => by simp at e
  | c :: ds, 0, d, h, e => by
    simp only [plainAll, Bool.and_eq_true] at h
    cases e
    exact h.1
  | c :: ds, i + 1, d, h, e => by
    simp only [plainAll, Bool.and_eq_true] at h
    exact plainAll_get h.2 (by simpa using e)
theorem depthAll_get : ∀ {ds : List PyData} {i : Nat} {d : PyData}, ds[i]? = some d → d.depth ≤ PyData.depthAll ds
  | [], i, d, e => by simp at e
  | c :: ds, 0, d, e => by
    cases e
    exact Nat.le_max_left _ _
  | c :: ds, i + 1, d, e => Nat.le_trans (depthAll_get (by simpa using e)) (Nat.le_max_right _ _)
section
variable {C p : Addr} {H H' : Hp}
mutual
theorem Tp.keepT (k : KT H H') : ∀ (d : PyData) (v : V), plainD d = true → Tp C p H d v → Tp C p H' d v
  | .none, v, _, h => by simpa only [Tp] using h
  | .bool b, v, _, h => by simpa only [Tp] using h
  | .int i, v, _, h => by simpa only [Tp] using h
  | .str s, v, _, h => by simpa only [Tp] using h
  | .list ds, v, c, _ => by simp only [plainD] at c; cases c
  | .dict _, v, c, _ => by simp only [plainD] at c; cases c
  | .tuple ds, v, c, h => by
    simp only [Tp] at h ⊢
    obtain ⟨a, xs, e, n, ha, r⟩ := h
    exact ⟨a, xs, e, n, k a _ ha, TpAll.keepT k ds xs (by simpa only [plainD] using c) r⟩
theorem TpAll.keepT (k : KT H H') : ∀ (ds : List PyData) (xs : List V), plainAll ds = true → TpAll C p H ds xs → TpAll C p H' ds xs
  | [], xs, _, h => by simpa only [TpAll] using h
  | d :: ds, xs, c, h => by
    simp only [TpAll] at h ⊢
    simp only [plainAll, Bool.and_eq_true] at c
    obtain ⟨x, r, e, h1, h2⟩ := h
    exact ⟨x, r, e, Tp.keepT k d x c.1 h1, TpAll.keepT k ds r c.2 h2⟩
end
theorem tpAll_snoc : ∀ {ls : List PyData} {d : PyData} {ys : List V}, TpAll C p H (ls ++ [d]) ys → ∃ ys0 y, ys = ys0 ++ [y] ∧ TpAll C p H ls ys0 ∧ Tp C p H d y
  | [], d, ys, h => by
    simp only [List.nil_append, TpAll] at h
    obtain ⟨x, r, rfl, h1, rfl⟩ := h
    exact ⟨[], x, rfl, tpAll_nil, h1⟩
  | a :: ls, d, ys, h => by
    simp only [List.cons_append, TpAll] at h
    obtain ⟨x, r, rfl, h1, h2⟩ := h
    obtain ⟨ys0, y, rfl, h3, h4⟩ := tpAll_snoc h2
    exact ⟨x :: ys0, y, rfl, tpAll_cons h1 h3, h4⟩
theorem tp_isIS {K : PySem.W.Frag} (W : WebTy K C) {d : PyData} {v : V} {t : Addr} {Q : VK} (h : Tp C p H d v) (ht : H t = some (.tup [.ty "int", .ty "str"])) (q : Q (.bl (isI d || isS d)) H) : rIsiT K [v, .ref t] H Q := by
  obtain ⟨c, ty, k1, _, _, _, k2⟩ := h.ty W
  refine ⟨v, t, _, c, [.type "int", .type "str"], _, rfl, ht, .cons (.ty _) (.cons (.ty _) .nil), ty, ?_, q⟩
  unfold PySem.W.kitAny
  rw [k1]
  cases isI d with
  | true => rfl
  | false =>
    show PySem.W.kitAny K c [.type "str"] = _
    unfold PySem.W.kitAny
    rw [k2]
    cases isS d <;> rfl
end
theorem plain_app : ∀ a b : List PyData, plainAll (a ++ b) = (plainAll a && plainAll b)
  | [], b => rfl
  | d :: a, b => by
    show (plainD d && plainAll (a ++ b)) = ((plainD d && plainAll a) && plainAll b)
    rw [plain_app a b, Bool.and_assoc]
mutual
def sz : PyData → Nat
  | .tuple ds => szAll ds + 1
  | _ => 1
def szAll : List PyData → Nat
  | [] => 0
  | d :: ds => sz d + szAll ds
end
theorem sz_app : ∀ a b : List PyData, szAll (a ++ b) = szAll a + szAll b
  | [], b => by
    show szAll b = 0 + szAll b
    omega
  | d :: a, b => by
    show sz d + szAll (a ++ b) = (sz d + szAll a) + szAll b
    rw [sz_app a b]
    omega
theorem sz_pos (d : PyData) : 1 ≤ sz d := by
  cases d <;> simp [sz]
theorem sz_len : ∀ a : List PyData, a.length ≤ szAll a
  | [] => Nat.zero_le _
  | d :: a => by
    show a.length + 1 ≤ sz d + szAll a
    have := sz_len a
    have := sz_pos d
    omega
theorem sz_mem : ∀ {a : List PyData} {i : Nat} {d : PyData}, a[i]? = some d → sz d ≤ szAll a
  | [], i, d, h => by simp at h
  | x :: a, 0, d, h => by
    simp at h
    subst h
    show sz x ≤ sz x + szAll a
    omega
  | x :: a, i + 1, d, h => by
    have := sz_mem (a := a) (i := i) (d := d) (by simpa using h)
    show sz d ≤ sz x + szAll a
    omega
theorem rd_bm0 {K : PySem.W.Frag} {n : String} {r : V → List V → Hp → VK → Prop} {to : TE} {σ : L2.St} {H : Hp} {Q : VK} (h : to σ H fun x H1 => tyV K n x H1 ∧ r x [] H1 Q) : tBM0 K n r to σ H Q := h
def isThing (d : PyData) : Bool := isT d && plainD d
def spThing (C : Addr) : Sp := fun vs H Q _ => ∃ p d x, vs = [x] ∧ Tp C p H d x ∧ sz d ≤ 900 ∧ ∀ H', Same H H' → Q (.bl (isThing d)) H'
section
variable {P : Program} {w : World} {K : PySem.W.Frag} {mg : Str → Option Value} {base : Heap}
local macro_rules | `(tactic| walk_at "rd") => `(tactic| (repeat (first
  | ((with_reducible refine' rd_var ?h0 ?_); (case h0 => rfl))
  | with_reducible refine rd_c ?_
  | with_reducible refine rd_op ?_
  | with_reducible refine rd_nil ?_
  | with_reducible refine rd_cons ?_
  | with_reducible refine rd_tup ?_
  | with_reducible refine rd_lst ?_
  | with_reducible refine rd_ifs ?_
  | with_reducible refine rd_seq ?_
  | with_reducible refine rd_next ?_
  | with_reducible refine rd_ret ?_
  | with_reducible refine rd_asg ?_
  | ((with_reducible refine' rd_gset ?hs ?_); (case hs => ((simp only [L2.start, List.map_cons, List.map_nil, List.length_cons, List.length_nil, List.cons_append, List.nil_append, List.set_cons_zero, List.set_cons_succ, Nat.reduceAdd, Nat.reduceSub, Nat.zero_add, List.reduceReplicate]); rfl)))
  | with_reducible refine rd_drop ?_
  | with_reducible refine rd_test ?_
  | with_reducible refine rd_B ?_
  | with_reducible refine rd_bl ?_
  | with_reducible refine rd_blP ?_
  | with_reducible refine rd_andV ?_
  | with_reducible refine rd_orV ?_
  | with_reducible refine rd_notV ?_
  | with_reducible refine rd_and ?_
  | with_reducible refine rd_or ?_
  | with_reducible refine rd_not ?_
  | with_reducible refine rd_chain ?_
  | with_reducible refine rd_dput ?_
  | with_reducible refine rd_dget ?_
  | with_reducible refine rd_cb ?_
  | with_reducible refine rd_call ?_
  | with_reducible refine rd_un ?_
  | with_reducible refine rd_sl ?_
  | with_reducible refine rd_nopart ?_
  | with_reducible refine rd_part ?_
  | with_reducible refine rd_intP ?_
  | with_reducible refine rd_rU ?_
  | with_reducible refine rd_fld ?_
  | with_reducible refine rd_eqI ?_
  | with_reducible refine rd_neI ?_
  | with_reducible refine rd_mko ?_
  | with_reducible refine rd_bm ?_
  | with_reducible refine rd_gsub ?_
  | with_reducible refine rd_i0 ?_)))
theorem ok_is_thing (T : Tx K mg) (B : Bk K mg T) : FnOk P w K mg base CX0 1 B.is_thing.f B.is_thing.fd ["thing"] (spThing T.c_Outgoing) := by
  refine B.is_thing.F.ok sc_is_thing (fun vs H Q E h => ?_) (fun cdv A outer s H vs Q E hr h => ?_)
  · obtain ⟨p, d, x, rfl, _⟩ := h
    rfl
  · obtain ⟨p, d, x, rfl, hd, hz, q⟩ := h
    refine ⟨_, (pss_cons (ps_if (pt_not (pt_val (pe_callB call_isi (by rfl) T.b_isinstance (by decide +kernel) (pa_cons (pv 0) (pa_cons (pe_bltn (v := .ty "tuple") (by rfl) T.b_tuple (by decide +kernel) rfl) pa_nil))))) (pss_one (ps_ret pe_bl)) pss_nil)
      (pss_cons (ps_set (i := 1) sc_is_thing.nd rfl (Or.inl rfl) (pe_lst (pa_cons (pv 0) pa_nil)))
      (pss_cons (ps_while PassesOwn.never (pt_truth (pv 1) (by intro _; rfl)) (pss_cons (ps_set (i := 2) sc_is_thing.nd rfl (Or.inl rfl) (pe_bm0 PySem.F.plainAttrs_list PySem.F.slot_list_pop PySem.F.type_list_pop mt_pop (pv 1)))
      (pss_one (ps_for PassesOwn.never rfl (pi_tup (pv 2)) (pg_name (i := 3) sc_is_thing.nd rfl (Or.inl rfl)) (pss_one (ps_if (pt_val (pe_callB call_isi (by rfl) T.b_isinstance (by decide +kernel) (pa_cons (pv 3) (pa_cons (pe_bltn (v := .ty "tuple") (by rfl) T.b_tuple (by decide +kernel) rfl) pa_nil)))) (pss_one (ps_expr (pe_bm PySem.F.plainAttrs_list PySem.F.slot_list_append PySem.F.type_list_append mt_append (pv 1) (pa_cons (pv 3) pa_nil)))) (pss_one (ps_if (PW.pt (pw_and (pt_cmpR op_notN (pv 3) pe_non (nomark _)) (pw_and1 (pt_not (pt_val (pe_callB call_isiT (by rfl) T.b_isinstance (by decide +kernel) (pa_cons (pv 3) (pa_cons (pe_tup (pa_cons (pe_bltn (v := .ty "int") (by rfl) T.b_int (by decide +kernel) rfl) (pa_cons (pe_bltn (v := .ty "str") (by rfl) T.b_str (by decide +kernel) rfl) pa_nil))) pa_nil)))))))) (pss_one (ps_ret pe_bl)) pss_nil))))))))
      (pss_one (ps_ret pe_bl))))), ?_⟩
    walk_at "rd"
    refine tp_isT T.W_Outgoing hd ?_
    walk_at "rd"
    refine rd_ite (fun h1 => ?_) (fun h1 => ?_)
    · walk_at "rd"
      have z := q _ (Same.refl H)
      unfold isThing at z
      rw [show isT d = false by simpa using h1, Bool.false_and] at z
      exact z
    · have hT : isT d = true := by simpa using h1
      have eT : isThing d = plainD d := by
        unfold isThing
        rw [hT, Bool.true_and]
      rw [eT] at q
      walk_at "rd"
      refine rd_disp rfl fun l nl => ?_
      have s0 := same_new (o := .lst [x]) nl
      walk_at "rd"
      refine ⟨fun μ σ H1 => ∃ ls ys u1 u2, σ = [some x, some (.ref l), u1, u2] ∧ Same H H1 ∧ H1 l = some (.lst ys) ∧ TpAll T.c_Outgoing p H ls ys ∧ (∀ e ∈ ls, isT e = true) ∧ plainD d = plainAll ls ∧ μ = szAll ls ∧ szAll ls ≤ 900,
        ⟨_, [d], [x], none, none, rfl, s0, upd_same, tpAll_cons hd tpAll_nil, fun e he => by rw [show e = d by simpa using he]; exact hT, by show plainD d = (plainD d && true); rw [Bool.and_true], rfl, by show sz d + 0 ≤ 900; omega⟩, ?_⟩
      rintro μ σ H1 ⟨ls, ys, u1, u2, rfl, hs, hl, hy, hTs, hpl, hμ, hμ9⟩
      have hly := hy.len
      have hll := sz_len ls
      walk_at "rd"
      refine ⟨_, .inl ⟨ys, SqL.of hl, rfl⟩, ?_⟩
      dsimp only
      refine rd_ite (fun h2 => ?_) (fun h2 => ?_)
      · obtain ⟨ls0, dl, rfl⟩ : ∃ ls0 dl, ls = ls0 ++ [dl] := by
          rcases List.eq_nil_or_concat ls with e | ⟨a, b, e⟩
          · subst e
            have : ys = [] := List.eq_nil_of_length_eq_zero (by simpa using hly.symm)
            subst this
            cases h2
          · exact ⟨a, b, by rw [e, List.concat_eq_append]⟩
        obtain ⟨ys0, yl, rfl, hy0, hyl⟩ := tpAll_snoc hy
        have hdT := hTs dl (by simp)
        rw [plain_app] at hpl
        rw [sz_app] at hμ hμ9
        cases dl with
        | tuple ds =>
          obtain ⟨c, zs, rfl, hc, hzs⟩ := tp_tup' hyl
          have hlz := hzs.len
          have eszl : szAll [PyData.tuple ds] = szAll ds + 1 := rfl
          have eppl : plainAll [PyData.tuple ds] = plainAll ds := by
            show (plainAll ds && true) = plainAll ds
            rw [Bool.and_true]
          rw [eszl] at hμ hμ9
          rw [eppl] at hpl
          refine ⟨fun σ' H' => ∃ m', m' < μ ∧ ∃ ls ys u1 u2, σ' = [some x, some (.ref l), u1, u2] ∧ Same H H' ∧ H' l = some (.lst ys) ∧ TpAll T.c_Outgoing p H ls ys ∧ (∀ e ∈ ls, isT e = true) ∧ plainD d = plainAll ls ∧ m' = szAll ls ∧ szAll ls ≤ 900, fun _ _ h => h, ?_⟩
          walk_at "rd"
          refine rd_bm0 ?_
          walk_at "rd"
          refine ⟨.inl ⟨rfl, _, SqL.of hl⟩, ?_⟩
          refine ⟨l, _, .ref c, rfl, rfl, hl, by simp, ?_⟩
          rw [List.dropLast_concat]
          walk_at "rd"
          have s2 : Same H (upd H1 l (.lst ys0)) := fun b o e => (upd_ne (ne_of_none e nl)).trans (hs b o e)
          refine ⟨_, rfl, c, rfl, ⟨zs, SqT.of (s2 _ _ hc.2)⟩, for_tup (K := K) (a := c) (xs := zs) (fun i σ H2 => ∃ ls2 ys2 u2, σ = [some x, some (.ref l), some (.ref c), u2] ∧ Same H H2 ∧ H2 l = some (.lst ys2) ∧ TpAll T.c_Outgoing p H ls2 ys2 ∧ (∀ e ∈ ls2, isT e = true) ∧ plainD d = (plainAll ls2 && plainAll (ds.drop i)) ∧ szAll ls2 + szAll (ds.drop i) < μ)
            ⟨ls0, ys0, u2, rfl, s2, upd_same, hy0, fun e he => hTs e (by simp [he]), hpl, by rw [List.drop_zero]; omega⟩ (fun i σ H2 _ hh => by
              obtain ⟨ls2, ys2, u2, _, hs2, _⟩ := hh
              exact SqT.of (hs2 _ _ hc.2)) ?_ ?_⟩
          · rintro i y σ H2 hi ⟨ls2, ys2, u2, rfl, hs2, hl2, hy2, hT2, hp2, hz2⟩
            obtain ⟨d1, hd1, td1⟩ := hzs.get' hi
            have il := (List.getElem?_eq_some_iff.mp hd1).1
            have edr : ds.drop i = d1 :: ds.drop (i + 1) := by
              rw [List.drop_eq_getElem_cons il]
              congr 1
              exact (List.getElem?_eq_some_iff.mp hd1).2
            rw [edr] at hp2 hz2
            have hp3 : plainD d = (plainAll ls2 && (plainD d1 && plainAll (ds.drop (i + 1)))) := hp2
            have hz3 : szAll ls2 + (sz d1 + szAll (ds.drop (i + 1))) < μ := hz2
            have hz1 := sz_pos d1
            have l2 := hy2.len
            have l3 := sz_len ls2
            have td2 := Tp.keep (Keep.same (p := p) hs2) _ _ td1
            have go : ∀ H3, Same H2 H3 → plainD d1 = true → ∃ ls2 ys2 u2, [some x, some (V.ref l), some (.ref c), some y] = [some x, some (.ref l), some (.ref c), u2] ∧ Same H H3 ∧ H3 l = some (.lst ys2) ∧ TpAll T.c_Outgoing p H ls2 ys2 ∧ (∀ e ∈ ls2, isT e = true) ∧ plainD d = (plainAll ls2 && plainAll (ds.drop (i + 1))) ∧ szAll ls2 + szAll (ds.drop (i + 1)) < μ := fun H3 s3 hpd =>
              ⟨ls2, ys2, _, rfl, hs2.trans s3, s3 _ _ hl2, hy2, hT2, by rw [hp3, hpd, Bool.true_and], by omega⟩
            walk_at "rd"
            refine tp_isT T.W_Outgoing td2 ?_
            walk_at "rd"
            refine rd_ite (fun h3 => ?_) (fun h3 => ?_)
            · walk_at "rd"
              refine ⟨.inl ⟨rfl, _, SqL.of hl2⟩, ?_⟩
              walk_at "rd"
              refine rd_append hl2 (small1000 (by omega)) ?_
              refine ⟨ls2 ++ [d1], ys2 ++ [y], _, rfl, fun b o e => (upd_ne (ne_of_none e nl)).trans (hs2 b o e), upd_same, hy2.append (tpAll_cons td1 tpAll_nil), fun e he => ?_, ?_, ?_⟩
              · rcases List.mem_append.mp he with z | z
                · exact hT2 e z
                · rw [show e = d1 by simpa using z]
                  exact h3
              · rw [plain_app, hp3, Bool.and_assoc]
                show _ = (plainAll ls2 && ((plainD d1 && true) && _))
                rw [Bool.and_true]
              · rw [sz_app]
                show szAll ls2 + (sz d1 + 0) + _ < μ
                omega
            · walk_at "rd"
              refine ⟨rfl, ?_⟩
              walk_at "rd"
              cases d1 with
              | tuple es => cases h3
              | none =>
                have ey : y = .non := by simpa only [Tp] using td1
                subst ey
                refine rd_no rfl ?_
                refine rd_no rfl ?_
                exact go _ (Same.refl _) rfl
              | bool b =>
                have ey : y = .bl b := by simpa only [Tp] using td1
                subst ey
                refine rd_yes rfl ?_
                walk_at "rd"
                refine rd_disp rfl fun t1 nt1 => ?_
                have s3 := same_new (o := .tup [.ty "int", .ty "str"]) nt1
                walk_at "rd"
                refine tp_isIS T.W_Outgoing (Tp.keep (Keep.same s3) _ _ td2) upd_same ?_
                walk_at "rd"
                refine rd_no rfl ?_
                exact go _ s3 rfl
              | int b =>
                cases tp_int' td1
                refine rd_yes rfl ?_
                walk_at "rd"
                refine rd_disp rfl fun t1 nt1 => ?_
                have s3 := same_new (o := .tup [.ty "int", .ty "str"]) nt1
                walk_at "rd"
                refine tp_isIS T.W_Outgoing (Tp.keep (Keep.same s3) _ _ td2) upd_same ?_
                walk_at "rd"
                refine rd_no rfl ?_
                exact go _ s3 rfl
              | str b =>
                cases tp_str' td1
                refine rd_yes rfl ?_
                walk_at "rd"
                refine rd_disp rfl fun t1 nt1 => ?_
                have s3 := same_new (o := .tup [.ty "int", .ty "str"]) nt1
                walk_at "rd"
                refine tp_isIS T.W_Outgoing (Tp.keep (Keep.same s3) _ _ td2) upd_same ?_
                walk_at "rd"
                refine rd_no rfl ?_
                exact go _ s3 rfl
              | list es =>
                have ey : ∃ a, y = .ref a := by
                  simp only [Tp] at td1
                  obtain ⟨a, _, e, _⟩ := td1
                  exact ⟨a, e⟩
                obtain ⟨a, rfl⟩ := ey
                refine rd_yes rfl ?_
                walk_at "rd"
                refine rd_disp rfl fun t1 nt1 => ?_
                have s3 := same_new (o := .tup [.ty "int", .ty "str"]) nt1
                walk_at "rd"
                refine tp_isIS T.W_Outgoing (Tp.keep (Keep.same s3) _ _ td2) upd_same ?_
                walk_at "rd"
                refine rd_yes rfl ?_
                walk_at "rd"
                have z := q _ (hs2.trans s3)
                rw [hp3] at z
                simpa [plainD] using z
              | dict es =>
                have ey : ∃ a, y = .ref a := by
                  simp only [Tp] at td1
                  obtain ⟨a, e, _⟩ := td1
                  exact ⟨a, e⟩
                obtain ⟨a, rfl⟩ := ey
                refine rd_yes rfl ?_
                walk_at "rd"
                refine rd_disp rfl fun t1 nt1 => ?_
                have s3 := same_new (o := .tup [.ty "int", .ty "str"]) nt1
                walk_at "rd"
                refine tp_isIS T.W_Outgoing (Tp.keep (Keep.same s3) _ _ td2) upd_same ?_
                walk_at "rd"
                refine rd_yes rfl ?_
                walk_at "rd"
                have z := q _ (hs2.trans s3)
                rw [hp3] at z
                simpa [plainD] using z
          · rintro σ H2 ⟨ls2, ys2, u2, rfl, hs2, hl2, hy2, hT2, hp2, hz2⟩
            rw [← hlz, List.drop_length] at hp2 hz2
            exact ⟨_, Nat.lt_of_le_of_lt (Nat.le_add_right _ _) hz2, ls2, ys2, _, _, rfl, hs2, hl2, hy2, hT2, by rw [hp2]; show (_ && true) = _; rw [Bool.and_true], rfl, by omega⟩
        | _ => cases hdT
      · have hnil : ls = [] := by
          cases ys with
          | nil => exact List.eq_nil_of_length_eq_zero (by simpa using hly)
          | cons a b => cases h2
        subst hnil
        walk_at "rd"
        have z := q H1 hs
        rw [hpl] at z
        exact z
end
end Mw

/-! C5 -/
namespace Mw
open PySem L2
def areT : PyData → Bool
  | .tuple ds => (ds.map isThing).all id
  | _ => false
def isOut : PyData → Bool
  | .tuple [g, ts] => isNb 4294967296 g && areT ts
  | _ => false
def isNumd : PyData → Bool
  | .tuple [n, t] => isNum n && isThing t
  | _ => false
def numD : PyData → Int
  | .tuple (.int n :: _) => n
  | _ => 0
def asc (l : List Int) : Bool := ((l.zip l.tail).map fun x => decide (x.1 < x.2)).all id
def canH (k : Int) : PyData → Bool
  | .tuple ds => (ds.map isNumd).all id && (asc (k :: ds.map numD) && decide ((k :: ds.map numD).getLast?.getD 0 < k + 1000))
  | _ => false
def isIn : PyData → Bool
  | .tuple [.int k, ps] => isNb 4294967296 (.int k) && canH k ps
  | _ => false
def spAre (C : Addr) : Sp := fun vs H Q _ => ∃ p d x, vs = [x] ∧ Tp C p H d x ∧ sz d ≤ 900 ∧ ∀ H', Same H H' → Q (.bl (areT d)) H'
def spIsOut (C : Addr) : Sp := fun vs H Q _ => ∃ p d x, vs = [x] ∧ Tp C p H d x ∧ sz d ≤ 900 ∧ ∀ H', Same H H' → Q (.bl (isOut d)) H'
def spIsIn (C : Addr) : Sp := fun vs H Q _ => ∃ p d x, vs = [x] ∧ Tp C p H d x ∧ sz d ≤ 900 ∧ ∀ H', Same H H' → Q (.bl (isIn d)) H'
def spNumd (C : Addr) : Sp := fun vs H Q _ => ∃ p d x, vs = [x] ∧ Tp C p H d x ∧ sz d ≤ 900 ∧ ∀ H', Same H H' → Q (.bl (isNumd d)) H'
def spCanH (C : Addr) : Sp := fun vs H Q _ => ∃ p k d x, vs = [.int k, x] ∧ Tp C p H d x ∧ sz d ≤ 900 ∧ ∀ H', Same H H' → Q (.bl (canH k d)) H'
def spOutOf (C CS : Addr) : Sp := fun vs H Q E => ∃ p d x, vs = [x] ∧ Tp C p H d x ∧ sz d ≤ 900 ∧ (isOut d = true → ∀ a l g xs ds H', Same H H' → H a = none → H l = none → OutAt C H' a l g xs → d = .tuple [.int g, .tuple ds] → TpAll C p H' ds xs → Q (.ref a) H') ∧ (isOut d = false → ∀ H', Same H H' → E (.ref CS) none H')
/-- pairs of number and thing, as data and as values -/
def PrsD (C p : Addr) (H : Hp) (pds : List PyData) (ps : List (Int × V)) : Prop := pds.length = ps.length ∧ ∀ (j : Nat) d x, pds[j]? = some d → ps[j]? = some x → ∃ th, d = .tuple [.int x.1, th] ∧ Tp C p H th x.2
theorem PrsD.keep {C p : Addr} {H H' : Hp} {pds : List PyData} {ps : List (Int × V)} (h : PrsD C p H pds ps) (k : Keep p H H') : PrsD C p H' pds ps := ⟨h.1, fun j d x h1 h2 => by
  obtain ⟨th, e, t⟩ := h.2 j d x h1 h2
  exact ⟨th, e, Tp.keep k _ _ t⟩⟩
def spIncOf (C CI CS : Addr) : Sp := fun vs H Q E => ∃ p d x, vs = [x] ∧ Tp C p H d x ∧ sz d ≤ 900 ∧ (isIn d = true → ∀ e dd k ps pds H', Same H H' → H e = none → H dd = none → IncAt CI H' e dd k (ps.map fun x => (.inl x.1, x.2)) → d = .tuple [.int k, .tuple pds] → PrsD C p H' pds ps → Q (.ref e) H') ∧ (isIn d = false → ∀ H', Same H H' → E (.ref CS) none H')
theorem tpAll2 {C p : Addr} {H : Hp} {a b : PyData} {xs : List V} (h : TpAll C p H [a, b] xs) : ∃ x y, xs = [x, y] ∧ Tp C p H a x ∧ Tp C p H b y := by
  simp only [TpAll] at h
  obtain ⟨x, _, rfl, h1, y, _, rfl, h2, rfl⟩ := h
  exact ⟨x, y, rfl, h1, h2⟩
theorem two_of {n : Int} {ds : List PyData} (h : isTupN 2 (.tuple ds) = true) : ∃ a b, ds = [a, b] := by
  have : (ds.length : Int) = 2 := of_decide_eq_true h
  match ds, this with
  | [a, b], _ => exact ⟨a, b, rfl⟩
  | [], h => simp at h
  | [_], h => simp at h
  | _ :: _ :: _ :: r, h => simp at h; omega
section
variable {K : PySem.W.Frag} {a b : Addr} {xs ys : List V}
theorem cut_tail : ∀ ws : List V, cutV ws (some 1) none = ws.tail
  | [] => rfl
  | x :: ws => by
    have e1 : HT.sIx (x :: ws).length 0 (some 1) = 1 := by
      show min 1 (ws.length + 1) = 1
      omega
    unfold cutV
    rw [e1, HT.sIx_none]
    simp
theorem rd_slL1 {r : Addr} {ws : List Int} {H : Hp} {Q : VK} (h : H r = some (.lst (ws.map V.int))) (q : ∀ p, H p = none → Q (.ref p) (upd H p (.lst (ws.tail.map V.int)))) : rSlL K (.ref r) (some 1) none H Q :=
  ⟨r, _, rfl, SqL.of h, fun p hp => by
    rw [cut_tail, ← List.map_tail]
    exact q p hp⟩
theorem lc_zipS {g : TG} {tt : TT} {te : TE} {vs : List Nat} {σ : L2.St} {H1 : Hp} {D : Addr} {Qd : Hp → Prop} (hl : ys.length ≤ xs.length) (Pv : Nat → Hp → Prop) (h0 : Pv 0 (upd H1 D (.lst [])))
    (hq : ∀ i H, Pv i H → SqL K H a xs ∧ SqL K H b ys)
    (hs : ∀ (i : Nat) (x y : V) (t : Addr) (H : Hp), xs[i]? = some x → ys[i]? = some y → Pv i H → H t = none → g (.ref t) (wipe σ vs) (upd H t (.tup [x, y])) fun σ2 H2 => wipe σ2 vs = wipe σ vs ∧
      tt σ2 H2 fun b H3 => if b = true then te σ2 H3 fun y H4 => ∃ acc, H4 D = some (.lst acc) ∧ acc.length < sizeLine ∧ Pv (i + 1) (upd H4 D (.lst (acc ++ [y]))) else Pv (i + 1) H3)
    (hd : ∀ H, Pv ys.length H → Qd H) :
    ∃ W : Nat → Nat → Hp → Prop, (∃ m, W 0 m (upd H1 D (.lst []))) ∧ ∀ i m H, W i m H → (Itz K a b).stop i H ∧ Qd H ∨ (Itz K a b).go i H ∧ ∃ Nx : Hp → Prop, (∀ H', Nx H' → ∃ m', m' < m ∧ W (i + 1) m' H') ∧
      ∀ x H', (Itz K a b).yld i H x H' → g x (wipe σ vs) H' fun σ2 H2 => wipe σ2 vs = wipe σ vs ∧ tt σ2 H2 fun b H3 => if b = true then te σ2 H3 fun y H4 => ∃ acc, H4 D = some (.lst acc) ∧ acc.length < sizeLine ∧ Nx (upd H4 D (.lst (acc ++ [y]))) else Nx H3 := by
  refine ⟨fun i m H => m = ys.length - i ∧ i ≤ ys.length ∧ Pv i H, ⟨_, rfl, Nat.zero_le _, h0⟩, ?_⟩
  rintro i m H ⟨rfl, hi, hP⟩
  obtain ⟨q1, q2⟩ := hq i H hP
  by_cases e : i = ys.length
  · exact .inl ⟨⟨xs, ys, q1, q2, .inr (Nat.le_of_eq e.symm)⟩, hd H (e ▸ hP)⟩
  · have hlt : i < ys.length := by omega
    have hy : ys[i]? = some ys[i] := by simp [hlt]
    have hx : xs[i]? = some (xs[i]'(Nat.lt_of_lt_of_le hlt hl)) := by simp
    refine .inr ⟨⟨xs, ys, _, _, q1, q2, hx, hy⟩, Pv (i + 1), fun H' h => ⟨ys.length - (i + 1), by omega, rfl, by omega, h⟩, ?_⟩
    rintro v H' ⟨t, x, y, rfl, ht, rfl, ex, ey⟩
    exact hs i x y t H (ex xs q1) (ey ys q2) hP ht
end
section
variable {P : Program} {w : World} {K : PySem.W.Frag} {mg : Str → Option Value} {base : Heap}
local macro_rules | `(tactic| walk_at "rd") => `(tactic| (repeat (first
  | ((with_reducible refine' rd_var ?h0 ?_); (case h0 => rfl))
  | with_reducible refine rd_c ?_
  | with_reducible refine rd_op ?_
  | with_reducible refine rd_nil ?_
  | with_reducible refine rd_cons ?_
  | with_reducible refine rd_tup ?_
  | with_reducible refine rd_lst ?_
  | with_reducible refine rd_ifs ?_
  | with_reducible refine rd_seq ?_
  | with_reducible refine rd_next ?_
  | with_reducible refine rd_ret ?_
  | with_reducible refine rd_asg ?_
  | ((with_reducible refine' rd_gset ?hs ?_); (case hs => ((simp only [L2.start, List.map_cons, List.map_nil, List.length_cons, List.length_nil, List.cons_append, List.nil_append, List.set_cons_zero, List.set_cons_succ, Nat.reduceAdd, Nat.reduceSub, Nat.zero_add, List.reduceReplicate]); rfl)))
  | with_reducible refine rd_drop ?_
  | with_reducible refine rd_test ?_
  | with_reducible refine rd_B ?_
  | with_reducible refine rd_bl ?_
  | with_reducible refine rd_blP ?_
  | with_reducible refine rd_andV ?_
  | with_reducible refine rd_orV ?_
  | with_reducible refine rd_notV ?_
  | with_reducible refine rd_and ?_
  | with_reducible refine rd_or ?_
  | with_reducible refine rd_not ?_
  | with_reducible refine rd_chain ?_
  | with_reducible refine rd_dput ?_
  | with_reducible refine rd_dget ?_
  | with_reducible refine rd_cb ?_
  | with_reducible refine rd_call ?_
  | with_reducible refine rd_un ?_
  | with_reducible refine rd_sl ?_
  | with_reducible refine rd_nopart ?_
  | with_reducible refine rd_part ?_
  | with_reducible refine rd_intP ?_
  | with_reducible refine rd_rU ?_
  | with_reducible refine rd_fld ?_
  | with_reducible refine rd_eqI ?_
  | with_reducible refine rd_neI ?_
  | with_reducible refine rd_mko ?_
  | with_reducible refine rd_bm ?_
  | with_reducible refine rd_gsub ?_
  | with_reducible refine rd_i0 ?_)))
theorem ok_is_ostate (T : Tx K mg) (B : Bk K mg T) : FnOk P w K mg base CX0 5 B.is_outgoing_state.f B.is_outgoing_state.fd ["thing"] (spIsOut T.c_Outgoing) := by
  have G_is_tuple_of := ok_is_tuple_of (P := P) (w := w) (base := base) T B
  have G_is_link_number := ok_is_link_number (P := P) (w := w) (base := base) T B
  have G_is_thing := ok_is_thing (P := P) (w := w) (base := base) T B
  refine B.is_outgoing_state.F.ok sc_is_outgoing_state (fun vs H Q E h => ?_) (fun cdv A outer s H vs Q E hr h => ?_)
  · obtain ⟨p, d, x, rfl, _⟩ := h
    rfl
  · obtain ⟨p, d, x, rfl, hd, hz, q⟩ := h
    have no : isOut d = false → Q (.bl false) H := fun z => by
      have := q H (Same.refl H)
      rw [z] at this
      exact this
    refine ⟨_, (pss_cons (ps_if (PW.pt (pw_or (pt_not (pt_val (pe_call G_is_tuple_of (hr.mono (by decide)) rfl B.is_tuple_of.m B.is_tuple_of.F.kp B.is_tuple_of.b .nil pass0 (pa_cons pe_int (pa_cons (pv 0) pa_nil))))) (pw_or (pt_not (pt_val (pe_call G_is_link_number (hr.mono (by decide)) rfl B.is_link_number.m B.is_link_number.F.kp B.is_link_number.b .nil pass0 (pa_cons (pe_ix ix_tup (pv 0) pe_int (fun _ _ => rfl)) pa_nil)))) (pw_or1 (pt_not (pt_val (pe_callB call_isi (by rfl) T.b_isinstance (by decide +kernel) (pa_cons (pe_ix ix_tup (pv 0) pe_int (fun _ _ => rfl)) (pa_cons (pe_bltn (v := .ty "tuple") (by rfl) T.b_tuple (by decide +kernel) rfl) pa_nil))))))))) (pss_one (ps_ret pe_bl)) pss_nil)
      (pss_one (ps_ret (pe_callB (cr_all rfl) (by rfl) T.b_all (by decide +kernel) (pa_cons (pe_lc (own := [("item", 1)]) (g := gName 1) rfl sc_is_outgoing_state.nd (pi_tup (pe_ix ix_tup (pv 0) pe_int (fun _ _ => rfl))) (blkOk_by (own := [("item", 1)]) (N := ["thing", "item"]) (sc := defScope s_is_outgoing_state) (by decide +kernel)) (fun _ _ _ _ _ => pg_name (i := 1) sc_is_outgoing_state.nd rfl (Or.inl rfl)) (fun _ _ _ _ _ => pts_nil) (fun _ _ _ _ _ => (pe_call G_is_thing (hr.mono (by decide)) rfl B.is_thing.m B.is_thing.F.kp B.is_thing.b .nil pass0 (pa_cons (pv 1) pa_nil)))) pa_nil))))), ?_⟩
    walk_at "rd"
    refine ⟨p, 2, d, x, rfl, hd, ?_⟩
    walk_at "rd"
    refine rd_ite (fun h1 => ?_) (fun h1 => ?_)
    · refine rd_yes rfl ?_
      walk_at "rd"
      have h1' : isTupN 2 d = false := by simpa using h1
      refine no ?_
      unfold isOut
      split
      · cases h1'
      · rfl
    · have h1' : isTupN 2 d = true := by simpa using h1
      cases d with
      | tuple ds =>
        obtain ⟨a, b, rfl⟩ := two_of (n := 2) h1'
        obtain ⟨c, ys, rfl, hc, hy⟩ := tp_tup' hd
        obtain ⟨x1, x2, rfl, t1, t2⟩ := tpAll2 hy
        have hz2 : (sz a + (sz b + 0)) + 1 ≤ 900 := hz
        walk_at "rd"
        refine rd_ixT hc.2 rfl ?_
        walk_at "rd"
        refine ⟨p, a, x1, rfl, t1, ?_⟩
        walk_at "rd"
        refine rd_ite (fun h2 => ?_) (fun h2 => ?_)
        · refine rd_yes rfl ?_
          walk_at "rd"
          refine no ?_
          show (isNb 4294967296 a && areT b) = false
          rw [show isNb 4294967296 a = false by simpa using h2]
          rfl
        · have h2' : isNb 4294967296 a = true := by simpa using h2
          walk_at "rd"
          refine rd_ixT hc.2 rfl ?_
          walk_at "rd"
          refine tp_isT T.W_Outgoing t2 ?_
          walk_at "rd"
          cases b with
          | tuple es =>
            obtain ⟨c2, zs, rfl, hc2, hz3⟩ := tp_tup' t2
            have hly := hz3.len
            have hl := sz_len es
            have hzb : sz (PyData.tuple es) = szAll es + 1 := rfl
            refine rd_no rfl ?_
            walk_at "rd"
            show iTup _ _ _ _ _
            refine rd_itup ?_
            walk_at "rd"
            refine rd_ixT hc.2 rfl ?_
            refine ⟨c2, rfl, ⟨zs, SqT.of hc2.2⟩, fun D hD => lc_tup (K := K) (a := c2) (xs := zs)
              (fun i H1 => Same H H1 ∧ H1 D = some (.lst (((es.take i).map isThing).map V.bl))) ⟨same_new hD, upd_same⟩ (fun i H1 _ hh => SqT.of (hh.1 _ _ hc2.2)) ?_ ?_⟩
            · rintro i y H1 hi ⟨hs, hacc⟩
              obtain ⟨d1, hd1, td1⟩ := hz3.get' hi
              have := sz_mem hd1
              refine ⟨rfl, ?_⟩
              refine rd_tyes ?_
              refine rd_yes rfl ?_
              walk_at "rd"
              refine ⟨p, d1, y, rfl, Tp.keep (Keep.same hs) _ _ td1, by omega, fun H2 s2 => ?_⟩
              refine ⟨_, s2 _ _ hacc, ?_, fun b o e => ?_, ?_⟩
              · refine Nat.lt_of_le_of_lt (?_ : _ ≤ 1000) (by decide)
                rw [List.length_map, List.length_map]
                exact Nat.le_trans (List.length_take_le' _ _) (by omega)
              · rw [upd_ne (ne_of_none e hD)]
                exact s2 _ _ (hs b o e)
              · rw [upd_same, take_snoc hd1, List.map_append, List.map_append]
                rfl
            · rintro H1 ⟨s1, a1⟩
              rw [List.take_of_length_le (by omega)] at a1
              refine ⟨D, _, rfl, SqL.of a1, ?_⟩
              have z := q H1 s1
              rw [show isOut (.tuple [a, .tuple es]) = (isNb 4294967296 a && (es.map isThing).all id) from rfl, h2', Bool.true_and] at z
              exact z
          | _ =>
            refine rd_yes rfl ?_
            walk_at "rd"
            refine no ?_
            show (isNb 4294967296 a && false) = false
            rw [Bool.and_false]
      | _ => cases h1'
theorem isOut_form {d : PyData} (h : isOut d = true) : ∃ g es, d = .tuple [.int g, .tuple es] := by
  unfold isOut at h
  split at h
  · rename_i a b
    rw [Bool.and_eq_true] at h
    obtain ⟨h1, h2⟩ := h
    cases a with
    | int g =>
      cases b with
      | tuple es => exact ⟨g, es, rfl⟩
      | _ => cases h2
    | _ => cases h1
  · cases h
theorem ok_outgoing_of (T : Tx K mg) (B : Bk K mg T) : FnOk P w K mg base (L2.CX P w) 6 B.outgoing_of.f B.outgoing_of.fd ["state"] (spOutOf T.c_Outgoing T.c_NoState) := by
  have G_is_outgoing_state := ok_is_ostate (P := P) (w := w) (base := base) T B
  have G_outgoing := ok_outg (P := P) (w := w) (base := base) T B
  have G_NoState_init := ok_state_init (P := P) (w := w) (base := base) T B
  refine B.outgoing_of.F.okX sc_outgoing_of (fun vs H Q E h => ?_) (fun cdv A outer s H vs Q E hr h => ?_)
  · obtain ⟨p, d, x, rfl, _⟩ := h
    rfl
  · obtain ⟨p, d, x, rfl, hd, hz, q1, q0⟩ := h
    refine ⟨_, (pss_cons (ps_if (pt_not (pt_val (pe_call G_is_outgoing_state (hr.mono (by decide)) rfl B.is_outgoing_state.m B.is_outgoing_state.F.kp B.is_outgoing_state.b .nil pass0 (pa_cons (pv 0) pa_nil)))) (pss_one (ps_raise rfl (takes_of rfl rfl rfl rfl) (pmk_pass T.x_NoState B.NoState_init.a B.NoState_init.t G_NoState_init (hr.mono (by decide)) B.NoState_init.b pass0 rfl T.g_NoState))) pss_nil)
      (pss_one (ps_ret (pe_call G_outgoing (hr.mono (by decide)) rfl B.outgoing.m B.outgoing.F.kp B.outgoing.b .nil pass0 (pa_cons (pe_ix ix_tup (pv 0) pe_int (fun _ _ => rfl)) (pa_cons (pe_ix ix_tup (pv 0) pe_int (fun _ _ => rfl)) pa_nil)))))), ?_⟩
    walk_at "rd"
    refine ⟨p, d, x, rfl, hd, hz, fun H1 s1 => ?_⟩
    walk_at "rd"
    refine rd_ite (fun h1 => ?_) (fun h1 => ?_)
    · intro e he
      exact ⟨⟨e, rfl, rfl, rfl⟩, q0 (by simpa using h1) _ s1⟩
    · have h1' : isOut d = true := by simpa using h1
      obtain ⟨g, es, rfl⟩ := isOut_form h1'
      obtain ⟨c, ys, rfl, hc, hy⟩ := tp_tup' hd
      obtain ⟨x1, x2, rfl, t1, t2⟩ := tpAll2 hy
      cases tp_int' t1
      obtain ⟨c2, zs, rfl, hc2, hz3⟩ := tp_tup' t2
      walk_at "rd"
      refine rd_ixT (s1 _ _ hc.2) rfl ?_
      walk_at "rd"
      refine rd_ixT (s1 _ _ hc.2) rfl ?_
      walk_at "rd"
      refine ⟨g, c2, zs, rfl, .inr (s1 _ _ hc2.2), fun a2 l2 H2 s2 na nl ho => ?_⟩
      have s12 := s1.trans s2
      exact q1 h1' a2 l2 g zs es H2 s12 (s1.free na) (s1.free nl) ho rfl (TpAll.keep (Keep.same s12) _ _ hz3)
theorem ok_is_numbered (T : Tx K mg) (B : Bk K mg T) : FnOk P w K mg base CX0 3 B.is_numbered.f B.is_numbered.fd ["thing"] (spNumd T.c_Outgoing) := by
  have G_is_tuple_of := ok_is_tuple_of (P := P) (w := w) (base := base) T B
  have G_is_number := ok_is_number (P := P) (w := w) (base := base) T B
  have G_is_thing := ok_is_thing (P := P) (w := w) (base := base) T B
  refine B.is_numbered.F.ok sc_is_numbered (fun vs H Q E h => ?_) (fun cdv A outer s H vs Q E hr h => ?_)
  · obtain ⟨p, d, x, rfl, _⟩ := h
    rfl
  · obtain ⟨p, d, x, rfl, hd, hz, q⟩ := h
    refine ⟨_, (pss_one (ps_ret (pe_and (pe_call G_is_tuple_of (hr.mono (by decide)) rfl B.is_tuple_of.m B.is_tuple_of.F.kp B.is_tuple_of.b .nil pass0 (pa_cons pe_int (pa_cons (pv 0) pa_nil))) (pe_and (pe_call G_is_number (hr.mono (by decide)) rfl B.is_number.m B.is_number.F.kp B.is_number.b .nil pass0 (pa_cons (pe_ix ix_tup (pv 0) pe_int (fun _ _ => rfl)) pa_nil)) (pe_one (pe_call G_is_thing (hr.mono (by decide)) rfl B.is_thing.m B.is_thing.F.kp B.is_thing.b .nil pass0 (pa_cons (pe_ix ix_tup (pv 0) pe_int (fun _ _ => rfl)) pa_nil))))))), ?_⟩
    walk_at "rd"
    refine ⟨p, 2, d, x, rfl, hd, ?_⟩
    walk_at "rd"
    refine rd_ite (fun h1 => ?_) (fun h1 => ?_)
    · cases d with
      | tuple ds =>
        obtain ⟨a, b, rfl⟩ := two_of (n := 2) h1
        obtain ⟨c, ys, rfl, hc, hy⟩ := tp_tup' hd
        obtain ⟨x1, x2, rfl, t1, t2⟩ := tpAll2 hy
        have hz2 : (sz a + (sz b + 0)) + 1 ≤ 900 := hz
        replace q : ∀ H', Same H H' → Q (.bl (isNum a && isThing b)) H' := q
        walk_at "rd"
        refine rd_ixT hc.2 rfl ?_
        walk_at "rd"
        refine ⟨p, a, x1, rfl, t1, ?_⟩
        walk_at "rd"
        refine rd_ite (fun h2 => ?_) (fun h2 => ?_)
        · walk_at "rd"
          refine rd_ixT hc.2 rfl ?_
          walk_at "rd"
          refine ⟨p, b, x2, rfl, t2, by omega, fun H1 s1 => ?_⟩
          have z := q H1 s1
          rw [h2, Bool.true_and] at z
          exact z
        · have z := q _ (Same.refl H)
          rw [show isNum a = false from h2, Bool.false_and] at z
          exact z
      | _ => cases h1
    · have z := q _ (Same.refl H)
      have e : isNumd d = false := by
        unfold isNumd
        split
        · cases h1
        · rfl
      rw [e] at z
      exact z
theorem ok_can_be_held (T : Tx K mg) (B : Bk K mg T) : FnOk P w K mg base CX0 4 B.can_be_held.f B.can_be_held.fd ["many", "pairs"] (spCanH T.c_Outgoing) := by
  have G_is_numbered := ok_is_numbered (P := P) (w := w) (base := base) T B
  refine B.can_be_held.F.ok sc_can_be_held (fun vs H Q E h => ?_) (fun cdv A outer s H vs Q E hr h => ?_)
  · obtain ⟨p, k, d, x, rfl, _⟩ := h
    rfl
  · obtain ⟨p, k, d, x, rfl, hd, hz, q⟩ := h
    refine ⟨_, (pss_cons (ps_if (PW.pt (pw_or (pt_not (pt_val (pe_callB call_isi (by rfl) T.b_isinstance (by decide +kernel) (pa_cons (pv 1) (pa_cons (pe_bltn (v := .ty "tuple") (by rfl) T.b_tuple (by decide +kernel) rfl) pa_nil))))) (pw_or1 (pt_not (pt_val (pe_callB (cr_all rfl) (by rfl) T.b_all (by decide +kernel) (pa_cons (pe_lc (own := [("pair", 3)]) (g := gName 3) rfl sc_can_be_held.nd (pi_tup (pv 1)) (blkOk_by (own := [("pair", 3)]) (N := ["many", "pairs", "numbers", "pair", "one", "other"]) (sc := defScope s_can_be_held) (by decide +kernel)) (fun _ _ _ _ _ => pg_name (i := 3) sc_can_be_held.nd rfl (Or.inl rfl)) (fun _ _ _ _ _ => pts_nil) (fun _ _ _ _ _ => (pe_call G_is_numbered (hr.mono (by decide)) rfl B.is_numbered.m B.is_numbered.F.kp B.is_numbered.b .nil pass0 (pa_cons (pv 3) pa_nil)))) pa_nil))))))) (pss_one (ps_ret pe_bl)) pss_nil)
      (pss_cons (ps_set (i := 2) sc_can_be_held.nd rfl (Or.inl rfl) (pe_op op_cat (pe_lst (pa_cons (pv 0) pa_nil)) (pe_lc (own := [("pair", 3)]) (g := gName 3) rfl sc_can_be_held.nd (pi_tup (pv 1)) (blkOk_by (own := [("pair", 3)]) (N := ["many", "pairs", "numbers", "pair", "one", "other"]) (sc := defScope s_can_be_held) (by decide +kernel)) (fun _ _ _ _ _ => pg_name (i := 3) sc_can_be_held.nd rfl (Or.inl rfl)) (fun _ _ _ _ _ => pts_nil) (fun _ _ _ _ _ => (pe_ix (r := rIxT K) ix_tup (pv 3) pe_int (fun _ _ => rfl))))))
      (pss_one (ps_ret (pe_and (pe_callB (cr_all rfl) (by rfl) T.b_all (by decide +kernel) (pa_cons (pe_lc (own := [("one", 4), ("other", 5)]) (g := (gTup K 2 (gCons (gName 4) (gCons (gName 5) gNil)))) rfl sc_can_be_held.nd (RZ.pi_zipA (by rfl) T.b_zip (pa_cons (pv 2) (pa_cons (pe_slice sl_list (pv 2) (po_some pe_int) po_none) pa_nil))) (blkOk_by (own := [("one", 4), ("other", 5)]) (N := ["many", "pairs", "numbers", "pair", "one", "other"]) (sc := defScope s_can_be_held) (by decide +kernel)) (fun _ _ _ _ _ => (pg_tup (by rfl) (pgs_cons (pg_name (i := 4) sc_can_be_held.nd rfl (Or.inl rfl)) (pgs_cons (pg_name (i := 5) sc_can_be_held.nd rfl (Or.inl rfl)) pgs_nil)))) (fun _ _ _ _ _ => pts_nil) (fun _ _ _ _ _ => (pe_cmpR op_lt (pv 4) (pv 5) (nomark _)))) pa_nil)) (pe_one (pe_cmpR op_lt (pe_ix ix_list (pv 2) (pe_un un_neg pe_int) (fun _ _ => rfl)) (pe_op op_add (pv 0) (pe_glob (v := .int 1000) (by rfl) T.g_HELD_AHEAD ⟨_, rfl⟩)) (nomark _)))))))), ?_⟩
    walk_at "rd"
    refine tp_isT T.W_Outgoing hd ?_
    walk_at "rd"
    cases d with
    | tuple ds =>
      obtain ⟨c, ys, rfl, hc, hy⟩ := tp_tup' hd
      have hly := hy.len
      have hl := sz_len ds
      have hz2 : szAll ds + 1 ≤ 900 := hz
      replace q : ∀ H', Same H H' → Q (.bl ((ds.map isNumd).all id && (asc (k :: ds.map numD) && decide ((k :: ds.map numD).getLast?.getD 0 < k + 1000)))) H' := q
      refine rd_no rfl ?_
      walk_at "rd"
      refine ⟨_, rfl, c, rfl, ⟨ys, SqT.of hc.2⟩, fun D hD => lc_tup (K := K) (a := c) (xs := ys)
        (fun i H1 => Same H H1 ∧ H1 D = some (.lst (((ds.take i).map isNumd).map V.bl))) ⟨same_new hD, upd_same⟩ (fun i H1 _ hh => SqT.of (hh.1 _ _ hc.2)) ?_ ?_⟩
      · rintro i y H1 hi ⟨hs, hacc⟩
        obtain ⟨d1, hd1, td1⟩ := hy.get' hi
        have := sz_mem hd1
        refine ⟨rfl, ?_⟩
        refine rd_tyes ?_
        refine rd_yes rfl ?_
        walk_at "rd"
        refine ⟨p, d1, y, rfl, Tp.keep (Keep.same hs) _ _ td1, by omega, fun H2 s2 => ?_⟩
        refine ⟨_, s2 _ _ hacc, ?_, fun b o e => ?_, ?_⟩
        · refine Nat.lt_of_le_of_lt (?_ : _ ≤ 1000) (by decide)
          rw [List.length_map, List.length_map]
          exact Nat.le_trans (List.length_take_le' _ _) (by omega)
        · rw [upd_ne (ne_of_none e hD)]
          exact s2 _ _ (hs b o e)
        · rw [upd_same, take_snoc hd1, List.map_append, List.map_append]
          rfl
      · rintro H1 ⟨s1, a1⟩
        rw [List.take_of_length_le (by omega)] at a1
        walk_at "rd"
        refine ⟨D, _, rfl, SqL.of a1, ?_⟩
        walk_at "rd"
        refine rd_ite (fun h1 => ?_) (fun h1 => ?_)
        · walk_at "rd"
          have z := q H1 s1
          rw [show (ds.map isNumd).all id = false by simpa using h1, Bool.false_and] at z
          exact z
        · have hall : (ds.map isNumd).all id = true := by simpa using h1
          have hnum : ∀ (i : Nat) d, ds[i]? = some d → ∃ n t, d = .tuple [.int n, t] := fun i d hi => by
            have h := List.all_eq_true.mp hall (isNumd d) (List.mem_map.mpr ⟨d, List.mem_of_getElem? hi, rfl⟩)
            unfold isNumd at h
            split at h
            · rename_i n t
              cases n with
              | int n => exact ⟨n, t, rfl⟩
              | _ => cases h
            · cases h
          walk_at "rd"
          refine rd_disp rfl fun l1 nl1 => ?_
          have s2 := s1.trans (same_new (o := .lst [.int k]) nl1)
          walk_at "rd"
          refine ⟨_, rfl, c, rfl, ⟨ys, SqT.of (s2 _ _ hc.2)⟩, fun D2 hD2 => lc_tup (K := K) (a := c) (xs := ys)
            (fun i H3 => Same (upd H1 l1 (.lst [.int k])) H3 ∧ H3 D2 = some (.lst (((ds.take i).map numD).map V.int))) ⟨same_new hD2, upd_same⟩ (fun i H3 _ hh => SqT.of (hh.1 _ _ (s2 _ _ hc.2))) ?_ ?_⟩
          · rintro i y H3 hi ⟨hs, hacc⟩
            obtain ⟨d1, hd1, td1⟩ := hy.get' hi
            obtain ⟨n, th, rfl⟩ := hnum i d1 hd1
            obtain ⟨c1, zs, rfl, hc1, hzs⟩ := tp_tup' td1
            obtain ⟨x1, x2, rfl, t1, t2⟩ := tpAll2 hzs
            cases tp_int' t1
            refine ⟨rfl, ?_⟩
            refine rd_tyes ?_
            refine rd_yes rfl ?_
            walk_at "rd"
            refine rd_ixT (hs _ _ (s2 _ _ hc1.2)) rfl ?_
            refine ⟨_, hacc, ?_, fun b o e => ?_, ?_⟩
            · refine Nat.lt_of_le_of_lt (?_ : _ ≤ 1000) (by decide)
              rw [List.length_map, List.length_map]
              exact Nat.le_trans (List.length_take_le' _ _) (by omega)
            · rw [upd_ne (ne_of_none e hD2)]
              exact hs b o e
            · rw [upd_same, take_snoc hd1, List.map_append, List.map_append]
              rfl
          · rintro H3 ⟨s3, a3⟩
            rw [List.take_of_length_le (by omega)] at a3
            generalize hns : ds.map numD = ns at *
            have lns : ns.length = ds.length := by rw [← hns, List.length_map]
            refine ⟨l1, D2, _, _, rfl, rfl, s3 _ _ upd_same, a3, Nat.le_trans (show _ ≤ 1000 by simp; omega) (by decide), fun l4 n4 => ?_⟩
            have s4 := (s2.trans s3).trans (same_new (o := .lst ([.int k] ++ ns.map V.int)) n4)
            generalize hNN : k :: ns = NN at *
            have eNN : [V.int k] ++ ns.map V.int = NN.map V.int := by rw [← hNN]; rfl
            rw [eNN] at s4 ⊢
            have lNN : NN.length = ns.length + 1 := by rw [← hNN]; rfl
            walk_at "rd"
            show RZ.iZipA _ _ _ _ _
            refine rd_izip ?_
            walk_at "rd"
            refine rd_slL1 (upd_same (H := H3) (a := l4) (o := .lst (NN.map V.int))) fun l5 n5 => ?_
            have s5 := same_new (o := .lst (NN.tail.map V.int)) n5
            refine ⟨l4, l5, _, _, rfl, .inl ⟨SqL.of (s5 _ _ upd_same), SqL.of upd_same, fun D6 hD6 => lc_zipS (K := K) (a := l4) (b := l5) (xs := NN.map V.int) (ys := NN.tail.map V.int) (by simp)
              (fun n H7 => Same H H7 ∧ H7 l4 = some (.lst (NN.map V.int)) ∧ H7 l5 = some (.lst (NN.tail.map V.int)) ∧ H7 D6 = some (.lst ((((NN.zip NN.tail).take n).map fun x => decide (x.1 < x.2)).map V.bl)))
              ⟨(s4.trans s5).trans (same_new hD6), ?_, ?_, upd_same⟩ (fun n H7 hh => ⟨SqL.of hh.2.1, SqL.of hh.2.2.1⟩) ?_ ?_⟩⟩
            · exact (same_new (o := .lst []) hD6) _ _ (s5 _ _ upd_same)
            · exact (same_new (o := .lst []) hD6) _ _ upd_same
            · rintro n x y t H7 hx hy ⟨hs, h4, h5, hacc⟩ nT
              obtain ⟨i, hi, rfl⟩ := mapint_get hx
              obtain ⟨j, hj, rfl⟩ := mapint_get hy
              have hacc3 : (upd H7 t (.tup [.int i, .int j])) D6 = some (.lst _) := (upd_ne (ne_of_none hacc nT)).trans hacc
              refine ⟨t, _, rfl, SqT.of upd_same, rfl, _, _, rfl, _, _, rfl, rfl, ?_⟩
              refine ⟨rfl, ?_⟩
              refine rd_tyes ?_
              refine rd_yes rfl ?_
              walk_at "rd"
              have nD6 : H D6 = none := (s4.trans s5).free hD6
              have n46 : l4 ≠ D6 := ne_of_none (s5 _ _ upd_same) hD6
              have n56 : l5 ≠ D6 := ne_of_none upd_same hD6
              refine ⟨_, hacc3, ?_, fun b o e => ?_, ?_, ?_, ?_⟩
              · refine Nat.lt_of_le_of_lt (?_ : _ ≤ 1000) (by decide)
                rw [List.length_map, List.length_map]
                exact Nat.le_trans (List.length_take_le' _ _) (by rw [List.length_zip]; omega)
              · rw [upd_ne (ne_of_none e nD6), upd_ne (ne_of_none (hs b o e) nT)]
                exact hs b o e
              · rw [upd_ne n46, upd_ne (ne_of_none h4 nT)]
                exact h4
              · rw [upd_ne n56, upd_ne (ne_of_none h5 nT)]
                exact h5
              · rw [upd_same, zip_snoc hi hj, List.map_append, List.map_append]
                rfl
            · rintro H7 ⟨s7, h4, h5, hacc⟩
              rw [List.take_of_length_le (by rw [List.length_zip, List.length_map]; simp)] at hacc
              have z := q H7 s7
              rw [hall, Bool.true_and] at z
              walk_at "rd"
              refine ⟨D6, _, rfl, SqL.of hacc, ?_⟩
              walk_at "rd"
              refine rd_ite (fun h8 => ?_) (fun h8 => ?_)
              · rw [show asc NN = true from h8, Bool.true_and] at z
                walk_at "rd"
                obtain ⟨N0, nl, hNl⟩ : ∃ N0 nl, NN = N0 ++ [nl] := by
                  rcases List.eq_nil_or_concat NN with e | ⟨a, b, e⟩
                  · rw [e] at lNN
                    simp at lNN
                  · exact ⟨a, b, by rw [e, List.concat_eq_append]⟩
                have e1 : NN.getLast?.getD 0 = nl := by rw [hNl]; simp
                rw [e1] at z
                refine rd_ixL h4 (by rw [hNl, List.map_append]; exact atI_last _ _ : atI (NN.map V.int) (-1) = some (.int nl)) ?_
                walk_at "rd"
                exact z
              · rw [show asc NN = false from h8, Bool.false_and] at z
                exact z
    | _ =>
      refine rd_yes rfl ?_
      walk_at "rd"
      exact q _ (Same.refl H)
end
end Mw

/-! C6 -/
namespace Mw
open PySem L2
def spJ3 (C : Addr) : Sp := fun vs H Q _ => ∃ p d x lo hi, vs = [x, .int lo, .int hi] ∧ Tp C p H d x ∧ Q (.bl (inI lo hi d)) H
theorem asc_pw : ∀ {l : List Int}, asc l = true → l.Pairwise (· < ·)
  | [], _ => List.Pairwise.nil
  | [a], _ => by simp
  | a :: b :: l, h => by
    unfold asc at h
    rw [List.tail_cons, List.zip_cons_cons, List.map_cons, List.all_cons, Bool.and_eq_true] at h
    have ih := asc_pw (l := b :: l) h.2
    have hab : a < b := by simpa using h.1
    refine List.pairwise_cons.mpr ⟨fun z hz => ?_, ih⟩
    rcases List.mem_cons.mp hz with e | hz
    · rw [e]
      exact hab
    · have := (List.pairwise_cons.mp ih).1 z hz
      omega
theorem prs_of {C p : Addr} {H : Hp} : ∀ {pds : List PyData} {ys : List V}, (∀ d ∈ pds, ∃ n t, d = .tuple [.int n, t]) → TpAll C p H pds ys → ∃ ts ps, ys = ts.map V.ref ∧ PrsAt H ts ps ∧ PrsD C p H pds ps ∧ pds.map numD = ps.map (·.1)
  | [], ys, _, h => by
    have : ys = [] := List.eq_nil_of_length_eq_zero h.len.symm
    subst this
    exact ⟨[], [], rfl, PrsAt.nil, ⟨rfl, fun j d x h => by simp at h⟩, rfl⟩
  | d :: pds, ys, hn, h => by
    simp only [TpAll] at h
    obtain ⟨y, r, rfl, h1, h2⟩ := h
    obtain ⟨ts, ps, rfl, a1, a2, a3⟩ := prs_of (fun e he => hn e (by simp [he])) h2
    obtain ⟨n, t, rfl⟩ := hn d (by simp)
    obtain ⟨c, zs, rfl, hc, hzs⟩ := tp_tup' h1
    obtain ⟨x1, x2, rfl, t1, t2⟩ := tpAll2 hzs
    cases tp_int' t1
    refine ⟨c :: ts, (n, x2) :: ps, rfl, ⟨by simp [a1.1], fun j t' x h1 h2 => ?_⟩, ⟨by simp [a2.1], fun j d x h1 h2 => ?_⟩, by rw [List.map_cons, List.map_cons, a3]; rfl⟩
    · cases j with
      | zero =>
        simp at h1 h2
        subst h1 h2
        exact hc.2
      | succ j => exact a1.2 j t' x (by simpa using h1) (by simpa using h2)
    · cases j with
      | zero =>
        simp at h1 h2
        subst h1 h2
        exact ⟨t, rfl, t2⟩
      | succ j => exact a2.2 j d x (by simpa using h1) (by simpa using h2)
theorem numd_form {d : PyData} (h : isNumd d = true) : ∃ n t, d = .tuple [.int n, t] := by
  unfold isNumd at h
  split at h
  · rename_i n t
    cases n with
    | int n => exact ⟨n, t, rfl⟩
    | _ => cases h
  · cases h
theorem nb_in (a : PyData) : inI 0 ((2 : Int) ^ (32 : Int).toNat - 1) a = isNb 4294967296 a := by
  have e : (2 : Int) ^ (32 : Int).toNat = 4294967296 := by decide
  cases a with
  | int i =>
    rw [e]
    show (decide (0 ≤ i) && decide (i ≤ 4294967296 - 1)) = (decide (0 ≤ i) && decide (i < 4294967296))
    congr 1
    rw [decide_eq_decide]
    omega
  | _ => rfl
/-- the pairs one behind the other -/
def chk (k : Int) : Int → List PyData → Bool
  | _, [] => true
  | la, .tuple [.int n, t] :: r => isThing t && (decide (la < n) && decide (n < k + 1000)) && chk k n r
  | _, _ => false
theorem asc_last : ∀ {l : List Int} {a : Int}, asc (a :: l) = true → a ≤ (a :: l).getLast?.getD 0
  | [], a, _ => by simp
  | b :: l, a, h => by
    unfold asc at h
    rw [List.tail_cons, List.zip_cons_cons, List.map_cons, List.all_cons, Bool.and_eq_true] at h
    have ih := asc_last (l := l) (a := b) h.2
    have hab : a < b := by simpa using h.1
    rw [List.getLast?_cons_cons]
    omega
theorem asc_cons {a b : Int} {l : List Int} : asc (a :: b :: l) = (decide (a < b) && asc (b :: l)) := rfl
theorem chk_can {k : Int} (hk : 0 ≤ k) : ∀ {la : Int}, (k ≤ la ∧ la < k + 1000) → ∀ ds : List PyData, chk k la ds = ((ds.map isNumd).all id && (asc (la :: ds.map numD) && decide ((la :: ds.map numD).getLast?.getD 0 < k + 1000)))
  | la, h, [] => by
    show true = (true && (true && decide (la < k + 1000)))
    rw [decide_eq_true h.2]
    rfl
  | la, h, d :: r => by
    by_cases hd : ∃ n t, d = .tuple [.int n, t]
    · obtain ⟨n, t, rfl⟩ := hd
      have e1 : chk k la (.tuple [.int n, t] :: r) = (isThing t && (decide (la < n) && decide (n < k + 1000)) && chk k n r) := rfl
      have e2 : isNumd (.tuple [.int n, t]) = (decide (0 ≤ n) && isThing t) := rfl
      have e3 : numD (.tuple [.int n, t]) = n := rfl
      rw [e1, List.map_cons, List.map_cons, List.all_cons, e2, e3, asc_cons, List.getLast?_cons_cons]
      by_cases c1 : la < n
      · by_cases c2 : n < k + 1000
        · rw [chk_can hk ⟨by omega, c2⟩ r, decide_eq_true c1, decide_eq_true c2, decide_eq_true (show 0 ≤ n by omega)]
          cases isThing t <;> simp
        · rw [decide_eq_false c2]
          cases ha : asc (n :: r.map numD) with
          | false => simp
          | true =>
            have := asc_last ha
            rw [decide_eq_false (show ¬ (n :: r.map numD).getLast?.getD 0 < k + 1000 by omega)]
            simp
      · rw [decide_eq_false c1]
        simp
    · have e1 : chk k la (d :: r) = false := by
        unfold chk
        split
        · rename_i e
          cases e
        · rename_i e
          cases e
          exact absurd ⟨_, _, rfl⟩ hd
        · rfl
      have e2 : isNumd d = false := by
        cases e : isNumd d with
        | false => rfl
        | true => exact absurd (numd_form e) hd
      rw [e1, List.map_cons, List.all_cons, e2]
      rfl
def spLT (C : Addr) (n : Nat) : Sp := fun vs H Q _ => ∃ p d x, vs = [x] ∧ Tp C p H d x ∧ d.depth < n ∧ Q (.bl (isThing d)) H
def spLOut (C : Addr) (n : Nat) : Sp := fun vs H Q _ => ∃ p d x, vs = [x] ∧ Tp C p H d x ∧ d.depth < n ∧ sz d ≤ 900 ∧ ∀ H', Same H H' → Q (.bl (isOut d)) H'
def spLIn (C : Addr) (n : Nat) : Sp := fun vs H Q _ => ∃ p d x, vs = [x] ∧ Tp C p H d x ∧ d.depth < n ∧ sz d ≤ 900 ∧ Q (.bl (isIn d)) H
section
variable {P : Program} {w : World} {K : PySem.W.Frag} {mg : Str → Option Value} {base : Heap}
local macro_rules | `(tactic| walk_at "rd") => `(tactic| (repeat (first
  | ((with_reducible refine' rd_var ?h0 ?_); (case h0 => rfl))
  | with_reducible refine rd_c ?_
  | with_reducible refine rd_op ?_
  | with_reducible refine rd_nil ?_
  | with_reducible refine rd_cons ?_
  | with_reducible refine rd_tup ?_
  | with_reducible refine rd_lst ?_
  | with_reducible refine rd_ifs ?_
  | with_reducible refine rd_seq ?_
  | with_reducible refine rd_next ?_
  | with_reducible refine rd_ret ?_
  | with_reducible refine rd_asg ?_
  | ((with_reducible refine' rd_gset ?hs ?_); (case hs => ((simp only [L2.start, List.map_cons, List.map_nil, List.length_cons, List.length_nil, List.cons_append, List.nil_append, List.set_cons_zero, List.set_cons_succ, Nat.reduceAdd, Nat.reduceSub, Nat.zero_add, List.reduceReplicate]); rfl)))
  | with_reducible refine rd_drop ?_
  | with_reducible refine rd_test ?_
  | with_reducible refine rd_B ?_
  | with_reducible refine rd_bl ?_
  | with_reducible refine rd_blP ?_
  | with_reducible refine rd_andV ?_
  | with_reducible refine rd_orV ?_
  | with_reducible refine rd_notV ?_
  | with_reducible refine rd_and ?_
  | with_reducible refine rd_or ?_
  | with_reducible refine rd_not ?_
  | with_reducible refine rd_chain ?_
  | with_reducible refine rd_dput ?_
  | with_reducible refine rd_dget ?_
  | with_reducible refine rd_cb ?_
  | with_reducible refine rd_call ?_
  | with_reducible refine rd_un ?_
  | with_reducible refine rd_sl ?_
  | with_reducible refine rd_nopart ?_
  | with_reducible refine rd_part ?_
  | with_reducible refine rd_intP ?_
  | with_reducible refine rd_rU ?_
  | with_reducible refine rd_fld ?_
  | with_reducible refine rd_eqI ?_
  | with_reducible refine rd_neI ?_
  | with_reducible refine rd_mko ?_
  | with_reducible refine rd_bm ?_
  | with_reducible refine rd_gsub ?_
  | with_reducible refine rd_i0 ?_)))
theorem ok_is_istate (T : Tx K mg) (B : Bk K mg T) : FnOk P w K mg base CX0 5 B.is_incoming_state.f B.is_incoming_state.fd ["thing"] (spIsIn T.c_Outgoing) := by
  have G_is_tuple_of := ok_is_tuple_of (P := P) (w := w) (base := base) T B
  have G_is_link_number := ok_is_link_number (P := P) (w := w) (base := base) T B
  have G_can_be_held := ok_can_be_held (P := P) (w := w) (base := base) T B
  refine B.is_incoming_state.F.ok sc_is_incoming_state (fun vs H Q E h => ?_) (fun cdv A outer s H vs Q E hr h => ?_)
  · obtain ⟨p, d, x, rfl, _⟩ := h
    rfl
  · obtain ⟨p, d, x, rfl, hd, hz, q⟩ := h
    have no : isIn d = false → Q (.bl false) H := fun z => by
      have := q H (Same.refl H)
      rw [z] at this
      exact this
    refine ⟨_, (pss_cons (ps_if (PW.pt (pw_or (pt_not (pt_val (pe_call G_is_tuple_of (hr.mono (by decide)) rfl B.is_tuple_of.m B.is_tuple_of.F.kp B.is_tuple_of.b .nil pass0 (pa_cons pe_int (pa_cons (pv 0) pa_nil))))) (pw_or1 (pt_not (pt_val (pe_call G_is_link_number (hr.mono (by decide)) rfl B.is_link_number.m B.is_link_number.F.kp B.is_link_number.b .nil pass0 (pa_cons (pe_ix ix_tup (pv 0) pe_int (fun _ _ => rfl)) pa_nil))))))) (pss_one (ps_ret pe_bl)) pss_nil)
      (pss_one (ps_ret (pe_call G_can_be_held (hr.mono (by decide)) rfl B.can_be_held.m B.can_be_held.F.kp B.can_be_held.b .nil pass0 (pa_cons (pe_ix ix_tup (pv 0) pe_int (fun _ _ => rfl)) (pa_cons (pe_ix ix_tup (pv 0) pe_int (fun _ _ => rfl)) pa_nil)))))), ?_⟩
    walk_at "rd"
    refine ⟨p, 2, d, x, rfl, hd, ?_⟩
    walk_at "rd"
    refine rd_ite (fun h1 => ?_) (fun h1 => ?_)
    · refine rd_yes rfl ?_
      walk_at "rd"
      have h1' : isTupN 2 d = false := by simpa using h1
      refine no ?_
      unfold isIn
      split
      · cases h1'
      · rfl
    · have h1' : isTupN 2 d = true := by simpa using h1
      cases d with
      | tuple ds =>
        obtain ⟨a, b, rfl⟩ := two_of (n := 2) h1'
        obtain ⟨c, ys, rfl, hc, hy⟩ := tp_tup' hd
        obtain ⟨x1, x2, rfl, t1, t2⟩ := tpAll2 hy
        have hz2 : (sz a + (sz b + 0)) + 1 ≤ 900 := hz
        walk_at "rd"
        refine rd_ixT hc.2 rfl ?_
        walk_at "rd"
        refine ⟨p, a, x1, rfl, t1, ?_⟩
        walk_at "rd"
        refine rd_ite (fun h2 => ?_) (fun h2 => ?_)
        · walk_at "rd"
          refine no ?_
          have h2' : isNb 4294967296 a = false := by simpa using h2
          cases a with
          | int k =>
            show (isNb 4294967296 (.int k) && canH k b) = false
            rw [h2']
            rfl
          | _ => rfl
        · have h2' : isNb 4294967296 a = true := by simpa using h2
          cases a with
          | int k =>
            cases tp_int' t1
            walk_at "rd"
            refine rd_ixT hc.2 rfl ?_
            walk_at "rd"
            refine rd_ixT hc.2 rfl ?_
            walk_at "rd"
            refine ⟨p, k, b, x2, rfl, t2, by omega, fun H1 s1 => ?_⟩
            have z := q H1 s1
            rw [show isIn (.tuple [.int k, b]) = (isNb 4294967296 (.int k) && canH k b) from rfl, h2', Bool.true_and] at z
            exact z
          | _ => cases h2'
      | _ => cases h1'
theorem isIn_form {d : PyData} (h : isIn d = true) : ∃ k es, d = .tuple [.int k, .tuple es] ∧ isNb 4294967296 (.int k) = true ∧ canH k (.tuple es) = true := by
  unfold isIn at h
  split at h
  · rename_i k b
    rw [Bool.and_eq_true] at h
    obtain ⟨h1, h2⟩ := h
    cases b with
    | tuple es => exact ⟨k, es, rfl, h1, h2⟩
    | _ => cases h2
  · cases h
theorem ok_incoming_of (T : Tx K mg) (B : Bk K mg T) : FnOk P w K mg base (L2.CX P w) 6 B.incoming_of.f B.incoming_of.fd ["state"] (spIncOf T.c_Outgoing T.c_Incoming T.c_NoState) := by
  have G_is_incoming_state := ok_is_istate (P := P) (w := w) (base := base) T B
  have G_incoming := ok_incg (P := P) (w := w) (base := base) T B
  have G_NoState_init := ok_state_init (P := P) (w := w) (base := base) T B
  refine B.incoming_of.F.okX sc_incoming_of (fun vs H Q E h => ?_) (fun cdv A outer s H vs Q E hr h => ?_)
  · obtain ⟨p, d, x, rfl, _⟩ := h
    rfl
  · obtain ⟨p, d, x, rfl, hd, hz, q1, q0⟩ := h
    refine ⟨_, (pss_cons (ps_if (pt_not (pt_val (pe_call G_is_incoming_state (hr.mono (by decide)) rfl B.is_incoming_state.m B.is_incoming_state.F.kp B.is_incoming_state.b .nil pass0 (pa_cons (pv 0) pa_nil)))) (pss_one (ps_raise rfl (takes_of rfl rfl rfl rfl) (pmk_pass T.x_NoState B.NoState_init.a B.NoState_init.t G_NoState_init (hr.mono (by decide)) B.NoState_init.b pass0 rfl T.g_NoState))) pss_nil)
      (pss_one (ps_ret (pe_call G_incoming (hr.mono (by decide)) rfl B.incoming.m B.incoming.F.kp B.incoming.b .nil pass0 (pa_cons (pv 0) pa_nil))))), ?_⟩
    walk_at "rd"
    refine ⟨p, d, x, rfl, hd, hz, fun H1 s1 => ?_⟩
    walk_at "rd"
    refine rd_ite (fun h1 => ?_) (fun h1 => ?_)
    · intro e he
      exact ⟨⟨e, rfl, rfl, rfl⟩, q0 (by simpa using h1) _ s1⟩
    · have h1' : isIn d = true := by simpa using h1
      obtain ⟨k, es, rfl, h2', h3'⟩ := isIn_form h1'
      obtain ⟨c, ys, rfl, hc, hy⟩ := tp_tup' hd
      obtain ⟨x1, x2, rfl, t1, t2⟩ := tpAll2 hy
      cases tp_int' t1
      have hz2 : (sz (.int k) + (sz (.tuple es) + 0)) + 1 ≤ 900 := hz
      have h3'' := h3'
      simp only [canH, Bool.and_eq_true] at h3''
      obtain ⟨hall, hasc, _⟩ := h3''
      obtain ⟨c2, zs, rfl, hc2, hz3⟩ := tp_tup' t2
      obtain ⟨ts, ps, rfl, a1, a2, a3⟩ := prs_of (fun e he => numd_form (List.all_eq_true.mp hall (isNumd e) (List.mem_map.mpr ⟨e, he, rfl⟩))) hz3
      rw [a3] at hasc
      have hle := sz_len es
      have hz4 : sz (PyData.tuple es) = szAll es + 1 := rfl
      have hpl := a2.1
      have hnd : (ps.map (·.1)).Nodup := (List.pairwise_cons.mp (asc_pw hasc)).2.imp fun h => by omega
      walk_at "rd"
      refine ⟨c, c2, k, ts, ps, rfl, s1 _ _ hc.2, s1 _ _ hc2.2, a1.same (KT.same s1), by omega, hnd, fun e2 d2 H2 s2 ne nd hi => ?_⟩
      have s12 := s1.trans s2
      exact q1 h1' e2 d2 k ps es H2 s12 (s1.free ne) (s1.free nd) hi rfl (a2.keep (Keep.same s12))
theorem ok_law_is_integer (T : Tx K mg) (B : Bk K mg T) : FnOk P w K mg base CX0 1 B.law_is_integer.f B.law_is_integer.fd ["thing"] (spJ T.c_Outgoing isInt) := by
  refine B.law_is_integer.F.ok sc_law_is_integer (fun vs H Q E h => ?_) (fun cdv A outer s H vs Q E hr h => ?_)
  · obtain ⟨p, d, x, rfl, _⟩ := h
    rfl
  · obtain ⟨p, d, x, rfl, hd, q⟩ := h
    refine ⟨_, (pss_one (ps_ret (pe_and (pe_callB call_isi (by rfl) T.b_isinstance (by decide +kernel) (pa_cons (pv 0) (pa_cons (pe_bltn (v := .ty "int") (by rfl) T.b_int (by decide +kernel) rfl) pa_nil))) (pe_one (pe_not (pe_callB call_isi (by rfl) T.b_isinstance (by decide +kernel) (pa_cons (pv 0) (pa_cons (pe_bltn (v := .ty "bool") (by rfl) T.b_bool (by decide +kernel) rfl) pa_nil)))))))), ?_⟩
    walk_at "rd"
    refine tp_isI T.W_Outgoing hd ?_
    walk_at "rd"
    refine rd_ite (fun h1 => ?_) (fun h0 => ?_)
    · walk_at "rd"
      refine tp_isB T.W_Outgoing hd ?_
      walk_at "rd"
      have e : isInt d = !isB d := by cases d <;> simp_all [isI, isB, isInt]
      rw [e] at q
      exact q
    · have e : isInt d = false := by cases d <;> simp_all [isI, isB, isInt]
      rw [e] at q
      exact q
theorem ok_law_is_within (T : Tx K mg) (B : Bk K mg T) : FnOk P w K mg base CX0 2 B.law_is_within.f B.law_is_within.fd ["thing", "least", "most"] (spJ3 T.c_Outgoing) := by
  have G_law_is_integer := ok_law_is_integer (P := P) (w := w) (base := base) T B
  refine B.law_is_within.F.ok sc_law_is_within (fun vs H Q E h => ?_) (fun cdv A outer s H vs Q E hr h => ?_)
  · obtain ⟨p, d, x, lo, hi, rfl, _⟩ := h
    rfl
  · obtain ⟨p, d, x, lo, hi, rfl, hd, q⟩ := h
    refine ⟨_, (pss_one (ps_ret (pe_and (pe_call G_law_is_integer (hr.mono (by decide)) rfl B.law_is_integer.m B.law_is_integer.F.kp B.law_is_integer.b .nil pass0 (pa_cons (pv 0) pa_nil)) (pe_and (pe_cmpR op_le (pv 1) (pv 0) (nomark _)) (pe_one (pe_cmpR op_le (pv 0) (pv 2) (nomark _))))))), ?_⟩
    walk_at "rd"
    refine ⟨p, d, x, rfl, hd, ?_⟩
    walk_at "rd"
    refine rd_ite (fun h1 => ?_) (fun h0 => ?_)
    · cases d with
      | int i =>
        cases tp_int' hd
        have e : inI lo hi (.int i) = (decide (lo ≤ i) && decide (i ≤ hi)) := rfl
        rw [e] at q
        walk_at "rd"
        refine rd_ite (fun h2 => ?_) (fun h2 => ?_)
        · rw [h2, Bool.true_and] at q
          walk_at "rd"
          exact q
        · rw [h2, Bool.false_and] at q
          exact q
      | _ => cases h1
    · have e : inI lo hi d = false := by cases d <;> simp_all [isInt, inI]
      rw [e] at q
      exact q
theorem law_thing_step (T : Tx K mg) (B : Bk K mg T) {n k : Nat} (hk : 1 ≤ k) (G_law_is_thing : FnOk P w K mg base CX0 k B.law_is_thing.f B.law_is_thing.fd ["thing"] (spLT T.c_Outgoing n)) :
    FnOk P w K mg base CX0 (k + 1) B.law_is_thing.f B.law_is_thing.fd ["thing"] (spLT T.c_Outgoing (n + 1)) := by
  refine B.law_is_thing.F.ok sc_law_is_thing (fun vs H Q E h => ?_) (fun cdv A outer s H vs Q E hr h => ?_)
  · obtain ⟨p, d, x, rfl, _⟩ := h
    rfl
  · obtain ⟨p, d, x, rfl, hd, hdp, q⟩ := h
    refine ⟨_, (pss_cons (ps_if (pt_not (pt_val (pe_callB call_isi (by rfl) T.b_isinstance (by decide +kernel) (pa_cons (pv 0) (pa_cons (pe_bltn (v := .ty "tuple") (by rfl) T.b_tuple (by decide +kernel) rfl) pa_nil))))) (pss_one (ps_ret pe_bl)) pss_nil)
      (pss_cons (ps_for PassesOwn.never rfl (pi_tup (pv 0)) (pg_name (i := 1) sc_law_is_thing.nd rfl (Or.inl rfl)) (pss_one (ps_if (PW.pt (pw_and (pt_not (PW.pt (pw_or (pt_cmpR op_isN (pv 1) pe_non (nomark _)) (pw_or (pt_val (pe_callB call_isi (by rfl) T.b_isinstance (by decide +kernel) (pa_cons (pv 1) (pa_cons (pe_bltn (v := .ty "int") (by rfl) T.b_int (by decide +kernel) rfl) pa_nil)))) (pw_or1 (pt_val (pe_callB call_isi (by rfl) T.b_isinstance (by decide +kernel) (pa_cons (pv 1) (pa_cons (pe_bltn (v := .ty "str") (by rfl) T.b_str (by decide +kernel) rfl) pa_nil))))))))) (pw_and1 (pt_not (pt_val (pe_call G_law_is_thing (hr.mono (by omega)) rfl B.law_is_thing.m B.law_is_thing.F.kp B.law_is_thing.b .nil pass0 (pa_cons (pv 1) pa_nil))))))) (pss_one (ps_ret pe_bl)) pss_nil)))
      (pss_one (ps_ret pe_bl)))), ?_⟩
    walk_at "rd"
    refine tp_isT T.W_Outgoing hd ?_
    walk_at "rd"
    cases d with
    | tuple ds =>
      obtain ⟨c, ys, rfl, hc, hy⟩ := tp_tup' hd
      have hly := hy.len
      have hdp2 : PyData.depthAll ds + 1 < n + 1 := hdp
      replace q : Q (.bl (plainAll ds)) H := q
      refine rd_no rfl ?_
      walk_at "rd"
      refine ⟨_, rfl, c, rfl, ⟨ys, SqT.of hc.2⟩, for_tup (K := K) (a := c) (xs := ys) (fun i σ H1 => H1 = H ∧ plainAll (ds.take i) = true ∧ ∃ u, σ = [some (.ref c), u]) ⟨rfl, rfl, _, rfl⟩ (fun i σ H1 _ hh => by rw [hh.1]; exact SqT.of hc.2) ?_ ?_⟩
      · rintro i y σ H1 hi ⟨rfl, hpl, u, rfl⟩
        obtain ⟨d1, hd1, td1⟩ := hy.get' hi
        have dep := depthAll_get hd1
        have go : plainD d1 = true → H1 = H1 ∧ plainAll (ds.take (i + 1)) = true ∧ ∃ u, [some (V.ref c), some y] = [some (.ref c), u] := fun h => ⟨rfl, by rw [take_snoc hd1, plain_app, hpl]; show (true && (plainD d1 && true)) = true; rw [h]; rfl, _, rfl⟩
        have bad : plainD d1 = false → plainAll ds = false := fun h => by
          cases e : plainAll ds with
          | false => rfl
          | true =>
            have := plainAll_get e hd1
            rw [h] at this
            cases this
        walk_at "rd"
        cases d1 with
        | none =>
          have ey : y = .non := by simpa only [Tp] using td1
          subst ey
          refine ⟨rfl, ?_⟩
          walk_at "rd"
          refine rd_yes rfl ?_
          refine rd_no rfl ?_
          refine rd_no rfl ?_
          exact go rfl
        | bool b =>
          have ey : y = .bl b := by simpa only [Tp] using td1
          subst ey
          refine ⟨rfl, ?_⟩
          walk_at "rd"
          refine rd_no rfl ?_
          walk_at "rd"
          refine tp_isI T.W_Outgoing td1 ?_
          walk_at "rd"
          refine rd_yes rfl ?_
          refine rd_no rfl ?_
          refine rd_no rfl ?_
          exact go rfl
        | int b =>
          cases tp_int' td1
          refine ⟨rfl, ?_⟩
          walk_at "rd"
          refine rd_no rfl ?_
          walk_at "rd"
          refine tp_isI T.W_Outgoing td1 ?_
          walk_at "rd"
          refine rd_yes rfl ?_
          refine rd_no rfl ?_
          refine rd_no rfl ?_
          exact go rfl
        | str b =>
          cases tp_str' td1
          refine ⟨rfl, ?_⟩
          walk_at "rd"
          refine rd_no rfl ?_
          walk_at "rd"
          refine tp_isI T.W_Outgoing td1 ?_
          walk_at "rd"
          refine rd_no rfl ?_
          walk_at "rd"
          refine tp_isS T.W_Outgoing td1 ?_
          walk_at "rd"
          refine rd_no rfl ?_
          refine rd_no rfl ?_
          exact go rfl
        | tuple es =>
          have ey : ∃ a, y = .ref a := by
            obtain ⟨a, _, e, _⟩ := tp_tup' td1
            exact ⟨a, e⟩
          obtain ⟨a, rfl⟩ := ey
          refine ⟨rfl, ?_⟩
          walk_at "rd"
          refine rd_no rfl ?_
          walk_at "rd"
          refine tp_isI T.W_Outgoing td1 ?_
          walk_at "rd"
          refine rd_no rfl ?_
          walk_at "rd"
          refine tp_isS T.W_Outgoing td1 ?_
          walk_at "rd"
          refine rd_yes rfl ?_
          walk_at "rd"
          refine ⟨p, _, _, rfl, td1, by omega, ?_⟩
          walk_at "rd"
          refine rd_ite (fun h => ?_) (fun h => ?_)
          · walk_at "rd"
            rw [bad (by simpa [isThing, isT, plainD] using h)] at q
            exact q
          · exact go (by simpa [isThing, isT, plainD] using h)
        | list es =>
          have ey : ∃ a, y = .ref a := by
            have t := td1
            simp only [Tp] at t
            obtain ⟨a, _, e, _⟩ := t
            exact ⟨a, e⟩
          obtain ⟨a, rfl⟩ := ey
          refine ⟨rfl, ?_⟩
          walk_at "rd"
          refine rd_no rfl ?_
          walk_at "rd"
          refine tp_isI T.W_Outgoing td1 ?_
          walk_at "rd"
          refine rd_no rfl ?_
          walk_at "rd"
          refine tp_isS T.W_Outgoing td1 ?_
          walk_at "rd"
          refine rd_yes rfl ?_
          walk_at "rd"
          refine ⟨p, _, _, rfl, td1, by omega, ?_⟩
          walk_at "rd"
          refine rd_yes rfl ?_
          walk_at "rd"
          rw [bad rfl] at q
          exact q
        | dict es =>
          have ey : ∃ a, y = .ref a := by
            have t := td1
            simp only [Tp] at t
            obtain ⟨a, e, _⟩ := t
            exact ⟨a, e⟩
          obtain ⟨a, rfl⟩ := ey
          refine ⟨rfl, ?_⟩
          walk_at "rd"
          refine rd_no rfl ?_
          walk_at "rd"
          refine tp_isI T.W_Outgoing td1 ?_
          walk_at "rd"
          refine rd_no rfl ?_
          walk_at "rd"
          refine tp_isS T.W_Outgoing td1 ?_
          walk_at "rd"
          refine rd_yes rfl ?_
          walk_at "rd"
          refine ⟨p, _, _, rfl, td1, by omega, ?_⟩
          walk_at "rd"
          refine rd_yes rfl ?_
          walk_at "rd"
          rw [bad rfl] at q
          exact q
      · rintro σ H1 ⟨rfl, hpl, u, rfl⟩
        rw [← hly, List.take_length] at hpl
        walk_at "rd"
        rw [hpl] at q
        exact q
    | _ =>
      refine rd_yes rfl ?_
      walk_at "rd"
      exact q
theorem ok_law_is_thing (T : Tx K mg) (B : Bk K mg T) : ∀ n, FnOk P w K mg base CX0 (n + 1) B.law_is_thing.f B.law_is_thing.fd ["thing"] (spLT T.c_Outgoing n)
  | 0 => ⟨fun vs H Q E h => by obtain ⟨p, d, x, rfl, _, h, _⟩ := h; exact absurd h (Nat.not_lt_zero _), fun A outer s H args us vs Q E hr e0 hb r h => by obtain ⟨p, d, x, rfl, _, h, _⟩ := h; exact absurd h (Nat.not_lt_zero _)⟩
  | n + 1 => law_thing_step T B (by omega) (ok_law_is_thing T B n)
theorem ok_law_is_out (T : Tx K mg) (B : Bk K mg T) : FnOk P w K mg base CX0 12 B.law_is_out.f B.law_is_out.fd ["thing"] (spLOut T.c_Outgoing 10) := by
  have G_law_is_within := ok_law_is_within (P := P) (w := w) (base := base) T B
  have G_law_is_thing := ok_law_is_thing (P := P) (w := w) (base := base) T B 10
  refine B.law_is_out.F.ok sc_law_is_out (fun vs H Q E h => ?_) (fun cdv A outer s H vs Q E hr h => ?_)
  · obtain ⟨p, d, x, rfl, _⟩ := h
    rfl
  · obtain ⟨p, d, x, rfl, hd, hdp, hz, q⟩ := h
    refine ⟨_, (pss_cons (ps_if (PW.pt (pw_or (pt_not (pt_val (pe_callB call_isi (by rfl) T.b_isinstance (by decide +kernel) (pa_cons (pv 0) (pa_cons (pe_bltn (v := .ty "tuple") (by rfl) T.b_tuple (by decide +kernel) rfl) pa_nil))))) (pw_or (pt_cmpR op_ne (pe_callB call_len_seq (by rfl) T.b_len (by decide +kernel) (pa_cons (pv 0) pa_nil)) pe_int (nomark _)) (pw_or1 (pt_not (pt_val (pe_call G_law_is_within (hr.mono (by decide)) rfl B.law_is_within.m B.law_is_within.F.kp B.law_is_within.b .nil pass0 (pa_cons (pe_ix ix_tup (pv 0) pe_int (fun _ _ => rfl)) (pa_cons pe_int (pa_cons (pe_op op_sub (pe_op op_pow pe_int pe_int) pe_int) pa_nil)))))))))) (pss_one (ps_ret pe_bl)) pss_nil)
      (pss_one (ps_ret (pe_and (pe_callB call_isi (by rfl) T.b_isinstance (by decide +kernel) (pa_cons (pe_ix ix_tup (pv 0) pe_int (fun _ _ => rfl)) (pa_cons (pe_bltn (v := .ty "tuple") (by rfl) T.b_tuple (by decide +kernel) rfl) pa_nil))) (pe_one (pe_callB (cr_all rfl) (by rfl) T.b_all (by decide +kernel) (pa_cons (pe_lc (own := [("item", 1)]) (g := gName 1) rfl sc_law_is_out.nd (pi_tup (pe_ix ix_tup (pv 0) pe_int (fun _ _ => rfl))) (blkOk_by (own := [("item", 1)]) (N := ["thing", "item"]) (sc := defScope s_law_is_out) (by decide +kernel)) (fun _ _ _ _ _ => pg_name (i := 1) sc_law_is_out.nd rfl (Or.inl rfl)) (fun _ _ _ _ _ => pts_nil) (fun _ _ _ _ _ => (pe_call G_law_is_thing (hr.mono (by decide)) rfl B.law_is_thing.m B.law_is_thing.F.kp B.law_is_thing.b .nil pass0 (pa_cons (pv 1) pa_nil)))) pa_nil))))))), ?_⟩
    have same := Same.refl H
    walk_at "rd"
    refine tp_isT T.W_Outgoing hd ?_
    walk_at "rd"
    cases d with
    | tuple ds =>
      obtain ⟨c, ys, rfl, hc, hy⟩ := tp_tup' hd
      have hly := hy.len
      refine rd_no rfl ?_
      walk_at "rd"
      refine ⟨c, ys, rfl, .inr (SqT.of hc.2), ?_⟩
      walk_at "rd"
      refine rd_ite (fun h1 => ?_) (fun h1 => ?_)
      · refine rd_yes rfl ?_
        walk_at "rd"
        have z := q H same
        have e : isOut (.tuple ds) = false := by
          unfold isOut
          split
          · rename_i e
            cases e
            simp at hly
            rw [← hly] at h1
            cases h1
          · rfl
        rw [e] at z
        exact z
      · obtain ⟨a, b, rfl⟩ : ∃ a b, ds = [a, b] := by
          have : ds.length = 2 := by
            rw [hly]
            simp at h1
            omega
          match ds, this with
          | [a, b], _ => exact ⟨a, b, rfl⟩
        obtain ⟨x1, x2, rfl, t1, t2⟩ := tpAll2 hy
        have hz2 : (sz a + (sz b + 0)) + 1 ≤ 900 := hz
        replace q : ∀ H', Same H H' → Q (.bl (isNb 4294967296 a && areT b)) H' := q
        have hdp2 : max a.depth (max b.depth 0) + 1 < 10 := hdp
        walk_at "rd"
        refine rd_ixT hc.2 rfl ?_
        walk_at "rd"
        refine rd_iC ⟨by decide, by decide, by decide⟩ ?_
        walk_at "rd"
        refine ⟨p, a, x1, 0, _, rfl, t1, ?_⟩
        rw [nb_in]
        walk_at "rd"
        refine rd_ite (fun h2 => ?_) (fun h2 => ?_)
        · walk_at "rd"
          have z := q H same
          rw [show isNb 4294967296 a = false by simpa using h2, Bool.false_and] at z
          exact z
        · have h2' : isNb 4294967296 a = true := by simpa using h2
          rw [h2', Bool.true_and] at q
          walk_at "rd"
          refine rd_ixT hc.2 rfl ?_
          walk_at "rd"
          refine tp_isT T.W_Outgoing t2 ?_
          walk_at "rd"
          cases b with
          | tuple es =>
            obtain ⟨c2, zs, rfl, hc2, hz3⟩ := tp_tup' t2
            have hle := sz_len es
            have hz4 : sz (PyData.tuple es) = szAll es + 1 := rfl
            have hlz := hz3.len
            have hdb : PyData.depthAll es + 1 < 10 := by
              have : (PyData.tuple es).depth = PyData.depthAll es + 1 := rfl
              omega
            refine rd_yes rfl ?_
            walk_at "rd"
            show iTup _ _ _ _ _
            refine rd_itup ?_
            walk_at "rd"
            refine rd_ixT hc.2 rfl ?_
            refine ⟨c2, rfl, ⟨zs, SqT.of hc2.2⟩, fun D hD => lc_tup (K := K) (a := c2) (xs := zs)
              (fun i H1 => Same H H1 ∧ H1 D = some (.lst (((es.take i).map isThing).map V.bl))) ⟨same_new hD, upd_same⟩ (fun i H1 _ hh => SqT.of (hh.1 _ _ hc2.2)) ?_ ?_⟩
            · rintro i y H1 hi ⟨hs, hacc⟩
              obtain ⟨d1, hd1, td1⟩ := hz3.get' hi
              have := depthAll_get hd1
              refine ⟨rfl, ?_⟩
              refine rd_tyes ?_
              refine rd_yes rfl ?_
              walk_at "rd"
              refine ⟨p, d1, y, rfl, Tp.keep (Keep.same hs) _ _ td1, by omega, ?_⟩
              refine ⟨_, hacc, ?_, fun b o e => ?_, ?_⟩
              · refine Nat.lt_of_le_of_lt (?_ : _ ≤ 1000) (by decide)
                rw [List.length_map, List.length_map]
                exact Nat.le_trans (List.length_take_le' _ _) (by omega)
              · rw [upd_ne (ne_of_none e hD)]
                exact hs b o e
              · rw [upd_same, take_snoc hd1, List.map_append, List.map_append]
                rfl
            · rintro H1 ⟨s1, a1⟩
              rw [List.take_of_length_le (by omega)] at a1
              walk_at "rd"
              refine ⟨D, _, rfl, SqL.of a1, ?_⟩
              exact q H1 s1
          | _ =>
            refine rd_no rfl ?_
            exact q H same
    | _ =>
      refine rd_yes rfl ?_
      walk_at "rd"
      exact q H same
theorem ok_law_is_in (T : Tx K mg) (B : Bk K mg T) : FnOk P w K mg base CX0 12 B.law_is_in.f B.law_is_in.fd ["thing"] (spLIn T.c_Outgoing 10) := by
  have G_law_is_within := ok_law_is_within (P := P) (w := w) (base := base) T B
  have G_law_is_integer := ok_law_is_integer (P := P) (w := w) (base := base) T B
  have G_law_is_thing := ok_law_is_thing (P := P) (w := w) (base := base) T B 10
  refine B.law_is_in.F.ok sc_law_is_in (fun vs H Q E h => ?_) (fun cdv A outer s H vs Q E hr h => ?_)
  · obtain ⟨p, d, x, rfl, _⟩ := h
    rfl
  · obtain ⟨p, d, x, rfl, hd, hdp, hz, q⟩ := h
    refine ⟨_, (pss_cons (ps_if (PW.pt (pw_or (pt_not (pt_val (pe_callB call_isi (by rfl) T.b_isinstance (by decide +kernel) (pa_cons (pv 0) (pa_cons (pe_bltn (v := .ty "tuple") (by rfl) T.b_tuple (by decide +kernel) rfl) pa_nil))))) (pw_or (pt_cmpR op_ne (pe_callB call_len_seq (by rfl) T.b_len (by decide +kernel) (pa_cons (pv 0) pa_nil)) pe_int (nomark _)) (pw_or1 (pt_not (pt_val (pe_call G_law_is_within (hr.mono (by decide)) rfl B.law_is_within.m B.law_is_within.F.kp B.law_is_within.b .nil pass0 (pa_cons (pe_ix ix_tup (pv 0) pe_int (fun _ _ => rfl)) (pa_cons pe_int (pa_cons (pe_op op_sub (pe_op op_pow pe_int pe_int) pe_int) pa_nil)))))))))) (pss_one (ps_ret pe_bl)) pss_nil)
      (pss_cons (ps_if (pt_not (pt_val (pe_callB call_isi (by rfl) T.b_isinstance (by decide +kernel) (pa_cons (pe_ix ix_tup (pv 0) pe_int (fun _ _ => rfl)) (pa_cons (pe_bltn (v := .ty "tuple") (by rfl) T.b_tuple (by decide +kernel) rfl) pa_nil))))) (pss_one (ps_ret pe_bl)) pss_nil)
      (pss_cons (ps_set (i := 1) sc_law_is_in.nd rfl (Or.inl rfl) (pe_ix ix_tup (pv 0) pe_int (fun _ _ => rfl)))
      (pss_cons (ps_for PassesOwn.never rfl (pi_tup (pe_ix ix_tup (pv 0) pe_int (fun _ _ => rfl))) (pg_name (i := 2) sc_law_is_in.nd rfl (Or.inl rfl)) (pss_cons (ps_if (PW.pt (pw_or (pt_not (pt_val (pe_callB call_isi (by rfl) T.b_isinstance (by decide +kernel) (pa_cons (pv 2) (pa_cons (pe_bltn (v := .ty "tuple") (by rfl) T.b_tuple (by decide +kernel) rfl) pa_nil))))) (pw_or (pt_cmpR op_ne (pe_callB call_len_seq (by rfl) T.b_len (by decide +kernel) (pa_cons (pv 2) pa_nil)) pe_int (nomark _)) (pw_or1 (pt_not (pt_val (pe_call G_law_is_integer (hr.mono (by decide)) rfl B.law_is_integer.m B.law_is_integer.F.kp B.law_is_integer.b .nil pass0 (pa_cons (pe_ix ix_tup (pv 2) pe_int (fun _ _ => rfl)) pa_nil)))))))) (pss_one (ps_ret pe_bl)) pss_nil)
      (pss_cons (ps_if (pt_not (pt_val (pe_call G_law_is_thing (hr.mono (by decide)) rfl B.law_is_thing.m B.law_is_thing.F.kp B.law_is_thing.b .nil pass0 (pa_cons (pe_ix ix_tup (pv 2) pe_int (fun _ _ => rfl)) pa_nil)))) (pss_one (ps_ret pe_bl)) pss_nil)
      (pss_cons (ps_if (PW.pt (pw_or (pt_cmpR op_le (pe_ix ix_tup (pv 2) pe_int (fun _ _ => rfl)) (pv 1) (nomark _)) (pw_or1 (pt_cmpR op_ge (pe_ix ix_tup (pv 2) pe_int (fun _ _ => rfl)) (pe_op op_add (pe_ix ix_tup (pv 0) pe_int (fun _ _ => rfl)) pe_int) (nomark _))))) (pss_one (ps_ret pe_bl)) pss_nil)
      (pss_one (ps_set (i := 1) sc_law_is_in.nd rfl (Or.inl rfl) (pe_ix ix_tup (pv 2) pe_int (fun _ _ => rfl))))))))
      (pss_one (ps_ret pe_bl)))))), ?_⟩
    walk_at "rd"
    refine tp_isT T.W_Outgoing hd ?_
    walk_at "rd"
    cases d with
    | tuple ds =>
      obtain ⟨c, ys, rfl, hc, hy⟩ := tp_tup' hd
      have hly := hy.len
      refine rd_no rfl ?_
      walk_at "rd"
      refine ⟨c, ys, rfl, .inr (SqT.of hc.2), ?_⟩
      walk_at "rd"
      refine rd_ite (fun h1 => ?_) (fun h1 => ?_)
      · refine rd_yes rfl ?_
        walk_at "rd"
        have e : isIn (.tuple ds) = false := by
          unfold isIn
          split
          · rename_i e
            cases e
            simp at hly
            rw [← hly] at h1
            cases h1
          · rfl
        rw [e] at q
        exact q
      · obtain ⟨a, b, rfl⟩ : ∃ a b, ds = [a, b] := by
          have : ds.length = 2 := by
            rw [hly]
            simp at h1
            omega
          match ds, this with
          | [a, b], _ => exact ⟨a, b, rfl⟩
        obtain ⟨x1, x2, rfl, t1, t2⟩ := tpAll2 hy
        have hz2 : (sz a + (sz b + 0)) + 1 ≤ 900 := hz
        have hdp2 : max a.depth (max b.depth 0) + 1 < 10 := hdp
        walk_at "rd"
        refine rd_ixT hc.2 rfl ?_
        walk_at "rd"
        refine rd_iC ⟨by decide, by decide, by decide⟩ ?_
        walk_at "rd"
        refine ⟨p, a, x1, 0, _, rfl, t1, ?_⟩
        rw [nb_in]
        walk_at "rd"
        refine rd_ite (fun h2 => ?_) (fun h2 => ?_)
        · have h2' : isNb 4294967296 a = false := by simpa using h2
          walk_at "rd"
          have e : isIn (.tuple [a, b]) = false := by
            cases a with
            | int k =>
              show (isNb 4294967296 (.int k) && canH k b) = false
              rw [h2']
              rfl
            | _ => rfl
          rw [e] at q
          exact q
        · have h2' : isNb 4294967296 a = true := by simpa using h2
          cases a with
          | int k =>
            cases tp_int' t1
            replace q : Q (.bl (isNb 4294967296 (.int k) && canH k b)) H := q
            rw [h2', Bool.true_and] at q
            have hk0 : 0 ≤ k := by
              simp only [isNb, Bool.and_eq_true, decide_eq_true_eq] at h2'
              exact h2'.1
            walk_at "rd"
            refine rd_ixT hc.2 rfl ?_
            walk_at "rd"
            refine tp_isT T.W_Outgoing t2 ?_
            walk_at "rd"
            cases b with
            | tuple es =>
              obtain ⟨c2, zs, rfl, hc2, hz3⟩ := tp_tup' t2
              have hlz := hz3.len
              have hdb : PyData.depthAll es + 1 < 10 := by
                have : (PyData.tuple es).depth = PyData.depthAll es + 1 := rfl
                omega
              rw [show canH k (.tuple es) = chk k k es from (chk_can hk0 ⟨Int.le_refl k, by omega⟩ es).symm] at q
              refine rd_no rfl ?_
              walk_at "rd"
              refine rd_ixT hc.2 rfl ?_
              walk_at "rd"
              show iTup _ _ _ _ _
              refine rd_itup ?_
              walk_at "rd"
              refine rd_ixT hc.2 rfl ?_
              refine ⟨c2, rfl, ⟨zs, SqT.of hc2.2⟩, for_tup (K := K) (a := c2) (xs := zs) (fun i σ H1 => H1 = H ∧ ∃ (la : Int) (u : Option V), chk k k es = chk k la (es.drop i) ∧ σ = [some (.ref c), some (.int la), u]) ⟨rfl, k, _, rfl, rfl⟩ (fun i σ H1 _ hh => by rw [hh.1]; exact SqT.of hc2.2) ?_ ?_⟩
              · rintro i y σ H1 hi ⟨rfl, la, u, hck, rfl⟩
                obtain ⟨d1, hd1, td1⟩ := hz3.get' hi
                have dep := depthAll_get hd1
                have il := (List.getElem?_eq_some_iff.mp hd1).1
                have edr : es.drop i = d1 :: es.drop (i + 1) := by
                  rw [List.drop_eq_getElem_cons il]
                  congr 1
                  exact (List.getElem?_eq_some_iff.mp hd1).2
                rw [edr] at hck
                walk_at "rd"
                refine tp_isT T.W_Outgoing td1 ?_
                walk_at "rd"
                cases d1 with
                | tuple fs =>
                  obtain ⟨c3, ws, rfl, hc3, hws⟩ := tp_tup' td1
                  have hlw := hws.len
                  refine rd_no rfl ?_
                  walk_at "rd"
                  refine ⟨c3, ws, rfl, .inr (SqT.of hc3.2), ?_⟩
                  walk_at "rd"
                  refine rd_ite (fun h4 => ?_) (fun h4 => ?_)
                  · refine rd_yes rfl ?_
                    walk_at "rd"
                    have e : chk k la (.tuple fs :: es.drop (i + 1)) = false := by
                      unfold chk
                      split
                      · rename_i e
                        cases e
                      · rename_i e
                        cases e
                        simp at hlw
                        rw [← hlw] at h4
                        cases h4
                      · rfl
                    rw [hck, e] at q
                    exact q
                  · obtain ⟨n, th, rfl⟩ : ∃ a b, fs = [a, b] := by
                      have : fs.length = 2 := by
                        rw [hlw]
                        simp at h4
                        omega
                      match fs, this with
                      | [a, b], _ => exact ⟨a, b, rfl⟩
                    obtain ⟨z1, z2, rfl, r1, r2⟩ := tpAll2 hws
                    walk_at "rd"
                    refine rd_ixT hc3.2 rfl ?_
                    walk_at "rd"
                    refine ⟨p, n, z1, rfl, r1, ?_⟩
                    walk_at "rd"
                    cases n with
                    | int n =>
                      cases tp_int' r1
                      have hck2 : chk k k es = (isThing th && (decide (la < n) && decide (n < k + 1000)) && chk k n (es.drop (i + 1))) := hck
                      have dep2 : max 0 (max th.depth 0) + 1 ≤ PyData.depthAll es := dep
                      refine rd_no rfl ?_
                      walk_at "rd"
                      refine rd_ixT hc3.2 rfl ?_
                      walk_at "rd"
                      refine ⟨p, th, z2, rfl, r2, by omega, ?_⟩
                      walk_at "rd"
                      refine rd_ite (fun h5 => ?_) (fun h5 => ?_)
                      · walk_at "rd"
                        rw [hck2, show isThing th = false by simpa using h5] at q
                        exact q
                      · rw [show isThing th = true by simpa using h5, Bool.true_and] at hck2
                        walk_at "rd"
                        refine rd_ixT hc3.2 rfl ?_
                        walk_at "rd"
                        refine rd_ite (fun h6 => ?_) (fun h6 => ?_)
                        · refine rd_yes rfl ?_
                          walk_at "rd"
                          rw [hck2, show decide (la < n) = false from decide_eq_false (by have := of_decide_eq_true h6; omega)] at q
                          exact q
                        · have h6' := of_decide_eq_false h6
                          walk_at "rd"
                          refine rd_ixT hc3.2 rfl ?_
                          walk_at "rd"
                          refine rd_ixT hc.2 rfl ?_
                          walk_at "rd"
                          refine rd_ite (fun h7 => ?_) (fun h7 => ?_)
                          · walk_at "rd"
                            have h7' := of_decide_eq_true h7
                            rw [hck2, show decide (n < k + 1000) = false from decide_eq_false (by omega), Bool.and_false] at q
                            exact q
                          · have h7' := of_decide_eq_false h7
                            walk_at "rd"
                            refine rd_ixT hc3.2 rfl ?_
                            refine ⟨rfl, n, _, ?_, rfl⟩
                            rw [hck2, show decide (la < n) = true from decide_eq_true (by omega), show decide (n < k + 1000) = true from decide_eq_true (by omega)]
                            rfl
                    | _ =>
                      refine rd_yes rfl ?_
                      walk_at "rd"
                      rw [hck] at q
                      exact q
                | _ =>
                  refine rd_yes rfl ?_
                  walk_at "rd"
                  rw [hck] at q
                  exact q
              · rintro σ H1 ⟨rfl, la, u, hck, rfl⟩
                rw [← hlz, List.drop_length] at hck
                walk_at "rd"
                rw [hck] at q
                exact q
            | _ =>
              refine rd_yes rfl ?_
              walk_at "rd"
              exact q
          | _ => cases h2'
    | _ =>
      refine rd_yes rfl ?_
      walk_at "rd"
      exact q
end
end Mw

/-! MR4 -/
/-! list(zip(s, t)) of two tuples: a new list of new pairs. -/
namespace L2
open PySem PySem.Spec PyProof.Rows RZ
theorem lz_len : typeLookup (.type "zip") "__len__" = pure none := am_miss_of_fast (by decide +kernel)
theorem lz_hint : typeLookup (.type "zip") "__length_hint__" = pure none := am_miss_of_fast (by decide +kernel)
section
variable {prog : Program} {w : World} {A : Around} {E : Value → Shared → Prop} {s : Shared}
variable {z TI TO T i1 i2 l1 l2 : Addr} {f : Bool} {oT : Obj} {k1 k2 : Nat} {xs ys : Array Value}
/-- the next pair while the last one is still there -/
theorem lz_item {x y : Value} {Q : Option Value → Shared → Prop} (D : ZipApart z TI TO i1 i2 l1 l2)
    (hz : IsZipHeld s.heap z TI TO T f)
    (hT : s.heap.get? T = some oT)
    (hTI : IsPair s.heap TI (.ref i1) (.ref i2)) (h1 : s.heap.IsTupleIter i1 l1 k1)
    (h2 : s.heap.IsTupleIter i2 l2 k2) (hl1 : s.heap.IsTuple l1 xs)
    (hl2 : s.heap.IsTuple l2 ys) (hx : xs[k1]? = some x)
    (hy : ys[k2]? = some y)
    (q : ∀ h', IsZipHeld h' z TI TO T true → h'.IsTupleIter i1 l1 (k1 + 1) → h'.IsTupleIter i2 l2 (k2 + 1) → IsPair h' s.heap.objs.size x y → h'.objs.size = s.heap.objs.size + 1 → (∀ c o, c ≠ z → c ≠ i1 → c ≠ i2 → s.heap.get? c = some o → h'.get? c = some o) → Q (some (.ref s.heap.objs.size)) { s with heap := h' }) :
    wpAny (model prog w) A (pyNext (.ref z)) Q E s := by
  have ty : s.TypeIs (.ref z) "zip" := ⟨_, hz, rfl⟩
  unfold pyNext
  refine wpAny_bind (wpAny_attempt (wpAny_callSpecial?_slot (name := Str.ofString "__next__") ty F.slot_zip_next (wpAny_call_entry F.slot_zip_next ty F.entry_zip_next ?_ (F.args_zip_next_1 _))))
  show wpAny _ _ (field (.ref z) 2 >>= _) _ _ _
  refine wpAny_bind (wpAny_field hz rfl (x := .bool false) rfl ?_)
  show wpAny _ _ (field (.ref z) 3 >>= _) _ _ _
  refine wpAny_bind (wpAny_field hz rfl (x := .ref TI) rfl (wpAny_bind (wpAny_seqItems hTI rfl ?_)))
  show wpAny _ _ (Builtin.SmallTypes.ownedTupleIsFree (.ref z) >>= _) _ _ _
  refine wpAny_bind (wpAny_tupleHeld_zip hz hT fun g1 z1 b1 => ?_)
  simp only [Bool.false_eq_true, if_false]
  refine wpAny_bind ?_
  rw [← Array.forIn_toList]
  simp only [List.forIn_cons, List.forIn_nil]
  refine wpAny_bind (wpAny_bind (wpAny_holding ?_))
  show wpAny _ _ (Builtin.SmallTypes.nextOf (.ref i1) >>= _) _ _ _
  refine wpAny_bind (nextOf_tuple_item (s := { s with heap := g1 }) (h1.extBut b1.extBut D.i1z) (hl1.extBut b1.extBut D.l1z) hx fun g2 i2' b2 => wpAny_pure (wpAny_pure ?_))
  refine wpAny_bind (wpAny_bind (wpAny_holding ?_))
  show wpAny _ _ (Builtin.SmallTypes.nextOf (.ref i2) >>= _) _ _ _
  refine wpAny_bind (nextOf_tuple_item (s := { s with heap := g2 }) ((h2.extBut b1.extBut D.i2z).extBut b2.extBut D.i12.symm) ((hl2.extBut b1.extBut D.l2z).extBut b2.extBut D.l2i1) hy fun g3 i3' b3 => wpAny_pure ?_)
  refine wpAny_pure (wpAny_pure ?_)
  show wpAny _ _ (newTuple [x, y] >>= _) _ _ _
  refine wpAny_bind (wpAny_newTuple ?_)
  have sz : g3.objs.size = s.heap.objs.size := by rw [b3.1, b2.1, b1.1]
  have z3 : IsZipHeld g3 z TI TO T true := b3.extBut _ _ D.i2z.symm (b2.extBut _ _ D.i1z.symm z1)
  have kp : ∀ c o, c ≠ z → c ≠ i1 → c ≠ i2 → s.heap.get? c = some o → g3.get? c = some o := fun c o c1 c2 c3 e => b3.extBut _ _ c3 (b2.extBut _ _ c2 (b1.extBut _ _ c1 e))
  have j1 : g3.IsTupleIter i1 l1 (k1 + 1) := i2'.extBut b3.extBut D.i12
  refine wpAny_pure ⟨_, rfl, wpAny_pure ?_⟩
  show Q (some (.ref g3.objs.size)) _
  have pr : IsPair (g3.push { cls := .type "tuple", data := .seq #[x, y] }) g3.objs.size x y := Heap.get?_push_size _ rfl
  have sz4 : (g3.push { cls := .type "tuple", data := .seq #[x, y] }).objs.size = g3.objs.size + 1 := Heap.size_push ..
  rw [sz] at pr sz4 ⊢
  exact q _ (Heap.get?_push_of_some _ z3) (j1.at fun o e => Heap.get?_push_of_some _ e) (i3'.at fun o e => Heap.get?_push_of_some _ e) pr sz4 fun c o c1 c2 c3 e => Heap.get?_push_of_some _ (kp c o c1 c2 c3 e)
/-- no next pair while the last one is still there -/
theorem lz_end {Q : Option Value → Shared → Prop} (hh : A.handled = none) (D : ZipApart z TI TO i1 i2 l1 l2)
    (hz : IsZipHeld s.heap z TI TO T f)
    (hT : s.heap.get? T = some oT)
    (hTI : IsPair s.heap TI (.ref i1) (.ref i2)) (h1 : s.heap.IsTupleIter i1 l1 k1)
    (h2 : s.heap.IsTupleIter i2 l2 k2) (hl1 : s.heap.IsTuple l1 xs)
    (hl2 : s.heap.IsTuple l2 ys) (he : xs[k1]? = none ∨ ys[k2]? = none)
    (q : ∀ h', (∀ c o, c ≠ z → c ≠ i1 → c ≠ i2 → s.heap.get? c = some o → h'.get? c = some o) → Q none { s with heap := h' }) :
    wpAny (model prog w) A (pyNext (.ref z)) Q E s := by
  have ty : s.TypeIs (.ref z) "zip" := ⟨_, hz, rfl⟩
  unfold pyNext
  refine wpAny_bind (wpAny_attempt (wpAny_callSpecial?_slot (name := Str.ofString "__next__") ty F.slot_zip_next (wpAny_call_entry F.slot_zip_next ty F.entry_zip_next ?_ (F.args_zip_next_1 _))))
  show wpAny _ _ (field (.ref z) 2 >>= _) _ _ _
  refine wpAny_bind (wpAny_field hz rfl (x := .bool false) rfl ?_)
  show wpAny _ _ (field (.ref z) 3 >>= _) _ _ _
  refine wpAny_bind (wpAny_field hz rfl (x := .ref TI) rfl (wpAny_bind (wpAny_seqItems hTI rfl ?_)))
  show wpAny _ _ (Builtin.SmallTypes.ownedTupleIsFree (.ref z) >>= _) _ _ _
  refine wpAny_bind (wpAny_tupleHeld_zip hz hT fun g1 z1 b1 => ?_)
  simp only [Bool.false_eq_true, if_false]
  refine wpAny_bind ?_
  rw [← Array.forIn_toList]
  simp only [List.forIn_cons, List.forIn_nil]
  refine wpAny_bind (wpAny_bind (wpAny_holding ?_))
  show wpAny _ _ (Builtin.SmallTypes.nextOf (.ref i1) >>= _) _ _ _
  cases hx : xs[k1]? with
  | none =>
    refine wpAny_bind (nextOf_tuple_end (s := { s with heap := g1 }) hh (h1.extBut b1.extBut D.i1z) (hl1.extBut b1.extBut D.l1z) hx fun g2 e b2 ho => ?_)
    obtain ⟨o, ho, hc⟩ := ho
    refine wpAny_bind (wpAny_isInstance (T := "StopIteration") (b := true) ⟨o, ho, hc⟩ isSubtype_stop ?_)
    exact wpAny_pure (q _ fun c o c1 c2 _ x => b2 _ _ c2 (b1.extBut _ _ c1 x))
  | some x =>
    have hy : ys[k2]? = none := by
      rcases he with h | h
      · rw [hx] at h
        cases h
      · exact h
    refine wpAny_bind (nextOf_tuple_item (s := { s with heap := g1 }) (h1.extBut b1.extBut D.i1z) (hl1.extBut b1.extBut D.l1z) hx fun g2 i2' b2 => wpAny_pure (wpAny_pure ?_))
    refine wpAny_bind (wpAny_bind (wpAny_holding ?_))
    show wpAny _ _ (Builtin.SmallTypes.nextOf (.ref i2) >>= _) _ _ _
    refine wpAny_bind (nextOf_tuple_end (s := { s with heap := g2 }) hh ((h2.extBut b1.extBut D.i2z).extBut b2.extBut D.i12.symm) ((hl2.extBut b1.extBut D.l2z).extBut b2.extBut D.l2i1) hy fun g3 e b3 ho => ?_)
    obtain ⟨o, ho, hc⟩ := ho
    refine wpAny_bind (wpAny_isInstance (T := "StopIteration") (b := true) ⟨o, ho, hc⟩ isSubtype_stop ?_)
    exact wpAny_pure (q _ fun c o c1 c2 c3 x => b3 _ _ c3 (b2.extBut _ _ c2 (b1.extBut _ _ c1 x)))
end
/-! ### the loop -/
section
variable {X : Cx} {pins : List (Addr × Obj)} {σ : L2.St} {l1 l2 z TI TO i1 i2 D : Addr} {xs ys : List V} {H1 : Hp}
/-- behind i turns: ts the pairs that stand in the list at D -/
structure LzInv (X : Cx) (pins : List (Addr × Obj)) (σ : L2.St) (l1 l2 z TI TO i1 i2 D : Addr) (xs ys : List V) (H1 : Hp) (ts : List Addr) (s : Shared) (H : Hp) : Prop where
  I : Inv X pins σ H s
  same : Same H1 H
  fp : ∀ c ∈ [z, TI, TO, i1, i2], FpOk X pins H c
  zip : (ts = [] ∧ IsZip s.heap z TI TO .none ∧ ∃ a b, IsPair s.heap TO a b) ∨ ∃ T f oT, IsZipHeld s.heap z TI TO T f ∧ T ≠ z ∧ T ≠ TI ∧ T ≠ TO ∧ T ≠ i1 ∧ T ≠ i2 ∧ T ≠ D ∧ s.heap.get? T = some oT
  pTI : IsPair s.heap TI (.ref i1) (.ref i2)
  t1 : s.heap.IsTupleIter i1 l1 ts.length
  t2 : s.heap.IsTupleIter i2 l2 ts.length
  lst : H D = some (.lst (ts.map V.ref))
  lt : ∀ c ∈ [z, TI, TO, i1, i2], c < s.heap.objs.size
  few : ts.length ≤ xs.length ∧ ts.length ≤ ys.length
  prs : ∀ (j : Nat) (t : Addr) (x y : V), ts[j]? = some t → xs[j]? = some x → ys[j]? = some y → H t = some (.tup [x, y])
theorem lz_loop {A : Around} {R : Result → Shared → Prop} {res : Value} (hh : A.in1.handled = none) (Dz : ZipApart z TI TO i1 i2 l1 l2) (h1 : H1 l1 = some (.tup xs)) (h2 : H1 l2 = some (.tup ys)) (nD : H1 D = none)
    (hR : ∀ (ts : List Addr) (s' : Shared) (H' : Hp), Inv X pins σ H' s' → Same H1 H' → H' D = some (.lst (ts.map V.ref)) → ts.length = min xs.length ys.length → (∀ (j : Nat) (t : Addr) (x y : V), ts[j]? = some t → xs[j]? = some x → ys[j]? = some y → H' t = some (.tup [x, y])) → R (.ok (.ret res)) s') :
    ∀ (k : Nat) (ts : List Addr) (s : Shared) (H : Hp), min xs.length ys.length - ts.length = k → LzInv X pins σ l1 l2 z TI TO i1 i2 D xs ys H1 ts s H → codeAny (model X.prog X.w) A (.builtin "list.extend.loop" ⟨[.ref D, .ref z, res], []⟩) R s := by
  intro k
  induction k with
  | zero =>
    intro ts s H hk J
    refine codeAny_builtin F.entry_extend_loop ?_
    rw [Around.under_plainId F.plain_extend_loop _]
    show wpAny _ A.in1 (pyNext (.ref z) >>= _) _ _ s
    have f := J.few
    have hn : ts.length = min xs.length ys.length := by omega
    obtain ⟨its, rv, p, _⟩ := J.I.tuple (SqT.of (J.same _ _ h1))
    obtain ⟨its2, rv2, p2, _⟩ := J.I.tuple (SqT.of (J.same _ _ h2))
    have e1 := rv.length
    have e2 := rv2.length
    have he : its.toArray[ts.length]? = none ∨ its2.toArray[ts.length]? = none := by
      by_cases c : xs.length ≤ ys.length
      · exact .inl (by simp; omega)
      · exact .inr (by simp; omega)
    have fin : ∀ h', (∀ c o, c ≠ z → c ≠ TO → c ≠ i1 → c ≠ i2 → s.heap.get? c = some o → h'.get? c = some o) → R (.ok (.ret res)) { s with heap := h' } := fun h' kp =>
      hR ts _ H (J.I.turnedL (t' := s.toks) (ch := [z, TI, TO, i1, i2]) (fun c o hb q => kp c o (fun e => hb (by simp [e])) (fun e => hb (by simp [e])) (fun e => hb (by simp [e])) (fun e => hb (by simp [e])) q) J.fp) J.same J.lst hn J.prs
    rcases J.zip with ⟨_, hz, a, b, hTO⟩ | ⟨T, f, oT, hz, _, _, _, _, _, _, hT⟩
    · exact wpAny_bind (pyNext_zipT_end hh Dz hz J.pTI hTO J.t1 J.t2 p p2 he fun h' kp => wpAny_pure (fin h' kp))
    · exact wpAny_bind (lz_end hh Dz hz hT J.pTI J.t1 J.t2 p p2 he fun h' kp => wpAny_pure (fin h' fun c o c1 _ c3 c4 e => kp c o c1 c3 c4 e))
  | succ k ih =>
    intro ts s H hk J
    refine codeAny_builtin F.entry_extend_loop ?_
    rw [Around.under_plainId F.plain_extend_loop _]
    show wpAny _ A.in1 (pyNext (.ref z) >>= _) _ _ s
    obtain ⟨its, rv, p, _⟩ := J.I.tuple (SqT.of (J.same _ _ h1))
    obtain ⟨its2, rv2, p2, _⟩ := J.I.tuple (SqT.of (J.same _ _ h2))
    have hx : xs[ts.length]? = some (xs[ts.length]'(by omega)) := by simp
    have hy : ys[ts.length]? = some (ys[ts.length]'(by omega)) := by simp
    generalize xs[ts.length]'(by omega) = x at hx
    generalize ys[ts.length]'(by omega) = y at hy
    obtain ⟨u, hu, ru⟩ := rv.get hx
    obtain ⟨u2, hu2, ru2⟩ := rv2.get hy
    have push : ∀ h', (IsZipHeld h' z TI TO s.heap.objs.size false ∨ IsZipHeld h' z TI TO s.heap.objs.size true ∨ ∃ T f oT, IsZipHeld h' z TI TO T f ∧ T ≠ z ∧ T ≠ TI ∧ T ≠ TO ∧ T ≠ i1 ∧ T ≠ i2 ∧ T ≠ D ∧ h'.get? T = some oT) → h'.IsTupleIter i1 l1 (ts.length + 1) → h'.IsTupleIter i2 l2 (ts.length + 1) → IsPair h' s.heap.objs.size u u2 →
        (∀ c o, c ≠ z → c ≠ TO → c ≠ i1 → c ≠ i2 → s.heap.get? c = some o → h'.get? c = some o) →
        wpAny (model X.prog X.w) A.in1 (updateSeq D (·.push (.ref s.heap.objs.size)) >>= fun _ => again (.builtin "list.extend.loop" ⟨[.ref D, .ref z, res], []⟩))
          (fun fin s' => match fin with | .done f => R (.ok f) s' | .again c' => c'.quiet = true ∧ codeAny (model X.prog X.w) A c' R s') (fun e s' => R (.error e) s') { s with heap := h' } := by
      intro h' hzip a3 a4 a5 kp
      have nf : H s.heap.objs.size = none := J.I.hok.fresh (Nat.le_refl _)
      have new : ObjOk X.prog X.w (upd H s.heap.objs.size (.tup [x, y])) h' s.heap.objs.size (.tup [x, y]) := ⟨by show 2 ≤ sizeLine; decide, [u, u2], .cons ru (.cons ru2 .nil), ⟨_, a5, rfl, _, rfl⟩⟩
      have I1 : Inv X pins σ (upd H s.heap.objs.size (.tup [x, y])) { s with heap := h' } :=
        J.I.turnedNew (t' := s.toks) (ch := [z, TI, TO, i1, i2]) (fun c o hb q => kp c o (fun e => hb (by simp [e])) (fun e => hb (by simp [e])) (fun e => hb (by simp [e])) (fun e => hb (by simp [e])) q) J.fp (Nat.le_refl _) new
      have nTD : s.heap.objs.size ≠ D := (ne_of_none J.lst nf).symm
      have hD1 : (upd H s.heap.objs.size (.tup [x, y])) D = some (.lst (ts.map V.ref)) := (upd_ne nTD.symm).trans J.lst
      obtain ⟨hz, its3, n3, r3, l3, e3⟩ := I1.lstM hD1
      have len : (ts.map V.ref).length = ts.length := List.length_map _
      have zx : xs.length ≤ sizeLine := by
        obtain ⟨_, _, _, q⟩ := J.I.tuple (SqT.of (J.same _ _ h1))
        exact q
      have small : ts.length + 1 ≤ sizeLine := by omega
      have nc : ∀ c ∈ [z, TI, TO, i1, i2], c ≠ D := fun c hc => (ne_of_none J.lst (J.fp c hc).1).symm
      have oth : ∀ b o, b ≠ D → h'.get? b = some o → (h'.update D (Obj.mapSeq (·.push (.ref s.heap.objs.size)))).get? b = some o := fun b o hb e => (Heap.get?_update_other _ _ hb.symm).trans e
      have szT : s.heap.objs.size < h'.objs.size := Heap.lt_size a5
      refine wpAny_bind (wpAny_updateSeq e3 rfl ?_ (by rw [List.size_toArray, ← l3, len]; omega) (by show (its3.toArray.push _).size ≤ sizeLine + 1; rw [Array.size_push, List.size_toArray, ← l3, len]; omega))
      refine wpAny_pure ⟨plainId_quiet F.plain_extend_loop _, ih (ts ++ [s.heap.objs.size]) _ (upd (upd H s.heap.objs.size (.tup [x, y])) D (.lst ((ts ++ [s.heap.objs.size]).map V.ref))) (by rw [List.length_append]; simp; omega) ?_⟩
      have rT : Vals ((ts ++ [s.heap.objs.size]).map V.ref) (its3 ++ [Value.ref s.heap.objs.size]) := by
        rw [List.map_append]
        exact r3.append (.cons rfl .nil)
      refine {
        I := I1.lset (t' := s.toks) (its' := its3 ++ [Value.ref s.heap.objs.size]) hD1 e3 (by simp) rT (by rw [List.length_map, List.length_append]; simpa using small)
        same := fun b o e => ?_
        fp := fun c hc => ?_
        zip := .inr ?_
        pTI := oth _ _ (nc TI (by simp)) (kp _ _ Dz.TIz Dz.TITO Dz.TIi1 Dz.TIi2 J.pTI)
        t1 := ?_
        t2 := ?_
        lst := upd_same
        lt := fun c hc => ?_
        few := by rw [List.length_append]; simp; omega
        prs := fun j t x' y' ht hx' hy' => ?_ }
      · have e1 := J.same b o e
        rw [upd_ne (ne_of_none e nD), upd_ne (ne_of_none e1 nf)]
        exact e1
      · have q := J.fp c hc
        refine ⟨?_, q.2⟩
        rw [upd_ne (nc c hc), upd_ne (Nat.ne_of_lt (J.lt c hc))]
        exact q.1
      · have ht : (h'.update D (Obj.mapSeq (·.push (.ref s.heap.objs.size)))).get? s.heap.objs.size = some _ := oth _ _ nTD a5
        have ne : ∀ c ∈ [z, TI, TO, i1, i2], s.heap.objs.size ≠ c := fun c hc => (Nat.ne_of_lt (J.lt c hc)).symm
        rcases hzip with q | q | ⟨T, f, oT, q, n1, n2, n3, n4, n5, n6, hT⟩
        · exact ⟨_, _, _, oth _ _ (nc z (by simp)) q, ne z (by simp), ne TI (by simp), ne TO (by simp), ne i1 (by simp), ne i2 (by simp), nTD, ht⟩
        · exact ⟨_, _, _, oth _ _ (nc z (by simp)) q, ne z (by simp), ne TI (by simp), ne TO (by simp), ne i1 (by simp), ne i2 (by simp), nTD, ht⟩
        · exact ⟨T, f, oT, oth _ _ (nc z (by simp)) q, n1, n2, n3, n4, n5, n6, oth _ _ n6 hT⟩
      · rw [List.length_append]
        exact a3.at fun o e => oth _ o (nc i1 (by simp)) e
      · rw [List.length_append]
        exact a4.at fun o e => oth _ o (nc i2 (by simp)) e
      · have q := J.lt c hc
        show c < (h'.update D (Obj.mapSeq (·.push (.ref s.heap.objs.size)))).objs.size
        rw [Heap.size_update]
        exact Nat.lt_trans q szT
      · rw [List.getElem?_append] at ht
        by_cases hj : j < ts.length
        · rw [if_pos hj] at ht
          have q := J.prs j t x' y' ht hx' hy'
          rw [upd_ne (ne_of J.lst q (by intro z; cases z)).symm, upd_ne (ne_of_none q nf)]
          exact q
        · rw [if_neg hj] at ht
          have hj0 : j = ts.length := by
            have := (List.getElem?_eq_some_iff.mp ht).1
            simp at this
            omega
          subst hj0
          rw [hx] at hx'
          rw [hy] at hy'
          cases hx'
          cases hy'
          simp at ht
          subst ht
          rw [upd_ne nTD]
          exact upd_same
    rcases J.zip with ⟨_, hz, a, b, hTO⟩ | ⟨T, f, oT, hz, n1, n2, n3, n4, n5, n6, hT⟩
    · refine wpAny_bind (pyNext_zipT_item Dz hz J.pTI hTO J.t1 J.t2 p p2 (x := u) (y := u2) (by simpa using hu) (by simpa using hu2) fun h' a1 _ a3 a4 a5 _ kp => ?_)
      exact push h' (.inl a1) a3 a4 a5 kp
    · refine wpAny_bind (lz_item Dz hz hT J.pTI J.t1 J.t2 p p2 (x := u) (y := u2) (by simpa using hu) (by simpa using hu2) fun h' a1 a3 a4 a5 _ kp => ?_)
      exact push h' (.inr (.inr ⟨T, true, oT, a1, n1, n2, n3, n4, n5, n6, kp _ _ n1 n4 n5 hT⟩)) a3 a4 a5 fun c o c1 _ c3 c4 e => kp c o c1 c3 c4 e
end
/-! ### the whole expression -/
section
variable {X : Cx} {pins : List (Addr × Obj)} {σ : L2.St}
/-- a zip of the tuples at a and b, not begun -/
structure LzMade (X : Cx) (pins : List (Addr × Obj)) (σ : L2.St) (a b z TI TO i1 i2 : Addr) (H1 : Hp) (s : Shared) : Prop where
  I : Inv X pins σ H1 s
  ap : ZipApart z TI TO i1 i2 a b
  fp : ∀ c ∈ [z, TI, TO, i1, i2], FpOk X pins H1 c
  lt : ∀ c ∈ [z, TI, TO, i1, i2], c < s.heap.objs.size
  zip : IsZip s.heap z TI TO .none
  pTI : IsPair s.heap TI (.ref i1) (.ref i2)
  pTO : IsPair s.heap TO .none .none
  t1 : s.heap.IsTupleIter i1 a 0
  t2 : s.heap.IsTupleIter i2 b 0
def tListZip (ta : TA) : TE := fun σ H Q => ta σ H fun vs H1 => ∃ a b xs ys, vs = [.ref a, .ref b] ∧ H1 a = some (.tup xs) ∧ H1 b = some (.tup ys) ∧ ∀ (D : Addr) (ts : List Addr) (H' : Hp), Same H1 H' → H1 D = none → H' D = some (.lst (ts.map V.ref)) → ts.length = min xs.length ys.length →
  (∀ (j : Nat) (t : Addr) (x y : V), ts[j]? = some t → xs[j]? = some x → ys[j]? = some y → H' t = some (.tup [x, y])) → Q (.ref D) H'
theorem lz_zip {e e2 : Expr} {ta : TA} {p pos : Pos} {s : Shared} {H : Hp} {Q : List V → Hp → Prop} (hg : Gl X "zip") (hm : X.mg "zip" = none) (ha : PA X [e, e2] ta) (I : Inv X pins σ H s)
    (hs : starEach [e, e2] X.env = (false, eval e X.env) :: starEach [e2] X.env) (hpl : (backTo pos (starEach [e2] X.env)).any (·.1) = false)
    (hQ : ∀ vs H1, Q vs H1 → ∃ a b xs ys, vs = [.ref a, .ref b] ∧ H1 a = some (.tup xs) ∧ H1 b = some (.tup ys))
    (h : ta σ H Q) :
    wpAny (model X.prog X.w) X.A (eval (.Call (.Name "zip" p) [e, e2] [] pos) X.env) (fun v s' => ∃ a b z TI TO i1 i2 H1, v = .ref z ∧ LzMade X pins σ a b z TI TO i1 i2 H1 s' ∧ Q [.ref a, .ref b] H1) X.xe s := by
  refine Call_ (ld_blt I hg hm PyProof.Rows.boot_zip (PyProof.Rows.callWith_type1 (thn (ha.run pos pins s σ H _ I h) fun us s1 ⟨vs, H1, I1, r1, q⟩ => ?_) hs hpl))
  obtain ⟨a, b, xs, ys, ev, h1, h2⟩ := hQ vs H1 q
  subst ev
  cases r1 with
  | cons r rr =>
    cases rr with
    | cons r' rr =>
      cases rr
      cases r
      cases r'
      obtain ⟨its, _, p1, _⟩ := I1.tuple (SqT.of h1)
      obtain ⟨its2, _, p2, _⟩ := I1.tuple (SqT.of h2)
      obtain ⟨o1, ho1, _⟩ := id p1
      obtain ⟨o2, ho2, _⟩ := id p2
      refine call_zipT (show s1.heap.IsTuple a its.toArray from p1) (show s1.heap.IsTuple b its2.toArray from p2) fun h' hz hTI hTO t1 t2 hsz hk => ?_
      have ge : ∀ c ∈ [s1.heap.objs.size + 4, s1.heap.objs.size + 2, s1.heap.objs.size + 3, s1.heap.objs.size, s1.heap.objs.size + 1], s1.heap.objs.size ≤ c ∧ c < s1.heap.objs.size + 5 := fun c hc => by
        simp only [List.mem_cons, List.not_mem_nil, or_false] at hc
        rcases hc with q | q | q | q | q <;> rw [q] <;> exact ⟨by simp, by simp⟩
      refine ⟨a, b, s1.heap.objs.size + 4, s1.heap.objs.size + 2, s1.heap.objs.size + 3, s1.heap.objs.size, s1.heap.objs.size + 1, H1, rfl, ⟨I1.kept (t' := s1.toks) hk, PySem.W.ktu_apart s1.heap.objs.size a b (Heap.lt_size ho1) (Heap.lt_size ho2), fun c hc => ?_, fun c hc => ?_, hz, hTI, hTO, t1, t2⟩, q⟩
      · exact I1.fpOk (ge c hc).1 (I1.hok.fresh (ge c hc).1)
      · show c < h'.objs.size
        rw [hsz]
        exact (ge c hc).2
theorem lz_list {A : Around} {E : Value → Shared → Prop} {Q : Value → Shared → Prop} {a b z TI TO i1 i2 : Addr} {xs ys : List V} {H1 : Hp} {s : Shared} (hh : A.handled = none) (M : LzMade X pins σ a b z TI TO i1 i2 H1 s) (h1 : H1 a = some (.tup xs)) (h2 : H1 b = some (.tup ys))
    (hR : ∀ (D : Addr) (ts : List Addr) (s' : Shared) (H' : Hp), Inv X pins σ H' s' → Same H1 H' → H1 D = none → H' D = some (.lst (ts.map V.ref)) → ts.length = min xs.length ys.length → (∀ (j : Nat) (t : Addr) (x y : V), ts[j]? = some t → xs[j]? = some x → ys[j]? = some y → H' t = some (.tup [x, y])) → Q (.ref D) s') :
    wpAny (model X.prog X.w) A (call (.type "list") [.ref z]) Q E s := by
  have nDz : s.heap.objs.size ≠ z := (Nat.ne_of_lt (M.lt z (by simp))).symm
  refine callType_codes (Q₁ := fun obj s₁ => obj = .ref s.heap.objs.size ∧ s₁ = { s with heap := s.heap.push { cls := .type "list", data := .seq #[] } }) F.called_list (F.typeCall_list_1 _) F.entry_list_init (code_list_new _ ⟨rfl, rfl⟩) fun obj s₁ h₁ => ?_
  obtain ⟨rfl, rfl⟩ := h₁
  have d1 : (s.heap.push { cls := .type "list", data := .seq #[] }).get? s.heap.objs.size = some { cls := .type "list", data := .seq #[] } := Heap.get?_push_size _ rfl
  refine ⟨⟨_, d1, rfl⟩, F.args_list_init_2 _ _, ?_⟩
  show wpAny _ A.in1.in1 (Builtin.List.listItems (.ref s.heap.objs.size) >>= _) _ _ _
  refine wpAny_bind ?_
  unfold Builtin.List.listItems
  refine wpAny_bind (wpAny_seqItems d1 rfl (wpAny_pure ?_))
  show wpAny _ A.in1.in1 (updateSeq s.heap.objs.size (fun _ => #[]) >>= _) _ _ _
  refine wpAny_bind (wpAny_updateSeq d1 rfl ?_)
  have d2 := Heap.get?_update_self (Obj.mapSeq (fun _ => (#[] : Array Value))) d1 rfl
  refine wpAny_bind (wpAny_letGo ?_)
  unfold Builtin.List.listExtendWith
  have up : ∀ (g : Heap) (f : Obj → Obj), (∀ c o, s.heap.get? c = some o → g.get? c = some o) → ∀ c o, s.heap.get? c = some o → (g.update s.heap.objs.size f).get? c = some o := fun g f q c o e => (Heap.get?_update_other _ _ (Ne.symm (Nat.ne_of_lt (Heap.lt_size e)))).trans (q c o e)
  have u1 : ∀ c o, s.heap.get? c = some o → (s.heap.push { cls := .type "list", data := .seq #[] }).get? c = some o := fun c o e => Heap.get?_push_of_some _ e
  have u2 := up _ (Obj.mapSeq (fun _ => (#[] : Array Value))) u1
  have zt : ∀ {g : Heap}, (∀ c o, s.heap.get? c = some o → g.get? c = some o) → ({ s with heap := g } : Shared).TypeIs (.ref z) "zip" := fun {g} q => ⟨_, q _ _ M.zip, rfl⟩
  refine wpAny_bind (wpAny_typeOf (zt u2) ?_)
  have c1 : Builtin.List.listSameRef (.ref s.heap.objs.size) (.ref z) = false := by simp [Builtin.List.listSameRef, nDz]
  have c2 : (Value.type "zip" == Value.type "list") = false := by decide
  have c3 : (Value.type "zip" == Value.type "tuple") = false := by decide
  simp only [c1, c2, c3, Bool.or_false, Bool.false_eq_true, if_false]
  refine wpAny_bind (wpAny_pyIter_zip (u2 _ _ M.zip) ?_)
  refine wpAny_bind (wpAny_holding ?_)
  unfold Builtin.List.listLengthHint
  refine wpAny_bind (wpAny_specialOf (zt u2) lz_len ?_)
  show wpAny _ A.in1.in1 (specialOf (Value.ref z) (Str.ofString "__length_hint__") >>= _) _ _ _
  refine wpAny_bind (wpAny_specialOf (zt u2) lz_hint ?_)
  refine wpAny_pure ?_
  show wpAny _ A.in1.in1 (rule "list.extend.makes-room" >>= _) _ _ _
  refine wpAny_bind (wpAny_rule (wpAny_bind ?_))
  show wpAny _ A.in1.in1 (updateSeq s.heap.objs.size (·.push .none) >>= _) _ _ _
  refine wpAny_bind (wpAny_updateSeq d2 rfl ?_)
  have d3 := Heap.get?_update_self (Obj.mapSeq (·.push Value.none)) d2 rfl
  refine wpAny_updateSeq (hz := by seq_fits) d3 rfl ?_
  have d4 := Heap.get?_update_self (Obj.mapSeq (·.pop)) d3 rfl
  have u4 := up _ (Obj.mapSeq (·.pop)) (up _ (Obj.mapSeq (·.push Value.none)) u2)
  refine wpAny_pure ⟨plainId_quiet F.plain_extend_loop _, ?_⟩
  have nf : H1 s.heap.objs.size = none := M.I.hok.fresh (Nat.le_refl _)
  have szz : s.heap.objs.size < (((((s.heap.push { cls := .type "list", data := .seq #[] }).update s.heap.objs.size (Obj.mapSeq (fun _ => (#[] : Array Value)))).update s.heap.objs.size (Obj.mapSeq (·.push Value.none))).update s.heap.objs.size (Obj.mapSeq (·.pop)))).objs.size := Heap.lt_size d4
  refine lz_loop (A := A.in1) (H1 := H1) (xs := xs) (ys := ys) (l1 := a) (l2 := b) (TI := TI) (TO := TO) (i1 := i1) (i2 := i2) hh M.ap h1 h2 nf (fun ts s' H' I' sm hl hn hp => ⟨rfl, hR _ ts s' H' I' sm nf hl hn hp⟩) _ [] _ (upd H1 s.heap.objs.size (.lst [])) rfl {
    I := M.I.laid (t' := s.toks) u4 (Nat.le_refl _) ⟨Nat.zero_le _, [], _, .nil, d4⟩
    same := fun c o e => (upd_ne (ne_of_none e nf)).trans e
    fp := fun c hc => ⟨(upd_ne (Nat.ne_of_lt (M.lt c hc))).trans (M.fp c hc).1, (M.fp c hc).2⟩
    zip := .inl ⟨rfl, u4 _ _ M.zip, _, _, u4 _ _ M.pTO⟩
    pTI := u4 _ _ M.pTI
    t1 := M.t1.at fun o e => u4 _ o e
    t2 := M.t2.at fun o e => u4 _ o e
    lst := upd_same
    lt := fun c hc => Nat.lt_trans (M.lt c hc) szz
    few := ⟨Nat.zero_le _, Nat.zero_le _⟩
    prs := fun j t x y h => by simp at h }
theorem pe_listZip {X : Cx} {e e2 : Expr} {ta : TA} {p pos p2 pos2 : Pos} (hc : X.calm = true) (hg : Gl X "list") (hm : X.mg "list" = none) (hg2 : Gl X "zip") (hm2 : X.mg "zip" = none) (ha : PA X [e, e2] ta)
    (na : starEach [Expr.Call (.Name "zip" p2) [e, e2] [] pos2] X.env = (false, eval (.Call (.Name "zip" p2) [e, e2] [] pos2) X.env) :: starEach [] X.env := by rfl)
    (hs : starEach [e, e2] X.env = (false, eval e X.env) :: starEach [e2] X.env := by rfl) (hpl : (backTo pos2 (starEach [e2] X.env)).any (·.1) = false := by rfl) :
    PE X (.Call (.Name "list" p) [.Call (.Name "zip" p2) [e, e2] [] pos2] [] pos) (tListZip ta) := by
  refine ⟨fun pins s σ H Q I h => ?_⟩
  refine Call_ (ld_blt I hg hm boot_list (PyProof.Rows.callWith_type1 (args_cons (thn (lz_zip hg2 hm2 ha I hs hpl (fun vs H1 ⟨a, b, xs, ys, ev, h1, h2, _⟩ => ⟨a, b, xs, ys, ev, h1, h2⟩) h) fun v s1 ⟨a, b, z, TI, TO, i1, i2, H1, ev, M, q⟩ => args_nil ?_) na) na))
  subst ev
  obtain ⟨a', b', xs, ys, ev, h1, h2, q⟩ := q
  cases ev
  exact lz_list (I.ok.hd hc) M h1 h2 fun D ts s' H' I' sm nD hl hn hp => ⟨.ref D, H', I', rfl, q D ts H' sm nD hl hn hp⟩
end
end L2

/-! MR9 -/
/-! list(enumerate(xs, start=k)) of a list: a new list of new pairs. -/
namespace L2
open PySem PySem.Spec PyProof.Rows
theorem le_len : typeLookup (.type "enumerate") "__len__" = pure none := am_miss_of_fast (by decide +kernel)
theorem le_hint : typeLookup (.type "enumerate") "__length_hint__" = pure none := am_miss_of_fast (by decide +kernel)
section
variable {prog : Program} {w : World} {A : Around} {E : Value → Shared → Prop} {s : Shared}
variable {e it l T : Addr} {n : Nat} {c : Int} {zs : Array Value} {x o : Value} {f : Bool} {oT : Obj}
/-- the next pair while the last one is still there -/
theorem le_item {Q : Option Value → Shared → Prop} (he : IsEnumHeld s.heap e it c o T f) (hT : s.heap.get? T = some oT) (t1 : T ≠ e) (t2 : T ≠ it) (hi : s.heap.IsListIter it l n) (hl : s.heap.IsList l zs) (hx : zs[n]? = some x) (ne : e ≠ it)
    (q : ∀ h', IsEnumHeld h' e it (c + 1) o T true → h'.IsListIter it l (n + 1) → h'.get? s.heap.objs.size = some { cls := .type "tuple", data := .seq #[.int c s.toks, x] } → h'.objs.size = s.heap.objs.size + 1 → (∀ b u, b ≠ e → b ≠ it → s.heap.get? b = some u → h'.get? b = some u) → Q (some (.ref s.heap.objs.size)) { s with heap := h', toks := s.toks + 1 }) :
    wpAny (model prog w) A (pyNext (.ref e)) Q E s := by
  have ty : s.TypeIs (.ref e) "enumerate" := ⟨_, he, rfl⟩
  obtain ⟨h0, gg, dd, tk, os⟩ := s
  unfold pyNext
  refine wpAny_bind (wpAny_attempt (wpAny_callSpecial?_slot (name := Str.ofString "__next__") ty F.slot_enumerate_next (wpAny_call_entry F.slot_enumerate_next ty F.entry_enumerate_next ?_ (F.args_enumerate_next_1 _))))
  show wpAny _ _ (field (.ref e) 2 >>= _) _ _ _
  refine wpAny_bind (wpAny_field he rfl (x := .ref it) rfl ?_)
  refine wpAny_bind (wpAny_nextOf_list_item hi hl hx fun g1 i1 b1 => ?_)
  have b1' : Heap.SameBut it h0 g1 := b1
  have e1 : IsEnumHeld g1 e it c o T f := (b1'.2 e ne).trans he
  show wpAny _ _ (field (.ref e) 3 >>= _) _ _ ⟨g1, gg, dd, tk, os⟩
  refine wpAny_bind (wpAny_field e1 rfl (x := rawInt c) rfl ?_)
  show wpAny _ _ (field (.ref e) 4 >>= _) _ _ ⟨g1, gg, dd, tk, os⟩
  refine wpAny_bind (wpAny_field e1 rfl (x := .none) rfl ?_)
  show wpAny _ _ (mkInt c >>= _) _ _ ⟨g1, gg, dd, tk, os⟩
  refine wpAny_bind (wpAny_mkInt ?_)
  show wpAny _ _ (setField (.ref e) 3 (rawInt (c + 1)) >>= _) _ _ ⟨g1, gg, dd, tk + 1, os⟩
  refine wpAny_bind (wpAny_setField_rec e1 (by simp) fun g2 e2 b2 => ?_)
  have b2' : Heap.SameBut e g1 g2 := b2
  have e2' : IsEnumHeld g2 e it (c + 1) o T f := e2
  show wpAny _ _ (setField (.ref e) 4 .none >>= _) _ _ ⟨g2, gg, dd, tk + 1, os⟩
  refine wpAny_bind (wpAny_setField_rec e2' (by simp) fun g3 e3 b3 => ?_)
  have b3' : Heap.SameBut e g2 g3 := b3
  have e3' : IsEnumHeld g3 e it (c + 1) o T f := e3
  show wpAny _ _ (newTuple [.int c tk, x] >>= _) _ _ ⟨g3, gg, dd, tk + 1, os⟩
  refine wpAny_bind (wpAny_newTuple ?_)
  have sz : g3.objs.size = h0.objs.size := by rw [b3'.1, b2'.1, b1'.1]
  have lt : e < h0.objs.size := Heap.lt_size he
  have kp3 : ∀ b u, b ≠ e → b ≠ it → h0.get? b = some u → g3.get? b = some u := fun b u n1 n2 z => b3'.extBut b u n1 (b2'.extBut b u n1 (b1'.extBut b u n2 z))
  have i3 : g3.IsListIter it l (n + 1) := (i1.extBut b2'.extBut ne.symm).extBut b3'.extBut ne.symm
  obtain ⟨g4, hg4⟩ : ∃ g4, g4 = g3.push { cls := .type "tuple", data := .seq #[.int c tk, x] } := ⟨_, rfl⟩
  have e4 : IsEnumHeld g4 e it (c + 1) o T f := by
    rw [hg4]
    exact Heap.get?_push_of_some _ e3'
  have tu : g4.get? h0.objs.size = some { cls := .type "tuple", data := .seq #[.int c tk, x] } := by
    rw [hg4, ← sz]
    exact Heap.get?_push_size _ rfl
  have sz4 : g4.objs.size = h0.objs.size + 1 := by rw [hg4, Heap.size_push, sz]
  have kp4 : ∀ b u, b ≠ e → b ≠ it → h0.get? b = some u → g4.get? b = some u := fun b u n1 n2 z => by
    rw [hg4]
    exact Heap.get?_push_of_some _ (kp3 b u n1 n2 z)
  have i4 : g4.IsListIter it l (n + 1) := by
    rw [hg4]
    exact i3.at fun u z => Heap.get?_push_of_some _ z
  rw [← hg4, sz]
  clear hg4
  show wpAny _ _ (Builtin.SmallTypes.ownedTupleIsFree (.ref e) >>= _) _ _ ⟨g4, gg, dd, tk + 1, os⟩
  refine wpAny_bind (wpAny_tupleHeld_enum (s := ⟨g4, gg, dd, tk + 1, os⟩) e4 (kp4 T oT t1 t2 hT) fun g5 e5 b5 => ?_)
  have b5' : Heap.SameBut e g4 g5 := b5
  simp only [Bool.false_eq_true, if_false]
  refine wpAny_pure ⟨_, rfl, wpAny_pure ?_⟩
  refine q g5 e5 (i4.extBut b5'.extBut ne.symm) (b5'.extBut _ _ (Nat.ne_of_gt lt) tu) ?_ fun b u n1 n2 z => b5'.extBut b u n1 (kp4 b u n1 n2 z)
  show g5.objs.size = _
  rw [b5'.1, sz4]
theorem le_end {Q : Option Value → Shared → Prop} (hh : A.handled = none) (he : IsEnumHeld s.heap e it c o T f) (hi : s.heap.IsListIter it l n) (hl : s.heap.IsList l zs) (hx : zs[n]? = none) (q : ∀ h', Heap.ExtBut it s.heap h' → Q none { s with heap := h' }) :
    wpAny (model prog w) A (pyNext (.ref e)) Q E s := by
  have ty : s.TypeIs (.ref e) "enumerate" := ⟨_, he, rfl⟩
  unfold pyNext
  refine wpAny_bind (wpAny_attempt (wpAny_callSpecial?_slot (name := Str.ofString "__next__") ty F.slot_enumerate_next (wpAny_call_entry F.slot_enumerate_next ty F.entry_enumerate_next ?_ (F.args_enumerate_next_1 _))))
  show wpAny _ _ (field (.ref e) 2 >>= _) _ _ _
  refine wpAny_bind (wpAny_field he rfl (x := .ref it) rfl ?_)
  refine wpAny_bind (wpAny_nextOf_list_end hh hi hl hx fun g1 y b1 hy => ?_)
  obtain ⟨oy, hoy, hcy⟩ := hy
  refine wpAny_bind (wpAny_isInstance (T := "StopIteration") (b := true) ⟨oy, hoy, hcy⟩ isSubtype_stop ?_)
  exact wpAny_pure (q _ b1)
end
/-! ### the loop -/
section
variable {X : Cx} {pins : List (Addr × Obj)} {σ : L2.St} {l e it D : Addr} {k : Int} {xs : List V} {H1 : Hp}
structure LeInv (X : Cx) (pins : List (Addr × Obj)) (σ : L2.St) (l e it D : Addr) (k : Int) (xs : List V) (H1 : Hp) (ts : List Addr) (s : Shared) (H : Hp) : Prop where
  I : Inv X pins σ H s
  same : Same H1 H
  fp : ∀ c ∈ [e, it], FpOk X pins H c
  en : (ts = [] ∧ ∃ o, IsEnum s.heap e it k o) ∨ ∃ T f oT o, IsEnumHeld s.heap e it (k + (ts.length : Nat)) o T f ∧ T ≠ e ∧ T ≠ it ∧ T ≠ D ∧ s.heap.get? T = some oT
  li : s.heap.IsListIter it l ts.length
  lst : H D = some (.lst (ts.map V.ref))
  lt : ∀ c ∈ [e, it], c < s.heap.objs.size
  few : ts.length ≤ xs.length
  prs : ∀ (j : Nat) (t : Addr) (x : V), ts[j]? = some t → xs[j]? = some x → H t = some (.tup [.int (k + (j : Nat)), x])
theorem le_loop {A : Around} {R : Result → Shared → Prop} {res : Value} (hh : A.in1.handled = none) (ne : e ≠ it) (nl : l ≠ it) (h1 : H1 l = some (.lst xs)) (nD : H1 D = none)
    (hR : ∀ (ts : List Addr) (s' : Shared) (H' : Hp), Inv X pins σ H' s' → Same H1 H' → H' D = some (.lst (ts.map V.ref)) → ts.length = xs.length → (∀ (j : Nat) (t : Addr) (x : V), ts[j]? = some t → xs[j]? = some x → H' t = some (.tup [.int (k + (j : Nat)), x])) → R (.ok (.ret res)) s') :
    ∀ (m : Nat) (ts : List Addr) (s : Shared) (H : Hp), xs.length - ts.length = m → LeInv X pins σ l e it D k xs H1 ts s H → codeAny (model X.prog X.w) A (.builtin "list.extend.loop" ⟨[.ref D, .ref e, res], []⟩) R s := by
  intro m
  induction m with
  | zero =>
    intro ts s H hk J
    refine codeAny_builtin F.entry_extend_loop ?_
    rw [Around.under_plainId F.plain_extend_loop _]
    show wpAny _ A.in1 (pyNext (.ref e) >>= _) _ _ s
    have f := J.few
    have hn : ts.length = xs.length := by omega
    obtain ⟨z, its, n0, r0, len0, e0⟩ := J.I.lstM (J.same _ _ h1)
    have hL : s.heap.IsList l its.toArray := ⟨_, e0, rfl, n0, rfl⟩
    have hx : its.toArray[ts.length]? = none := by simp; omega
    have fin : ∀ h', Heap.ExtBut it s.heap h' → R (.ok (.ret res)) { s with heap := h' } := fun h' kp =>
      hR ts _ H (J.I.turnedL (t' := s.toks) (ch := [e, it]) (fun c u hb q => kp c u (fun z => hb (by simp [z])) q) J.fp) J.same J.lst hn J.prs
    rcases J.en with ⟨_, o, hz⟩ | ⟨T, f, oT, o, hz, _⟩
    · have hz0 : its.toArray.size = ts.length := by simp; omega
      refine wpAny_bind (wpAny_pyNext_enum_endD (Draws.list (A := A.in1.in1) (show A.in1.in1.handled = none from hh) it l nl its.toArray) hz ?_ fun h' kp => wpAny_pure (fin h' kp))
      rw [hz0]
      exact ⟨J.li, hL⟩
    · exact wpAny_bind (le_end hh hz J.li hL hx fun h' kp => wpAny_pure (fin h' kp))
  | succ m ih =>
    intro ts s H hk J
    refine codeAny_builtin F.entry_extend_loop ?_
    rw [Around.under_plainId F.plain_extend_loop _]
    show wpAny _ A.in1 (pyNext (.ref e) >>= _) _ _ s
    obtain ⟨z, its, n0, r0, len0, e0⟩ := J.I.lstM (J.same _ _ h1)
    have hL : s.heap.IsList l its.toArray := ⟨_, e0, rfl, n0, rfl⟩
    have hx : xs[ts.length]? = some (xs[ts.length]'(by omega)) := by simp
    generalize xs[ts.length]'(by omega) = x at hx
    obtain ⟨u, hu, ru⟩ := r0.get hx
    have hu' : its.toArray[ts.length]? = some u := by simpa using hu
    have push : ∀ (h' : Heap) (tk : Nat) (tt : Tok), (∃ T f oT o, IsEnumHeld h' e it (k + (ts.length : Nat) + 1) o T f ∧ T ≠ e ∧ T ≠ it ∧ T ≠ D ∧ (T = s.heap.objs.size ∨ h'.get? T = some oT)) → h'.IsListIter it l (ts.length + 1) → h'.get? s.heap.objs.size = some { cls := .type "tuple", data := .seq #[.int (k + (ts.length : Nat)) tt, u] } →
        (∀ c o, c ≠ e → c ≠ it → s.heap.get? c = some o → h'.get? c = some o) →
        wpAny (model X.prog X.w) A.in1 (updateSeq D (·.push (.ref s.heap.objs.size)) >>= fun _ => again (.builtin "list.extend.loop" ⟨[.ref D, .ref e, res], []⟩))
          (fun fin s' => match fin with | .done f => R (.ok f) s' | .again c' => c'.quiet = true ∧ codeAny (model X.prog X.w) A c' R s') (fun e s' => R (.error e) s') { s with heap := h', toks := tk } := by
      intro h' tk tt hen a3 a5 kp
      have nf : H s.heap.objs.size = none := J.I.hok.fresh (Nat.le_refl _)
      have new : ObjOk X.prog X.w (upd H s.heap.objs.size (.tup [.int (k + (ts.length : Nat)), x])) h' s.heap.objs.size (.tup [.int (k + (ts.length : Nat)), x]) := ⟨by show 2 ≤ sizeLine; decide, [.int (k + (ts.length : Nat)) tt, u], .cons ⟨_, rfl⟩ (.cons ru .nil), ⟨_, a5, rfl, _, rfl⟩⟩
      have I1 : Inv X pins σ (upd H s.heap.objs.size (.tup [.int (k + (ts.length : Nat)), x])) { s with heap := h', toks := tk } :=
        J.I.turnedNew (t' := tk) (ch := [e, it]) (fun c o hb q => kp c o (fun z => hb (by simp [z])) (fun z => hb (by simp [z])) q) J.fp (Nat.le_refl _) new
      have nTD : s.heap.objs.size ≠ D := (ne_of_none J.lst nf).symm
      have hD1 : (upd H s.heap.objs.size (.tup [.int (k + (ts.length : Nat)), x])) D = some (.lst (ts.map V.ref)) := (upd_ne nTD.symm).trans J.lst
      obtain ⟨hz, its3, n3, r3, l3, e3⟩ := I1.lstM hD1
      have len : (ts.map V.ref).length = ts.length := List.length_map _
      have small : ts.length + 1 ≤ sizeLine := by omega
      have nc : ∀ c ∈ [e, it], c ≠ D := fun c hc => (ne_of_none J.lst (J.fp c hc).1).symm
      have oth : ∀ b o, b ≠ D → h'.get? b = some o → (h'.update D (Obj.mapSeq (·.push (.ref s.heap.objs.size)))).get? b = some o := fun b o hb z => (Heap.get?_update_other _ _ hb.symm).trans z
      have szT : s.heap.objs.size < h'.objs.size := Heap.lt_size a5
      refine wpAny_bind (wpAny_updateSeq e3 rfl ?_ (by rw [List.size_toArray, ← l3, len]; omega) (by show (its3.toArray.push _).size ≤ sizeLine + 1; rw [Array.size_push, List.size_toArray, ← l3, len]; omega))
      refine wpAny_pure ⟨plainId_quiet F.plain_extend_loop _, ih (ts ++ [s.heap.objs.size]) _ (upd (upd H s.heap.objs.size (.tup [.int (k + (ts.length : Nat)), x])) D (.lst ((ts ++ [s.heap.objs.size]).map V.ref))) (by rw [List.length_append]; simp; omega) ?_⟩
      have rT : Vals ((ts ++ [s.heap.objs.size]).map V.ref) (its3 ++ [Value.ref s.heap.objs.size]) := by
        rw [List.map_append]
        exact r3.append (.cons rfl .nil)
      refine {
        I := I1.lset (t' := tk) (its' := its3 ++ [Value.ref s.heap.objs.size]) hD1 e3 (by simp) rT (by rw [List.length_map, List.length_append]; simpa using small)
        same := fun b o z => ?_
        fp := fun c hc => ?_
        en := .inr ?_
        li := ?_
        lst := upd_same
        lt := fun c hc => ?_
        few := by rw [List.length_append]; simp; omega
        prs := fun j t x' ht hx' => ?_ }
      · have z1 := J.same b o z
        rw [upd_ne (ne_of_none z nD), upd_ne (ne_of_none z1 nf)]
        exact z1
      · have q := J.fp c hc
        refine ⟨?_, q.2⟩
        rw [upd_ne (nc c hc), upd_ne (Nat.ne_of_lt (J.lt c hc))]
        exact q.1
      · obtain ⟨T, f, oT, o, q, n1, n2, n3', hT⟩ := hen
        have hT' : ∃ oT, (h'.update D (Obj.mapSeq (·.push (.ref s.heap.objs.size)))).get? T = some oT := by
          rcases hT with z | z
          · rw [z]
            exact ⟨_, oth _ _ nTD a5⟩
          · exact ⟨_, oth _ _ n3' z⟩
        obtain ⟨oT2, hT2⟩ := hT'
        refine ⟨T, f, oT2, o, ?_, n1, n2, n3', hT2⟩
        have ec : k + (((ts ++ [s.heap.objs.size]).length : Nat) : Int) = k + (ts.length : Nat) + 1 := by rw [List.length_append]; simp; omega
        rw [ec]
        exact oth _ _ (nc e (by simp)) q
      · rw [List.length_append]
        exact a3.at fun o z => oth _ o (nc it (by simp)) z
      · have q := J.lt c hc
        show c < (h'.update D (Obj.mapSeq (·.push (.ref s.heap.objs.size)))).objs.size
        rw [Heap.size_update]
        exact Nat.lt_trans q szT
      · rw [List.getElem?_append] at ht
        by_cases hj : j < ts.length
        · rw [if_pos hj] at ht
          have q := J.prs j t x' ht hx'
          rw [upd_ne (ne_of J.lst q (by intro z; cases z)).symm, upd_ne (ne_of_none q nf)]
          exact q
        · rw [if_neg hj] at ht
          have hj0 : j = ts.length := by
            have := (List.getElem?_eq_some_iff.mp ht).1
            simp at this
            omega
          subst hj0
          rw [hx] at hx'
          cases hx'
          simp at ht
          subst ht
          rw [upd_ne nTD]
          exact upd_same
    have ltm : ∀ c ∈ [e, it], s.heap.objs.size ≠ c := fun c hc => (Nat.ne_of_lt (J.lt c hc)).symm
    have nsD : s.heap.objs.size ≠ D := (ne_of_none J.lst (J.I.hok.fresh (Nat.le_refl _))).symm
    rcases J.en with ⟨hts, o, hz⟩ | ⟨T, f, oT, o, hz, n1, n2, n3, hT⟩
    · have hz' : IsEnum s.heap e it (k + (ts.length : Nat)) o := by
        rw [hts]
        simpa using hz
      refine wpAny_bind (wpAny_pyNext_enum_itemC (Draws.list (A := A.in1.in1) (show A.in1.in1.handled = none from hh) it l nl its.toArray) hz' ⟨J.li, hL⟩ (by simp; omega) ne (by
        simp only [List.mem_cons, List.not_mem_nil, or_false, not_or]
        refine ⟨ne, fun z => ?_⟩
        have q := (J.fp e (by simp)).1
        rw [z, J.same _ _ h1] at q
        cases q) fun x2 h' tk hP a1 a2 a3 a4 kp => ?_)
      have ex : x2 = u := by
        have q := hu'.symm.trans hP
        exact (Option.some.inj q).symm
      subst ex
      exact push h' (tk + 1) tk ⟨s.heap.objs.size, false, { cls := .type "tuple" }, _, a1, ltm e (by simp), ltm it (by simp), nsD, .inl rfl⟩ a2.1 a3 kp
    · refine wpAny_bind (le_item hz hT n1 n2 J.li hL hu' ne fun h' a1 a2 a3 a4 kp => ?_)
      exact push h' (s.toks + 1) s.toks ⟨T, true, oT, o, a1, n1, n2, n3, .inr (kp T oT n1 n2 hT)⟩ a2 a3 kp
end
/-! ### the whole expression -/
section
variable {M : Model} {A : Around} {E : Value → Shared → Prop} {s : Shared}
/-- a built-in class called with keywords -/
theorem ckt {pos : Pos} {T : String} {as : List (Bool × Sem Value)} {kws : List (Option Str × Sem Value)} {Q : Value → Shared → Prop} (h1 : as.any (·.1) = false) (h2 : kws.any (·.1.isNone) = false)
    (h : wpAny M A (evalArgs (.type T) true as kws) (fun a s1 => wpAny M A (call (.type T) a.pos a.kw) Q E s1) E s) : wpAny M A (callWith pos (.type T) [] as kws) Q E s := by
  unfold callWith
  refine wpAny_bind (wpAny_holding (wpAny_mono h (fun b t1 hb => wpAny_bind (wpAny_standAt ?_)) fun _ _ z => z))
  simp only [h1, h2, Bool.or_false, List.nil_append]
  refine wpAny_bind (wpAny_pure ?_)
  exact wpAny_bind (wpAny_mono hb (fun v t2 hv => wpAny_bind (wpAny_holding (wpAny_point (wpAny_pure hv)))) fun _ _ z => z)
end
section
variable {X : Cx} {pins : List (Addr × Obj)} {σ : L2.St}
structure LeMade (X : Cx) (pins : List (Addr × Obj)) (σ : L2.St) (l e it : Addr) (k : Int) (H1 : Hp) (s : Shared) : Prop where
  I : Inv X pins σ H1 s
  ne : e ≠ it
  fp : ∀ c ∈ [e, it], FpOk X pins H1 c
  lt : ∀ c ∈ [e, it], c < s.heap.objs.size
  en : ∃ o, IsEnum s.heap e it k o
  li : s.heap.IsListIter it l 0
def tListEnum (te tk : TE) : TE := fun σ H Q => te σ H fun x H1 => tk σ H1 fun y H2 => ∃ (l : Addr) (xs : List V) (k : Int), x = .ref l ∧ y = .int k ∧ H2 l = some (.lst xs) ∧ -(2 ^ 63) ≤ k ∧ k < 2 ^ 63 ∧ ∀ (D : Addr) (ts : List Addr) (H' : Hp), Same H2 H' → H2 D = none → H' D = some (.lst (ts.map V.ref)) → ts.length = xs.length →
  (∀ (j : Nat) (t : Addr) (x : V), ts[j]? = some t → xs[j]? = some x → H' t = some (.tup [.int (k + (j : Nat)), x])) → Q (.ref D) H'
theorem le_list {A : Around} {E : Value → Shared → Prop} {Q : Value → Shared → Prop} {l e it : Addr} {k : Int} {xs : List V} {H1 : Hp} {s : Shared} (hh : A.handled = none) (M : LeMade X pins σ l e it k H1 s) (h1 : H1 l = some (.lst xs))
    (hR : ∀ (D : Addr) (ts : List Addr) (s' : Shared) (H' : Hp), Inv X pins σ H' s' → Same H1 H' → H1 D = none → H' D = some (.lst (ts.map V.ref)) → ts.length = xs.length → (∀ (j : Nat) (t : Addr) (x : V), ts[j]? = some t → xs[j]? = some x → H' t = some (.tup [.int (k + (j : Nat)), x])) → Q (.ref D) s') :
    wpAny (model X.prog X.w) A (call (.type "list") [.ref e]) Q E s := by
  have nDe : s.heap.objs.size ≠ e := (Nat.ne_of_lt (M.lt e (by simp))).symm
  obtain ⟨o0, hen⟩ := M.en
  refine callType_codes (Q₁ := fun obj s₁ => obj = .ref s.heap.objs.size ∧ s₁ = { s with heap := s.heap.push { cls := .type "list", data := .seq #[] } }) F.called_list (F.typeCall_list_1 _) F.entry_list_init (code_list_new _ ⟨rfl, rfl⟩) fun obj s₁ h₁ => ?_
  obtain ⟨rfl, rfl⟩ := h₁
  have d1 : (s.heap.push { cls := .type "list", data := .seq #[] }).get? s.heap.objs.size = some { cls := .type "list", data := .seq #[] } := Heap.get?_push_size _ rfl
  refine ⟨⟨_, d1, rfl⟩, F.args_list_init_2 _ _, ?_⟩
  show wpAny _ A.in1.in1 (Builtin.List.listItems (.ref s.heap.objs.size) >>= _) _ _ _
  refine wpAny_bind ?_
  unfold Builtin.List.listItems
  refine wpAny_bind (wpAny_seqItems d1 rfl (wpAny_pure ?_))
  show wpAny _ A.in1.in1 (updateSeq s.heap.objs.size (fun _ => #[]) >>= _) _ _ _
  refine wpAny_bind (wpAny_updateSeq d1 rfl ?_)
  have d2 := Heap.get?_update_self (Obj.mapSeq (fun _ => (#[] : Array Value))) d1 rfl
  refine wpAny_bind (wpAny_letGo ?_)
  unfold Builtin.List.listExtendWith
  have up : ∀ (g : Heap) (f : Obj → Obj), (∀ c o, s.heap.get? c = some o → g.get? c = some o) → ∀ c o, s.heap.get? c = some o → (g.update s.heap.objs.size f).get? c = some o := fun g f q c o z => (Heap.get?_update_other _ _ (Ne.symm (Nat.ne_of_lt (Heap.lt_size z)))).trans (q c o z)
  have u1 : ∀ c o, s.heap.get? c = some o → (s.heap.push { cls := .type "list", data := .seq #[] }).get? c = some o := fun c o z => Heap.get?_push_of_some _ z
  have u2 := up _ (Obj.mapSeq (fun _ => (#[] : Array Value))) u1
  have zt : ∀ {g : Heap}, (∀ c o, s.heap.get? c = some o → g.get? c = some o) → ({ s with heap := g } : Shared).TypeIs (.ref e) "enumerate" := fun {g} q => ⟨_, q _ _ hen, rfl⟩
  refine wpAny_bind (wpAny_typeOf (zt u2) ?_)
  have c1 : Builtin.List.listSameRef (.ref s.heap.objs.size) (.ref e) = false := by simp [Builtin.List.listSameRef, nDe]
  have c2 : (Value.type "enumerate" == Value.type "list") = false := by decide
  have c3 : (Value.type "enumerate" == Value.type "tuple") = false := by decide
  simp only [c1, c2, c3, Bool.or_false, Bool.false_eq_true, if_false]
  refine wpAny_bind (wpAny_pyIter_enum (u2 _ _ hen) ?_)
  refine wpAny_bind (wpAny_holding ?_)
  unfold Builtin.List.listLengthHint
  refine wpAny_bind (wpAny_specialOf (zt u2) le_len ?_)
  show wpAny _ A.in1.in1 (specialOf (Value.ref e) (Str.ofString "__length_hint__") >>= _) _ _ _
  refine wpAny_bind (wpAny_specialOf (zt u2) le_hint ?_)
  refine wpAny_pure ?_
  show wpAny _ A.in1.in1 (rule "list.extend.makes-room" >>= _) _ _ _
  refine wpAny_bind (wpAny_rule (wpAny_bind ?_))
  show wpAny _ A.in1.in1 (updateSeq s.heap.objs.size (·.push .none) >>= _) _ _ _
  refine wpAny_bind (wpAny_updateSeq d2 rfl ?_)
  have d3 := Heap.get?_update_self (Obj.mapSeq (·.push Value.none)) d2 rfl
  refine wpAny_updateSeq (hz := by seq_fits) d3 rfl ?_
  have d4 := Heap.get?_update_self (Obj.mapSeq (·.pop)) d3 rfl
  have u4 := up _ (Obj.mapSeq (·.pop)) (up _ (Obj.mapSeq (·.push Value.none)) u2)
  refine wpAny_pure ⟨plainId_quiet F.plain_extend_loop _, ?_⟩
  have nf : H1 s.heap.objs.size = none := M.I.hok.fresh (Nat.le_refl _)
  have szz : s.heap.objs.size < (((((s.heap.push { cls := .type "list", data := .seq #[] }).update s.heap.objs.size (Obj.mapSeq (fun _ => (#[] : Array Value)))).update s.heap.objs.size (Obj.mapSeq (·.push Value.none))).update s.heap.objs.size (Obj.mapSeq (·.pop)))).objs.size := Heap.lt_size d4
  have nlit : l ≠ it := fun z => by
    have q := (M.fp it (by simp)).1
    rw [← z, h1] at q
    cases q
  refine le_loop (A := A.in1) (H1 := H1) (xs := xs) (l := l) (it := it) hh M.ne nlit h1 nf (fun ts s' H' I' sm hl hn hp => ⟨rfl, hR _ ts s' H' I' sm nf hl hn hp⟩) _ [] _ (upd H1 s.heap.objs.size (.lst [])) rfl {
    I := M.I.laid (t' := s.toks) u4 (Nat.le_refl _) ⟨Nat.zero_le _, [], _, .nil, d4⟩
    same := fun c o z => (upd_ne (ne_of_none z nf)).trans z
    fp := fun c hc => ⟨(upd_ne (Nat.ne_of_lt (M.lt c hc))).trans (M.fp c hc).1, (M.fp c hc).2⟩
    en := .inl ⟨rfl, o0, u4 _ _ hen⟩
    li := M.li.at fun o z => u4 _ o z
    lst := upd_same
    lt := fun c hc => Nat.lt_trans (M.lt c hc) szz
    few := Nat.zero_le _
    prs := fun j t x h => by simp at h }
def leRest (x y : V) (H2 : Hp) (Q : VK) : Prop := ∃ (l : Addr) (xs : List V) (k : Int), x = .ref l ∧ y = .int k ∧ H2 l = some (.lst xs) ∧ -(2 ^ 63) ≤ k ∧ k < 2 ^ 63 ∧ ∀ (D : Addr) (ts : List Addr) (H' : Hp), Same H2 H' → H2 D = none → H' D = some (.lst (ts.map V.ref)) → ts.length = xs.length →
  (∀ (j : Nat) (t : Addr) (x : V), ts[j]? = some t → xs[j]? = some x → H' t = some (.tup [.int (k + (j : Nat)), x])) → Q (.ref D) H'
theorem pe_listEnum {X : Cx} {e ke : Expr} {te tk : TE} {p pos p2 pos2 kp : Pos} (hc : X.calm = true) (hg : Gl X "list") (hm : X.mg "list" = none) (hg2 : Gl X "enumerate") (hm2 : X.mg "enumerate" = none) (ha : PA X [e] (tCons te tNil)) (hk : PK X [⟨some "start", ke, kp⟩] (tCons tk tNil))
    (na : starEach [Expr.Call (.Name "enumerate" p2) [e] [⟨some "start", ke, kp⟩] pos2] X.env = (false, eval (.Call (.Name "enumerate" p2) [e] [⟨some "start", ke, kp⟩] pos2) X.env) :: starEach [] X.env := by rfl)
    (hs : starEach [e] X.env = (false, eval e X.env) :: starEach [] X.env := by rfl) :
    PE X (.Call (.Name "list" p) [.Call (.Name "enumerate" p2) [e] [⟨some "start", ke, kp⟩] pos2] [] pos) (tListEnum te tk) := by
  refine ⟨fun pins s σ H Q I h => ?_⟩
  have h' : te σ H fun x H1 => tk σ H1 fun y H2 => leRest x y H2 Q := h
  refine Call_ (ld_blt I hg hm boot_list (PyProof.Rows.callWith_type1 (args_cons (thn (Q := fun v s1 => ∃ l e it k H1 xs, v = .ref e ∧ LeMade X pins σ l e it k H1 s1 ∧ H1 l = some (.lst xs) ∧ ∀ (D : Addr) (ts : List Addr) (H' : Hp), Same H1 H' → H1 D = none → H' D = some (.lst (ts.map V.ref)) → ts.length = xs.length →
    (∀ (j : Nat) (t : Addr) (x : V), ts[j]? = some t → xs[j]? = some x → H' t = some (.tup [.int (k + (j : Nat)), x])) → Q (.ref D) H') ?_ fun v s1 ⟨l, e0, it, k, H1, xs, ev, M, h1, q⟩ => args_nil ?_) na) na))
  · refine wpAny_Call_Name_kw (ld_blt I hg2 hm2 boot_enumerate ?_)
    refine ckt (by rw [hs]; rfl) rfl ?_
    have run1 := ha.run pos2 pins s σ H (fun vs H1 => match vs with | [x] => tk σ H1 fun y H2 => leRest x y H2 Q | _ => False) I h'
    rw [hs] at run1 ⊢
    refine evalArgs_kwB rfl (thn run1 fun us s1 ⟨vs, H1, I1, r1, q1⟩ => ?_)
    match vs, r1, q1 with
    | [x], r1, q1 =>
      refine thn (hk.run pos2 pins s1 σ H1 (fun ws H2 => match ws with | [y] => leRest x y H2 Q | _ => False) I1 q1) fun ws s2 ⟨zs, H2, I2, r2, q2⟩ => ?_
      match zs, r2, q2 with
      | [y], r2, q2 =>
        obtain ⟨l, xs, k, rfl, rfl, hl, k0, k1, q3⟩ := q2
        cases r1 with
        | cons ra rb =>
          cases rb
          cases ra
          cases r2 with
          | cons rc rd =>
            cases rd
            obtain ⟨tt, rfl⟩ := rc
            obtain ⟨z, its, n0, r0, len0, e0⟩ := I2.lstM hl
            show wpAny _ _ (call (.type "enumerate") [.ref l] [(Str.ofString "start", .int k tt)]) _ _ _
            refine enum_begins_start (begins_list l its.toArray) ⟨_, e0, rfl, n0, rfl⟩ k0 k1 fun h' he hi hsz hk' => ?_
            have ge : ∀ c ∈ [s2.heap.objs.size + 1, s2.heap.objs.size], s2.heap.objs.size ≤ c ∧ c < s2.heap.objs.size + 2 := fun c hc => by
              simp only [List.mem_cons, List.not_mem_nil, or_false] at hc
              rcases hc with q | q <;> rw [q] <;> exact ⟨by simp, by simp⟩
            refine ⟨l, _, s2.heap.objs.size, k, H2, xs, rfl, ⟨I2.kept (t' := s2.toks) hk', Nat.succ_ne_self _, fun c hc => I2.fpOk (ge c hc).1 (I2.hok.fresh (ge c hc).1), fun c hc => ?_, ⟨_, he⟩, ⟨_, hi, rfl, rfl⟩⟩, hl, q3⟩
            show c < h'.objs.size
            rw [hsz]
            exact (ge c hc).2
  · subst ev
    exact le_list (I.ok.hd hc) M h1 fun D ts s' H' I' sm nD hl hn hp => ⟨.ref D, H', I', rfl, q D ts H' sm nD hl hn hp⟩
end
end L2

/-! C7 -/
namespace Mw
open PySem L2
mutual
def noDict : PyData → Bool
  | .none | .bool _ | .int _ | .str _ => true
  | .tuple ds => noDictAll ds
  | .list ds => noDictAll ds
  | .dict _ => false
def noDictAll : List PyData → Bool
  | [] => true
  | d :: ds => noDict d && noDictAll ds
end
theorem noDict_get : ∀ {ds : List PyData} {i : Nat} {d : PyData}, noDictAll ds = true → ds[i]? = some d → noDict d = true
  | [], i, d, _, e => by simp at e
  | c :: ds, 0, d, h, e => by
    simp at e
    subst e
    simp only [noDictAll, Bool.and_eq_true] at h
    exact h.1
  | c :: ds, i + 1, d, h, e => by
    simp only [noDictAll, Bool.and_eq_true] at h
    exact noDict_get h.2 (by simpa using e)
mutual
theorem plain_no : ∀ d : PyData, plainD d = true → noDict d = true
  | .none, _ => rfl
  | .bool _, _ => rfl
  | .int _, _ => rfl
  | .str _, _ => rfl
  | .list ds, h => by simp [plainD] at h
  | .dict _, h => by simp [plainD] at h
  | .tuple ds, h => by
    simp only [plainD] at h
    simp only [noDict]
    exact plain_noAll ds h
theorem plain_noAll : ∀ ds : List PyData, plainAll ds = true → noDictAll ds = true
  | [], _ => rfl
  | d :: ds, h => by
    simp only [plainAll, Bool.and_eq_true] at h
    simp only [noDictAll, Bool.and_eq_true]
    exact ⟨plain_no d h.1, plain_noAll ds h.2⟩
end
theorem tp_lst' {C p : Addr} {H : Hp} {v : V} {ds : List PyData} (h : Tp C p H (.list ds) v) : ∃ a xs, v = .ref a ∧ At p H a (.lst xs) ∧ TpAll C p H ds xs := by
  simp only [Tp] at h
  obtain ⟨a, xs, e, n, ha, r⟩ := h
  exact ⟨a, xs, e, ⟨n, ha⟩, r⟩
def spSame (C : Addr) (n : Nat) : Sp := fun vs H Q _ => ∃ p d v1 v2, vs = [v1, v2] ∧ noDict d = true ∧ d.depth < n ∧ Tp C p H d v1 ∧ Tp C p H d v2 ∧ ∀ H', Same H H' → Q (.bl true) H'
def spWaiting (C : Addr) : Sp := fun vs H Q _ => ∃ a l g xs, vs = [.ref a] ∧ OutAt C H a l g xs ∧ 0 ≤ g ∧ g < 4294967296 ∧ ∀ (D : Addr) (ts : List Addr) (H' : Hp), Same H H' → H D = none → H' D = some (.lst (ts.map V.ref)) → ts.length = xs.length → (∀ (j : Nat) (t : Addr) (x : V), ts[j]? = some t → xs[j]? = some x → H' t = some (.tup [.int (g + (j : Nat)), x])) → Q (.ref D) H'
theorem rd_listEnum {te tk : TE} {σ : L2.St} {H : Hp} {Q : VK} (h : te σ H fun x H1 => tk σ H1 fun y H2 => ∃ (l : Addr) (xs : List V) (k : Int), x = .ref l ∧ y = .int k ∧ H2 l = some (.lst xs) ∧ -(2 ^ 63) ≤ k ∧ k < 2 ^ 63 ∧ ∀ (D : Addr) (ts : List Addr) (H' : Hp), Same H2 H' → H2 D = none → H' D = some (.lst (ts.map V.ref)) → ts.length = xs.length →
  (∀ (j : Nat) (t : Addr) (x : V), ts[j]? = some t → xs[j]? = some x → H' t = some (.tup [.int (k + (j : Nat)), x])) → Q (.ref D) H') : tListEnum te tk σ H Q := h
section
variable {P : Program} {w : World} {K : PySem.W.Frag} {mg : Str → Option Value} {base : Heap}
local macro_rules | `(tactic| walk_at "rd") => `(tactic| (repeat (first
  | ((with_reducible refine' rd_var ?h0 ?_); (case h0 => rfl))
  | with_reducible refine rd_c ?_
  | with_reducible refine rd_op ?_
  | with_reducible refine rd_nil ?_
  | with_reducible refine rd_cons ?_
  | with_reducible refine rd_tup ?_
  | with_reducible refine rd_lst ?_
  | with_reducible refine rd_ifs ?_
  | with_reducible refine rd_seq ?_
  | with_reducible refine rd_next ?_
  | with_reducible refine rd_ret ?_
  | with_reducible refine rd_asg ?_
  | ((with_reducible refine' rd_gset ?hs ?_); (case hs => ((simp only [L2.start, List.map_cons, List.map_nil, List.length_cons, List.length_nil, List.cons_append, List.nil_append, List.set_cons_zero, List.set_cons_succ, Nat.reduceAdd, Nat.reduceSub, Nat.zero_add, List.reduceReplicate]); rfl)))
  | with_reducible refine rd_drop ?_
  | with_reducible refine rd_test ?_
  | with_reducible refine rd_B ?_
  | with_reducible refine rd_bl ?_
  | with_reducible refine rd_blP ?_
  | with_reducible refine rd_andV ?_
  | with_reducible refine rd_orV ?_
  | with_reducible refine rd_notV ?_
  | with_reducible refine rd_and ?_
  | with_reducible refine rd_or ?_
  | with_reducible refine rd_not ?_
  | with_reducible refine rd_chain ?_
  | with_reducible refine rd_dput ?_
  | with_reducible refine rd_dget ?_
  | with_reducible refine rd_cb ?_
  | with_reducible refine rd_call ?_
  | with_reducible refine rd_un ?_
  | with_reducible refine rd_sl ?_
  | with_reducible refine rd_nopart ?_
  | with_reducible refine rd_part ?_
  | with_reducible refine rd_intP ?_
  | with_reducible refine rd_rU ?_
  | with_reducible refine rd_fld ?_
  | with_reducible refine rd_eqI ?_
  | with_reducible refine rd_neI ?_
  | with_reducible refine rd_mko ?_
  | with_reducible refine rd_bm ?_
  | with_reducible refine rd_gsub ?_
  | with_reducible refine rd_i0 ?_)))
theorem ok_waiting (T : Tx K mg) (B : Bk K mg T) : FnOk P w K mg base CX0 1 B.Outgoing_waiting.f B.Outgoing_waiting.fd ["self"] (spWaiting T.c_Outgoing) := by
  refine B.Outgoing_waiting.F.ok sc_Outgoing_waiting (fun vs H Q E h => ?_) (fun cdv A outer s H vs Q E hr h => ?_)
  · obtain ⟨a, l, g, xs, rfl, _⟩ := h
    rfl
  · obtain ⟨a, l, g, xs, rfl, ⟨⟨dx, ha⟩, hl⟩, g0, g1, q⟩ := h
    refine ⟨_, (pss_one (ps_ret (pe_listEnum rfl (by rfl) T.b_list (by rfl) T.b_enumerate (pa_cons (pe_fld (pv 0) rfl) pa_nil) (pk_cons (pe_fld (pv 0) rfl) pk_nil)))), ?_⟩
    walk_at "rd"
    refine rd_listEnum ?_
    walk_at "rd"
    refine ⟨a, T.c_Outgoing, dx, _, _, rfl, ha, T.W_Outgoing.cl, T.na_things, oF_th _ _, ?_⟩
    walk_at "rd"
    refine ⟨a, T.c_Outgoing, dx, _, _, rfl, ha, T.W_Outgoing.cl, T.na_let_go, oF_go _ _, ?_⟩
    exact ⟨l, xs, g, rfl, rfl, hl, by omega, by omega, q⟩
theorem ok_law_hand (T : Tx K mg) (B : Bk K mg T) : FnOk P w K mg base CX0 1 B.law_hand.f B.law_hand.fd ["script"] (spHand K) := by
  refine B.law_hand.F.ok sc_law_hand (fun vs H Q E h => ?_) (fun cdv A outer s H vs Q E hr h => ?_)
  · obtain ⟨a, ns, rfl, _⟩ := h
    rfl
  · obtain ⟨a, ns, rfl, ha, q⟩ := h
    refine ⟨_, (pss_one (ps_ret (pe_lst (pa_cons (pe_callTy call_list_of (by rfl) T.b_list (by decide +kernel) (pa_cons (pv 0) pa_nil)) (pa_cons pe_int (pa_cons pe_int (pa_cons pe_int (pa_cons pe_int pa_nil)))))))), ?_⟩
    walk_at "rd"
    refine ⟨a, _, rfl, .inl ha, fun l hl => ?_⟩
    walk_at "rd"
    refine rd_disp rfl fun p hp => ?_
    have n1 : l ≠ p := ne_of_none upd_same hp
    have s1 := (same_new (o := .lst (ns.map V.int)) hl).trans (same_new (o := .lst [.ref l, .int 0, .int 0, .int 1, .int 0]) hp)
    exact q p l _ ((same_new (o := .lst (ns.map V.int)) hl).free hp) hl ⟨ns, 0, 0, 1, 0, upd_same, n1, (upd_ne n1).trans upd_same, Int.le_refl 0, by decide, by decide⟩ s1
theorem ok_law_take (T : Tx K mg) (B : Bk K mg T) : FnOk P w K mg base CX0 1 B.law_take.f B.law_take.fd ["hand", "many"] spTake := by
  refine B.law_take.F.ok sc_law_take (fun vs H Q E h => ?_) (fun cdv A outer s H vs Q E hr h => ?_)
  · obtain ⟨p, l, m, rfl, _⟩ := h
    rfl
  · obtain ⟨p, l, m, rfl, h1, h2, ⟨ns, i, c, z, t, hp, hlp, hl, hc, hz0, hz1⟩, q⟩ := h
    refine ⟨_, (pss_cons (ps_asg (pe_op op_add (pe_ix ix_list (pv 0) pe_int (fun _ _ => rfl)) pe_int) (pg_sub (pv 0) pe_int set_list))
      (C8.pss_cut (ps_if (PW.pt (pw_and (pt_cmpR op_eq (pe_ix ix_list (pv 0) pe_int (fun _ _ => rfl)) pe_int (nomark _)) (pw_and1 (pt_cmpR op_lt (pe_ix ix_list (pv 0) pe_int (fun _ _ => rfl)) (pe_callB call_len_seq (by rfl) T.b_len (by decide +kernel) (pa_cons (pe_ix ix_list (pv 0) pe_int (fun _ _ => rfl)) pa_nil)) (nomark _))))) (pss_cons (ps_set (i := 2) sc_law_take.nd rfl (Or.inl rfl) (pe_callTy call_int1 (by rfl) T.b_int (by decide +kernel) (pa_cons (pe_ix ix_list (pe_ix ix_list (pv 0) pe_int (fun _ _ => rfl)) (pe_ix ix_list (pv 0) pe_int (fun _ _ => rfl)) (fun _ _ => rfl)) pa_nil)))
      (pss_cons (ps_asg (pe_op op_add (pe_ix ix_list (pv 0) pe_int (fun _ _ => rfl)) pe_int) (pg_sub (pv 0) pe_int set_list))
      (pss_one (ps_if (pt_cmpR op_ge (pv 2) (pe_op op_pow pe_int pe_int) (nomark _)) (pss_one (ps_asg (pv 2) (pg_sub (pv 0) pe_int set_list))) (pss_one (ps_asg (pe_op op_mod (pe_callTy call_int1 (by rfl) T.b_int (by decide +kernel) (pa_cons (pe_op op_add (pe_op op_add (pe_op op_mul (pe_ix ix_list (pv 0) pe_int (fun _ _ => rfl)) pe_int) (pe_op op_mod (pe_callTy call_int1 (by rfl) T.b_int (by decide +kernel) (pa_cons (pv 2) pa_nil)) pe_int)) pe_int) pa_nil)) pe_int) (pg_sub (pv 0) pe_int set_list))))))) pss_nil)
      (C8.pss_cut (ps_if (pt_cmpR op_gt (pe_ix ix_list (pv 0) pe_int (fun _ _ => rfl)) pe_int (nomark _)) (pss_cons (ps_set (i := 3) sc_law_take.nd rfl (Or.inl rfl) (pe_op op_modN (pe_callTy call_int1 (by rfl) T.b_int (by decide +kernel) (pa_cons (pe_ix ix_list (pv 0) pe_int (fun _ _ => rfl)) pa_nil)) (pv 1)))
      (pss_cons (ps_asg (pe_op op_fdivN (pe_callTy call_int1 (by rfl) T.b_int (by decide +kernel) (pa_cons (pe_ix ix_list (pv 0) pe_int (fun _ _ => rfl)) pa_nil)) (pv 1)) (pg_sub (pv 0) pe_int set_list))
      (pss_one (ps_ret (pv 3))))) pss_nil)
      (pss_cons (ps_asg (pe_op op_mod (pe_callTy call_int1 (by rfl) T.b_int (by decide +kernel) (pa_cons (pe_op op_add (pe_op op_mul (pe_ix ix_list (pv 0) pe_int (fun _ _ => rfl)) pe_int) (pe_op op_mul pe_int (pe_ix ix_list (pv 0) pe_int (fun _ _ => rfl)))) pa_nil)) pe_int) (pg_sub (pv 0) pe_int set_list))
      (pss_cons (ps_set (i := 4) sc_law_take.nd rfl (Or.inl rfl) (pe_op op_mod (pe_callTy call_int1 (by rfl) T.b_int (by decide +kernel) (pa_cons (pe_op op_mul (pe_ix ix_list (pv 0) pe_int (fun _ _ => rfl)) (pe_op op_add (pe_op op_fdiv (pe_ix ix_list (pv 0) pe_int (fun _ _ => rfl)) pe_int) pe_int)) pa_nil)) pe_int))
      (pss_cons (ps_set (i := 4) sc_law_take.nd rfl (Or.inl rfl) (pe_op op_mod (pe_callTy call_int1 (by rfl) T.b_int (by decide +kernel) (pa_cons (pe_op op_mul (pv 4) (pe_op op_add (pe_op op_fdiv (pv 4) pe_int) pe_int)) pa_nil)) pe_int))
      (pss_one (ps_ret (pe_op op_modN (pe_callTy call_int1 (by rfl) T.b_int (by decide +kernel) (pa_cons (pe_op op_fdiv (pv 4) pe_int) pa_nil)) (pv 1)))))))))), ?_⟩
    walk_at "rd"
    refine rd_ixL hp rfl ?_
    walk_at "rd"
    refine rd_setL hp rfl ?_
    have nat1 : ∀ k : Nat, (k : Int) + 1 = ((k + 1 : Nat) : Int) := fun k => by omega
    have l1 : (upd H p (.lst [.ref l, .int (i : Nat), .int c, .int z, .int (t + 1)])) l = some (.lst (ns.map V.int)) := (upd_ne hlp).trans hl
    -- behind the first if: the hand, whatever was taken
    refine ⟨fun σ1 H1 => ∃ (i1 : Nat) (c1 z1 : Int) (u : Option V), σ1 = [some (.ref p), some (.int m), u, none, none] ∧ H1 p = some (.lst [.ref l, .int (i1 : Nat), .int c1, .int z1, .int (t + 1)]) ∧ H1 l = some (.lst (ns.map V.int)) ∧ 0 ≤ c1 ∧ 0 ≤ z1 ∧ z1 < 2147483647 ∧ Keep p H H1, ?_, ?_⟩
    · walk_at "rd"
      refine rd_ixL upd_same rfl ?_
      walk_at "rd"
      refine rd_ite (fun h3 => ?_) (fun h3 => ?_)
      · walk_at "rd"
        refine rd_ixL upd_same rfl ?_
        walk_at "rd"
        refine rd_ixL upd_same rfl ?_
        refine ⟨l, _, rfl, .inl (SqL.of l1), ?_⟩
        walk_at "rd"
        refine rd_ite (fun h4 => ?_) (fun h4 => ?_)
        · have hi : i < ns.length := by
            simp only [decide_eq_true_eq, List.length_map] at h4
            omega
          walk_at "rd"
          refine rd_ixL upd_same rfl ?_
          walk_at "rd"
          refine rd_ixL upd_same rfl ?_
          walk_at "rd"
          refine rd_ixL (v := .int ns[i]) l1 (atI_nat (by simp [hi])) ?_
          refine .inl ⟨_, rfl, ?_⟩
          walk_at "rd"
          refine rd_ixL upd_same rfl ?_
          walk_at "rd"
          refine rd_setL upd_same rfl ?_
          walk_at "rd"
          refine rd_iC ⟨by decide, by decide, by decide⟩ ?_
          walk_at "rd"
          refine rd_ite (fun h5 => ?_) (fun h5 => ?_)
          · walk_at "rd"
            refine rd_setL upd_same rfl ?_
            refine ⟨i + 1, ns[i], z, _, rfl, by rw [upd_same, ← nat1]; rfl, ?_, ?_, hz0, hz1, ?_⟩
            · rw [upd_ne hlp, upd_ne hlp]
              exact l1
            · have : (10 : Int) ^ (18 : Int).toNat ≤ ns[i] := by simpa using h5
              have e : (10 : Int) ^ (18 : Int).toNat = 1000000000000000000 := by decide
              omega
            · exact ((Keep.mut.trans Keep.mut).trans Keep.mut)
          · walk_at "rd"
            refine rd_ixL upd_same rfl ?_
            walk_at "rd"
            refine rd_iC (.inl ⟨by omega, by omega⟩) ?_
            walk_at "rd"
            refine .inl ⟨_, rfl, ?_⟩
            walk_at "rd"
            refine rd_iC (show (0 : Int) < 2147483647 by decide) ?_
            walk_at "rd"
            refine .inl ⟨_, rfl, ?_⟩
            walk_at "rd"
            refine rd_iC (show (0 : Int) < 2147483647 by decide) ?_
            walk_at "rd"
            refine rd_setL upd_same rfl ?_
            refine ⟨i + 1, c, _, _, rfl, by rw [upd_same, ← nat1]; rfl, ?_, hc, ?_, ?_, ((Keep.mut.trans Keep.mut).trans Keep.mut)⟩
            · rw [upd_ne hlp, upd_ne hlp]
              exact l1
            · exact Int.emod_nonneg _ (by decide)
            · exact Int.emod_lt_of_pos _ (by decide)
        · exact ⟨i, c, z, _, rfl, upd_same, l1, hc, hz0, hz1, Keep.mut⟩
      · exact ⟨i, c, z, _, rfl, upd_same, l1, hc, hz0, hz1, Keep.mut⟩
    · rintro σ1 H1 ⟨i1, c1, z1, u, rfl, hp1, hl1, hc1, hz1', hz1'', k1⟩
      refine ⟨fun σ2 H2 => σ2 = [some (.ref p), some (.int m), u, none, none] ∧ H2 = H1, ?_, ?_⟩
      · walk_at "rd"
        refine rd_ixL hp1 rfl ?_
        walk_at "rd"
        refine rd_ite (fun h3 => ?_) (fun h3 => ?_)
        · walk_at "rd"
          refine rd_ixL hp1 rfl ?_
          refine .inl ⟨_, rfl, ?_⟩
          walk_at "rd"
          refine rd_iC (show m ≠ 0 by omega) ?_
          walk_at "rd"
          refine rd_ixL hp1 rfl ?_
          refine .inl ⟨_, rfl, ?_⟩
          walk_at "rd"
          refine rd_iC (show m ≠ 0 ∧ m.natAbs < 1073741824 by omega) ?_
          walk_at "rd"
          refine rd_setL hp1 rfl ?_
          walk_at "rd"
          refine q _ _ ?_ ?_ ⟨ns, i1, _, z1, _, upd_same, hlp, (upd_ne hlp).trans hl1, ?_, hz1', hz1''⟩ (k1.trans Keep.mut)
          · rw [Int.fmod_eq_emod_of_nonneg _ (by omega)]
            exact Int.emod_nonneg _ (by omega)
          · rw [Int.fmod_eq_emod_of_nonneg _ (by omega)]
            exact Int.emod_lt_of_pos _ (by omega)
          · rw [Int.fdiv_eq_ediv_of_nonneg _ (by omega)]
            exact Int.ediv_nonneg hc1 (by omega)
        · exact ⟨rfl, rfl⟩
      · rintro σ2 H2 ⟨rfl, rfl⟩
        walk_at "rd"
        refine rd_ixL hp1 rfl ?_
        walk_at "rd"
        refine rd_iC (.inl ⟨by omega, by omega⟩) ?_
        walk_at "rd"
        refine rd_ixL hp1 rfl ?_
        walk_at "rd"
        refine rd_iC (.inl ⟨by omega, by omega⟩) ?_
        walk_at "rd"
        refine .inl ⟨_, rfl, ?_⟩
        walk_at "rd"
        refine rd_iC (show (0 : Int) < 2147483647 by decide) ?_
        walk_at "rd"
        refine rd_setL hp1 rfl ?_
        generalize hz : (z1 * 69621 + 7919 * (t + 1)) % 2147483647 = z2
        have b1 : 0 ≤ z2 := hz ▸ Int.emod_nonneg _ (by decide)
        have b2 : z2 < 2147483647 := hz ▸ Int.emod_lt_of_pos _ (by decide)
        walk_at "rd"
        refine rd_ixL upd_same rfl ?_
        walk_at "rd"
        refine rd_ixL upd_same rfl ?_
        walk_at "rd"
        refine rd_iC (show (0 : Int) < 1009 ∧ (1009 : Int) < 1073741824 by decide) ?_
        walk_at "rd"
        refine rd_iC (.inl ⟨by omega, by omega⟩) ?_
        walk_at "rd"
        refine .inl ⟨_, rfl, ?_⟩
        walk_at "rd"
        refine rd_iC (show (0 : Int) < 2147483647 by decide) ?_
        generalize hn : (z2 * (z2 / 1009 + 69621)) % 2147483647 = n1
        have b3 : 0 ≤ n1 := hn ▸ Int.emod_nonneg _ (by decide)
        have b4 : n1 < 2147483647 := hn ▸ Int.emod_lt_of_pos _ (by decide)
        walk_at "rd"
        refine rd_iC (show (0 : Int) < 2003 ∧ (2003 : Int) < 1073741824 by decide) ?_
        walk_at "rd"
        refine rd_iC (.inl ⟨by omega, by omega⟩) ?_
        walk_at "rd"
        refine .inl ⟨_, rfl, ?_⟩
        walk_at "rd"
        refine rd_iC (show (0 : Int) < 2147483399 by decide) ?_
        walk_at "rd"
        refine rd_iC (show (0 : Int) < 16 ∧ (16 : Int) < 1073741824 by decide) ?_
        refine .inl ⟨_, rfl, ?_⟩
        walk_at "rd"
        refine rd_iC (show m ≠ 0 by omega) ?_
        refine q _ _ ?_ ?_ ⟨ns, i1, c1, z2, _, upd_same, hlp, (upd_ne hlp).trans hl1, hc1, b1, b2⟩ (k1.trans Keep.mut)
        · rw [Int.fmod_eq_emod_of_nonneg _ (by omega)]
          exact Int.emod_nonneg _ (by omega)
        · rw [Int.fmod_eq_emod_of_nonneg _ (by omega)]
          exact Int.emod_lt_of_pos _ (by omega)
theorem ok_law_pick (T : Tx K mg) (B : Bk K mg T) : FnOk P w K mg base CX0 2 B.law_pick.f B.law_pick.fd ["hand", "things"] spPick := by
  have G_law_take := ok_law_take (P := P) (w := w) (base := base) T B
  refine B.law_pick.F.ok sc_law_pick (fun vs H Q E h => ?_) (fun cdv A outer s H vs Q E hr h => ?_)
  · obtain ⟨p, l0, a, xs, rfl, _⟩ := h
    rfl
  · obtain ⟨p, l0, a, xs, rfl, ha, l1, l2, hh, q⟩ := h
    refine ⟨_, (pss_one (ps_ret (pe_ix ix_list (pv 1) (pe_call G_law_take (hr.mono (by decide)) rfl B.law_take.m B.law_take.F.kp B.law_take.b .nil pass0 (pa_cons (pv 0) (pa_cons (pe_callB call_len_seq (by rfl) T.b_len (by decide +kernel) (pa_cons (pv 1) pa_nil)) pa_nil))) (fun _ _ => rfl)))), ?_⟩
    walk_at "rd"
    refine ⟨a, xs, rfl, .inl (SqL.of ha.2), ?_⟩
    walk_at "rd"
    refine ⟨p, l0, _, rfl, by omega, by omega, hh, fun r H' h1 h2 h3 k => ?_⟩
    obtain ⟨j, rfl⟩ : ∃ j : Nat, r = (j : Int) := ⟨r.toNat, by omega⟩
    have hj : j < xs.length := by omega
    have e : xs[j]? = some xs[j] := by simp [hj]
    exact rd_ixL (ha.keep k).2 (atI_nat e) (q j _ H' e h3 k)
theorem same_step (T : Tx K mg) (B : Bk K mg T) {n k : Nat} (hk : 1 ≤ k) (G_law_same : FnOk P w K mg base CX0 k B.law_same.f B.law_same.fd ["actual", "due"] (spSame T.c_Outgoing n)) :
    FnOk P w K mg base CX0 (k + 1) B.law_same.f B.law_same.fd ["actual", "due"] (spSame T.c_Outgoing (n + 1)) := by
  have G_law_is_integer := ok_law_is_integer (P := P) (w := w) (base := base) T B
  refine B.law_same.F.ok sc_law_same (fun vs H Q E h => ?_) (fun cdv A outer s H vs Q E hr h => ?_)
  · obtain ⟨p, d, v1, v2, rfl, _⟩ := h
    rfl
  · obtain ⟨p, d, v1, v2, rfl, hp, hdep, t1, t2, q⟩ := h
    refine ⟨_, (pss_cons (ps_if (pt_cmpR op_isN (pv 1) pe_non (nomark _)) (pss_one (ps_ret (pe_cmpR op_isN (pv 0) pe_non (nomark _)))) pss_nil)
      (pss_cons (ps_if (pt_cmpR (is_flag (b := true)) (pv 1) pe_bl (nomark _)) (pss_one (ps_ret (pe_cmpR (is_flag (b := true)) (pv 0) pe_bl (nomark _)))) pss_nil)
      (pss_cons (ps_if (pt_cmpR (is_flag (b := false)) (pv 1) pe_bl (nomark _)) (pss_one (ps_ret (pe_cmpR (is_flag (b := false)) (pv 0) pe_bl (nomark _)))) pss_nil)
      (pss_cons (ps_if (pt_val (pe_callB call_isi (by rfl) T.b_isinstance (by decide +kernel) (pa_cons (pv 1) (pa_cons (pe_bltn (v := .ty "int") (by rfl) T.b_int (by decide +kernel) rfl) pa_nil)))) (pss_one (ps_ret (pe_and (pe_call G_law_is_integer (hr.mono (by omega)) rfl B.law_is_integer.m B.law_is_integer.F.kp B.law_is_integer.b .nil pass0 (pa_cons (pv 0) pa_nil)) (pe_one (pe_cmpR op_eq (pv 0) (pv 1) (nomark _)))))) pss_nil)
      (pss_cons (ps_if (pt_val (pe_callB call_isi (by rfl) T.b_isinstance (by decide +kernel) (pa_cons (pv 1) (pa_cons (pe_bltn (v := .ty "str") (by rfl) T.b_str (by decide +kernel) rfl) pa_nil)))) (pss_one (ps_ret (pe_and (pe_callB call_isi (by rfl) T.b_isinstance (by decide +kernel) (pa_cons (pv 0) (pa_cons (pe_bltn (v := .ty "str") (by rfl) T.b_str (by decide +kernel) rfl) pa_nil))) (pe_one (pe_cmpR op_eq (pv 0) (pv 1) (nomark _)))))) pss_nil)
      (pss_cons (ps_if (PW.pt (pw_or (pt_cmpR op_ne (pe_callB call_isi (by rfl) T.b_isinstance (by decide +kernel) (pa_cons (pv 1) (pa_cons (pe_bltn (v := .ty "tuple") (by rfl) T.b_tuple (by decide +kernel) rfl) pa_nil))) (pe_callB call_isi (by rfl) T.b_isinstance (by decide +kernel) (pa_cons (pv 0) (pa_cons (pe_bltn (v := .ty "tuple") (by rfl) T.b_tuple (by decide +kernel) rfl) pa_nil))) (nomark _)) (pw_or1 (pt_cmpR op_ne (pe_callB call_isi (by rfl) T.b_isinstance (by decide +kernel) (pa_cons (pv 1) (pa_cons (pe_bltn (v := .ty "list") (by rfl) T.b_list (by decide +kernel) rfl) pa_nil))) (pe_callB call_isi (by rfl) T.b_isinstance (by decide +kernel) (pa_cons (pv 0) (pa_cons (pe_bltn (v := .ty "list") (by rfl) T.b_list (by decide +kernel) rfl) pa_nil))) (nomark _))))) (pss_one (ps_ret pe_bl)) pss_nil)
      (pss_cons (ps_if (pt_cmpR op_ne (pe_callB call_len_seq (by rfl) T.b_len (by decide +kernel) (pa_cons (pv 0) pa_nil)) (pe_callB call_len_seq (by rfl) T.b_len (by decide +kernel) (pa_cons (pv 1) pa_nil)) (nomark _)) (pss_one (ps_ret pe_bl)) pss_nil)
      (pss_cons (ps_for PassesOwn.never rfl (RZ.pi_zipA (by rfl) T.b_zip (pa_cons (pv 0) (pa_cons (pv 1) pa_nil))) (pg_tup (by rfl) (pgs_cons (pg_name (i := 2) sc_law_same.nd rfl (Or.inl rfl)) (pgs_cons (pg_name (i := 3) sc_law_same.nd rfl (Or.inl rfl)) pgs_nil))) (pss_one (ps_if (pt_not (pt_val (pe_call G_law_same (hr.mono (by omega)) rfl B.law_same.m B.law_same.F.kp B.law_same.b .nil pass0 (pa_cons (pv 2) (pa_cons (pv 3) pa_nil))))) (pss_one (ps_ret pe_bl)) pss_nil)))
      (pss_one (ps_ret pe_bl)))))))))), ?_⟩
    have q0 := q H (Same.refl H)
    cases d with
    | none =>
      simp only [Tp] at t1 t2
      subst t1 t2
      walk_at "rd"
      refine ⟨rfl, ?_⟩
      walk_at "rd"
      refine rd_yes rfl ?_
      walk_at "rd"
      exact ⟨rfl, q0⟩
    | bool b =>
      simp only [Tp] at t1 t2
      subst t1 t2
      walk_at "rd"
      refine ⟨rfl, ?_⟩
      walk_at "rd"
      refine rd_no rfl ?_
      walk_at "rd"
      refine ⟨rfl, ?_⟩
      walk_at "rd"
      cases b with
      | true =>
        refine rd_yes rfl ?_
        walk_at "rd"
        exact ⟨rfl, q0⟩
      | false =>
        refine rd_no rfl ?_
        walk_at "rd"
        refine ⟨rfl, ?_⟩
        walk_at "rd"
        refine rd_yes rfl ?_
        walk_at "rd"
        exact ⟨rfl, q0⟩
    | int i =>
      have t1' := t1
      have t2' := t2
      simp only [Tp] at t1' t2'
      subst t1' t2'
      walk_at "rd"
      refine ⟨rfl, ?_⟩
      walk_at "rd"
      refine rd_no rfl ?_
      walk_at "rd"
      refine ⟨rfl, ?_⟩
      walk_at "rd"
      refine rd_no rfl ?_
      walk_at "rd"
      refine ⟨rfl, ?_⟩
      walk_at "rd"
      refine rd_no rfl ?_
      walk_at "rd"
      refine tp_isI T.W_Outgoing t2 ?_
      walk_at "rd"
      refine rd_yes rfl ?_
      walk_at "rd"
      refine ⟨p, _, _, rfl, t1, ?_⟩
      walk_at "rd"
      refine rd_yes rfl ?_
      walk_at "rd"
      simpa using q0
    | str i =>
      have t1' := t1
      have t2' := t2
      simp only [Tp] at t1' t2'
      subst t1' t2'
      walk_at "rd"
      refine ⟨rfl, ?_⟩
      walk_at "rd"
      refine rd_no rfl ?_
      walk_at "rd"
      refine ⟨rfl, ?_⟩
      walk_at "rd"
      refine rd_no rfl ?_
      walk_at "rd"
      refine ⟨rfl, ?_⟩
      walk_at "rd"
      refine rd_no rfl ?_
      walk_at "rd"
      refine tp_isI T.W_Outgoing t2 ?_
      walk_at "rd"
      refine rd_no rfl ?_
      walk_at "rd"
      refine tp_isS T.W_Outgoing t2 ?_
      walk_at "rd"
      refine rd_yes rfl ?_
      walk_at "rd"
      refine tp_isS T.W_Outgoing t1 ?_
      walk_at "rd"
      refine rd_yes rfl ?_
      walk_at "rd"
      refine rd_eq rfl ?_
      simpa using q0
    | tuple ds =>
      obtain ⟨a1, xs1, rfl, ha1, hx1⟩ := tp_tup' (id t1)
      obtain ⟨a2, xs2, rfl, ha2, hx2⟩ := tp_tup' (id t2)
      have hl1 := hx1.len
      have hl2 := hx2.len
      walk_at "rd"
      refine ⟨rfl, ?_⟩
      walk_at "rd"
      refine rd_no rfl ?_
      walk_at "rd"
      refine ⟨rfl, ?_⟩
      walk_at "rd"
      refine rd_no rfl ?_
      walk_at "rd"
      refine ⟨rfl, ?_⟩
      walk_at "rd"
      refine rd_no rfl ?_
      walk_at "rd"
      refine tp_isI T.W_Outgoing t2 ?_
      walk_at "rd"
      refine rd_no rfl ?_
      walk_at "rd"
      refine tp_isS T.W_Outgoing t2 ?_
      walk_at "rd"
      refine rd_no rfl ?_
      walk_at "rd"
      refine tp_isT T.W_Outgoing t2 ?_
      walk_at "rd"
      refine tp_isT T.W_Outgoing t1 ?_
      refine rd_ne rfl ?_
      walk_at "rd"
      refine rd_no rfl ?_
      walk_at "rd"
      refine tp_isL T.W_Outgoing t2 ?_
      walk_at "rd"
      refine tp_isL T.W_Outgoing t1 ?_
      refine rd_ne rfl ?_
      walk_at "rd"
      refine rd_no rfl ?_
      walk_at "rd"
      refine ⟨a1, xs1, rfl, .inr (SqT.of ha1.2), ?_⟩
      walk_at "rd"
      refine ⟨a2, xs2, rfl, .inr (SqT.of ha2.2), ?_⟩
      walk_at "rd"
      refine rd_no (by simp; omega) ?_
      walk_at "rd"
      refine ⟨_, rfl, _, rfl, a1, a2, xs1, xs2, rfl, .inr ⟨SqT.of ha1.2, SqT.of ha2.2, RZ.for_zipT (K := K) (by omega) (fun i σ H1 => Same H H1 ∧ ∃ u1 u2, σ = [some (.ref a1), some (.ref a2), u1, u2]) ⟨Same.refl H, _, _, rfl⟩
        (fun i σ H1 hh => ⟨SqT.of (hh.1 _ _ ha1.2), SqT.of (hh.1 _ _ ha2.2)⟩) ?_ ?_⟩⟩
      · rintro i x y U σ H1 hx hy ⟨hs, u1, u2, rfl⟩ hU
        obtain ⟨d1, e1, f1⟩ := hx1.get' hx
        obtain ⟨d2, e2, f2⟩ := hx2.get' hy
        rw [e1] at e2
        cases e2
        have s1 := hs.trans (same_new (o := .tup [x, y]) hU)
        refine ⟨U, _, rfl, SqT.of upd_same, rfl, _, _, rfl, _, _, rfl, rfl, ?_⟩
        walk_at "rd"
        have hpd : noDict d1 = true := noDict_get (by simpa only [noDict] using hp) e1
        have hdd : d1.depth < n := by
          have z := depthAll_get e1
          have e : PyData.depth (.tuple ds) = PyData.depthAll ds + 1 := rfl
          omega
        refine ⟨p, d1, x, y, rfl, hpd, hdd, Tp.keep (Keep.same s1) _ _ f1, Tp.keep (Keep.same s1) _ _ f2, fun H2 s2 => ?_⟩
        walk_at "rd"
        refine rd_no rfl ?_
        exact ⟨s1.trans s2, _, _, rfl⟩
      · rintro σ H1 ⟨hs, u1, u2, rfl⟩
        walk_at "rd"
        exact q _ hs
    | list ds =>
      obtain ⟨a1, xs1, rfl, ha1, hx1⟩ := tp_lst' (id t1)
      obtain ⟨a2, xs2, rfl, ha2, hx2⟩ := tp_lst' (id t2)
      have hl1 := hx1.len
      have hl2 := hx2.len
      walk_at "rd"
      refine ⟨rfl, ?_⟩
      walk_at "rd"
      refine rd_no rfl ?_
      walk_at "rd"
      refine ⟨rfl, ?_⟩
      walk_at "rd"
      refine rd_no rfl ?_
      walk_at "rd"
      refine ⟨rfl, ?_⟩
      walk_at "rd"
      refine rd_no rfl ?_
      walk_at "rd"
      refine tp_isI T.W_Outgoing t2 ?_
      walk_at "rd"
      refine rd_no rfl ?_
      walk_at "rd"
      refine tp_isS T.W_Outgoing t2 ?_
      walk_at "rd"
      refine rd_no rfl ?_
      walk_at "rd"
      refine tp_isT T.W_Outgoing t2 ?_
      walk_at "rd"
      refine tp_isT T.W_Outgoing t1 ?_
      refine rd_ne rfl ?_
      walk_at "rd"
      refine rd_no rfl ?_
      walk_at "rd"
      refine tp_isL T.W_Outgoing t2 ?_
      walk_at "rd"
      refine tp_isL T.W_Outgoing t1 ?_
      refine rd_ne rfl ?_
      walk_at "rd"
      refine rd_no rfl ?_
      walk_at "rd"
      refine ⟨a1, xs1, rfl, .inl (SqL.of ha1.2), ?_⟩
      walk_at "rd"
      refine ⟨a2, xs2, rfl, .inl (SqL.of ha2.2), ?_⟩
      walk_at "rd"
      refine rd_no (by simp; omega) ?_
      walk_at "rd"
      refine ⟨_, rfl, _, rfl, a1, a2, xs1, xs2, rfl, .inl ⟨SqL.of ha1.2, SqL.of ha2.2, RZ.for_zipL (K := K) (by omega) (fun i σ H1 => Same H H1 ∧ ∃ u1 u2, σ = [some (.ref a1), some (.ref a2), u1, u2]) ⟨Same.refl H, _, _, rfl⟩
        (fun i σ H1 hh => ⟨SqL.of (hh.1 _ _ ha1.2), SqL.of (hh.1 _ _ ha2.2)⟩) ?_ ?_⟩⟩
      · rintro i x y U σ H1 hx hy ⟨hs, u1, u2, rfl⟩ hU
        obtain ⟨d1, e1, f1⟩ := hx1.get' hx
        obtain ⟨d2, e2, f2⟩ := hx2.get' hy
        rw [e1] at e2
        cases e2
        have s1 := hs.trans (same_new (o := .tup [x, y]) hU)
        refine ⟨U, _, rfl, SqT.of upd_same, rfl, _, _, rfl, _, _, rfl, rfl, ?_⟩
        walk_at "rd"
        have hpd : noDict d1 = true := noDict_get (by simpa only [noDict] using hp) e1
        have hdd : d1.depth < n := by
          have z := depthAll_get e1
          have e : PyData.depth (.list ds) = PyData.depthAll ds + 1 := rfl
          omega
        refine ⟨p, d1, x, y, rfl, hpd, hdd, Tp.keep (Keep.same s1) _ _ f1, Tp.keep (Keep.same s1) _ _ f2, fun H2 s2 => ?_⟩
        walk_at "rd"
        refine rd_no rfl ?_
        exact ⟨s1.trans s2, _, _, rfl⟩
      · rintro σ H1 ⟨hs, u1, u2, rfl⟩
        walk_at "rd"
        exact q _ hs
    | dict ds => simp only [noDict] at hp; cases hp
theorem ok_law_same (T : Tx K mg) (B : Bk K mg T) : ∀ n, FnOk P w K mg base CX0 (n + 1) B.law_same.f B.law_same.fd ["actual", "due"] (spSame T.c_Outgoing n)
  | 0 => ⟨fun vs H Q E h => by
      obtain ⟨p, d, v1, v2, _, _, hd, _⟩ := h
      exact absurd hd (Nat.not_lt_zero _), fun A outer s H args us vs Q E hr e0 hb r h => by
      obtain ⟨p, d, v1, v2, _, _, hd, _⟩ := h
      exact absurd hd (Nat.not_lt_zero _)⟩
  | n + 1 => same_step T B (by omega) (ok_law_same T B n)
end
end Mw

/-! C8 -/
namespace Mw
open PySem L2
def szB : Nat → Nat
  | 0 => 1
  | n + 1 => 2 * szB n + 1
theorem depthAll_le {n : Nat} : ∀ {ds : List PyData}, (∀ d ∈ ds, d.depth ≤ n) → PyData.depthAll ds ≤ n
  | [], _ => Nat.zero_le _
  | d :: ds, h => Nat.max_le.mpr ⟨h d (by simp), depthAll_le fun e he => h e (by simp [he])⟩
theorem szAll_le {n : Nat} : ∀ {ds : List PyData}, (∀ d ∈ ds, sz d ≤ n) → szAll ds ≤ ds.length * n
  | [], _ => Nat.zero_le _
  | d :: ds, h => by
    have h1 := h d (by simp)
    have h2 := szAll_le fun e he => h e (List.mem_cons_of_mem _ he)
    show sz d + szAll ds ≤ (ds.length + 1) * n
    rw [Nat.add_mul]
    omega
theorem plainAll_of : ∀ {ds : List PyData}, (∀ d ∈ ds, plainD d = true) → plainAll ds = true
  | [], _ => rfl
  | d :: ds, h => by
    show (plainD d && plainAll ds) = true
    rw [h d (by simp), plainAll_of fun e he => h e (List.mem_cons_of_mem _ he)]
    rfl
/-- a thing of the law's: plain, not deep, not large -/
def Gd (n s : Nat) (d : PyData) : Prop := plainD d = true ∧ d.depth ≤ n ∧ sz d ≤ s ∧ d.canLay0 = true
theorem lay_all : ∀ {ds : List PyData}, (∀ d ∈ ds, d.canLay0 = true) → PyData.canLayAll0 ds = true
  | [], _ => rfl
  | d :: ds, h => by
    show (d.canLay0 && PyData.canLayAll0 ds) = true
    rw [h d (by simp), lay_all fun e he => h e (List.mem_cons_of_mem _ he)]
    rfl
def spItem (C : Addr) (n : Nat) : Sp := fun vs H Q _ => ∃ (p l0 : Addr) (m : Nat), m < n ∧ vs = [.ref p, .int (m : Nat)] ∧ HandAt p l0 H ∧ ∀ d v H', Gd m (szB m) d → Tp C p H' d v → HandAt p l0 H' → Keep p H H' → Q v H'
def spLThing (C : Addr) : Sp := fun vs H Q _ => ∃ p l0, vs = [.ref p] ∧ HandAt p l0 H ∧ ∀ ds v H', Gd 4 46 (.tuple ds) → Tp C p H' (.tuple ds) v → HandAt p l0 H' → Keep p H H' → Q v H'
theorem szB_pos : ∀ m, 1 ≤ szB m
  | 0 => Nat.le_refl _
  | m + 1 => by
    show 1 ≤ 2 * szB m + 1
    omega
theorem gd_all {n s k : Nat} {ds : List PyData} (h : ∀ d ∈ ds, Gd n s d) (hl : ds.length ≤ k) : Gd (n + 1) (k * s + 1) (.tuple ds) := by
  refine ⟨?_, ?_, ?_, ?_⟩
  · show plainAll ds = true
    exact plainAll_of fun d hd => (h d hd).1
  · show PyData.depthAll ds + 1 ≤ n + 1
    have := depthAll_le fun d hd => (h d hd).2.1
    omega
  · show szAll ds + 1 ≤ k * s + 1
    have := szAll_le fun d hd => (h d hd).2.2.1
    have := Nat.mul_le_mul_right s hl
    omega
  · show PyData.canLayAll0 ds = true
    exact lay_all fun d hd => (h d hd).2.2.2
theorem gd_flat {n s : Nat} (hs : 1 ≤ s) {d : PyData} (h : plainD d = true ∧ d.depth = 0 ∧ sz d = 1 ∧ d.canLay0 = true) : Gd n s d := ⟨h.1, by omega, by omega, h.2.2.2⟩
/-- what the comprehensions gather -/
def Row (C p l0 : Addr) (n s : Nat) (H0 : Hp) (D : Addr) (i : Nat) (H1 : Hp) : Prop := ∃ ds vs, ds.length = i ∧ H1 D = some (.lst vs) ∧ TpAll C p H1 ds vs ∧ (∀ d ∈ ds, Gd n s d) ∧ HandAt p l0 H1 ∧ Keep p H0 H1
section
variable {P : Program} {w : World} {K : PySem.W.Frag} {mg : Str → Option Value} {base : Heap}
local macro_rules | `(tactic| walk_at "rd") => `(tactic| (repeat (first
  | ((with_reducible refine' rd_var ?h0 ?_); (case h0 => rfl))
  | with_reducible refine rd_c ?_
  | with_reducible refine rd_op ?_
  | with_reducible refine rd_nil ?_
  | with_reducible refine rd_cons ?_
  | with_reducible refine rd_tup ?_
  | with_reducible refine rd_lst ?_
  | with_reducible refine rd_ifs ?_
  | with_reducible refine rd_seq ?_
  | with_reducible refine rd_next ?_
  | with_reducible refine rd_ret ?_
  | with_reducible refine rd_asg ?_
  | ((with_reducible refine' rd_gset ?hs ?_); (case hs => ((simp only [L2.start, List.map_cons, List.map_nil, List.length_cons, List.length_nil, List.cons_append, List.nil_append, List.set_cons_zero, List.set_cons_succ, Nat.reduceAdd, Nat.reduceSub, Nat.zero_add, List.reduceReplicate]); rfl)))
  | with_reducible refine rd_drop ?_
  | with_reducible refine rd_test ?_
  | with_reducible refine rd_B ?_
  | with_reducible refine rd_bl ?_
  | with_reducible refine rd_blP ?_
  | with_reducible refine rd_andV ?_
  | with_reducible refine rd_orV ?_
  | with_reducible refine rd_notV ?_
  | with_reducible refine rd_and ?_
  | with_reducible refine rd_or ?_
  | with_reducible refine rd_not ?_
  | with_reducible refine rd_chain ?_
  | with_reducible refine rd_dput ?_
  | with_reducible refine rd_dget ?_
  | with_reducible refine rd_cb ?_
  | with_reducible refine rd_call ?_
  | with_reducible refine rd_un ?_
  | with_reducible refine rd_sl ?_
  | with_reducible refine rd_nopart ?_
  | with_reducible refine rd_part ?_
  | with_reducible refine rd_intP ?_
  | with_reducible refine rd_rU ?_
  | with_reducible refine rd_fld ?_
  | with_reducible refine rd_eqI ?_
  | with_reducible refine rd_neI ?_
  | with_reducible refine rd_mko ?_
  | with_reducible refine rd_bm ?_
  | with_reducible refine rd_gsub ?_
  | with_reducible refine rd_i0 ?_)))
theorem law_item_step (T : Tx K mg) (B : Bk K mg T) {n k : Nat} (hk : 2 ≤ k) (G_law_item : FnOk P w K mg base CX0 k B.law_item.f B.law_item.fd ["hand", "deep"] (spItem T.c_Outgoing n)) :
    FnOk P w K mg base CX0 (k + 1) B.law_item.f B.law_item.fd ["hand", "deep"] (spItem T.c_Outgoing (n + 1)) := by
  have G_law_take := ok_law_take (P := P) (w := w) (base := base) T B
  have G_law_pick := ok_law_pick (P := P) (w := w) (base := base) T B
  refine B.law_item.F.ok sc_law_item (fun vs H Q E h => ?_) (fun cdv A outer s H vs Q E hr h => ?_)
  · obtain ⟨p, l0, m, _, rfl, _⟩ := h
    rfl
  · obtain ⟨p, l0, m, hm, rfl, hh, q⟩ := h
    have s1 := szB_pos m
    refine ⟨_, (pss_cons (ps_set (i := 2) sc_law_item.nd rfl (Or.inl rfl) (pe_call G_law_take (hr.mono (by omega)) rfl B.law_take.m B.law_take.F.kp B.law_take.b .nil pass0 (pa_cons (pv 0) (pa_cons pe_int pa_nil))))
      (pss_cons (ps_if (PW.pt (pw_and (pt_cmpR op_eq (pv 2) pe_int (nomark _)) (pw_and1 (pt_cmpR op_gt (pv 1) pe_int (nomark _))))) (pss_one (ps_ret (pe_callTy call_tuple_of (by rfl) T.b_tuple (by decide +kernel) (pa_cons (pe_lc (own := [("k", 3)]) (g := gName 3) rfl sc_law_item.nd (pi_range1 (by rfl) T.b_range (pa_cons (pe_call G_law_take (hr.mono (by omega)) rfl B.law_take.m B.law_take.F.kp B.law_take.b .nil pass0 (pa_cons (pv 0) (pa_cons pe_int pa_nil))) pa_nil)) (blkOk_by (own := [("k", 3)]) (N := ["hand", "deep", "way", "k"]) (sc := defScope s_law_item) (by decide +kernel)) (fun _ _ _ _ _ => pg_name (i := 3) sc_law_item.nd rfl (Or.inl rfl)) (fun _ _ _ _ _ => pts_nil) (fun _ _ _ _ _ => (pe_call G_law_item (hr.mono (by omega)) rfl B.law_item.m B.law_item.F.kp B.law_item.b .nil pass0 (pa_cons (pv 0) (pa_cons (pe_op op_sub (pv 1) pe_int) pa_nil))))) pa_nil)))) pss_nil)
      (pss_cons (ps_if (pt_cmpR op_lt (pv 2) pe_int (nomark _)) (pss_one (ps_ret (pe_ix ix_list (pe_lst (pa_cons pe_non (pa_cons pe_bl (pa_cons pe_bl (pa_cons pe_str (pa_cons pe_str (pa_cons pe_str pa_nil))))))) (pe_call G_law_take (hr.mono (by omega)) rfl B.law_take.m B.law_take.F.kp B.law_take.b .nil pass0 (pa_cons (pv 0) (pa_cons pe_int pa_nil))) (fun _ _ => rfl)))) pss_nil)
      (pss_one (ps_ret (pe_call G_law_pick (hr.mono (by omega)) rfl B.law_pick.m B.law_pick.F.kp B.law_pick.b .nil pass0 (pa_cons (pv 0) (pa_cons (pe_lst (pa_cons (pe_call G_law_take (hr.mono (by omega)) rfl B.law_take.m B.law_take.F.kp B.law_take.b .nil pass0 (pa_cons (pv 0) (pa_cons pe_int pa_nil))) (pa_cons (pe_call G_law_take (hr.mono (by omega)) rfl B.law_take.m B.law_take.F.kp B.law_take.b .nil pass0 (pa_cons (pv 0) (pa_cons (pe_op op_pow pe_int pe_int) pa_nil))) (pa_cons (pe_op op_sub (pe_un un_neg pe_int) (pe_call G_law_take (hr.mono (by omega)) rfl B.law_take.m B.law_take.F.kp B.law_take.b .nil pass0 (pa_cons (pv 0) (pa_cons pe_int pa_nil)))) (pa_cons (pe_op op_pow pe_int pe_int) pa_nil))))) pa_nil)))))))), ?_⟩
    walk_at "rd"
    refine ⟨p, l0, _, rfl, by decide, by decide, hh, fun r H1 r0 r1 hh1 k1 => ?_⟩
    walk_at "rd"
    refine rd_ite (fun h2 => ?_) (fun h2 => ?_)
    · walk_at "rd"
      refine rd_ite (fun h3 => ?_) (fun h3 => ?_)
      · skip
        obtain ⟨m', rfl⟩ : ∃ m', m = m' + 1 := ⟨m - 1, by
          have := of_decide_eq_true h3
          omega⟩
        walk_at "rd"
        show iRng1 _ _ _ _
        refine rd_rng1 ?_
        walk_at "rd"
        refine ⟨p, l0, _, rfl, by decide, by decide, hh1, fun c H2 c0 c1 hh2 k2 => ?_⟩
        walk_at "rd"
        refine ⟨c, rfl, by omega, by omega, fun D hD => lc_range (lo := 0) (n := c.toNat) (Row T.c_Outgoing p l0 m' (szB m') H2 D)
          ⟨[], [], rfl, upd_same, tpAll_nil, fun d hd => absurd hd (by simp), hh2.keep (same_new hD), Keep.new hD⟩ ?_ ?_⟩
        · rintro i H3 hi ⟨ds, vs, hl, hacc, hds, hg, hh3, k3⟩
          refine ⟨rfl, ?_⟩
          refine rd_tyes ?_
          refine rd_yes rfl ?_
          walk_at "rd"
          refine ⟨p, l0, m', by omega, by simp, hh3, fun d v H4 gd td hh4 k4 => ?_⟩
          have nDp : D ≠ p := hh2.ne hD
          refine ⟨vs, k4 _ _ nDp hacc, ?_, ds ++ [d], vs ++ [v], by simp [hl], upd_same, ?_, fun e he => ?_, ?_, ?_⟩
          · have := hds.len
            exact small1000 (by omega)
          · have hn : ∀ b o, H2 b = some o → b ≠ D := fun b o e => ne_of_none e hD
            have z : TpAll T.c_Outgoing p H4 (ds ++ [d]) (vs ++ [v]) := (TpAll.keep k4 _ _ hds).append (tpAll_cons td tpAll_nil)
            have hp2 : plainAll (ds ++ [d]) = true := plainAll_of fun e he => by
              rcases List.mem_append.mp he with y | y
              · exact (hg e y).1
              · rw [show e = d by simpa using y]
                exact gd.1
            exact TpAll.keepT (fun a xs e => (upd_ne (ne_of e (k4 _ _ nDp hacc) (by intro z; cases z))).trans e) _ _ hp2 z
          · rcases List.mem_append.mp he with y | y
            · exact hg e y
            · rw [show e = d by simpa using y]
              exact gd
          · obtain ⟨u, hu⟩ := hh2.there2
            exact hh4.put nDp (ne_of_none hu hD).symm
          · exact fun b o nb e => (upd_ne (ne_of_none e hD)).trans (k4 b o nb (k3 b o nb e))
        · rintro H3 ⟨ds, vs, hl, hacc, hds, hg, hh3, k3⟩
          walk_at "rd"
          refine ⟨D, _, rfl, .inl ⟨SqL.of hacc, fun u nu => ?_⟩⟩
          walk_at "rd"
          have g := gd_all (k := 2) hg (by omega)
          exact q _ _ _ g (tp_new hh3 nu hds) (hh3.keep (same_new nu)) (((k1.trans k2).trans k3).put nu)
      · skip
        walk_at "rd"
        refine rd_ite (fun h2 => ?_) (fun h2 => ?_)
        · walk_at "rd"
          refine rd_disp rfl fun lm nm => ?_
          have m2 : TpAll T.c_Outgoing p (upd H1 lm (.lst [.non, .bl true, .bl false, .str "", .str "task", .str "answer"])) [.none, .bool true, .bool false, .str "", .str "task", .str "answer"] [.non, .bl true, .bl false, .str "", .str "task", .str "answer"] :=
            tpAll_cons tp_non (tpAll_cons tp_bl (tpAll_cons tp_bl (tpAll_cons tp_str (tpAll_cons tp_str (tpAll_cons tp_str tpAll_nil)))))
          walk_at "rd"
          refine ⟨p, l0, _, rfl, by decide, by decide, hh1.keep (same_new nm), fun j H2 j0 j1 hh2 k2 => ?_⟩
          have m3 := TpAll.keep k2 _ _ m2
          obtain ⟨y, hy⟩ : ∃ y, ([.non, .bl true, .bl false, .str "", .str "task", .str "answer"] : List V)[j.toNat]? = some y := by
            have : j.toNat < 6 := by omega
            exact ⟨_, List.getElem?_eq_getElem this⟩
          walk_at "rd"
          refine rd_ixL (k2 _ _ (hh1.ne nm) upd_same) (at_of (j := j.toNat) (by omega) hy) ?_
          obtain ⟨d, hd, td⟩ := m3.get' hy
          refine q d y H2 (gd_flat s1 ?_) td hh2 (k1.trans ((Keep.new nm).trans k2))
          have hm := List.mem_of_getElem? hd
          simp only [List.mem_cons, List.not_mem_nil, or_false] at hm
          rcases hm with rfl | rfl | rfl | rfl | rfl | rfl <;> exact ⟨rfl, rfl, rfl, by decide +kernel⟩
        · walk_at "rd"
          refine ⟨p, l0, _, rfl, by decide, by decide, hh1, fun a1 H2 _ _ hh2 k2 => ?_⟩
          walk_at "rd"
          refine rd_iC ⟨by decide, by decide, by decide⟩ ?_
          walk_at "rd"
          refine ⟨p, l0, _, rfl, by decide, by decide, hh2, fun a2 H3 _ _ hh3 k3 => ?_⟩
          walk_at "rd"
          refine ⟨p, l0, _, rfl, by decide, by decide, hh3, fun a3 H4 _ _ hh4 k4 => ?_⟩
          walk_at "rd"
          refine rd_iC ⟨by decide, by decide, by decide⟩ ?_
          walk_at "rd"
          refine rd_disp rfl fun lm nm => ?_
          have m2 := tp_ints (C := T.c_Outgoing) (p := p) (H := upd H4 lm (.lst ([a1, a2, -1 - a3, 10 ^ 19].map V.int))) [a1, a2, -1 - a3, 10 ^ 19]
          walk_at "rd"
          refine ⟨p, l0, lm, _, rfl, ⟨hh4.ne nm, upd_same⟩, by simp, by simp, hh4.keep (same_new nm), fun j y H5 hj hh5 k5 => ?_⟩
          walk_at "rd"
          have m3 := TpAll.keep k5 _ _ m2
          obtain ⟨d, hd, td⟩ := m3.get' hj
          refine q d y H5 (gd_flat s1 ?_) td hh5 (((k1.trans k2).trans (k3.trans k4)).trans ((Keep.new nm).trans k5))
          obtain ⟨i, rfl⟩ : ∃ i, d = .int i := by
            rw [List.getElem?_map] at hd
            cases z : ([a1, a2, -1 - a3, 10 ^ 19] : List Int)[j]? with
            | none =>
              rw [z] at hd
              cases hd
            | some i =>
              rw [z] at hd
              exact ⟨i, (Option.some.inj hd).symm⟩
          exact ⟨rfl, rfl, rfl, rfl⟩
    · refine rd_no rfl ?_
      walk_at "rd"
      refine rd_ite (fun h2 => ?_) (fun h2 => ?_)
      · walk_at "rd"
        refine rd_disp rfl fun lm nm => ?_
        have m2 : TpAll T.c_Outgoing p (upd H1 lm (.lst [.non, .bl true, .bl false, .str "", .str "task", .str "answer"])) [.none, .bool true, .bool false, .str "", .str "task", .str "answer"] [.non, .bl true, .bl false, .str "", .str "task", .str "answer"] :=
          tpAll_cons tp_non (tpAll_cons tp_bl (tpAll_cons tp_bl (tpAll_cons tp_str (tpAll_cons tp_str (tpAll_cons tp_str tpAll_nil)))))
        walk_at "rd"
        refine ⟨p, l0, _, rfl, by decide, by decide, hh1.keep (same_new nm), fun j H2 j0 j1 hh2 k2 => ?_⟩
        have m3 := TpAll.keep k2 _ _ m2
        obtain ⟨y, hy⟩ : ∃ y, ([.non, .bl true, .bl false, .str "", .str "task", .str "answer"] : List V)[j.toNat]? = some y := by
          have : j.toNat < 6 := by omega
          exact ⟨_, List.getElem?_eq_getElem this⟩
        walk_at "rd"
        refine rd_ixL (k2 _ _ (hh1.ne nm) upd_same) (at_of (j := j.toNat) (by omega) hy) ?_
        obtain ⟨d, hd, td⟩ := m3.get' hy
        refine q d y H2 (gd_flat s1 ?_) td hh2 (k1.trans ((Keep.new nm).trans k2))
        have hm := List.mem_of_getElem? hd
        simp only [List.mem_cons, List.not_mem_nil, or_false] at hm
        rcases hm with rfl | rfl | rfl | rfl | rfl | rfl <;> exact ⟨rfl, rfl, rfl, by decide +kernel⟩
      · walk_at "rd"
        refine ⟨p, l0, _, rfl, by decide, by decide, hh1, fun a1 H2 _ _ hh2 k2 => ?_⟩
        walk_at "rd"
        refine rd_iC ⟨by decide, by decide, by decide⟩ ?_
        walk_at "rd"
        refine ⟨p, l0, _, rfl, by decide, by decide, hh2, fun a2 H3 _ _ hh3 k3 => ?_⟩
        walk_at "rd"
        refine ⟨p, l0, _, rfl, by decide, by decide, hh3, fun a3 H4 _ _ hh4 k4 => ?_⟩
        walk_at "rd"
        refine rd_iC ⟨by decide, by decide, by decide⟩ ?_
        walk_at "rd"
        refine rd_disp rfl fun lm nm => ?_
        have m2 := tp_ints (C := T.c_Outgoing) (p := p) (H := upd H4 lm (.lst ([a1, a2, -1 - a3, 10 ^ 19].map V.int))) [a1, a2, -1 - a3, 10 ^ 19]
        walk_at "rd"
        refine ⟨p, l0, lm, _, rfl, ⟨hh4.ne nm, upd_same⟩, by simp, by simp, hh4.keep (same_new nm), fun j y H5 hj hh5 k5 => ?_⟩
        walk_at "rd"
        have m3 := TpAll.keep k5 _ _ m2
        obtain ⟨d, hd, td⟩ := m3.get' hj
        refine q d y H5 (gd_flat s1 ?_) td hh5 (((k1.trans k2).trans (k3.trans k4)).trans ((Keep.new nm).trans k5))
        obtain ⟨i, rfl⟩ : ∃ i, d = .int i := by
          rw [List.getElem?_map] at hd
          cases z : ([a1, a2, -1 - a3, 10 ^ 19] : List Int)[j]? with
          | none =>
            rw [z] at hd
            cases hd
          | some i =>
            rw [z] at hd
            exact ⟨i, (Option.some.inj hd).symm⟩
        exact ⟨rfl, rfl, rfl, rfl⟩
theorem ok_law_item (T : Tx K mg) (B : Bk K mg T) : ∀ n, FnOk P w K mg base CX0 (n + 2) B.law_item.f B.law_item.fd ["hand", "deep"] (spItem T.c_Outgoing n)
  | 0 => ⟨fun vs H Q E h => by
      obtain ⟨p, l0, m, h, _⟩ := h
      exact absurd h (Nat.not_lt_zero _), fun A outer s H args us vs Q E hr e0 hb r h => by
      obtain ⟨p, l0, m, h, _⟩ := h
      exact absurd h (Nat.not_lt_zero _)⟩
  | n + 1 => law_item_step T B (by omega) (ok_law_item T B n)
theorem ok_law_thing (T : Tx K mg) (B : Bk K mg T) : FnOk P w K mg base CX0 7 B.law_thing.f B.law_thing.fd ["hand"] (spLThing T.c_Outgoing) := by
  have G_law_take := ok_law_take (P := P) (w := w) (base := base) T B
  have G_law_item := ok_law_item (P := P) (w := w) (base := base) T B 4
  refine B.law_thing.F.ok sc_law_thing (fun vs H Q E h => ?_) (fun cdv A outer s H vs Q E hr h => ?_)
  · obtain ⟨p, l0, rfl, _⟩ := h
    rfl
  · obtain ⟨p, l0, rfl, hh1, q⟩ := h
    refine ⟨_, (pss_one (ps_ret (pe_callTy call_tuple_of (by rfl) T.b_tuple (by decide +kernel) (pa_cons (pe_lc (own := [("k", 1)]) (g := gName 1) rfl sc_law_thing.nd (pi_range1 (by rfl) T.b_range (pa_cons (pe_call G_law_take (hr.mono (by decide)) rfl B.law_take.m B.law_take.F.kp B.law_take.b .nil pass0 (pa_cons (pv 0) (pa_cons pe_int pa_nil))) pa_nil)) (blkOk_by (own := [("k", 1)]) (N := ["hand", "k"]) (sc := defScope s_law_thing) (by decide +kernel)) (fun _ _ _ _ _ => pg_name (i := 1) sc_law_thing.nd rfl (Or.inl rfl)) (fun _ _ _ _ _ => pts_nil) (fun _ _ _ _ _ => (pe_call G_law_item (hr.mono (by decide)) rfl B.law_item.m B.law_item.F.kp B.law_item.b .nil pass0 (pa_cons (pv 0) (pa_cons pe_int pa_nil))))) pa_nil)))), ?_⟩
    walk_at "rd"
    show iRng1 _ _ _ _
    refine rd_rng1 ?_
    walk_at "rd"
    refine ⟨p, l0, _, rfl, by decide, by decide, hh1, fun c H2 c0 c1 hh2 k2 => ?_⟩
    walk_at "rd"
    refine ⟨c, rfl, by omega, by omega, fun D hD => lc_range (lo := 0) (n := c.toNat) (Row T.c_Outgoing p l0 3 (szB 3) H2 D)
      ⟨[], [], rfl, upd_same, tpAll_nil, fun d hd => absurd hd (by simp), hh2.keep (same_new hD), Keep.new hD⟩ ?_ ?_⟩
    · rintro i H3 hi ⟨ds, vs, hl, hacc, hds, hg, hh3, k3⟩
      refine ⟨rfl, ?_⟩
      refine rd_tyes ?_
      refine rd_yes rfl ?_
      walk_at "rd"
      refine ⟨p, l0, 3, by omega, by simp, hh3, fun d v H4 gd td hh4 k4 => ?_⟩
      have nDp : D ≠ p := hh2.ne hD
      refine ⟨vs, k4 _ _ nDp hacc, ?_, ds ++ [d], vs ++ [v], by simp [hl], upd_same, ?_, fun e he => ?_, ?_, ?_⟩
      · have := hds.len
        exact small1000 (by omega)
      · have z : TpAll T.c_Outgoing p H4 (ds ++ [d]) (vs ++ [v]) := (TpAll.keep k4 _ _ hds).append (tpAll_cons td tpAll_nil)
        have hp2 : plainAll (ds ++ [d]) = true := plainAll_of fun e he => by
          rcases List.mem_append.mp he with y | y
          · exact (hg e y).1
          · rw [show e = d by simpa using y]
            exact gd.1
        exact TpAll.keepT (fun a xs e => (upd_ne (ne_of e (k4 _ _ nDp hacc) (by intro z; cases z))).trans e) _ _ hp2 z
      · rcases List.mem_append.mp he with y | y
        · exact hg e y
        · rw [show e = d by simpa using y]
          exact gd
      · obtain ⟨u, hu⟩ := hh2.there2
        exact hh4.put nDp (ne_of_none hu hD).symm
      · exact fun b o nb e => (upd_ne (ne_of_none e hD)).trans (k4 b o nb (k3 b o nb e))
    · rintro H3 ⟨ds, vs, hl, hacc, hds, hg, hh3, k3⟩
      walk_at "rd"
      refine ⟨D, _, rfl, .inl ⟨SqL.of hacc, fun u nu => ?_⟩⟩
      walk_at "rd"
      have g := gd_all (k := 3) hg (by omega)
      exact q _ _ _ g (tp_new hh3 nu hds) (hh3.keep (same_new nu)) ((k2.trans k3).put nu)
end
end Mw

/-! E1 -/
namespace Mw
open PySem L2
def sxD (d : PyData) : Bool := decide (d.depth ≤ 2) && decide (sz d ≤ 4)
def spOdd (C : Addr) : Sp := fun vs H Q _ => ∃ p l0, vs = [.ref p] ∧ HandAt p l0 H ∧ ∀ d x H', sxD d = true → Tp C p H' d x → HandAt p l0 H' → Keep p H H' → Q x H'
def GdT (d : PyData) : Prop := Gd 3 5 d ∧ isT d = true
def spSomeT (C : Addr) : Sp := fun vs H Q _ => ∃ p l0, vs = [.ref p] ∧ HandAt p l0 H ∧ ∀ d x H', GdT d → Tp C p H' d x → HandAt p l0 H' → Keep p H H' → Q x H'
theorem rd_menu {K : PySem.W.Frag} {C p : Addr} {H : Hp} {Q : VK} {a : Addr} {xs : List V} {ds : List PyData} {i : Int} (h : H a = some (.lst xs)) (ht : TpAll C p H ds xs) (h0 : 0 ≤ i) (h1 : i < (ds.length : Int)) (hs : ds.all sxD = true) (q : ∀ d x, sxD d = true → Tp C p H d x → Q x H) : rIxL K (.ref a) (.int i) H Q := by
  obtain ⟨j, rfl⟩ : ∃ j : Nat, i = (j : Int) := ⟨i.toNat, by omega⟩
  have hj : j < ds.length := by omega
  obtain ⟨x, hx, t⟩ := ht.get (show ds[j]? = some ds[j] by simp [hj])
  exact rd_ixL h (atI_nat hx) (q _ x (List.all_eq_true.mp hs _ (List.getElem_mem hj)) t)
section
variable {P : Program} {w : World} {K : PySem.W.Frag} {mg : Str → Option Value} {base : Heap}
local macro_rules | `(tactic| walk_at "rd") => `(tactic| (repeat (first
  | ((with_reducible refine' rd_var ?h0 ?_); (case h0 => rfl))
  | with_reducible refine rd_c ?_
  | with_reducible refine rd_op ?_
  | with_reducible refine rd_nil ?_
  | with_reducible refine rd_cons ?_
  | with_reducible refine rd_tup ?_
  | with_reducible refine rd_lst ?_
  | with_reducible refine rd_ifs ?_
  | with_reducible refine rd_seq ?_
  | with_reducible refine rd_next ?_
  | with_reducible refine rd_ret ?_
  | with_reducible refine rd_asg ?_
  | ((with_reducible refine' rd_gset ?hs ?_); (case hs => ((simp only [L2.start, List.map_cons, List.map_nil, List.length_cons, List.length_nil, List.cons_append, List.nil_append, List.set_cons_zero, List.set_cons_succ, Nat.reduceAdd, Nat.reduceSub, Nat.zero_add, List.reduceReplicate]); rfl)))
  | with_reducible refine rd_drop ?_
  | with_reducible refine rd_test ?_
  | with_reducible refine rd_B ?_
  | with_reducible refine rd_bl ?_
  | with_reducible refine rd_blP ?_
  | with_reducible refine rd_andV ?_
  | with_reducible refine rd_orV ?_
  | with_reducible refine rd_notV ?_
  | with_reducible refine rd_and ?_
  | with_reducible refine rd_or ?_
  | with_reducible refine rd_not ?_
  | with_reducible refine rd_chain ?_
  | with_reducible refine rd_dput ?_
  | with_reducible refine rd_dget ?_
  | with_reducible refine rd_cb ?_
  | with_reducible refine rd_call ?_
  | with_reducible refine rd_un ?_
  | with_reducible refine rd_sl ?_
  | with_reducible refine rd_nopart ?_
  | with_reducible refine rd_part ?_
  | with_reducible refine rd_intP ?_
  | with_reducible refine rd_rU ?_
  | with_reducible refine rd_fld ?_
  | with_reducible refine rd_eqI ?_
  | with_reducible refine rd_neI ?_
  | with_reducible refine rd_mko ?_
  | with_reducible refine rd_bm ?_
  | with_reducible refine rd_gsub ?_
  | with_reducible refine rd_i0 ?_)))
theorem ok_law_odd (T : Tx K mg) (B : Bk K mg T) : FnOk P w K mg base CX0 9 B.law_odd.f B.law_odd.fd ["hand"] (spOdd T.c_Outgoing) := by
  have G_law_take := ok_law_take (P := P) (w := w) (base := base) T B
  refine B.law_odd.F.ok sc_law_odd (fun vs H Q E h => ?_) (fun cdv A outer s H vs Q E hr h => ?_)
  · obtain ⟨p, l0, rfl, _⟩ := h
    rfl
  · obtain ⟨p, l0, rfl, hh, q⟩ := h
    refine ⟨_, (pss_cons (ps_set (i := 1) sc_law_odd.nd rfl (Or.inl rfl) (pe_call G_law_take (hr.mono (by decide)) rfl B.law_take.m B.law_take.F.kp B.law_take.b .nil pass0 (pa_cons (pv 0) (pa_cons pe_int pa_nil))))
      (pss_cons (ps_if (pt_cmpR op_lt (pv 1) pe_int (nomark _)) (pss_one (ps_ret (pe_ix ix_list (pe_lst (pa_cons pe_non (pa_cons pe_bl (pa_cons pe_bl (pa_cons pe_str (pa_cons pe_str (pa_cons pe_str pa_nil))))))) (pv 1) (fun _ _ => rfl)))) pss_nil)
      (pss_cons (ps_if (pt_cmpR op_lt (pv 1) pe_int (nomark _)) (pss_one (ps_ret (pe_ix ix_list (pe_lst (pa_cons (pe_tup pa_nil) (pa_cons (pe_lst pa_nil) (pa_cons pe_dnewK (pa_cons (pe_tup (pa_cons pe_int pa_nil)) (pa_cons (pe_lst (pa_cons pe_int (pa_cons pe_int pa_nil))) (pa_cons (pe_tup (pa_cons (pe_tup pa_nil) pa_nil)) pa_nil))))))) (pe_op op_sub (pv 1) pe_int) (fun _ _ => rfl)))) pss_nil)
      (pss_one (ps_ret (pe_ix ix_list (pe_lst (pa_cons (pe_un un_neg pe_int) (pa_cons pe_int (pa_cons (pe_op op_sub (pe_op op_pow pe_int pe_int) pe_int) (pa_cons (pe_tup (pa_cons pe_int (pa_cons pe_int pa_nil))) (pa_cons (pe_tup (pa_cons pe_bl (pa_cons pe_int pa_nil))) (pa_cons (pe_tup (pa_cons pe_int (pa_cons pe_int (pa_cons pe_int pa_nil)))) pa_nil))))))) (pe_op op_sub (pv 1) pe_int) (fun _ _ => rfl))))))), ?_⟩
    walk_at "rd"
    refine ⟨p, l0, _, rfl, by decide, by decide, hh, fun r H1 a1 a2 hh1 k1 => ?_⟩
    walk_at "rd"
    refine rd_ite (fun h1 => ?_) (fun h1 => ?_)
    · have h6 : r < 6 := by simpa using h1
      walk_at "rd"
      refine rd_disp rfl fun a ha => ?_
      walk_at "rd"
      have s1 := same_new (o := .lst [.non, .bl true, .bl false, .str "", .str "do", .str "0"]) ha
      refine rd_menu (C := T.c_Outgoing) (p := p) upd_same (tpAll_cons tp_non (tpAll_cons tp_bl (tpAll_cons tp_bl (tpAll_cons tp_str (tpAll_cons tp_str (tpAll_cons tp_str tpAll_nil)))))) a1 h6 rfl fun d x sm t => ?_
      exact q d x _ sm t (hh1.keep s1) (k1.trans (Keep.same s1))
    · have h6 : 6 ≤ r := by simpa using h1
      walk_at "rd"
      refine rd_ite (fun h2 => ?_) (fun h2 => ?_)
      · have h12 : r < 12 := by simpa using h2
        walk_at "rd"
        refine rd_disp rfl fun p1 n1 => ?_
        walk_at "rd"
        refine rd_disp rfl fun p2 n2 => ?_
        walk_at "rd"
        intro p3 n3
        walk_at "rd"
        refine rd_disp rfl fun p4 n4 => ?_
        walk_at "rd"
        refine rd_disp rfl fun p5 n5 => ?_
        walk_at "rd"
        refine rd_disp rfl fun p6 n6 => ?_
        walk_at "rd"
        refine rd_disp rfl fun p7 n7 => ?_
        walk_at "rd"
        refine rd_disp rfl fun p8 n8 => ?_
        walk_at "rd"
        have t1 := same_new (o := .tup []) n1
        have t2 := same_new (o := .lst []) n2
        have t3 := same_new (o := .dK []) n3
        have t4 := same_new (o := .tup [.int 0]) n4
        have t5 := same_new (o := .lst [.int 0, .int 0]) n5
        have t6 := same_new (o := .tup []) n6
        have t7 := same_new (o := .tup [.ref p6]) n7
        have t8 := same_new (o := .lst [.ref p1, .ref p2, .ref p3, .ref p4, .ref p5, .ref p7]) n8
        have hh2 := hh1.keep t1
        have hh3 := hh2.keep t2
        have hh4 := hh3.keep t3
        have hh5 := hh4.keep t4
        have hh6 := hh5.keep t5
        have hh7 := hh6.keep t6
        have hh8 := hh7.keep t7
        have hh9 := hh8.keep t8
        have u8 := t8
        have u7 := t7.trans u8
        have u6 := t6.trans u7
        have u5 := t5.trans u6
        have u4 := t4.trans u5
        have u3 := t3.trans u4
        have u2 := t2.trans u3
        have u1 := t1.trans u2
        refine rd_menu (C := T.c_Outgoing) (p := p) upd_same (ds := [.tuple [], .list [], .dict [], .tuple [.int 0], .list [.int 0, .int 0], .tuple [.tuple []]])
          (tpAll_cons (tp_tup ⟨hh1.ne n1, u2 _ _ upd_same⟩ tpAll_nil)
          (tpAll_cons (tp_lst ⟨hh2.ne n2, u3 _ _ upd_same⟩ tpAll_nil)
          (tpAll_cons (by simp only [Tp]; exact ⟨p3, rfl, hh3.ne n3, .inl (u4 _ _ upd_same)⟩)
          (tpAll_cons (tp_tup ⟨hh4.ne n4, u5 _ _ upd_same⟩ (tpAll_cons tp_int tpAll_nil))
          (tpAll_cons (tp_lst ⟨hh5.ne n5, u6 _ _ upd_same⟩ (tpAll_cons tp_int (tpAll_cons tp_int tpAll_nil)))
          (tpAll_cons (tp_tup ⟨hh7.ne n7, u8 _ _ upd_same⟩ (tpAll_cons (tp_tup ⟨hh6.ne n6, u7 _ _ upd_same⟩ tpAll_nil) tpAll_nil)) tpAll_nil))))))
          (by omega) (by show r - 6 < 6; omega) rfl fun d x sm t => ?_
        exact q d x _ sm t hh9 (k1.trans (Keep.same u1))
      · have h12 : 12 ≤ r := by simpa using h2
        walk_at "rd"
        refine rd_iC ⟨by decide, by decide, by decide⟩ ?_
        walk_at "rd"
        refine rd_disp rfl fun p1 n1 => ?_
        walk_at "rd"
        refine rd_disp rfl fun p2 n2 => ?_
        walk_at "rd"
        refine rd_disp rfl fun p3 n3 => ?_
        walk_at "rd"
        refine rd_disp rfl fun p4 n4 => ?_
        walk_at "rd"
        have t1 := same_new (o := .tup [.int 0, .int 13]) n1
        have t2 := same_new (o := .tup [.bl true, .int 0]) n2
        have t3 := same_new (o := .tup [.int 0, .int 0, .int 0]) n3
        have t4 := same_new (o := .lst [.int (-1), .int 13, .int (10 ^ (20 : Int).toNat - 1), .ref p1, .ref p2, .ref p3]) n4
        have hh2 := hh1.keep t1
        have hh3 := hh2.keep t2
        have hh4 := hh3.keep t3
        have hh5 := hh4.keep t4
        have u3 := t3.trans t4
        have u2 := t2.trans u3
        have u1 := t1.trans u2
        refine rd_menu (C := T.c_Outgoing) (p := p) upd_same (ds := [.int (-1), .int 13, .int (10 ^ (20 : Int).toNat - 1), .tuple [.int 0, .int 13], .tuple [.bool true, .int 0], .tuple [.int 0, .int 0, .int 0]])
          (tpAll_cons tp_int (tpAll_cons tp_int (tpAll_cons tp_int
          (tpAll_cons (tp_tup ⟨hh1.ne n1, u2 _ _ upd_same⟩ (tpAll_cons tp_int (tpAll_cons tp_int tpAll_nil)))
          (tpAll_cons (tp_tup ⟨hh2.ne n2, u3 _ _ upd_same⟩ (tpAll_cons tp_bl (tpAll_cons tp_int tpAll_nil)))
          (tpAll_cons (tp_tup ⟨hh3.ne n3, t4 _ _ upd_same⟩ (tpAll_cons tp_int (tpAll_cons tp_int (tpAll_cons tp_int tpAll_nil)))) tpAll_nil))))))
          (by omega) (by show r - 12 < 6; omega) rfl fun d x sm t => ?_
        exact q d x _ sm t hh5 (k1.trans (Keep.same u1))
theorem ok_law_some_thing (T : Tx K mg) (B : Bk K mg T) : FnOk P w K mg base CX0 4 B.law_some_thing.f B.law_some_thing.fd ["hand"] (spSomeT T.c_Outgoing) := by
  have G_law_pick := ok_law_pick (P := P) (w := w) (base := base) T B
  refine B.law_some_thing.F.ok sc_law_some_thing (fun vs H Q E h => ?_) (fun cdv A outer s H vs Q E hr h => ?_)
  · obtain ⟨p, l0, rfl, _⟩ := h
    rfl
  · obtain ⟨p, l0, rfl, hh0, q⟩ := h
    refine ⟨_, (pss_one (ps_ret (pe_call G_law_pick (hr.mono (by decide)) rfl B.law_pick.m B.law_pick.F.kp B.law_pick.b .nil pass0 (pa_cons (pv 0) (pa_cons (pe_lst (pa_cons (pe_tup pa_nil) (pa_cons (pe_tup (pa_cons pe_int pa_nil)) (pa_cons (pe_tup (pa_cons pe_str (pa_cons pe_non pa_nil))) (pa_cons (pe_tup (pa_cons pe_bl (pa_cons (pe_tup (pa_cons pe_int (pa_cons (pe_tup pa_nil) pa_nil))) pa_nil))) (pa_cons (pe_tup (pa_cons (pe_tup (pa_cons pe_str pa_nil)) (pa_cons pe_str pa_nil))) (pa_cons (pe_tup (pa_cons (pe_un un_neg pe_int) (pa_cons pe_bl pa_nil))) pa_nil))))))) pa_nil))))), ?_⟩
    walk_at "rd"
    refine rd_disp rfl fun p1 n1 => ?_
    have s1 := same_new (o := .tup []) n1
    have hh1 := hh0.keep s1
    have t1 := tp_new (C := T.c_Outgoing) hh0 n1 tpAll_nil
    walk_at "rd"
    refine rd_disp rfl fun p2 n2 => ?_
    have s2 := same_new (o := .tup [.int 1]) n2
    have hh2 := hh1.keep s2
    have t2 := tp_new (C := T.c_Outgoing) hh1 n2 (tp_ints [1])
    have m2 := psn (tpAll_cons t1 tpAll_nil) s2 t2
    walk_at "rd"
    refine rd_disp rfl fun p3 n3 => ?_
    have s3 := same_new (o := .tup [.str "a", .non]) n3
    have hh3 := hh2.keep s3
    have t3 := tp_new (C := T.c_Outgoing) hh2 n3 (tpAll_cons (tp_str (s := "a")) (tpAll_cons tp_non tpAll_nil))
    have m3 := psn m2 s3 t3
    walk_at "rd"
    refine rd_disp rfl fun p4 n4 => ?_
    have s4 := same_new (o := .tup []) n4
    have hh4 := hh3.keep s4
    have t4 := tp_new (C := T.c_Outgoing) hh3 n4 tpAll_nil
    walk_at "rd"
    refine rd_disp rfl fun p5 n5 => ?_
    have s5 := same_new (o := .tup [.int 2, .ref p4]) n5
    have hh5 := hh4.keep s5
    have t5 := tp_new (C := T.c_Outgoing) hh4 n5 (tpAll_cons (tp_int (i := 2)) (tpAll_cons t4 tpAll_nil))
    walk_at "rd"
    refine rd_disp rfl fun p6 n6 => ?_
    have s6 := same_new (o := .tup [.bl true, .ref p5]) n6
    have hh6 := hh5.keep s6
    have t6 := tp_new (C := T.c_Outgoing) hh5 n6 (tpAll_cons (tp_bl (b := true)) (tpAll_cons t5 tpAll_nil))
    have m6 := psn m3 (s4.trans (s5.trans s6)) t6
    walk_at "rd"
    refine rd_disp rfl fun p7 n7 => ?_
    have s7 := same_new (o := .tup [.str "b"]) n7
    have hh7 := hh6.keep s7
    have t7 := tp_new (C := T.c_Outgoing) hh6 n7 (tpAll_cons (tp_str (s := "b")) tpAll_nil)
    walk_at "rd"
    refine rd_disp rfl fun p8 n8 => ?_
    have s8 := same_new (o := .tup [.ref p7, .str "c"]) n8
    have hh8 := hh7.keep s8
    have t8 := tp_new (C := T.c_Outgoing) hh7 n8 (tpAll_cons t7 (tpAll_cons (tp_str (s := "c")) tpAll_nil))
    have m8 := psn m6 (s7.trans s8) t8
    walk_at "rd"
    refine rd_disp rfl fun p9 n9 => ?_
    have s9 := same_new (o := .tup [.int (-5), .bl false]) n9
    have hh9 := hh8.keep s9
    have t9 := tp_new (C := T.c_Outgoing) hh8 n9 (tpAll_cons (tp_int (i := -5)) (tpAll_cons (tp_bl (b := false)) tpAll_nil))
    have m9 := psn m8 s9 t9
    walk_at "rd"
    refine rd_disp rfl fun lm nm => ?_
    have sm := same_new (o := .lst [.ref p1, .ref p2, .ref p3, .ref p6, .ref p8, .ref p9]) nm
    have mm := pas m9 sm
    walk_at "rd"
    refine ⟨p, l0, lm, _, rfl, ⟨hh9.ne nm, upd_same⟩, by simp, by simp, hh9.keep sm, fun j y HF hj hhF kF => ?_⟩
    obtain ⟨dF, hdF, tdF⟩ := mm.get' hj
    refine q dF y HF ?_ (Tp.keep kF _ _ tdF) hhF ((Keep.same ((s1.trans (s2.trans s3)).trans ((s4.trans (s5.trans s6)).trans ((s7.trans s8).trans (s9.trans sm))))).trans kF)
    have hm := List.mem_of_getElem? hdF
    simp only [List.cons_append, List.nil_append, List.map_cons, List.map_nil, List.mem_cons, List.not_mem_nil, or_false] at hm
    rcases hm with rfl | rfl | rfl | rfl | rfl | rfl <;> exact ⟨⟨by decide +kernel, by decide +kernel, by decide +kernel, by decide +kernel⟩, rfl⟩
end
end Mw

/-! E2 -/
namespace Mw
open PySem L2
def OutS (g : Nat) (ds : List PyData) : Prop := g < 4294967296 ∧ ds.length ≤ 4 ∧ ∀ x ∈ ds, GdT x
def outD (g : Nat) (ds : List PyData) : PyData := .tuple [.int (g : Nat), .tuple ds]
def spOutS (C : Addr) : Sp := fun vs H Q _ => ∃ p l0, vs = [.ref p] ∧ HandAt p l0 H ∧ ∀ g ds v H', OutS g ds → Tp C p H' (outD g ds) v → HandAt p l0 H' → Keep p H H' → Q v H'
def pd (ps : List (Int × PyData)) : List PyData := ps.map fun x => .tuple [.int x.1, x.2]
def InS (k : Nat) (ps : List (Int × PyData)) : Prop := k < 4294967296 ∧ ps.length ≤ 4 ∧ (∀ x ∈ ps, GdT x.2) ∧ ((k : Int) :: ps.map (·.1)).Pairwise (· < ·) ∧ ∀ x ∈ ps, x.1 < k + 1000
def spInS (C : Addr) : Sp := fun vs H Q _ => ∃ p l0, vs = [.ref p] ∧ HandAt p l0 H ∧ ∀ k ps v H', InS k ps → Tp C p H' (outD k (pd ps)) v → HandAt p l0 H' → Keep p H H' → Q v H'
theorem ints_at {U : List Int} {j : Nat} {y : V} {q : Int → Prop} (h : (U.map V.int)[j]? = some y) (hq : ∀ u ∈ U, q u) : ∃ u, y = .int u ∧ q u := by
  obtain ⟨u, hu, rfl⟩ := mapint_get h
  exact ⟨u, rfl, hq u (List.mem_of_getElem? hu)⟩
theorem kt_mut {p l0 D : Addr} {H : Hp} {xs ys : List V} (h : H D = some (.lst xs)) : KT H (upd H D (.lst ys)) := fun a zs e => (upd_ne (ne_of e h (by intro z; cases z))).trans e
section
variable {P : Program} {w : World} {K : PySem.W.Frag} {mg : Str → Option Value} {base : Heap}
local macro_rules | `(tactic| walk_at "rd") => `(tactic| (repeat (first
  | ((with_reducible refine' rd_var ?h0 ?_); (case h0 => rfl))
  | with_reducible refine rd_c ?_
  | with_reducible refine rd_op ?_
  | with_reducible refine rd_nil ?_
  | with_reducible refine rd_cons ?_
  | with_reducible refine rd_tup ?_
  | with_reducible refine rd_lst ?_
  | with_reducible refine rd_ifs ?_
  | with_reducible refine rd_seq ?_
  | with_reducible refine rd_next ?_
  | with_reducible refine rd_ret ?_
  | with_reducible refine rd_asg ?_
  | ((with_reducible refine' rd_gset ?hs ?_); (case hs => ((simp only [L2.start, List.map_cons, List.map_nil, List.length_cons, List.length_nil, List.cons_append, List.nil_append, List.set_cons_zero, List.set_cons_succ, Nat.reduceAdd, Nat.reduceSub, Nat.zero_add, List.reduceReplicate]); rfl)))
  | with_reducible refine rd_drop ?_
  | with_reducible refine rd_test ?_
  | with_reducible refine rd_B ?_
  | with_reducible refine rd_bl ?_
  | with_reducible refine rd_blP ?_
  | with_reducible refine rd_andV ?_
  | with_reducible refine rd_orV ?_
  | with_reducible refine rd_notV ?_
  | with_reducible refine rd_and ?_
  | with_reducible refine rd_or ?_
  | with_reducible refine rd_not ?_
  | with_reducible refine rd_chain ?_
  | with_reducible refine rd_dput ?_
  | with_reducible refine rd_dget ?_
  | with_reducible refine rd_cb ?_
  | with_reducible refine rd_call ?_
  | with_reducible refine rd_un ?_
  | with_reducible refine rd_sl ?_
  | with_reducible refine rd_nopart ?_
  | with_reducible refine rd_part ?_
  | with_reducible refine rd_intP ?_
  | with_reducible refine rd_rU ?_
  | with_reducible refine rd_fld ?_
  | with_reducible refine rd_eqI ?_
  | with_reducible refine rd_neI ?_
  | with_reducible refine rd_mko ?_
  | with_reducible refine rd_bm ?_
  | with_reducible refine rd_gsub ?_
  | with_reducible refine rd_i0 ?_)))
theorem ok_law_out_state (T : Tx K mg) (B : Bk K mg T) : FnOk P w K mg base CX0 5 B.law_out_state.f B.law_out_state.fd ["hand"] (spOutS T.c_Outgoing) := by
  have G_law_take := ok_law_take (P := P) (w := w) (base := base) T B
  have G_law_pick := ok_law_pick (P := P) (w := w) (base := base) T B
  have G_law_some_thing := ok_law_some_thing (P := P) (w := w) (base := base) T B
  refine B.law_out_state.F.ok sc_law_out_state (fun vs H Q E h => ?_) (fun cdv A outer s H vs Q E hr h => ?_)
  · obtain ⟨p, l0, rfl, _⟩ := h
    rfl
  · obtain ⟨p, l0, rfl, hh0, q⟩ := h
    refine ⟨_, (pss_cons (ps_set (i := 1) sc_law_out_state.nd rfl (Or.inl rfl) (pe_call G_law_pick (hr.mono (by decide)) rfl B.law_pick.m B.law_pick.F.kp B.law_pick.b .nil pass0 (pa_cons (pv 0) (pa_cons (pe_lst (pa_cons pe_int (pa_cons (pe_call G_law_take (hr.mono (by decide)) rfl B.law_take.m B.law_take.F.kp B.law_take.b .nil pass0 (pa_cons (pv 0) (pa_cons pe_int pa_nil))) (pa_cons (pe_op op_sub (pe_op op_pow pe_int pe_int) pe_int) (pa_cons (pe_op op_pow pe_int pe_int) (pa_cons (pe_op op_sub (pe_op op_pow pe_int pe_int) pe_int) (pa_cons (pe_op op_sub (pe_op op_pow pe_int pe_int) pe_int) (pa_cons (pe_op op_pow pe_int pe_int) pa_nil)))))))) pa_nil))))
      (pss_one (ps_ret (pe_tup (pa_cons (pv 1) (pa_cons (pe_callTy call_tuple_of (by rfl) T.b_tuple (by decide +kernel) (pa_cons (pe_lc (own := [("k", 2)]) (g := gName 2) rfl sc_law_out_state.nd (pi_range1 (by rfl) T.b_range (pa_cons (pe_call G_law_take (hr.mono (by decide)) rfl B.law_take.m B.law_take.F.kp B.law_take.b .nil pass0 (pa_cons (pv 0) (pa_cons pe_int pa_nil))) pa_nil)) (blkOk_by (own := [("k", 2)]) (N := ["hand", "gone", "k"]) (sc := defScope s_law_out_state) (by decide +kernel)) (fun _ _ _ _ _ => pg_name (i := 2) sc_law_out_state.nd rfl (Or.inl rfl)) (fun _ _ _ _ _ => pts_nil) (fun _ _ _ _ _ => (pe_call G_law_some_thing (hr.mono (by decide)) rfl B.law_some_thing.m B.law_some_thing.F.kp B.law_some_thing.b .nil pass0 (pa_cons (pv 0) pa_nil)))) pa_nil)) pa_nil)))))), ?_⟩
    walk_at "rd"
    refine ⟨p, l0, _, rfl, by decide, by decide, hh0, fun r H1 r0 r1 hh1 k1 => ?_⟩
    walk_at "rd"
    repeat (refine rd_iC ⟨by decide, by decide, by decide⟩ ?_; walk_at "rd")
    refine rd_disp rfl fun lm nm => ?_
    have sm := same_new (o := .lst (([0, r, 2 ^ (32 : Int).toNat - 1, 10 ^ (9 : Int).toNat, 2 ^ (31 : Int).toNat - 9, 2 ^ (31 : Int).toNat - 1, 2 ^ (31 : Int).toNat] : List Int).map V.int)) nm
    walk_at "rd"
    refine ⟨p, l0, lm, ([0, r, 2 ^ (32 : Int).toNat - 1, 10 ^ (9 : Int).toNat, 2 ^ (31 : Int).toNat - 9, 2 ^ (31 : Int).toNat - 1, 2 ^ (31 : Int).toNat] : List Int).map V.int, rfl, ⟨hh1.ne nm, upd_same⟩, by simp, by simp, hh1.keep sm, fun j y H2 hj hh2 k2 => ?_⟩
    obtain ⟨g, rfl, hg⟩ := ints_at (q := fun u => 0 ≤ u ∧ u < 4294967296) hj (by
      intro u hu
      simp only [List.mem_cons, List.not_mem_nil, or_false] at hu
      rcases hu with rfl | rfl | rfl | rfl | rfl | rfl | rfl
      · decide
      · omega
      · decide
      · decide
      · decide
      · decide
      · decide)
    have K2 : Keep p H H2 := (k1.trans (Keep.same sm)).trans k2
    walk_at "rd"
    show iRng1 _ _ _ _
    refine rd_rng1 ?_
    walk_at "rd"
    refine ⟨p, l0, _, rfl, by decide, by decide, hh2, fun c H3 c0 c1 hh3 k3 => ?_⟩
    walk_at "rd"
    refine ⟨c, rfl, by omega, by omega, fun D hD => lc_range (lo := 0) (n := c.toNat) (fun i H4 => ∃ ds vs, ds.length = i ∧ H4 D = some (.lst vs) ∧ TpAll T.c_Outgoing p H4 ds vs ∧ (∀ d ∈ ds, GdT d) ∧ HandAt p l0 H4 ∧ Keep p H3 H4)
      ⟨[], [], rfl, upd_same, tpAll_nil, fun d hd => absurd hd (by simp), hh3.keep (same_new hD), Keep.new hD⟩ ?_ ?_⟩
    · rintro i H4 hi ⟨ds, vs, hl, hacc, hds, hgd, hh4, k4⟩
      refine ⟨rfl, ?_⟩
      refine rd_tyes ?_
      refine rd_yes rfl ?_
      walk_at "rd"
      refine ⟨p, l0, rfl, hh4, fun d v H5 gd td hh5 k5 => ?_⟩
      have nDp : D ≠ p := hh3.ne hD
      refine ⟨vs, k5 _ _ nDp hacc, ?_, ds ++ [d], vs ++ [v], by simp [hl], upd_same, ?_, fun e he => ?_, ?_, ?_⟩
      · have := hds.len
        exact small1000 (by omega)
      · have z : TpAll T.c_Outgoing p H5 (ds ++ [d]) (vs ++ [v]) := (TpAll.keep k5 _ _ hds).append (tpAll_cons td tpAll_nil)
        refine TpAll.keepT (kt_mut (p := p) (l0 := l0) (k5 _ _ nDp hacc)) _ _ (plainAll_of fun e he => ?_) z
        rcases List.mem_append.mp he with y | y
        · exact (hgd e y).1.1
        · rw [show e = d by simpa using y]
          exact gd.1.1
      · rcases List.mem_append.mp he with y | y
        · exact hgd e y
        · rw [show e = d by simpa using y]
          exact gd
      · obtain ⟨u, hu⟩ := hh3.there2
        exact hh5.put nDp (ne_of_none hu hD).symm
      · exact fun b o nb e => (upd_ne (ne_of_none e hD)).trans (k5 b o nb (k4 b o nb e))
    · rintro H4 ⟨ds, vs, hl, hacc, hds, hgd, hh4, k4⟩
      walk_at "rd"
      refine ⟨D, _, rfl, .inl ⟨SqL.of hacc, fun u nu => ?_⟩⟩
      walk_at "rd"
      refine rd_disp rfl fun t nt => ?_
      have t1 := tp_new hh4 nu hds
      have hh5 := hh4.keep (same_new (o := .tup vs) nu)
      obtain ⟨g, rfl⟩ : ∃ g' : Nat, g = g' := ⟨g.toNat, by omega⟩
      exact q g ds _ _ ⟨by omega, by omega, hgd⟩ (tp_new hh5 nt (tpAll_cons tp_int (tpAll_cons t1 tpAll_nil))) (hh5.keep (same_new nt)) ((((K2.trans k3).trans k4).put nu).put nt)
theorem ok_law_in_state (T : Tx K mg) (B : Bk K mg T) : FnOk P w K mg base CX0 5 B.law_in_state.f B.law_in_state.fd ["hand"] (spInS T.c_Outgoing) := by
  have G_law_take := ok_law_take (P := P) (w := w) (base := base) T B
  have G_law_pick := ok_law_pick (P := P) (w := w) (base := base) T B
  have G_law_some_thing := ok_law_some_thing (P := P) (w := w) (base := base) T B
  refine B.law_in_state.F.ok sc_law_in_state (fun vs H Q E h => ?_) (fun cdv A outer s H vs Q E hr h => ?_)
  · obtain ⟨p, l0, rfl, _⟩ := h
    rfl
  · obtain ⟨p, l0, rfl, hh0, q⟩ := h
    refine ⟨_, (pss_cons (ps_set (i := 1) sc_law_in_state.nd rfl (Or.inl rfl) (pe_call G_law_pick (hr.mono (by decide)) rfl B.law_pick.m B.law_pick.F.kp B.law_pick.b .nil pass0 (pa_cons (pv 0) (pa_cons (pe_lst (pa_cons pe_int (pa_cons (pe_call G_law_take (hr.mono (by decide)) rfl B.law_take.m B.law_take.F.kp B.law_take.b .nil pass0 (pa_cons (pv 0) (pa_cons pe_int pa_nil))) (pa_cons (pe_op op_sub (pe_op op_pow pe_int pe_int) pe_int) (pa_cons (pe_op op_pow pe_int pe_int) (pa_cons (pe_op op_sub (pe_op op_pow pe_int pe_int) pe_int) (pa_cons (pe_op op_sub (pe_op op_pow pe_int pe_int) pe_int) (pa_cons (pe_op op_pow pe_int pe_int) pa_nil)))))))) pa_nil))))
      (pss_cons (ps_set (i := 2) sc_law_in_state.nd rfl (Or.inl rfl) (pe_lst pa_nil))
      (pss_cons (ps_set (i := 3) sc_law_in_state.nd rfl (Or.inl rfl) (pv 1))
      (pss_cons (ps_for PassesOwn.never rfl (pi_range1 (by rfl) T.b_range (pa_cons (pe_call G_law_take (hr.mono (by decide)) rfl B.law_take.m B.law_take.F.kp B.law_take.b .nil pass0 (pa_cons (pv 0) (pa_cons pe_int pa_nil))) pa_nil)) (pg_name (i := 4) sc_law_in_state.nd rfl (Or.inl rfl)) (pss_cons (ps_set (i := 3) sc_law_in_state.nd rfl (Or.inl rfl) (pe_op op_add (pe_op op_add (pv 3) pe_int) (pe_call G_law_pick (hr.mono (by decide)) rfl B.law_pick.m B.law_pick.F.kp B.law_pick.b .nil pass0 (pa_cons (pv 0) (pa_cons (pe_lst (pa_cons pe_int (pa_cons pe_int (pa_cons pe_int (pa_cons (pe_call G_law_take (hr.mono (by decide)) rfl B.law_take.m B.law_take.F.kp B.law_take.b .nil pass0 (pa_cons (pv 0) (pa_cons pe_int pa_nil))) (pa_cons pe_int pa_nil)))))) pa_nil)))))
      (pss_one (ps_if (pt_cmpR op_lt (pv 3) (pe_op op_add (pv 1) pe_int) (nomark _)) (pss_one (ps_expr (pe_bm PySem.F.plainAttrs_list PySem.F.slot_list_append PySem.F.type_list_append mt_append (pv 2) (pa_cons (pe_tup (pa_cons (pv 3) (pa_cons (pe_call G_law_some_thing (hr.mono (by decide)) rfl B.law_some_thing.m B.law_some_thing.F.kp B.law_some_thing.b .nil pass0 (pa_cons (pv 0) pa_nil)) pa_nil))) pa_nil)))) pss_nil))))
      (pss_one (ps_ret (pe_tup (pa_cons (pv 1) (pa_cons (pe_callTy call_tuple_of (by rfl) T.b_tuple (by decide +kernel) (pa_cons (pv 2) pa_nil)) pa_nil))))))))), ?_⟩
    walk_at "rd"
    refine ⟨p, l0, _, rfl, by decide, by decide, hh0, fun r H1 r0 r1 hh1 k1 => ?_⟩
    walk_at "rd"
    repeat (refine rd_iC ⟨by decide, by decide, by decide⟩ ?_; walk_at "rd")
    refine rd_disp rfl fun lm nm => ?_
    have sm := same_new (o := .lst (([0, r, 2 ^ (32 : Int).toNat - 1, 10 ^ (9 : Int).toNat, 2 ^ (31 : Int).toNat - 1009, 2 ^ (31 : Int).toNat - 1, 2 ^ (31 : Int).toNat] : List Int).map V.int)) nm
    walk_at "rd"
    refine ⟨p, l0, lm, ([0, r, 2 ^ (32 : Int).toNat - 1, 10 ^ (9 : Int).toNat, 2 ^ (31 : Int).toNat - 1009, 2 ^ (31 : Int).toNat - 1, 2 ^ (31 : Int).toNat] : List Int).map V.int, rfl, ⟨hh1.ne nm, upd_same⟩, by simp, by simp, hh1.keep sm, fun j y H2 hj hh2 k2 => ?_⟩
    obtain ⟨g, rfl, hg⟩ := ints_at (q := fun u => 0 ≤ u ∧ u < 4294967296) hj (by
      intro u hu
      simp only [List.mem_cons, List.not_mem_nil, or_false] at hu
      rcases hu with rfl | rfl | rfl | rfl | rfl | rfl | rfl
      · decide
      · omega
      · decide
      · decide
      · decide
      · decide
      · decide)
    obtain ⟨g, rfl⟩ : ∃ g' : Nat, g = g' := ⟨g.toNat, by omega⟩
    have K2 : Keep p H H2 := (k1.trans (Keep.same sm)).trans k2
    walk_at "rd"
    refine rd_disp rfl fun D hD => ?_
    have nDp : D ≠ p := hh2.ne hD
    have sD := same_new (o := .lst []) hD
    walk_at "rd"
    show iRng1 _ _ _ _
    refine rd_rng1 ?_
    walk_at "rd"
    refine ⟨p, l0, _, rfl, by decide, by decide, hh2.keep sD, fun c H3 c0 c1 hh3 k3 => ?_⟩
    walk_at "rd"
    refine ⟨c, rfl, by omega, by omega, for_range (lo := 0) (n := c.toNat) (fun i σ H4 => ∃ (nb : Int) (ps : List (Int × PyData)) (vs : List V) (u4 : Option V), σ = [some (.ref p), some (.int (g : Nat)), some (.ref D), some (.int nb), u4] ∧ H4 D = some (.lst vs) ∧ TpAll T.c_Outgoing p H4 (pd ps) vs ∧ ps.length ≤ i ∧ (∀ x ∈ ps, GdT x.2) ∧ ((g : Int) :: ps.map (·.1)).Pairwise (· < ·) ∧ (∀ x ∈ ps, x.1 < g + 1000) ∧ (∀ x ∈ ps, x.1 ≤ nb) ∧ (g : Int) ≤ nb ∧ HandAt p l0 H4 ∧ Keep p H2 H4)
      ⟨g, [], [], _, rfl, k3 _ _ nDp upd_same, tpAll_nil, Nat.le_refl _, fun x hx => absurd hx (by simp), by simp, fun x hx => absurd hx (by simp), fun x hx => absurd hx (by simp), Int.le_refl _, hh3, (Keep.same sD).trans k3⟩ ?_ ?_⟩
    · rintro i σ H4 hi ⟨nb, ps, vs, u4, rfl, hacc, hps, hl, hgd, hpw, hlt, hle, hgn, hh4, k4⟩
      walk_at "rd"
      refine ⟨p, l0, _, rfl, by decide, by decide, hh4, fun r5 H5 r50 r51 hh5 k5 => ?_⟩
      walk_at "rd"
      refine rd_disp rfl fun lm2 nm2 => ?_
      have sm2 := same_new (o := .lst (([0, 0, 1, r5, 900] : List Int).map V.int)) nm2
      walk_at "rd"
      refine ⟨p, l0, lm2, ([0, 0, 1, r5, 900] : List Int).map V.int, rfl, ⟨hh5.ne nm2, upd_same⟩, by simp, by simp, hh5.keep sm2, fun j y H6 hj hh6 k6 => ?_⟩
      obtain ⟨a, rfl, ha⟩ := ints_at (q := fun u => 0 ≤ u ∧ u < 1000) hj (by
        intro u hu
        simp only [List.mem_cons, List.not_mem_nil, or_false] at hu
        omega)
      walk_at "rd"
      have K6 : Keep p H4 H6 := (k5.trans (Keep.same sm2)).trans k6
      have hacc6 := K6 _ _ nDp hacc
      have hps6 := TpAll.keep K6 _ _ hps
      refine rd_ite (fun h1 => ?_) (fun h1 => ?_)
      · have h1' := of_decide_eq_true h1
        walk_at "rd"
        refine ⟨.inl ⟨rfl, _, SqL.of hacc6⟩, ?_⟩
        walk_at "rd"
        refine ⟨p, l0, rfl, hh6, fun d v H7 gd td hh7 k7 => ?_⟩
        walk_at "rd"
        refine rd_disp rfl fun t nt => ?_
        have st := same_new (o := .tup [.int (nb + 1 + a), v]) nt
        have hacc7 := st _ _ (k7 _ _ nDp hacc6)
        have t7 := tp_new (C := T.c_Outgoing) hh7 nt (tpAll_cons (tp_int (i := nb + 1 + a)) (tpAll_cons td tpAll_nil))
        have hh8 := hh7.keep st
        have z : TpAll T.c_Outgoing p _ (pd ps ++ [.tuple [.int (nb + 1 + a), d]]) (vs ++ [.ref t]) := psn (TpAll.keep k7 _ _ hps6) st t7
        have hlv := hps.len
        have hlp : (pd ps).length = ps.length := List.length_map ..
        walk_at "rd"
        refine rd_append hacc7 (small1000 (by omega)) ?_
        refine ⟨nb + 1 + a, ps ++ [(nb + 1 + a, d)], vs ++ [.ref t], _, rfl, upd_same, ?_, by simp; omega, fun x hx => ?_, ?_, fun x hx => ?_, fun x hx => ?_, by omega, ?_, ?_⟩
        · rw [show pd (ps ++ [(nb + 1 + a, d)]) = pd ps ++ [.tuple [.int (nb + 1 + a), d]] by unfold pd; rw [List.map_append]; rfl]
          refine TpAll.keepT (kt_mut (p := p) (l0 := l0) hacc7) _ _ (plainAll_of fun e he => ?_) z
          rcases List.mem_append.mp he with y | y
          · obtain ⟨x, hx, rfl⟩ := List.mem_map.mp y
            show (true && (plainD x.2 && true)) = true
            rw [(hgd x hx).1.1]
            rfl
          · rw [show e = .tuple [.int (nb + 1 + a), d] by simpa using y]
            show (true && (plainD d && true)) = true
            rw [gd.1.1]
            rfl
        · rcases List.mem_append.mp hx with y | y
          · exact hgd x y
          · rw [show x = (nb + 1 + a, d) by simpa using y]
            exact gd
        · rw [List.map_append, ← List.cons_append, List.pairwise_append]
          refine ⟨hpw, by simp, fun x hx y hy => ?_⟩
          rw [show y = nb + 1 + a by simpa using hy]
          rcases List.mem_cons.mp hx with w | w
          · omega
          · obtain ⟨x', hx', rfl⟩ := List.mem_map.mp w
            have := hle x' hx'
            omega
        · rcases List.mem_append.mp hx with y | y
          · exact hlt x y
          · rw [show x = (nb + 1 + a, d) by simpa using y]
            exact h1'
        · rcases List.mem_append.mp hx with y | y
          · have := hle x y
            omega
          · rw [show x = (nb + 1 + a, d) by simpa using y]
            exact Int.le_refl _
        · obtain ⟨u, hu⟩ := hh2.there2
          exact hh8.put nDp (ne_of_none hu hD).symm
        · exact fun b o n e => (upd_ne (ne_of_none e hD)).trans (st _ _ (k7 b o n (K6 b o n (k4 b o n e))))
      · exact ⟨nb + 1 + a, ps, vs, _, rfl, hacc6, hps6, by omega, hgd, hpw, hlt, fun x hx => by have := hle x hx; omega, by omega, hh6, k4.trans K6⟩
    · rintro σ H4 ⟨nb, ps, vs, u4, rfl, hacc, hps, hl, hgd, hpw, hlt, hle, hgn, hh4, k4⟩
      walk_at "rd"
      refine ⟨D, _, rfl, .inl ⟨SqL.of hacc, fun u nu => ?_⟩⟩
      walk_at "rd"
      refine rd_disp rfl fun t nt => ?_
      have t1 := tp_new hh4 nu hps
      have hh5 := hh4.keep (same_new (o := .tup vs) nu)
      exact q g ps _ _ ⟨by omega, by omega, hgd, hpw, hlt⟩ (tp_new hh5 nt (tpAll_cons tp_int (tpAll_cons t1 tpAll_nil))) (hh5.keep (same_new nt)) (((K2.trans k4).put nu).put nt)
end
end Mw

/-! C9 -/
namespace Mw
open PySem L2
/-- the law's mind of the other end -/
abbrev mD (k : Int) (hd : Addr) : List (Key × V) := [(.inr "taken", .int k), (.inr "held", .ref hd)]
theorem mD_t (k : Int) (hd : Addr) : valV (mD k hd) (.inr ("taken" : Str)) = some (.int k) := rfl
theorem mD_h (k : Int) (hd : Addr) : valV (mD k hd) (.inr ("held" : Str)) = some (.ref hd) := rfl
theorem mD_put (k k' : Int) (hd : Addr) : putK (mD k hd) (.inr ("taken" : Str)) (.int k') = mD k' hd := rfl
def spHeard : Sp := fun vs H Q _ => ∃ (mi hd : Addr) (k n : Int) (m : List (Key × V)) (y : V), vs = [.ref mi, .int n, y] ∧ H mi = some (.dK (mD k hd)) ∧ H hd = some (.dK m) ∧ mi ≠ hd ∧ m.length ≤ 900 ∧
  ∀ (L : Addr) (H' : Hp), Fr [mi, hd] H H' → H L = none → H' mi = some (.dK (mD (drain k (hear k n y m)).1 hd)) → H' hd = some (.dK (drain k (hear k n y m)).2.1) → H' L = some (.lst (drain k (hear k n y m)).2.2) → Q (.ref L) H'
section
variable {P : Program} {w : World} {K : PySem.W.Frag} {mg : Str → Option Value} {base : Heap}
local macro_rules | `(tactic| walk_at "rd") => `(tactic| (repeat (first
  | ((with_reducible refine' rd_var ?h0 ?_); (case h0 => rfl))
  | with_reducible refine rd_c ?_
  | with_reducible refine rd_op ?_
  | with_reducible refine rd_nil ?_
  | with_reducible refine rd_cons ?_
  | with_reducible refine rd_tup ?_
  | with_reducible refine rd_lst ?_
  | with_reducible refine rd_ifs ?_
  | with_reducible refine rd_seq ?_
  | with_reducible refine rd_next ?_
  | with_reducible refine rd_ret ?_
  | with_reducible refine rd_asg ?_
  | ((with_reducible refine' rd_gset ?hs ?_); (case hs => ((simp only [L2.start, List.map_cons, List.map_nil, List.length_cons, List.length_nil, List.cons_append, List.nil_append, List.set_cons_zero, List.set_cons_succ, Nat.reduceAdd, Nat.reduceSub, Nat.zero_add, List.reduceReplicate]); rfl)))
  | with_reducible refine rd_drop ?_
  | with_reducible refine rd_test ?_
  | with_reducible refine rd_B ?_
  | with_reducible refine rd_bl ?_
  | with_reducible refine rd_blP ?_
  | with_reducible refine rd_andV ?_
  | with_reducible refine rd_orV ?_
  | with_reducible refine rd_notV ?_
  | with_reducible refine rd_and ?_
  | with_reducible refine rd_or ?_
  | with_reducible refine rd_not ?_
  | with_reducible refine rd_chain ?_
  | with_reducible refine rd_dput ?_
  | with_reducible refine rd_dget ?_
  | with_reducible refine rd_cb ?_
  | with_reducible refine rd_call ?_
  | with_reducible refine rd_un ?_
  | with_reducible refine rd_sl ?_
  | with_reducible refine rd_nopart ?_
  | with_reducible refine rd_part ?_
  | with_reducible refine rd_intP ?_
  | with_reducible refine rd_rU ?_
  | with_reducible refine rd_fld ?_
  | with_reducible refine rd_eqI ?_
  | with_reducible refine rd_neI ?_
  | with_reducible refine rd_mko ?_
  | with_reducible refine rd_bm ?_
  | with_reducible refine rd_gsub ?_
  | with_reducible refine rd_i0 ?_)))
theorem ok_law_heard (T : Tx K mg) (B : Bk K mg T) : FnOk P w K mg base CX0 1 B.law_heard.f B.law_heard.fd ["mind", "number", "thing"] spHeard := by
  refine B.law_heard.F.ok sc_law_heard (fun vs H Q E h => ?_) (fun cdv A outer s H vs Q E hr h => ?_)
  · obtain ⟨mi, hd, k, n, m, y, rfl, _⟩ := h
    rfl
  · obtain ⟨mi, hd, k, n, m, y, rfl, hm, hh, nmh, hml0, q⟩ := h
    refine ⟨_, (C8.pss_cut (ps_if (PW.pt (pw_and (pt_cmpR op_le (pe_dget (hu_of hr) (pv 0) pe_str (fun _ _ => rfl)) (pv 1) (nomark _)) (pw_and (pt_cmpR op_lt (pv 1) (pe_op op_add (pe_dget (hu_of hr) (pv 0) pe_str (fun _ _ => rfl)) pe_int) (nomark _)) (pw_and1 (pt_cmp (pc_dnotin (hu_of hr) (pv 1) (pe_dget (hu_of hr) (pv 0) pe_str (fun _ _ => rfl)))))))) (pss_cons (ps_set (i := 3) sc_law_heard.nd rfl (Or.inl rfl) (pe_dget (hu_of hr) (pv 0) pe_str (fun _ _ => rfl)))
      (pss_one (ps_dput (hu_of hr) (pv 3) (pv 1) (pv 2) rfl))) pss_nil)
      (pss_cons (ps_set (i := 4) sc_law_heard.nd rfl (Or.inl rfl) (pe_lst pa_nil))
      (pss_cons (ps_for PassesOwn.never rfl (pi_range1 (by rfl) T.b_range (pa_cons (pe_op op_add (pe_callB call_lenD (by rfl) T.b_len (by decide +kernel) (pa_cons (pe_dget (hu_of hr) (pv 0) pe_str (fun _ _ => rfl)) pa_nil)) pe_int) pa_nil)) (pg_name (i := 5) sc_law_heard.nd rfl (Or.inl rfl)) (pss_cons (ps_if (pt_cmp (pc_dnotin (hu_of hr) (pe_dget (hu_of hr) (pv 0) pe_str (fun _ _ => rfl)) (pe_dget (hu_of hr) (pv 0) pe_str (fun _ _ => rfl)))) (pss_one ps_break) pss_nil)
      (pss_cons (ps_expr (pe_bm PySem.F.plainAttrs_list PySem.F.slot_list_append PySem.F.type_list_append mt_append (pv 4) (pa_cons (pe_dpop1 (pe_dget (hu_of hr) (pv 0) pe_str (fun _ _ => rfl)) (pe_dget (hu_of hr) (pv 0) pe_str (fun _ _ => rfl)) ⟨rfl, rfl, rfl, rfl⟩) pa_nil)))
      (pss_one (ps_dput (hu_of hr) (pv 0) pe_str (pe_op op_add (pe_dget (hu_of hr) (pv 0) pe_str (fun _ _ => rfl)) pe_int) rfl)))))
      (pss_one (ps_ret (pv 4)))))), ?_⟩
    walk_at "rd"
    refine ⟨fun σ1 H1 => ∃ u, σ1 = [some (.ref mi), some (.int n), some y, u, none, none] ∧ Fr [hd] H H1 ∧ H1 hd = some (.dK (hear k n y m)), ?_, ?_⟩
    · have stay : ∀ u, ¬ (k ≤ n ∧ n < k + 1000 ∧ valV m (.inl n) = none) → ∃ u', [some (V.ref mi), some (.int n), some y, u, none, none] = [some (.ref mi), some (.int n), some y, u', none, none] ∧ Fr [hd] H H ∧ H hd = some (.dK (hear k n y m)) := fun u c => ⟨u, rfl, Fr.same (Same.refl H), by unfold hear; rw [if_neg c]; exact hh⟩
      walk_at "rd"
      refine ⟨mi, _, rfl, DGet.k (k := .inr "taken") hm, ?_⟩
      walk_at "rd"
      refine rd_ite (fun h1 => ?_) (fun h1 => ?_)
      · walk_at "rd"
        refine ⟨mi, _, rfl, DGet.k (k := .inr "taken") hm, ?_⟩
        walk_at "rd"
        refine rd_ite (fun h2 => ?_) (fun h2 => ?_)
        · walk_at "rd"
          refine rd_dnotin ?_
          walk_at "rd"
          refine ⟨mi, _, rfl, DGet.k (k := .inr "held") hm, ?_⟩
          refine ⟨hd, _, rfl, DGet.k (k := .inl n) hh, ?_⟩
          walk_at "rd"
          refine rd_ite (fun h3 => ?_) (fun h3 => ?_)
          · have hv : valV m (.inl n) = none := by
              cases z : valV m (.inl n) with
              | none => rfl
              | some x =>
                rw [z] at h3
                cases h3
            walk_at "rd"
            refine ⟨mi, _, rfl, DGet.k (k := .inr "held") hm, ?_⟩
            walk_at "rd"
            refine ⟨hd, _, rfl, DPut.k (k := .inl n) hh (small1000 (by omega)), ?_⟩
            refine ⟨_, rfl, Fr.mut, ?_⟩
            rw [upd_same, putK_new _ hv]
            unfold hear
            rw [if_pos ⟨of_decide_eq_true h1, of_decide_eq_true h2, hv⟩]
          · refine stay _ fun c => ?_
            rw [c.2.2] at h3
            cases h3
        · refine rd_no rfl ?_
          exact stay _ fun c => of_decide_eq_false h2 c.2.1
      · refine rd_no rfl ?_
        exact stay _ fun c => of_decide_eq_false h1 c.1
    rintro σ1 H1 ⟨u, rfl, f1, hh1⟩
    have hml := hear_len (k := k) (n := n) (y := y) (m := m)
    generalize hear k n y m = m1 at *
    have hm1 : H1 mi = some (.dK (mD k hd)) := f1.one nmh hm
    walk_at "rd"
    refine rd_disp rfl fun L nL => ?_
    have nLh : L ≠ hd := (ne_of_none hh1 nL).symm
    have nLm : L ≠ mi := (ne_of_none hm1 nL).symm
    have nL0 : H L = none := f1.free nL (by simpa using nLh)
    have s1 := same_new (o := .lst []) nL
    walk_at "rd"
    show iRng1 _ _ _ _
    refine rd_rng1 ?_
    walk_at "rd"
    refine ⟨mi, _, rfl, DGet.k (k := .inr "held") (s1 _ _ hm1), ?_⟩
    refine ⟨hd, _, rfl, s1 _ _ hh1, ?_⟩
    walk_at "rd"
    refine ⟨_, rfl, by omega, by omega, ?_⟩
    have fin : ∀ (H2 : Hp) (k2 : Int) (m2 : List (Key × V)) (acc : List V), Fr [mi, hd] H H2 → H2 mi = some (.dK (mD k2 hd)) → H2 hd = some (.dK m2) → H2 L = some (.lst acc) → valV m2 (.inl k2) = none → ((drain k2 m2).1, (drain k2 m2).2.1, acc ++ (drain k2 m2).2.2) = drain k m1 → Q (.ref L) H2 := by
      intro H2 k2 m2 acc f2 a1 a2 a3 hv hdr
      rw [drain_no hv] at hdr
      simp only [List.append_nil] at hdr
      rw [← hdr] at q
      exact q L H2 f2 nL0 a1 a2 a3
    refine for_range (lo := 0) (n := ((m1.length : Int) + 1).toNat) (fun i σ H2 => ∃ k2 m2 acc u5, σ = [some (.ref mi), some (.int n), some y, u, some (.ref L), u5] ∧ Fr [mi, hd] H H2 ∧ H2 mi = some (.dK (mD k2 hd)) ∧ H2 hd = some (.dK m2) ∧ H2 L = some (.lst acc) ∧ m2.length + i ≤ m1.length ∧ acc.length = i ∧ ((drain k2 m2).1, (drain k2 m2).2.1, acc ++ (drain k2 m2).2.2) = drain k m1)
      ⟨k, m1, [], _, rfl, (f1.more (by simp)).trans (Fr.same s1), s1 _ _ hm1, s1 _ _ hh1, upd_same, Nat.le_refl _, rfl, rfl⟩ ?_ ?_
    · rintro i σ H2 hi ⟨k2, m2, acc, u5, rfl, f2, a1, a2, a3, hl, hla, hdr⟩
      walk_at "rd"
      refine rd_dnotin ?_
      walk_at "rd"
      refine ⟨mi, _, rfl, DGet.k (k := .inr "taken") a1, ?_⟩
      walk_at "rd"
      refine ⟨mi, _, rfl, DGet.k (k := .inr "held") a1, ?_⟩
      refine ⟨hd, _, rfl, DGet.k (k := .inl k2) a2, ?_⟩
      walk_at "rd"
      refine rd_ite (fun h1 => ?_) (fun h1 => ?_)
      · have hv : valV m2 (.inl k2) = none := by
          cases z : valV m2 (.inl k2) with
          | none => rfl
          | some x =>
            rw [z] at h1
            cases h1
        walk_at "rd"
        refine rd_break ?_
        walk_at "rd"
        exact fin H2 k2 m2 acc f2 a1 a2 a3 hv hdr
      · obtain ⟨v, hv⟩ : ∃ v, valV m2 (.inl k2) = some v := by
          cases z : valV m2 (.inl k2) with
          | none =>
            rw [z] at h1
            cases h1
          | some x => exact ⟨x, rfl⟩
        have hlt := drop_lt hv
        have nmL : mi ≠ L := nLm.symm
        walk_at "rd"
        refine ⟨.inl ⟨rfl, _, SqL.of a3⟩, ?_⟩
        walk_at "rd"
        refine rd_dpop1 ?_
        walk_at "rd"
        refine ⟨mi, _, rfl, DGet.k (k := .inr "held") a1, ?_⟩
        refine ⟨hd, rfl, isD_k a2, ?_⟩
        walk_at "rd"
        refine ⟨mi, _, rfl, DGet.k (k := .inr "taken") a1, ?_⟩
        refine ⟨m2, .inl k2, v, a2, rfl, hv, ?_⟩
        walk_at "rd"
        have b3 : (upd H2 hd (.dK (dropK m2 (.inl k2)))) L = some (.lst acc) := (upd_ne nLh).trans a3
        have b1 : (upd H2 hd (.dK (dropK m2 (.inl k2)))) mi = some (.dK (mD k2 hd)) := (upd_ne nmh).trans a1
        refine rd_append b3 (small1000 (by omega)) ?_
        have c1 : (upd (upd H2 hd (.dK (dropK m2 (.inl k2)))) L (.lst (acc ++ [v]))) mi = some (.dK (mD k2 hd)) := (upd_ne nmL).trans b1
        walk_at "rd"
        refine ⟨mi, _, rfl, DGet.k (k := .inr "taken") c1, ?_⟩
        walk_at "rd"
        refine ⟨mi, _, rfl, DPut.k (k := .inr "taken") c1 (small1000 (by show 2 ≤ 1000; decide)), ?_⟩
        rw [mD_put]
        refine ⟨k2 + 1, dropK m2 (.inl k2), acc ++ [v], _, rfl, fun b o nb eb => ?_, upd_same, ?_, ?_, by omega, by rw [List.length_append]; simp; omega, ?_⟩
        · have nbe : b ≠ mi := fun z => nb (by simp [z])
          have nbd : b ≠ hd := fun z => nb (by simp [z])
          rw [upd_ne nbe, upd_ne (ne_of_none eb nL0), upd_ne nbd]
          exact f2 b o nb eb
        · rw [upd_ne nmh.symm, upd_ne nLh.symm]
          exact upd_same
        · rw [upd_ne nLm]
          exact upd_same
        · rw [← hdr, drain_yes hv]
          simp
    · rintro σ H2 ⟨k2, m2, acc, u5, rfl, f2, a1, a2, a3, hl, hla, hdr⟩
      omega
end
end Mw

/-! D1 -/
namespace Mw
open PySem L2
/-- what is held ahead: things by their numbers -/
def MW (k : Nat) (m : List (Key × V)) (vs : List V) : Prop := ∃ ns : List Int, m.map (·.1) = ns.map Sum.inl ∧ ns.Nodup ∧ ∀ n ∈ ns, (k : Int) ≤ n ∧ n < vs.length ∧ valV m (.inl n) = vs[n.toNat]?
def MOk (k : Nat) (m : List (Key × V)) (vs : List V) : Prop := MW k m vs ∧ valV m (.inl (k : Int)) = none
theorem MW.nil (k : Nat) (vs : List V) : MW k [] vs := ⟨[], rfl, List.nodup_nil, fun n h => by cases h⟩
theorem val_mem {m : List (Key × V)} {ns : List Int} (e : m.map (·.1) = ns.map Sum.inl) {n : Int} (h : (valV m (.inl n)).isSome = true) : n ∈ ns := by
  have := valV_any (κ := Key) (.inl n) m
  rw [h, List.any_eq_true] at this
  obtain ⟨x, hx, ex⟩ := this
  have h2 : x.1 ∈ ns.map Sum.inl := by
    rw [← e]
    exact List.mem_map_of_mem hx
  rw [of_decide_eq_true ex] at h2
  obtain ⟨y, hy, ey⟩ := List.mem_map.mp h2
  cases ey
  exact hy
theorem drop_keys {m : List (Key × V)} {ns : List Int} (e : m.map (·.1) = ns.map Sum.inl) (k : Int) : (dropK m (.inl k)).map (·.1) = (ns.filter fun n => decide (n ≠ k)).map Sum.inl := by
  unfold dropK
  induction m generalizing ns with
  | nil =>
    cases ns with
    | nil => rfl
    | cons a b => cases e
  | cons x m ih =>
    cases ns with
    | nil => cases e
    | cons a b =>
      simp only [List.map_cons, List.cons.injEq] at e
      obtain ⟨e1, e2⟩ := e
      rw [List.filter_cons, List.filter_cons]
      by_cases c : a = k
      · rw [if_neg (by rw [e1, c]; simp), if_neg (by simp [c])]
        exact ih e2
      · rw [if_pos (by rw [e1]; simpa using c), if_pos (by simpa using c), List.map_cons, List.map_cons, e1]
        congr 1
        exact ih e2
theorem drop_val {m : List (Key × V)} {k n : Key} (h : n ≠ k) : valV (dropK m k) n = valV m n := by
  unfold dropK
  induction m with
  | nil => rfl
  | cons x m ih =>
    rw [List.filter_cons]
    by_cases c : x.1 = k
    · rw [if_neg (by simp [c]), ih, valV_neg (by rw [c]; exact fun z => h z.symm)]
    · rw [if_pos (by simpa using c)]
      by_cases c2 : x.1 = n
      · rw [valV_pos c2, valV_pos c2]
      · rw [valV_neg c2, valV_neg c2, ih]
theorem drain_len : ∀ (j : Nat) (k : Int) (m : List (Key × V)), m.length = j → (drain k m).2.1.length ≤ m.length := by
  intro j
  induction j using Nat.strongRecOn with
  | ind j ih =>
    intro k m hj
    cases hv : valV m (.inl k) with
    | none =>
      rw [drain_no hv]
      exact Nat.le_refl _
    | some v =>
      have h1 := drop_lt hv
      rw [drain_yes hv]
      have := ih _ (by omega) (k + 1) (dropK m (.inl k)) rfl
      show (drain (k + 1) (dropK m (.inl k))).2.1.length ≤ _
      omega
theorem drain_ok (vs : List V) : ∀ (j k : Nat) (m : List (Key × V)), m.length = j → k ≤ vs.length → MW k m vs →
    ∃ c : Nat, (drain k m).1 = ((k + c : Nat) : Int) ∧ (drain k m).2.2 = (vs.drop k).take c ∧ k + c ≤ vs.length ∧ MOk (k + c) (drain k m).2.1 vs ∧ ((valV m (.inl (k : Int))).isSome = true → 1 ≤ c) := by
  intro j
  induction j using Nat.strongRecOn with
  | ind j ih =>
    intro k m hj hk hm
    cases hv : valV m (.inl (k : Int)) with
    | none =>
      rw [drain_no hv]
      exact ⟨0, rfl, rfl, hk, ⟨hm, hv⟩, fun z => by cases z⟩
    | some v =>
      obtain ⟨ns, e, nd, h⟩ := hm
      have hkn : (k : Int) ∈ ns := val_mem e (by rw [hv]; rfl)
      obtain ⟨h1, h2, h3⟩ := h _ hkn
      rw [hv] at h3
      have h4 : vs[k]? = some v := by simpa using h3.symm
      have h5 := drop_lt hv
      have hm2 : MW (k + 1) (dropK m (.inl (k : Int))) vs := by
        refine ⟨ns.filter fun n => decide (n ≠ (k : Int)), drop_keys e k, nd.filter _, fun n hn => ?_⟩
        rw [List.mem_filter] at hn
        have nk : n ≠ (k : Int) := by simpa using hn.2
        obtain ⟨a1, a2, a3⟩ := h n hn.1
        refine ⟨by omega, a2, ?_⟩
        rw [drop_val (by intro z; cases z; exact nk rfl)]
        exact a3
      obtain ⟨c, b1, b2, b3, b4, _⟩ := ih _ (by omega) (k + 1) (dropK m (.inl (k : Int))) rfl (by omega) hm2
      rw [drain_yes hv]
      have ek : ((k : Int) + 1) = ((k + 1 : Nat) : Int) := by omega
      rw [ek]
      have ec : k + (c + 1) = k + 1 + c := by omega
      refine ⟨c + 1, ?_, ?_, by omega, ?_, fun _ => by omega⟩
      · rw [ec]
        exact b1
      · show v :: _ = _
        rw [b2]
        have hlt : k < vs.length := by omega
        rw [List.drop_eq_getElem_cons hlt, List.take_succ_cons]
        congr 1
        have := List.getElem?_eq_getElem hlt
        rw [h4] at this
        exact Option.some.inj this
      · rw [ec]
        exact b4
theorem val_snoc {m : List (Key × V)} {n : Int} {y : V} (h : valV m (.inl n) = none) (j : Int) : valV (m ++ [(.inl n, y)]) (.inl j) = if j = n then some y else valV m (.inl j) := by
  rw [valV_snoc _ _ _ _ h]
  by_cases c : j = n
  · rw [if_pos (by rw [c]), if_pos c]
  · rw [if_neg (by intro z; cases z; exact c rfl), if_neg c]
theorem hear_ok {vs : List V} {k : Nat} {m : List (Key × V)} {n : Nat} {y : V} (hm : MW k m vs) (hn : vs[n]? = some y) : MW k (hear k n y m) vs := by
  unfold hear
  split
  · rename_i c
    obtain ⟨ns, e, nd, h⟩ := hm
    have hlt := (List.getElem?_eq_some_iff.mp hn).1
    have nn : (n : Int) ∉ ns := fun z => by
      obtain ⟨v, hv⟩ := key_there e z
      rw [c.2.2] at hv
      cases hv
    refine ⟨ns ++ [(n : Int)], by rw [List.map_append, e, List.map_append]; rfl, ?_, fun j hj => ?_⟩
    · rw [List.nodup_append]
      refine ⟨nd, by simp, fun a ha b hb => ?_⟩
      rw [show b = (n : Int) by simpa using hb]
      exact fun z => nn (z ▸ ha)
    · rw [val_snoc c.2.2]
      rcases List.mem_append.mp hj with z | z
      · obtain ⟨a1, a2, a3⟩ := h j z
        refine ⟨a1, a2, ?_⟩
        rw [if_neg (fun w : j = (n : Int) => nn (w ▸ z))]
        exact a3
      · rw [show j = (n : Int) by simpa using z, if_pos rfl]
        exact ⟨c.1, by omega, by simpa using hn.symm⟩
  · exact hm
theorem MW.more {k : Nat} {m : List (Key × V)} {vs ws : List V} (h : MW k m vs) : MW k m (vs ++ ws) := by
  obtain ⟨ns, e, nd, h⟩ := h
  refine ⟨ns, e, nd, fun n hn => ?_⟩
  obtain ⟨a1, a2, a3⟩ := h n hn
  refine ⟨a1, by rw [List.length_append]; omega, ?_⟩
  rw [a3, List.getElem?_append_left (by omega)]
theorem MOk.end {m : List (Key × V)} {vs : List V} (h : MOk vs.length m vs) : m = [] := by
  obtain ⟨⟨ns, e, nd, h⟩, _⟩ := h
  cases ns with
  | nil =>
    cases m with
    | nil => rfl
    | cons a b => cases e
  | cons n ns =>
    have := h n (by simp)
    omega
/-- the pairs that wait, as data -/
def wd : Int → List PyData → List PyData
  | _, [] => []
  | g, d :: ds => .tuple [.int g, d] :: wd (g + 1) ds
theorem wd_len : ∀ (g : Int) (ds : List PyData), (wd g ds).length = ds.length
  | _, [] => rfl
  | g, d :: ds => by
    show (wd (g + 1) ds).length + 1 = ds.length + 1
    rw [wd_len]
theorem wd_all {q : PyData → Prop} : ∀ {g : Int} {ds : List PyData}, (∀ d ∈ ds, ∀ i, q (.tuple [.int i, d])) → ∀ d ∈ wd g ds, q d
  | _, [], _, d, h => by cases h
  | g, d0 :: ds, h, d, hd => by
    rcases List.mem_cons.mp hd with e | e
    · rw [e]
      exact h d0 (by simp) g
    · exact wd_all (fun d hd => h d (List.mem_cons_of_mem _ hd)) d e
theorem wd_tp {C p : Addr} {H : Hp} (hp : ∀ xs, H p ≠ some (.tup xs)) : ∀ {g : Int} {ds : List PyData} {xs : List V} {ts : List Addr}, TpAll C p H ds xs → ts.length = xs.length →
    (∀ (j : Nat) (t : Addr) (x : V), ts[j]? = some t → xs[j]? = some x → H t = some (.tup [.int (g + (j : Nat)), x])) → TpAll C p H (wd g ds) (ts.map V.ref)
  | g, [], xs, ts, h, hl, _ => by
    simp only [TpAll] at h
    subst h
    have : ts = [] := List.eq_nil_of_length_eq_zero (by simpa using hl)
    subst this
    exact tpAll_nil
  | g, d :: ds, xs, ts, h, hl, ht => by
    simp only [TpAll] at h
    obtain ⟨x, r, rfl, h1, h2⟩ := h
    cases ts with
    | nil => cases hl
    | cons t ts =>
      have e0 : H t = some (.tup [.int g, x]) := by simpa using ht 0 t x rfl rfl
      refine tpAll_cons (tp_tup ⟨fun z => hp _ (z ▸ e0), e0⟩ (tpAll_cons tp_int (tpAll_cons h1 tpAll_nil))) (wd_tp hp h2 (by simpa using hl) fun j t' x' e1 e2 => ?_)
      have := ht (j + 1) t' x' (by simpa using e1) (by simpa using e2)
      rw [this]
      congr 4
      omega
end Mw

/-! D2 -/
namespace Mw
open PySem L2
def EndSt (CO CI p : Addr) (H : Hp) (o l e d tl mi hd : Addr) (g k : Nat) (m mm : List (Key × V)) (vs : List V) (ds : List PyData) : Prop :=
  OutAt CO H o l (g : Int) (vs.drop g) ∧ IncAt CI H e d (k : Int) m ∧ H tl = some (.lst vs) ∧ H mi = some (.dK (mD k hd)) ∧ H hd = some (.dK mm) ∧ TpAll CO p H ds vs ∧ (∀ x ∈ ds, Gd 4 46 x) ∧ MOk k m vs ∧ g ≤ k ∧ k ≤ vs.length ∧ vs.length ≤ 30 ∧ m.length ≤ 100 ∧ ∀ ns : List Int, m.map (·.1) = ns.map Sum.inl → ∃ ns2 : List Int, mm.map (·.1) = ns2.map Sum.inl ∧ ns2.Perm ns
def spEnds (CO CI : Addr) : Sp := fun xs H Q _ => ∃ (p l0 o l e d tl mi hd : Addr) (g k : Nat) (m mm : List (Key × V)) (vs : List V) (ds : List PyData), xs = [.ref o, .ref e, .ref tl, .int (g : Nat), .ref mi] ∧ HandAt p l0 H ∧ EndSt CO CI p H o l e d tl mi hd g k m mm vs ds ∧ ∀ H', Same H H' → Q (.bl true) H'
def Wt (H : Hp) (g : Int) (xs : List V) (ts : List Addr) : Prop := ∀ (j : Nat) (t : Addr) (x : V), ts[j]? = some t → xs[j]? = some x → H t = some (.tup [.int (g + (j : Nat)), x])
theorem HandAt.no {p l0 : Addr} {H : Hp} (h : HandAt p l0 H) : ∀ xs, H p ≠ some (.tup xs) := fun xs z => by
  obtain ⟨ns, i, c, a, t, h1, _⟩ := h
  rw [h1] at z
  cases z
/-- the pairs that wait, as a list -/
theorem wd_list {C p l0 D : Addr} {H : Hp} {g : Int} {ds : List PyData} {xs : List V} {ts : List Addr} (hh : HandAt p l0 H) (nD : D ≠ p) (hD : H D = some (.lst (ts.map V.ref))) (h : TpAll C p H ds xs) (hl : ts.length = xs.length) (hw : Wt H g xs ts) : Tp C p H (.list (wd g ds)) (.ref D) :=
  tp_lst ⟨nD, hD⟩ (wd_tp hh.no h hl hw)
theorem wd_no {g : Int} {ds : List PyData} (h : ∀ x ∈ ds, Gd 4 46 x) : noDict (.list (wd g ds)) = true ∧ (PyData.list (wd g ds)).depth < 8 := by
  have a : ∀ d ∈ wd g ds, plainD d = true ∧ d.depth ≤ 5 := wd_all fun d hd i => by
    obtain ⟨h1, h2, _⟩ := h d hd
    refine ⟨?_, ?_⟩
    · show (true && (plainD d && true)) = true
      rw [h1]
      rfl
    · show max 0 (max d.depth 0) + 1 ≤ 5
      omega
  refine ⟨?_, ?_⟩
  · show noDictAll (wd g ds) = true
    exact plain_noAll _ (plainAll_of fun d hd => (a d hd).1)
  · show PyData.depthAll (wd g ds) + 1 < 8
    have := depthAll_le fun d hd => (a d hd).2
    omega
theorem ints_no (ns : List Int) : noDict (.tuple (ns.map PyData.int)) = true ∧ (PyData.tuple (ns.map PyData.int)).depth < 8 := by
  refine ⟨?_, ?_⟩
  · show noDictAll (ns.map PyData.int) = true
    refine plain_noAll _ (plainAll_of fun d hd => ?_)
    obtain ⟨i, _, rfl⟩ := List.mem_map.mp hd
    rfl
  · show PyData.depthAll (ns.map PyData.int) + 1 < 8
    have : PyData.depthAll (ns.map PyData.int) ≤ 0 := depthAll_le fun d hd => by
      obtain ⟨i, _, rfl⟩ := List.mem_map.mp hd
      exact Nat.le_refl _
    omega
section
variable {P : Program} {w : World} {K : PySem.W.Frag} {mg : Str → Option Value} {base : Heap}
local macro_rules | `(tactic| walk_at "rd") => `(tactic| (repeat (first
  | ((with_reducible refine' rd_var ?h0 ?_); (case h0 => rfl))
  | with_reducible refine rd_c ?_
  | with_reducible refine rd_op ?_
  | with_reducible refine rd_nil ?_
  | with_reducible refine rd_cons ?_
  | with_reducible refine rd_tup ?_
  | with_reducible refine rd_lst ?_
  | with_reducible refine rd_ifs ?_
  | with_reducible refine rd_seq ?_
  | with_reducible refine rd_next ?_
  | with_reducible refine rd_ret ?_
  | with_reducible refine rd_asg ?_
  | ((with_reducible refine' rd_gset ?hs ?_); (case hs => ((simp only [L2.start, List.map_cons, List.map_nil, List.length_cons, List.length_nil, List.cons_append, List.nil_append, List.set_cons_zero, List.set_cons_succ, Nat.reduceAdd, Nat.reduceSub, Nat.zero_add, List.reduceReplicate]); rfl)))
  | with_reducible refine rd_drop ?_
  | with_reducible refine rd_test ?_
  | with_reducible refine rd_B ?_
  | with_reducible refine rd_bl ?_
  | with_reducible refine rd_blP ?_
  | with_reducible refine rd_andV ?_
  | with_reducible refine rd_orV ?_
  | with_reducible refine rd_notV ?_
  | with_reducible refine rd_and ?_
  | with_reducible refine rd_or ?_
  | with_reducible refine rd_not ?_
  | with_reducible refine rd_chain ?_
  | with_reducible refine rd_dput ?_
  | with_reducible refine rd_dget ?_
  | with_reducible refine rd_cb ?_
  | with_reducible refine rd_call ?_
  | with_reducible refine rd_un ?_
  | with_reducible refine rd_sl ?_
  | with_reducible refine rd_nopart ?_
  | with_reducible refine rd_part ?_
  | with_reducible refine rd_intP ?_
  | with_reducible refine rd_rU ?_
  | with_reducible refine rd_fld ?_
  | with_reducible refine rd_eqI ?_
  | with_reducible refine rd_neI ?_
  | with_reducible refine rd_mko ?_
  | with_reducible refine rd_bm ?_
  | with_reducible refine rd_gsub ?_
  | with_reducible refine rd_i0 ?_)))
theorem ok_law_ends_right (T : Tx K mg) (B : Bk K mg T) : FnOk P w K mg base CX0 10 B.law_ends_right.f B.law_ends_right.fd ["out", "end", "things", "gone", "mind"] (spEnds T.c_Outgoing T.c_Incoming) := by
  have G_law_same := ok_law_same (P := P) (w := w) (base := base) T B 8
  have G_Outgoing_waiting := ok_waiting (P := P) (w := w) (base := base) T B
  have G_Outgoing_many_put := ok_many_put (P := P) (w := w) (base := base) T B
  have G_Incoming_taken := ok_taken (P := P) (w := w) (base := base) T B
  have G_Incoming_held := ok_held (P := P) (w := w) (base := base) T B
  refine B.law_ends_right.F.ok sc_law_ends_right (fun vs H Q E h => ?_) (fun cdv A outer s H vs Q E hr h => ?_)
  · obtain ⟨p, l0, o, l, e, d, tl, mi, hd, g, k, m, mm, xs, ds, rfl, _⟩ := h
    rfl
  · obtain ⟨p, l0, o, l, e, d, tl, mi, hd, g, k, m, mm, xs, ds, rfl, hh, ⟨ho, hi, htl, hmi, hhd, hds, hgd, hmok, hgk, hkl, hl30, hml, hmm⟩, q⟩ := h
    obtain ⟨⟨ns, en, nnd, hns⟩, _⟩ := hmok
    obtain ⟨ns2, en2, hp2⟩ := hmm ns en
    refine ⟨_, (pss_cons (ps_setLc (i := 5) (own := [("k", 6)]) (g := gName 6) rfl sc_law_ends_right.nd rfl rfl (sw_true rfl rfl rfl (by decide +kernel)) (pi_range1 (by rfl) T.b_range (pa_cons (pe_op op_sub (pe_callB call_len_seq (by rfl) T.b_len (by decide +kernel) (pa_cons (pv 2) pa_nil)) (pv 3)) pa_nil)) (blkOk_by (own := [("k", 6)]) (N := ["out", "end", "things", "gone", "mind", "waiting", "k"]) (sc := defScope s_law_ends_right) (by decide +kernel)) (fun _ _ _ _ _ => pg_name (i := 6) sc_law_ends_right.nd rfl (Or.inl rfl)) (fun _ _ _ _ _ => pts_nil) (fun _ _ _ _ _ => (pe_tup (pa_cons (pe_op op_add (pv 3) (pv 6)) (pa_cons (pe_ix (r := rIxL K) ix_list (pv 2) (pe_op op_add (pv 3) (pv 6)) (fun _ _ => rfl)) pa_nil)))))
      (pss_cons (ps_if (PW.pt (pw_or (pt_not (pt_val (pe_call G_law_same (hr.mono (by decide)) rfl B.law_same.m B.law_same.F.kp B.law_same.b .nil pass0 (pa_cons (pe_meth0 (pv 0) T.W_Outgoing.cl ⟨B.Outgoing_waiting.a, B.Outgoing_waiting.i, B.Outgoing_waiting.F.kp⟩ G_Outgoing_waiting (hr.mono (by decide)) B.Outgoing_waiting.b .nil pass0) (pa_cons (pv 5) pa_nil))))) (pw_or1 (pt_not (pt_val (pe_call G_law_same (hr.mono (by decide)) rfl B.law_same.m B.law_same.F.kp B.law_same.b .nil pass0 (pa_cons (pe_meth0 (pv 0) T.W_Outgoing.cl ⟨B.Outgoing_many_put.a, B.Outgoing_many_put.i, B.Outgoing_many_put.F.kp⟩ G_Outgoing_many_put (hr.mono (by decide)) B.Outgoing_many_put.b .nil pass0) (pa_cons (pe_callB call_len_seq (by rfl) T.b_len (by decide +kernel) (pa_cons (pv 2) pa_nil)) pa_nil)))))))) (pss_one (ps_ret pe_bl)) pss_nil)
      (pss_one (ps_ret (pe_and (pe_call G_law_same (hr.mono (by decide)) rfl B.law_same.m B.law_same.F.kp B.law_same.b .nil pass0 (pa_cons (pe_meth0 (pv 1) T.W_Incoming.cl ⟨B.Incoming_taken.a, B.Incoming_taken.i, B.Incoming_taken.F.kp⟩ G_Incoming_taken (hr.mono (by decide)) B.Incoming_taken.b .nil pass0) (pa_cons (pe_dget (hu_of hr) (pv 4) pe_str (fun _ _ => rfl)) pa_nil))) (pe_one (pe_call G_law_same (hr.mono (by decide)) rfl B.law_same.m B.law_same.F.kp B.law_same.b .nil pass0 (pa_cons (pe_meth0 (pv 1) T.W_Incoming.cl ⟨B.Incoming_held.a, B.Incoming_held.i, B.Incoming_held.F.kp⟩ G_Incoming_held (hr.mono (by decide)) B.Incoming_held.b .nil pass0) (pa_cons (pe_callTy call_tuple_of (by rfl) T.b_tuple (by decide +kernel) (pa_cons (pe_callB cr_sortedI (by rfl) T.b_sorted (by decide +kernel) (pa_cons (pe_listKeysK rfl (pe_dget (hu_of hr) (pv 4) pe_str (fun _ _ => rfl)) (by rfl) T.b_list) pa_nil)) pa_nil)) pa_nil))))))))), ?_⟩
    have hlen := hds.len
    walk_at "rd"
    show iRng1 _ _ _ _
    refine rd_rng1 ?_
    walk_at "rd"
    refine ⟨tl, _, rfl, .inl (SqL.of htl), ?_⟩
    walk_at "rd"
    have hdl : (xs.drop g).length = xs.length - g := List.length_drop
    refine ⟨_, rfl, by omega, by omega, fun D hD => lc_range (lo := 0) (n := ((xs.length : Int) - g).toNat)
      (fun i H1 => Same H H1 ∧ ∃ ts, H1 D = some (.lst (ts.map V.ref)) ∧ ts.length = i ∧ Wt H1 g (xs.drop g) ts) ⟨same_new hD, [], upd_same, rfl, fun j t x h => by simp at h⟩ ?_ ?_⟩
    · rintro i H1 hi1 ⟨hs, ts, hacc, hlt, hw⟩
      refine ⟨rfl, ?_⟩
      refine rd_tyes ?_
      refine rd_yes rfl ?_
      walk_at "rd"
      obtain ⟨y, hy⟩ : ∃ y, xs[g + i]? = some y := ⟨_, List.getElem?_eq_getElem (by omega)⟩
      have hy2 : (xs.drop g)[i]? = some y := by rw [List.getElem?_drop, hy]
      refine rd_ixL (hs _ _ htl) (at_of (j := g + i) (by omega) hy) ?_
      refine rd_disp rfl fun t nt => ?_
      have nDt : D ≠ t := ne_of_none hacc nt
      refine ⟨_, (upd_ne nDt).trans hacc, ?_, fun b u e' => ?_, ts ++ [t], ?_, by simp [hlt], ?_⟩
      · exact small1000 (by rw [List.length_map]; omega)
      · rw [upd_ne (ne_of_none e' hD)]
        exact (same_new nt) _ _ (hs b u e')
      · rw [upd_same, List.map_append]
        rfl
      · intro j t' x' e1 e2
        have nt' : ∀ z, H1 t' = some (.tup z) → t' ≠ D ∧ t' ≠ t := fun z ez => ⟨ne_of ez hacc (by intro z; cases z), ne_of_none ez nt⟩
        by_cases c : j < i
        · rw [List.getElem?_append_left (by omega)] at e1
          have z := hw j t' x' e1 e2
          obtain ⟨n1, n2⟩ := nt' _ z
          rw [upd_ne n1, upd_ne n2]
          exact z
        · have hj : j = i := by
            have := (List.getElem?_eq_some_iff.mp e1).1
            rw [List.length_append] at this
            simp at this
            omega
          subst hj
          rw [List.getElem?_append_right (by omega), hlt] at e1
          simp at e1
          subst e1
          rw [hy2] at e2
          cases e2
          rw [upd_ne nDt.symm, upd_same]
          simp
    · rintro H1 ⟨s1, ts, hacc, hlt, hw⟩
      have hh1 := hh.keep s1
      have nDp : D ≠ p := hh.ne hD
      have td1 : Tp T.c_Outgoing p H1 (.list (wd g (ds.drop g))) (.ref D) := wd_list hh1 nDp hacc ((pas hds s1).drop g) (by omega) hw
      obtain ⟨⟨dx, ha⟩, hl⟩ := id ho
      have hgd2 : ∀ x ∈ ds.drop g, Gd 4 46 x := fun x hx => hgd x (List.mem_of_mem_drop hx)
      obtain ⟨w1, w2⟩ := wd_no (g := g) hgd2
      walk_at "rd"
      refine rd_meth ?_
      walk_at "rd"
      refine ⟨o, dx, _, rfl, s1 _ _ ha, rfl, ?_⟩
      walk_at "rd"
      refine ⟨o, l, g, _, rfl, ho.same s1, by omega, by omega, fun D2 ts2 H2 s2 nD2 hD2 hl2 hw2 => ?_⟩
      walk_at "rd"
      have hh2 := hh1.keep s2
      have td2 : Tp T.c_Outgoing p H2 (.list (wd g (ds.drop g))) (.ref D2) := wd_list hh2 (hh1.ne nD2) hD2 ((pas hds (s1.trans s2)).drop g) hl2 hw2
      refine ⟨p, _, _, _, rfl, w1, w2, td2, ps td1 s2, fun H3 s3 => ?_⟩
      walk_at "rd"
      refine rd_no rfl ?_
      walk_at "rd"
      have s13 := s1.trans (s2.trans s3)
      refine rd_meth ?_
      walk_at "rd"
      refine ⟨o, dx, _, rfl, s13 _ _ ha, rfl, ?_⟩
      walk_at "rd"
      refine ⟨o, l, g, _, rfl, ho.same s13, ?_⟩
      walk_at "rd"
      refine ⟨tl, _, rfl, .inl (SqL.of (s13 _ _ htl)), ?_⟩
      walk_at "rd"
      have em : (g : Int) + ((xs.drop g).length : Nat) = (xs.length : Nat) := by rw [hdl]; omega
      rw [em]
      refine ⟨p, .int xs.length, _, _, rfl, rfl, (by show 0 < 8; decide), tp_int, tp_int, fun H4 s4 => ?_⟩
      walk_at "rd"
      refine rd_no rfl ?_
      walk_at "rd"
      have s14 := s13.trans s4
      obtain ⟨⟨dy, he⟩, hd1⟩ := id hi
      refine rd_meth ?_
      walk_at "rd"
      refine ⟨e, dy, _, rfl, s14 _ _ he, rfl, ?_⟩
      walk_at "rd"
      refine ⟨e, d, k, m, rfl, hi.same s14, ?_⟩
      walk_at "rd"
      refine ⟨mi, _, rfl, DGet.k (k := .inr "taken") (s14 _ _ hmi), ?_⟩
      walk_at "rd"
      refine ⟨p, .int k, _, _, rfl, rfl, (by show 0 < 8; decide), tp_int, tp_int, fun H5 s5 => ?_⟩
      walk_at "rd"
      have s15 := s14.trans s5
      refine rd_yes rfl ?_
      walk_at "rd"
      refine rd_meth ?_
      walk_at "rd"
      refine ⟨e, dy, _, rfl, s15 _ _ he, rfl, ?_⟩
      walk_at "rd"
      refine ⟨e, d, k, m, ns, rfl, hi.same s15, en, fun t ns' H6 s6 nt ht hpm hpw => ?_⟩
      walk_at "rd"
      have s16 := s15.trans s6
      refine rd_listKeysK ?_
      walk_at "rd"
      refine ⟨mi, _, rfl, DGet.k (k := .inr "held") (s16 _ _ hmi), ?_⟩
      refine ⟨hd, mm, ns2, rfl, s16 _ _ hhd, en2, fun l7 nl7 => ?_⟩
      walk_at "rd"
      refine ⟨l7, ns2, rfl, SqL.of upd_same, fun ns8 l8 hpm8 hpw8 nl8 => ?_⟩
      obtain rfl : ns8 = ns' := sorted_one ((hpm8.trans hp2).trans hpm.symm) hpw8 hpw
      walk_at "rd"
      refine ⟨l8, _, rfl, .inl ⟨SqL.of upd_same, fun t9 nt9 => ?_⟩⟩
      walk_at "rd"
      have s7 := same_new (o := .lst (ns2.map V.int)) nl7
      have s8 := same_new (o := .lst (ns8.map V.int)) nl8
      have s9 := same_new (o := .tup (ns8.map V.int)) nt9
      have s69 := s7.trans (s8.trans s9)
      have hh6 := hh.keep s16
      have t1 : Tp T.c_Outgoing p H6 (.tuple (ns8.map PyData.int)) (.ref t) := tp_tup ⟨(hh.keep s15).ne nt, ht⟩ (tp_ints ns8)
      refine ⟨p, .tuple (ns8.map PyData.int), _, _, rfl, (ints_no ns8).1, (ints_no ns8).2, ps t1 s69, tp_new (hh6.keep (s7.trans s8)) nt9 (tp_ints ns8), fun H10 s10 => ?_⟩
      exact q _ (s16.trans (s69.trans s10))
end
end Mw

/-! D3 -/
namespace Mw
open PySem L2
def spDrained (CO CI : Addr) : Sp := fun xs H Q _ => ∃ (o l e d : Addr) (g k : Nat) (m : List (Key × V)) (vs : List V), xs = [.ref o, .ref e, .int (vs.length : Nat)] ∧ OutAt CO H o l (g : Int) (vs.drop g) ∧ IncAt CI H e d (k : Int) m ∧ MOk k m vs ∧ g ≤ k ∧ k ≤ vs.length ∧ vs.length ≤ 30 ∧ m.length ≤ 200 ∧ o ≠ e ∧
  ∀ (l' : Addr) (H' : Hp), Fr [o, e, d] H H' → (l' = l ∨ H l' = none) → OutAt CO H' o l' (vs.length : Nat) [] → IncAt CI H' e d (vs.length : Nat) [] → Q (.bl true) H'
theorem Fr.two {a c b : Addr} {H H' : Hp} {o : HO} (x : Fr [a, c] H H') (n1 : b ≠ a) (n2 : b ≠ c) (e : H b = some o) : H' b = some o := x b o (by simp [n1, n2]) e
section
variable {P : Program} {w : World} {K : PySem.W.Frag} {mg : Str → Option Value} {base : Heap}
local macro_rules | `(tactic| walk_at "rd") => `(tactic| (repeat (first
  | ((with_reducible refine' rd_var ?h0 ?_); (case h0 => rfl))
  | with_reducible refine rd_c ?_
  | with_reducible refine rd_op ?_
  | with_reducible refine rd_nil ?_
  | with_reducible refine rd_cons ?_
  | with_reducible refine rd_tup ?_
  | with_reducible refine rd_lst ?_
  | with_reducible refine rd_ifs ?_
  | with_reducible refine rd_seq ?_
  | with_reducible refine rd_next ?_
  | with_reducible refine rd_ret ?_
  | with_reducible refine rd_asg ?_
  | ((with_reducible refine' rd_gset ?hs ?_); (case hs => ((simp only [L2.start, List.map_cons, List.map_nil, List.length_cons, List.length_nil, List.cons_append, List.nil_append, List.set_cons_zero, List.set_cons_succ, Nat.reduceAdd, Nat.reduceSub, Nat.zero_add, List.reduceReplicate]); rfl)))
  | with_reducible refine rd_drop ?_
  | with_reducible refine rd_test ?_
  | with_reducible refine rd_B ?_
  | with_reducible refine rd_bl ?_
  | with_reducible refine rd_blP ?_
  | with_reducible refine rd_andV ?_
  | with_reducible refine rd_orV ?_
  | with_reducible refine rd_notV ?_
  | with_reducible refine rd_and ?_
  | with_reducible refine rd_or ?_
  | with_reducible refine rd_not ?_
  | with_reducible refine rd_chain ?_
  | with_reducible refine rd_dput ?_
  | with_reducible refine rd_dget ?_
  | with_reducible refine rd_cb ?_
  | with_reducible refine rd_call ?_
  | with_reducible refine rd_un ?_
  | with_reducible refine rd_sl ?_
  | with_reducible refine rd_nopart ?_
  | with_reducible refine rd_part ?_
  | with_reducible refine rd_intP ?_
  | with_reducible refine rd_rU ?_
  | with_reducible refine rd_fld ?_
  | with_reducible refine rd_eqI ?_
  | with_reducible refine rd_neI ?_
  | with_reducible refine rd_mko ?_
  | with_reducible refine rd_bm ?_
  | with_reducible refine rd_gsub ?_
  | with_reducible refine rd_i0 ?_)))
theorem ok_law_drained (T : Tx K mg) (B : Bk K mg T) : FnOk P w K mg base CX0 6 B.law_drained.f B.law_drained.fd ["out", "end", "many"] (spDrained T.c_Outgoing T.c_Incoming) := by
  have G_Outgoing_waiting := ok_waiting (P := P) (w := w) (base := base) T B
  have G_Outgoing_known := ok_known (P := P) (w := w) (base := base) T B
  have G_Incoming_take := ok_itake (P := P) (w := w) (base := base) T B
  have G_Incoming_taken := ok_taken (P := P) (w := w) (base := base) T B
  refine B.law_drained.F.ok sc_law_drained (fun vs H Q E h => ?_) (fun cdv A outer s H vs Q E hr h => ?_)
  · obtain ⟨o, l, e, d, g, k, m, xs, rfl, _⟩ := h
    rfl
  · obtain ⟨o, l, e, d, g, k, m, xs, rfl, ho, hi, hm, hgk, hkl, h30, hml, noe, q⟩ := h
    refine ⟨_, (pss_cons (ps_for PassesOwn.never rfl (pi_range1 (by rfl) T.b_range (pa_cons (pe_op op_add (pv 2) pe_int) pa_nil)) (pg_name (i := 3) sc_law_drained.nd rfl (Or.inl rfl)) (pss_cons (ps_if (pt_cmpR op_eq (pe_callB call_len_seq (by rfl) T.b_len (by decide +kernel) (pa_cons (pe_meth0 (pv 0) T.W_Outgoing.cl ⟨B.Outgoing_waiting.a, B.Outgoing_waiting.i, B.Outgoing_waiting.F.kp⟩ G_Outgoing_waiting (hr.mono (by decide)) B.Outgoing_waiting.b .nil pass0) pa_nil)) pe_int (nomark _)) (pss_one (ps_ret pe_bl)) pss_nil)
      (pss_cons (ps_asg (pe_ix ix_list (pe_meth0 (pv 0) T.W_Outgoing.cl ⟨B.Outgoing_waiting.a, B.Outgoing_waiting.i, B.Outgoing_waiting.F.kp⟩ G_Outgoing_waiting (hr.mono (by decide)) B.Outgoing_waiting.b .nil pass0) pe_int (fun _ _ => rfl)) (pg_tup (by rfl) (pgs_cons (pg_name (i := 4) sc_law_drained.nd rfl (Or.inl rfl)) (pgs_cons (pg_name (i := 5) sc_law_drained.nd rfl (Or.inl rfl)) pgs_nil))))
      (pss_cons (ps_expr (pe_meth (pv 1) T.W_Incoming.cl ⟨B.Incoming_take.a, B.Incoming_take.i, B.Incoming_take.F.kp⟩ G_Incoming_take (hr.mono (by decide)) B.Incoming_take.b .nil passL (pa_cons (pv 4) (pa_cons (pv 5) pa_nil))))
      (pss_one (ps_expr (pe_meth (pv 0) T.W_Outgoing.cl ⟨B.Outgoing_known.a, B.Outgoing_known.i, B.Outgoing_known.F.kp⟩ G_Outgoing_known (hr.mono (by decide)) B.Outgoing_known.b .nil passL (pa_cons (pe_meth0 (pv 1) T.W_Incoming.cl ⟨B.Incoming_taken.a, B.Incoming_taken.i, B.Incoming_taken.F.kp⟩ G_Incoming_taken (hr.mono (by decide)) B.Incoming_taken.b .nil pass0) pa_nil))))))))
      (pss_one (ps_ret pe_bl))), ?_⟩
    walk_at "rd"
    show iRng1 _ _ _ _
    refine rd_rng1 ?_
    walk_at "rd"
    refine ⟨_, rfl, by omega, by omega, for_range (lo := 0) (n := ((xs.length : Int) + 1).toNat) (fun i σ H1 => ∃ (l1 : Addr) (g k : Nat) (m : List (Key × V)) (u3 u4 u5 : Option V), σ = [some (.ref o), some (.ref e), some (.int (xs.length : Nat)), u3, u4, u5] ∧ Fr [o, e, d] H H1 ∧ (l1 = l ∨ H l1 = none) ∧ OutAt T.c_Outgoing H1 o l1 (g : Int) (xs.drop g) ∧ IncAt T.c_Incoming H1 e d (k : Int) m ∧ MOk k m xs ∧ g ≤ k ∧ k ≤ xs.length ∧ m.length ≤ 200 + i ∧ i ≤ g)
      ⟨l, g, k, m, _, _, _, rfl, Fr.same (Same.refl H), .inl rfl, ho, hi, hm, hgk, hkl, hml, Nat.zero_le _⟩ ?_ ?_⟩
    · rintro i σ H1 hi1 ⟨l1, g, k, m, u3, u4, u5, rfl, f1, hl1, ho1, hi1', hm1, hgk1, hkl1, hml1, hig⟩
      obtain ⟨⟨dx, ha⟩, hl⟩ := id ho1
      obtain ⟨⟨dy, he⟩, hd⟩ := id hi1'
      have hdl : (xs.drop g).length = xs.length - g := List.length_drop
      walk_at "rd"
      refine rd_meth ?_
      walk_at "rd"
      refine ⟨o, dx, _, rfl, ha, rfl, ?_⟩
      walk_at "rd"
      refine ⟨o, l1, g, _, rfl, ho1, by omega, by omega, fun D ts H2 s2 nD hD hlt hw => ?_⟩
      walk_at "rd"
      refine ⟨D, _, rfl, .inl (SqL.of hD), ?_⟩
      walk_at "rd"
      rw [List.length_map]
      refine rd_ite (fun h1 => ?_) (fun h1 => ?_)
      · have hg : g = xs.length := by
          have := of_decide_eq_true h1
          omega
        have hk : k = xs.length := by omega
        subst hg
        have hmn : m = [] := MOk.end (by rw [← hk]; exact hm1)
        subst hmn
        rw [hk] at hi1'
        rw [List.drop_length] at ho1
        walk_at "rd"
        exact q l1 H2 (f1.trans (Fr.same s2)) hl1 (ho1.same s2) (hi1'.same s2)
      · have hg : g < xs.length := by
          have := of_decide_eq_false h1
          omega
        walk_at "rd"
        refine rd_meth ?_
        walk_at "rd"
        refine ⟨o, dx, _, rfl, s2 _ _ ha, rfl, ?_⟩
        walk_at "rd"
        refine ⟨o, l1, g, _, rfl, ho1.same s2, by omega, by omega, fun D3 ts3 H3 s3 nD3 hD3 hlt3 hw3 => ?_⟩
        walk_at "rd"
        obtain ⟨x, hx⟩ : ∃ x, xs[g]? = some x := ⟨_, List.getElem?_eq_getElem hg⟩
        obtain ⟨t, ht⟩ : ∃ t, ts3[0]? = some t := ⟨_, List.getElem?_eq_getElem (by omega)⟩
        refine rd_ixL hD3 (at_of (j := 0) (by omega) (by rw [List.getElem?_map, ht]; rfl)) ?_
        have hx0 : (xs.drop g)[0]? = some x := by rw [List.getElem?_drop]; exact hx
        have htt := hw3 0 t x ht hx0
        rw [show (g : Int) + ((0 : Nat) : Int) = (g : Int) by omega] at htt
        refine ⟨t, _, rfl, SqT.of htt, rfl, _, _, rfl, _, _, rfl, rfl, ?_⟩
        walk_at "rd"
        have s13 := s2.trans s3
        refine rd_meth ?_
        walk_at "rd"
        refine ⟨e, dy, _, rfl, s13 _ _ he, rfl, ?_⟩
        walk_at "rd"
        refine ⟨e, d, k, m, g, x, rfl, hi1'.same s13, by omega, by omega, by omega, fun L H4 f4 nL hi4 hL => ?_⟩
        walk_at "rd"
        obtain ⟨c, b1, b2, b3, b4, b5⟩ := drain_ok xs _ k _ rfl hkl1 (hear_ok hm1.1 hx)
        have hdl4 := drain_len _ (k : Int) (hear k g x m) rfl
        have hhl := hear_len (k := (k : Int)) (n := (g : Int)) (y := x) (m := m)
        rw [b1] at hi4
        generalize (drain (k : Int) (hear k g x m)).2.1 = m4 at *
        have n1 : o ≠ d := ne_of ha hd (by intro z; cases z)
        have n2 : l1 ≠ e := ne_of hl he (by intro z; cases z)
        have n3 : l1 ≠ d := ne_of hl hd (by intro z; cases z)
        have n4 : l1 ≠ o := ne_of hl ha (by intro z; cases z)
        have n5 : d ≠ o := n1.symm
        have ho4 : OutAt T.c_Outgoing H4 o l1 (g : Int) (xs.drop g) := (ho1.same s13).fr f4 (by simp [noe, n1]) (by simp [n2, n3])
        obtain ⟨⟨dx4, ha4⟩, hl4⟩ := id ho4
        obtain ⟨⟨dy4, he4⟩, hd4⟩ := id hi4
        refine rd_meth ?_
        walk_at "rd"
        refine ⟨o, dx4, _, rfl, ha4, rfl, ?_⟩
        walk_at "rd"
        refine rd_meth ?_
        walk_at "rd"
        refine ⟨e, dy4, _, rfl, he4, rfl, ?_⟩
        walk_at "rd"
        refine ⟨e, d, _, m4, rfl, hi4, ?_⟩
        walk_at "rd"
        have hkc : g < k + c := by
          by_cases z : g = k
          · have := b5 (by
              subst z
              unfold hear
              rw [if_pos ⟨by omega, by omega, hm1.2⟩, val_snoc hm1.2, if_pos rfl]
              rfl)
            omega
          · omega
        refine ⟨o, l1, g, _, ((k + c : Nat) : Int), rfl, ho4, by omega, by omega, by omega, fun l5 u H5 hu f5 nl5 ho5 => ?_⟩
        walk_at "rd"
        have hu2 : u = k + c - g := by
          rw [if_pos (by omega)] at hu
          omega
        subst hu2
        rw [List.drop_drop, show g + (k + c - g) = k + c by omega] at ho5
        rw [show (g : Int) + ((k + c - g : Nat) : Int) = ((k + c : Nat) : Int) by omega] at ho5
        have fT : Fr [o, e, d] H H5 := ((f1.trans (Fr.same s13)).trans (f4.more (by simp))).trans (f5.more (by simp))
        have hl5 : H l5 = none := by
          have f14 : Fr [o, e, d] H H4 := (f1.trans (Fr.same s13)).trans (f4.more (by simp))
          refine f14.free nl5 ?_
          have m1 : l5 ≠ o := (ne_of_none ha4 nl5).symm
          have m2 : l5 ≠ e := (ne_of_none he4 nl5).symm
          have m3 : l5 ≠ d := (ne_of_none hd4 nl5).symm
          simp [m1, m2, m3]
        exact ⟨l5, k + c, k + c, m4, _, _, _, rfl, fT, .inr hl5, ho5, hi4.fr f5 (by simpa using noe.symm) (by simpa using n5), b4, Nat.le_refl _, b3, by omega, by omega⟩
    · rintro σ H1 ⟨l1, g, k, m, u3, u4, u5, rfl, f1, hl1, ho1, hi1', hm1, hgk1, hkl1, hml1, hig⟩
      omega
end
end Mw

/-! D4 -/
namespace Mw
open PySem L2
theorem nd_ne {L : List Addr} (h : L.Nodup) {i j : Nat} {a b : Addr} (ha : L[i]? = some a) (hb : L[j]? = some b) (n : i ≠ j) : a ≠ b := by
  intro e
  subst e
  exact n ((List.getElem?_inj (List.getElem?_eq_some_iff.mp ha).1 h).mp (ha.trans hb.symm))
theorem Keep.fr {p : Addr} {H H' : Hp} (k : Keep p H H') : Fr [p] H H' := fun b o n e => k b o (by simpa using n) e
theorem rd_and2 {a b : Bool} {X Y M : Prop} (hM : (if b = true then X else Y) → M) (h : if (a && b) = true then X else Y) : if a = true then M else (if false = true then X else Y) := by
  cases a
  · exact h
  · exact hM h
theorem HandAt.fr {p l0 : Addr} {H H' : Hp} {M : List Addr} (h : HandAt p l0 H) (f : Fr M H H') (n1 : p ∉ M) (n2 : l0 ∉ M) : HandAt p l0 H' := by
  obtain ⟨ns, i, c, z, t, h1, h2, h3, r⟩ := h
  exact ⟨ns, i, c, z, t, f _ _ n1 h1, h2, f _ _ n2 h3, r⟩
theorem KT.keep {p l0 : Addr} {H H' : Hp} (h : HandAt p l0 H) (k : Keep p H H') : KT H H' := fun a xs e => k a _ (fun z => h.no xs (z ▸ e)) e
theorem tp_kt {C p : Addr} {H H' : Hp} (k : KT H H') {ds : List PyData} {vs : List V} {n s : Nat} (hg : ∀ x ∈ ds, Gd n s x) (h : TpAll C p H ds vs) : TpAll C p H' ds vs := TpAll.keepT k ds vs (plainAll_of fun d hd => (hg d hd).1) h
def spDeed (CO CI : Addr) : Sp := fun xs H Q _ => ∃ (p l0 o l e d tl al mi hd : Addr) (g k : Nat) (m : List (Key × V)) (vs : List V) (ds : List PyData), xs = [.ref p, .ref o, .ref e, .ref tl, .int (g : Nat), .ref mi, .ref al] ∧ HandAt p l0 H ∧ EndSt CO CI p H o l e d tl mi hd g k m m vs ds ∧ H al = some (.lst (vs.take k)) ∧ [p, l0, o, l, e, d, tl, al, mi, hd].Nodup ∧ m.length ≤ 99 ∧
  ∀ (t l' : Addr) (g' k' : Nat) (m' : List (Key × V)) (vs' : List V) (ds' : List PyData) (H' : Hp), Fr [p, o, l, e, d, tl, al, mi, hd] H H' → KT H H' → (l' = l ∨ H l' = none) → HandAt p l0 H' → EndSt CO CI p H' o l' e d tl mi hd g' k' m' m' vs' ds' → H' al = some (.lst (vs'.take k')) → m'.length ≤ m.length + 1 → H' t = some (.tup [.bl true, .int (g' : Nat)]) → Q (.ref t) H'
section
variable {P : Program} {w : World} {K : PySem.W.Frag} {mg : Str → Option Value} {base : Heap}
local macro_rules | `(tactic| walk_at "rd") => `(tactic| (repeat (first
  | ((with_reducible refine' rd_var ?h0 ?_); (case h0 => rfl))
  | with_reducible refine rd_c ?_
  | with_reducible refine rd_op ?_
  | with_reducible refine rd_nil ?_
  | with_reducible refine rd_cons ?_
  | with_reducible refine rd_tup ?_
  | with_reducible refine rd_lst ?_
  | with_reducible refine rd_ifs ?_
  | with_reducible refine rd_seq ?_
  | with_reducible refine rd_next ?_
  | with_reducible refine rd_ret ?_
  | with_reducible refine rd_asg ?_
  | ((with_reducible refine' rd_gset ?hs ?_); (case hs => ((simp only [L2.start, List.map_cons, List.map_nil, List.length_cons, List.length_nil, List.cons_append, List.nil_append, List.set_cons_zero, List.set_cons_succ, Nat.reduceAdd, Nat.reduceSub, Nat.zero_add, List.reduceReplicate]); rfl)))
  | with_reducible refine rd_drop ?_
  | with_reducible refine rd_test ?_
  | with_reducible refine rd_B ?_
  | with_reducible refine rd_bl ?_
  | with_reducible refine rd_blP ?_
  | with_reducible refine rd_andV ?_
  | with_reducible refine rd_orV ?_
  | with_reducible refine rd_notV ?_
  | with_reducible refine rd_and ?_
  | with_reducible refine rd_or ?_
  | with_reducible refine rd_not ?_
  | with_reducible refine rd_chain ?_
  | with_reducible refine rd_dput ?_
  | with_reducible refine rd_dget ?_
  | with_reducible refine rd_cb ?_
  | with_reducible refine rd_call ?_
  | with_reducible refine rd_un ?_
  | with_reducible refine rd_sl ?_
  | with_reducible refine rd_nopart ?_
  | with_reducible refine rd_part ?_
  | with_reducible refine rd_intP ?_
  | with_reducible refine rd_rU ?_
  | with_reducible refine rd_fld ?_
  | with_reducible refine rd_eqI ?_
  | with_reducible refine rd_neI ?_
  | with_reducible refine rd_mko ?_
  | with_reducible refine rd_bm ?_
  | with_reducible refine rd_gsub ?_
  | with_reducible refine rd_i0 ?_)))
theorem ok_law_deed (T : Tx K mg) (B : Bk K mg T) : FnOk P w K mg base CX0 10 B.law_deed.f B.law_deed.fd ["hand", "out", "end", "things", "gone", "mind", "all_taken"] (spDeed T.c_Outgoing T.c_Incoming) := by
  have G_law_take := ok_law_take (P := P) (w := w) (base := base) T B
  have G_law_thing := ok_law_thing (P := P) (w := w) (base := base) T B
  have G_law_heard := ok_law_heard (P := P) (w := w) (base := base) T B
  have G_law_same := ok_law_same (P := P) (w := w) (base := base) T B 8
  have G_Outgoing_put := ok_put (P := P) (w := w) (base := base) T B
  have G_Outgoing_known := ok_known (P := P) (w := w) (base := base) T B
  have G_Incoming_take := ok_itake (P := P) (w := w) (base := base) T B
  refine B.law_deed.F.ok sc_law_deed (fun vs H Q E h => ?_) (fun cdv A outer s H vs Q E hr h => ?_)
  · obtain ⟨p, l0, o, l, e, d, tl, al, mi, hd, g, k, m, xs, ds, rfl, _⟩ := h
    rfl
  · obtain ⟨p, l0, o, l, e, d, tl, al, mi, hd, g, k, m, xs, ds, rfl, hh, ⟨ho, hi, htl, hmi, hhd, hds, hgd, hmok, hgk, hkl, hl30, hml, _⟩, hal, hnd, hm99, q⟩ := h
    have N : ∀ (i j : Nat) {a b : Addr}, [p, l0, o, l, e, d, tl, al, mi, hd][i]? = some a → [p, l0, o, l, e, d, tl, al, mi, hd][j]? = some b → i ≠ j → a ≠ b := fun i j a b => nd_ne hnd
    refine ⟨_, (pss_cons (ps_set (i := 7) sc_law_deed.nd rfl (Or.inl rfl) (pe_call G_law_take (hr.mono (by decide)) rfl B.law_take.m B.law_take.F.kp B.law_take.b .nil pass0 (pa_cons (pv 0) (pa_cons pe_int pa_nil))))
      (pss_cons (ps_if (PW.pt (pw_and (pt_cmpR op_lt (pv 7) pe_int (nomark _)) (pw_and1 (pt_cmpR op_lt (pe_callB call_len_seq (by rfl) T.b_len (by decide +kernel) (pa_cons (pv 3) pa_nil)) pe_int (nomark _))))) (pss_cons (ps_expr (pe_bm PySem.F.plainAttrs_list PySem.F.slot_list_append PySem.F.type_list_append mt_append (pv 3) (pa_cons (pe_call G_law_thing (hr.mono (by decide)) rfl B.law_thing.m B.law_thing.F.kp B.law_thing.b .nil pass0 (pa_cons (pv 0) pa_nil)) pa_nil)))
      (pss_one (ps_ret (pe_tup (pa_cons (pe_call G_law_same (hr.mono (by decide)) rfl B.law_same.m B.law_same.F.kp B.law_same.b .nil pass0 (pa_cons (pe_meth (pv 1) T.W_Outgoing.cl ⟨B.Outgoing_put.a, B.Outgoing_put.i, B.Outgoing_put.F.kp⟩ G_Outgoing_put (hr.mono (by decide)) B.Outgoing_put.b .nil pass0 (pa_cons (pe_ix ix_list (pv 3) (pe_un un_neg pe_int) (fun _ _ => rfl)) pa_nil)) (pa_cons (pe_op op_sub (pe_callB call_len_seq (by rfl) T.b_len (by decide +kernel) (pa_cons (pv 3) pa_nil)) pe_int) pa_nil))) (pa_cons (pv 4) pa_nil)))))) pss_nil)
      (pss_cons (ps_if (PW.pt (pw_and (pt_cmpR op_lt (pv 7) pe_int (nomark _)) (pw_and1 (pt_cmpR op_gt (pe_callB call_len_seq (by rfl) T.b_len (by decide +kernel) (pa_cons (pv 3) pa_nil)) pe_int (nomark _))))) (pss_cons (ps_set (i := 8) sc_law_deed.nd rfl (Or.inl rfl) (pe_call G_law_take (hr.mono (by decide)) rfl B.law_take.m B.law_take.F.kp B.law_take.b .nil pass0 (pa_cons (pv 0) (pa_cons (pe_callB call_len_seq (by rfl) T.b_len (by decide +kernel) (pa_cons (pv 3) pa_nil)) pa_nil))))
      (pss_cons (ps_set (i := 9) sc_law_deed.nd rfl (Or.inl rfl) (pe_meth (pv 2) T.W_Incoming.cl ⟨B.Incoming_take.a, B.Incoming_take.i, B.Incoming_take.F.kp⟩ G_Incoming_take (hr.mono (by decide)) B.Incoming_take.b .nil passL (pa_cons (pv 8) (pa_cons (pe_ix ix_list (pv 3) (pv 8) (fun _ _ => rfl)) pa_nil))))
      (pss_cons (ps_set (i := 10) sc_law_deed.nd rfl (Or.inl rfl) (pe_call G_law_heard (hr.mono (by decide)) rfl B.law_heard.m B.law_heard.F.kp B.law_heard.b .nil pass0 (pa_cons (pv 5) (pa_cons (pv 8) (pa_cons (pe_ix ix_list (pv 3) (pv 8) (fun _ _ => rfl)) pa_nil)))))
      (pss_cons (ps_expr (pe_bm PySem.F.plainAttrs_list PySem.F.slot_list_extend PySem.F.type_list_extend mt_extend (pv 6) (pa_cons (pv 10) pa_nil)))
      (pss_one (ps_ret (pe_tup (pa_cons (pe_call G_law_same (hr.mono (by decide)) rfl B.law_same.m B.law_same.F.kp B.law_same.b .nil pass0 (pa_cons (pv 9) (pa_cons (pv 10) pa_nil))) (pa_cons (pv 4) pa_nil))))))))) pss_nil)
      (pss_cons (ps_set (i := 8) sc_law_deed.nd rfl (Or.inl rfl) (pe_call G_law_take (hr.mono (by decide)) rfl B.law_take.m B.law_take.F.kp B.law_take.b .nil pass0 (pa_cons (pv 0) (pa_cons (pe_op op_add (pe_dget (hu_of hr) (pv 5) pe_str (fun _ _ => rfl)) pe_int) pa_nil))))
      (pss_cons (ps_set (i := 10) sc_law_deed.nd rfl (Or.inl rfl) (pe_callB (call_max2 rfl) (by rfl) T.b_max (by decide +kernel) (pa_cons pe_int (pa_cons (pe_op op_sub (pv 8) (pv 4)) pa_nil))))
      (pss_one (ps_ret (pe_tup (pa_cons (pe_call G_law_same (hr.mono (by decide)) rfl B.law_same.m B.law_same.F.kp B.law_same.b .nil pass0 (pa_cons (pe_meth (pv 1) T.W_Outgoing.cl ⟨B.Outgoing_known.a, B.Outgoing_known.i, B.Outgoing_known.F.kp⟩ G_Outgoing_known (hr.mono (by decide)) B.Outgoing_known.b .nil passL (pa_cons (pv 8) pa_nil)) (pa_cons (pv 10) pa_nil))) (pa_cons (pe_callB (call_max2 rfl) (by rfl) T.b_max (by decide +kernel) (pa_cons (pv 4) (pa_cons (pv 8) pa_nil))) pa_nil)))))))))), ?_⟩
    have hlen := hds.len
    have hdl : (xs.drop g).length = xs.length - g := List.length_drop
    obtain ⟨⟨dx, ha⟩, hl⟩ := id ho
    obtain ⟨⟨dy, he⟩, hd1⟩ := id hi
    walk_at "rd"
    refine ⟨p, l0, _, rfl, by decide, by decide, hh, fun r H1 r0 r1 hh1 k1 => ?_⟩
    walk_at "rd"
    have htl1 := k1 _ _ (N 6 0 rfl rfl (by decide)) htl
    refine rd_and2 (b := decide ((xs.length : Int) < 30)) (fun h => ?_) ?_
    · walk_at "rd"
      refine ⟨tl, _, rfl, .inl (SqL.of htl1), ?_⟩
      walk_at "rd"
      exact h
    refine rd_ite (fun h1 => ?_) (fun h1 => ?_)
    · have h30 : xs.length < 30 := by
        simp only [Bool.and_eq_true, decide_eq_true_eq] at h1
        omega
      walk_at "rd"
      refine ⟨.inl ⟨rfl, _, SqL.of htl1⟩, ?_⟩
      walk_at "rd"
      refine ⟨p, l0, rfl, hh1, fun ds1 y H2 gd2 td2 hh2 k2 => ?_⟩
      walk_at "rd"
      have htl2 := k2 _ _ (N 6 0 rfl rfl (by decide)) htl1
      refine rd_append htl2 (small1000 (by omega)) ?_
      walk_at "rd"
      have K2 : Keep p H H2 := k1.trans k2
      have fA : Fr [p, tl] H (upd H2 tl (.lst (xs ++ [y]))) := (K2.fr.more (by simp)).trans (Fr.mut.more (by simp))
      have kA : KT H2 (upd H2 tl (.lst (xs ++ [y]))) := KT.fr Fr.mut (fun b hb ys z => by
        rw [show b = tl by simpa using hb, htl2] at z
        cases z)
      have hoA := ho.fr fA (by simp [N 2 0 rfl rfl (by decide), N 2 6 rfl rfl (by decide)]) (by simp [N 3 0 rfl rfl (by decide), N 3 6 rfl rfl (by decide)])
      have hhA : HandAt p l0 (upd H2 tl (.lst (xs ++ [y]))) := hh2.put (N 6 0 rfl rfl (by decide)) (N 6 1 rfl rfl (by decide))
      obtain ⟨⟨dxA, haA⟩, hlA⟩ := id hoA
      refine rd_meth ?_
      walk_at "rd"
      refine ⟨o, dxA, _, rfl, haA, rfl, ?_⟩
      walk_at "rd"
      refine rd_ixL upd_same (atI_last _ _) ?_
      walk_at "rd"
      refine ⟨o, l, g, _, y, rfl, hoA, by omega, fun H4 f4 ho4 => ?_⟩
      walk_at "rd"
      have htl4 : H4 tl = some (.lst (xs ++ [y])) := f4.one (N 6 3 rfl rfl (by decide)) upd_same
      refine ⟨tl, _, rfl, .inl (SqL.of htl4), ?_⟩
      walk_at "rd"
      rw [show (g : Int) + ((xs.drop g).length : Nat) = (xs.length : Nat) by omega, show (((xs ++ [y]).length : Nat) : Int) - 1 = (xs.length : Nat) by rw [List.length_append]; simp]
      refine ⟨p, .int (xs.length : Nat), _, _, rfl, rfl, (by show 0 < 8; decide), tp_int, tp_int, fun H5 s5 => ?_⟩
      walk_at "rd"
      refine rd_disp rfl fun t nt => ?_
      have s6 := same_new (o := .tup [.bl true, .int (g : Nat)]) nt
      have s46 := s5.trans s6
      have fB : Fr [p, tl, l] H _ := ((fA.more (by simp)).trans (f4.more (by simp))).trans (Fr.same s46)
      have k4 : KT (upd H2 tl (.lst (xs ++ [y]))) H4 := KT.fr f4 (fun b hb ys z => by
        rw [show b = l by simpa using hb, hlA] at z
        cases z)
      have kT : KT H _ := ((KT.keep hh K2).trans (kA.trans k4)).trans (KT.same s46)
      have kY : KT H2 _ := (kA.trans k4).trans (KT.same s46)
      walk_at "rd"
      refine q t l g k m (xs ++ [y]) (ds ++ [.tuple ds1]) _ (fB.more (by simp)) kT (.inl rfl) ((hhA.fr f4 (by simp [N 0 3 rfl rfl (by decide)]) (by simp [N 1 3 rfl rfl (by decide)])).keep s46) ⟨?_, ?_, ?_, ?_, ?_, ?_, ?_, ?_, hgk, ?_, ?_, hml, fun ns h => ⟨ns, h, .refl ns⟩⟩ ?_ (by omega) ?_
      · rw [List.drop_append_of_le_length (by omega)]
        exact ho4.same s46
      · exact hi.fr fB (by simp [N 4 0 rfl rfl (by decide), N 4 6 rfl rfl (by decide), N 4 3 rfl rfl (by decide)]) (by simp [N 5 0 rfl rfl (by decide), N 5 6 rfl rfl (by decide), N 5 3 rfl rfl (by decide)])
      · exact s46 _ _ htl4
      · exact fB _ _ (by simp [N 8 0 rfl rfl (by decide), N 8 6 rfl rfl (by decide), N 8 3 rfl rfl (by decide)]) hmi
      · exact fB _ _ (by simp [N 9 0 rfl rfl (by decide), N 9 6 rfl rfl (by decide), N 9 3 rfl rfl (by decide)]) hhd
      · exact (tp_kt kT hgd hds).append (tp_kt kY (n := 4) (s := 46) (by intro x hx; rw [show x = .tuple ds1 by simpa using hx]; exact gd2) (tpAll_cons td2 tpAll_nil))
      · intro x hx
        rcases List.mem_append.mp hx with z | z
        · exact hgd x z
        · rw [show x = .tuple ds1 by simpa using z]
          exact gd2
      · exact ⟨hmok.1.more, hmok.2⟩
      · rw [List.length_append]
        omega
      · rw [List.length_append]
        simp
        omega
      · rw [List.take_append_of_le_length (by omega)]
        exact fB _ _ (by simp [N 7 0 rfl rfl (by decide), N 7 6 rfl rfl (by decide), N 7 3 rfl rfl (by decide)]) hal
      · exact upd_same
    · walk_at "rd"
      refine rd_and2 (b := decide ((0 : Int) < xs.length)) (fun h => ?_) ?_
      · walk_at "rd"
        refine ⟨tl, _, rfl, .inl (SqL.of htl1), ?_⟩
        walk_at "rd"
        exact h
      refine rd_ite (fun h2 => ?_) (fun h2 => ?_)
      · have h0 : 0 < xs.length := by
          simp only [Bool.and_eq_true, decide_eq_true_eq] at h2
          omega
        walk_at "rd"
        refine ⟨tl, _, rfl, .inl (SqL.of htl1), ?_⟩
        walk_at "rd"
        refine ⟨p, l0, _, rfl, by omega, by omega, hh1, fun n H2 n0 n1 hh2 k2 => ?_⟩
        obtain ⟨n, rfl⟩ : ∃ n' : Nat, n = n' := ⟨n.toNat, by omega⟩
        have K2 : Keep p H H2 := k1.trans k2
        have htl2 := k2 _ _ (N 6 0 rfl rfl (by decide)) htl1
        obtain ⟨y, hy⟩ : ∃ y, xs[n]? = some y := ⟨_, List.getElem?_eq_getElem (by omega)⟩
        have hi2 := hi.fr K2.fr (by simp [N 4 0 rfl rfl (by decide)]) (by simp [N 5 0 rfl rfl (by decide)])
        obtain ⟨⟨dy2, he2⟩, hd2⟩ := id hi2
        walk_at "rd"
        refine rd_meth ?_
        walk_at "rd"
        refine ⟨e, dy2, _, rfl, he2, rfl, ?_⟩
        walk_at "rd"
        refine rd_ixL htl2 (atI_nat hy) ?_
        walk_at "rd"
        refine ⟨e, d, k, m, n, y, rfl, hi2, by omega, by omega, by omega, fun L3 H3 f3 nL3 hi3 hL3 => ?_⟩
        obtain ⟨c, b1, b2, b3, b4, _⟩ := drain_ok xs _ k _ rfl hkl (hear_ok hmok.1 hy)
        have hdl4 := drain_len _ (k : Int) (hear k n y m) rfl
        have hhl := hear_len (k := (k : Int)) (n := (n : Int)) (y := y) (m := m)
        have F3 : Fr [p, e, d] H H3 := (K2.fr.more (by simp)).trans (f3.more (by simp))
        have htl3 := F3 _ _ (by simp [N 6 0 rfl rfl (by decide), N 6 4 rfl rfl (by decide), N 6 5 rfl rfl (by decide)]) htl
        have hmi3 := F3 _ _ (by simp [N 8 0 rfl rfl (by decide), N 8 4 rfl rfl (by decide), N 8 5 rfl rfl (by decide)]) hmi
        have hhd3 := F3 _ _ (by simp [N 9 0 rfl rfl (by decide), N 9 4 rfl rfl (by decide), N 9 5 rfl rfl (by decide)]) hhd
        have hal3 := F3 _ _ (by simp [N 7 0 rfl rfl (by decide), N 7 4 rfl rfl (by decide), N 7 5 rfl rfl (by decide)]) hal
        walk_at "rd"
        refine rd_ixL htl3 (atI_nat hy) ?_
        walk_at "rd"
        refine ⟨mi, hd, k, n, m, y, rfl, hmi3, hhd3, N 8 9 rfl rfl (by decide), by omega, fun L4 H4 f4 nL4 hmi4 hhd4 hL4 => ?_⟩
        rw [b1] at hmi4 hi3
        rw [b2] at hL3 hL4
        generalize (drain (k : Int) (hear k n y m)).2.1 = m4 at *
        have ne3 : ∀ b u, H2 b = some u → L3 ≠ b := fun b u z => (ne_of_none z nL3).symm
        have ne4 : ∀ b u, H3 b = some u → L4 ≠ b := fun b u z => (ne_of_none z nL4).symm
        have hal4 := f4.two (N 7 8 rfl rfl (by decide)) (N 7 9 rfl rfl (by decide)) hal3
        have hL34 : H4 L3 = some (.lst ((xs.drop k).take c)) := f4.two (ne_of hL3 hmi3 (by intro z; cases z)) (ne_of hL3 hhd3 (by intro z; cases z)) hL3
        have hcl : ((xs.drop k).take c).length ≤ 30 := Nat.le_trans (List.length_take_le' _ _) (by rw [List.length_drop]; omega)
        have htk : (xs.take k).length ≤ 30 := Nat.le_trans (List.length_take_le' _ _) (by omega)
        walk_at "rd"
        refine ⟨.inl ⟨rfl, _, SqL.of hal4⟩, ?_⟩
        walk_at "rd"
        refine ⟨al, L4, _, _, rfl, rfl, hal4, hL4, Nat.le_trans (show _ ≤ 1000 by omega) (by decide), ?_⟩
        walk_at "rd"
        have nL4a : L4 ≠ al := ne4 _ _ hal3
        have nL3a : L3 ≠ al := (ne_of_none (k2 _ _ (N 7 0 rfl rfl (by decide)) (k1 _ _ (N 7 0 rfl rfl (by decide)) hal)) nL3).symm
        have hh3 := hh2.fr f3 (by simp [N 0 4 rfl rfl (by decide), N 0 5 rfl rfl (by decide)]) (by simp [N 1 4 rfl rfl (by decide), N 1 5 rfl rfl (by decide)])
        have hh4 := hh3.fr f4 (by simp [N 0 8 rfl rfl (by decide), N 0 9 rfl rfl (by decide)]) (by simp [N 1 8 rfl rfl (by decide), N 1 9 rfl rfl (by decide)])
        have hh5 : HandAt p l0 (upd H4 al (.lst (xs.take k ++ (xs.drop k).take c))) := hh4.put (N 7 0 rfl rfl (by decide)) (N 7 1 rfl rfl (by decide))
        have F5 : Fr [p, e, d, mi, hd, al] H (upd H4 al (.lst (xs.take k ++ (xs.drop k).take c))) := ((F3.more (by simp)).trans (f4.more (by simp))).trans (Fr.mut.more (by simp))
        have kin : ∀ b ∈ [p, e, d, mi, hd, al], ∀ ys, H b ≠ some (.tup ys) := fun b hb ys z => by
          simp only [List.mem_cons, List.not_mem_nil, or_false] at hb
          rcases hb with rfl | rfl | rfl | rfl | rfl | rfl
          · exact hh.no _ z
          · rw [he] at z
            cases z
          · rw [hd1] at z
            cases z
          · rw [hmi] at z
            cases z
          · rw [hhd] at z
            cases z
          · rw [hal] at z
            cases z
        have k5 : KT H (upd H4 al (.lst (xs.take k ++ (xs.drop k).take c))) := KT.fr F5 kin
        have w5 : TpAll T.c_Outgoing p (upd H4 al (.lst (xs.take k ++ (xs.drop k).take c))) ((ds.drop k).take c) ((xs.drop k).take c) := ((tp_kt k5 hgd hds).drop k).take c
        have t1 : Tp T.c_Outgoing p (upd H4 al (.lst (xs.take k ++ (xs.drop k).take c))) (.list ((ds.drop k).take c)) (.ref L3) := tp_lst ⟨hh2.ne nL3, (upd_ne nL3a).trans hL34⟩ w5
        have t2 : Tp T.c_Outgoing p (upd H4 al (.lst (xs.take k ++ (xs.drop k).take c))) (.list ((ds.drop k).take c)) (.ref L4) := tp_lst ⟨hh3.ne nL4, (upd_ne nL4a).trans hL4⟩ w5
        have gsub : ∀ x ∈ (ds.drop k).take c, Gd 4 46 x := fun x hx => hgd x (List.mem_of_mem_drop (List.mem_of_mem_take hx))
        refine ⟨p, _, _, _, rfl, ?_, ?_, t1, t2, fun H6 s6 => ?_⟩
        · show noDictAll _ = true
          exact plain_noAll _ (plainAll_of fun x hx => (gsub x hx).1)
        · show PyData.depthAll _ + 1 < 8
          have := depthAll_le fun x hx => (gsub x hx).2.1
          omega
        walk_at "rd"
        refine rd_disp rfl fun t nt => ?_
        have s7 := same_new (o := .tup [.bl true, .int (g : Nat)]) nt
        have s67 := s6.trans s7
        have F7 := F5.trans (Fr.same s67)
        walk_at "rd"
        refine q t l g (k + c) m4 xs ds _ (F7.more (by simp)) (k5.trans (KT.same s67)) (.inl rfl) (hh5.keep s67) ⟨?_, ?_, ?_, ?_, ?_, ?_, hgd, b4, by omega, b3, hl30, by omega, fun ns h => ⟨ns, h, .refl ns⟩⟩ ?_ (by omega) upd_same
        · exact ho.fr F7 (by simp [N 2 0 rfl rfl (by decide), N 2 4 rfl rfl (by decide), N 2 5 rfl rfl (by decide), N 2 8 rfl rfl (by decide), N 2 9 rfl rfl (by decide), N 2 7 rfl rfl (by decide)]) (by simp [N 3 0 rfl rfl (by decide), N 3 4 rfl rfl (by decide), N 3 5 rfl rfl (by decide), N 3 8 rfl rfl (by decide), N 3 9 rfl rfl (by decide), N 3 7 rfl rfl (by decide)])
        · have i4 := hi3.fr f4 (by simp [N 4 8 rfl rfl (by decide), N 4 9 rfl rfl (by decide)]) (by simp [N 5 8 rfl rfl (by decide), N 5 9 rfl rfl (by decide)])
          exact (i4.fr (Fr.mut (o := .lst (xs.take k ++ (xs.drop k).take c))) (by simp [N 4 7 rfl rfl (by decide)]) (by simp [N 5 7 rfl rfl (by decide)])).same s67
        · exact F7 _ _ (by simp [N 6 0 rfl rfl (by decide), N 6 4 rfl rfl (by decide), N 6 5 rfl rfl (by decide), N 6 8 rfl rfl (by decide), N 6 9 rfl rfl (by decide), N 6 7 rfl rfl (by decide)]) htl
        · exact s67 _ _ ((upd_ne (N 8 7 rfl rfl (by decide))).trans hmi4)
        · exact s67 _ _ ((upd_ne (N 9 7 rfl rfl (by decide))).trans hhd4)
        · exact tp_kt (k5.trans (KT.same s67)) hgd hds
        · rw [List.take_add]
          exact s67 _ _ upd_same
      · walk_at "rd"
        have hmi1 := k1 _ _ (N 8 0 rfl rfl (by decide)) hmi
        refine ⟨mi, _, rfl, DGet.k (k := .inr "taken") hmi1, ?_⟩
        walk_at "rd"
        refine ⟨p, l0, _, rfl, by omega, by omega, hh1, fun n H2 n0 n1 hh2 k2 => ?_⟩
        have K2 : Keep p H H2 := k1.trans k2
        walk_at "rd"
        refine ⟨_, _, rfl, ?_⟩
        have ho2 := ho.fr K2.fr (by simp [N 2 0 rfl rfl (by decide)]) (by simp [N 3 0 rfl rfl (by decide)])
        obtain ⟨⟨dx2, ha2⟩, hl2⟩ := id ho2
        walk_at "rd"
        refine rd_meth ?_
        walk_at "rd"
        refine ⟨o, dx2, _, rfl, ha2, rfl, ?_⟩
        walk_at "rd"
        refine ⟨o, l, g, _, n, rfl, ho2, by omega, by omega, by omega, fun l3 u H3 hu f3 nl3 ho3 => ?_⟩
        have hu2 : (if n - (g : Int) > 0 then n - (g : Int) else 0) = (u : Int) := hu.symm
        walk_at "rd"
        rw [hu2]
        refine ⟨p, .int (u : Nat), _, _, rfl, rfl, (by show 0 < 8; decide), tp_int, tp_int, fun H4 s4 => ?_⟩
        walk_at "rd"
        refine ⟨_, _, rfl, ?_⟩
        walk_at "rd"
        have hgu : (if n > (g : Int) then n else (g : Int)) = ((g + u : Nat) : Int) := by
          by_cases z : 0 < n - (g : Int)
          · rw [if_pos z] at hu
            rw [if_pos (by omega)]
            omega
          · rw [if_neg z] at hu
            rw [if_neg (by omega)]
            omega
        have hguk : g + u ≤ k := by
          by_cases z : 0 < n - (g : Int)
          · rw [if_pos z] at hu
            omega
          · rw [if_neg z] at hu
            omega
        rw [hgu]
        refine rd_disp rfl fun t nt => ?_
        have s5 := same_new (o := .tup [.bl true, .int ((g + u : Nat) : Int)]) nt
        have s45 := s4.trans s5
        walk_at "rd"
        have F : Fr [p, o] H _ := ((K2.fr.more (by simp)).trans (f3.more (by simp))).trans (Fr.same s45)
        have kT : KT H _ := ((KT.keep hh K2).trans (KT.fr f3 (fun b hb ys z => by
          rw [show b = o by simpa using hb, ha2] at z
          cases z))).trans (KT.same s45)
        rw [List.drop_drop] at ho3
        refine q t l3 (g + u) k m xs ds _ (F.more (by simp)) kT (.inr ((K2.fr).free nl3 ?_)) ((hh2.fr f3 (by simp [N 0 2 rfl rfl (by decide)]) (by simp [N 1 2 rfl rfl (by decide)])).keep s45) ⟨?_, ?_, ?_, ?_, ?_, tp_kt kT hgd hds, hgd, hmok, hguk, hkl, hl30, hml, fun ns h => ⟨ns, h, .refl ns⟩⟩ ?_ (by omega) upd_same
        · obtain ⟨u1, hu1⟩ := hh2.there
          simpa using (ne_of_none hu1 nl3).symm
        · exact ho3.same s45
        · exact hi.fr F (by simp [N 4 0 rfl rfl (by decide), N 4 2 rfl rfl (by decide)]) (by simp [N 5 0 rfl rfl (by decide), N 5 2 rfl rfl (by decide)])
        · exact F _ _ (by simp [N 6 0 rfl rfl (by decide), N 6 2 rfl rfl (by decide)]) htl
        · exact F _ _ (by simp [N 8 0 rfl rfl (by decide), N 8 2 rfl rfl (by decide)]) hmi
        · exact F _ _ (by simp [N 9 0 rfl rfl (by decide), N 9 2 rfl rfl (by decide)]) hhd
        · exact F _ _ (by simp [N 7 0 rfl rfl (by decide), N 7 2 rfl rfl (by decide)]) hal
end
end Mw

/-! D5 -/
namespace Mw
open PySem L2
theorem EndSt.fr {CO CI p : Addr} {H H' : Hp} {o l e d tl mi hd : Addr} {g k : Nat} {m mm : List (Key × V)} {vs : List V} {ds : List PyData} {M : List Addr} (h : EndSt CO CI p H o l e d tl mi hd g k m mm vs ds) (f : Fr M H H') (kt : KT H H')
    (n : ∀ b ∈ [o, l, e, d, tl, mi, hd], b ∉ M) : EndSt CO CI p H' o l e d tl mi hd g k m mm vs ds := by
  obtain ⟨a1, a2, a3, a4, a5, a6, a7, a8⟩ := h
  exact ⟨a1.fr f (n _ (by simp)) (n _ (by simp)), a2.fr f (n _ (by simp)) (n _ (by simp)), f _ _ (n _ (by simp)) a3, f _ _ (n _ (by simp)) a4, f _ _ (n _ (by simp)) a5, tp_kt kt a7 a6, a7, a8⟩
theorem EndSt.same {CO CI p : Addr} {H H' : Hp} {o l e d tl mi hd : Addr} {g k : Nat} {m mm : List (Key × V)} {vs : List V} {ds : List PyData} (h : EndSt CO CI p H o l e d tl mi hd g k m mm vs ds) (s : Same H H') : EndSt CO CI p H' o l e d tl mi hd g k m mm vs ds :=
  h.fr (M := []) (Fr.same s) (KT.same s) (fun b _ => by simp)
theorem EndSt.ex {CO CI p : Addr} {H : Hp} {o l e d tl mi hd : Addr} {g k : Nat} {m mm : List (Key × V)} {vs : List V} {ds : List PyData} (h : EndSt CO CI p H o l e d tl mi hd g k m mm vs ds) : ∀ b ∈ [o, l, e, d, tl, mi, hd], ∃ u, H b = some u := by
  obtain ⟨⟨⟨_, a1⟩, a2⟩, ⟨⟨_, a3⟩, a4⟩, a5, a6, a7, _⟩ := h
  intro b hb
  simp only [List.mem_cons, List.not_mem_nil, or_false] at hb
  rcases hb with rfl | rfl | rfl | rfl | rfl | rfl | rfl
  · exact ⟨_, a1⟩
  · exact ⟨_, a2⟩
  · exact ⟨_, a3⟩
  · exact ⟨_, a4⟩
  · exact ⟨_, a5⟩
  · exact ⟨_, a6⟩
  · exact ⟨_, a7⟩
section
variable {C p : Addr} {H : Hp} {K : PySem.W.Frag}
mutual
theorem tp_dp : ∀ (d : PyData) (v : V), plainD d = true → Tp C p H d v → Dp K H v d
  | .none, v, _, h => by
    simp only [Tp] at h
    subst h
    exact .non
  | .bool b, v, _, h => by
    simp only [Tp] at h
    subst h
    exact .bl b
  | .int i, v, _, h => by
    simp only [Tp] at h
    subst h
    exact .int i
  | .str s, v, _, h => by
    simp only [Tp] at h
    subst h
    exact .str s
  | .list ds, v, c, _ => by simp only [plainD] at c; cases c
  | .dict _, v, c, _ => by simp only [plainD] at c; cases c
  | .tuple ds, v, c, h => by
    simp only [Tp] at h
    obtain ⟨a, xs, rfl, n, ha, r⟩ := h
    exact .tup (SqT.of ha) (tp_dpAll ds xs (by simpa only [plainD] using c) r)
theorem tp_dpAll : ∀ (ds : List PyData) (xs : List V), plainAll ds = true → TpAll C p H ds xs → DpAll K H xs ds
  | [], xs, _, h => by
    simp only [TpAll] at h
    subst h
    exact .nil
  | d :: ds, xs, c, h => by
    simp only [TpAll] at h
    simp only [plainAll, Bool.and_eq_true] at c
    obtain ⟨x, r, rfl, h1, h2⟩ := h
    exact .cons (tp_dp d x c.1 h1) (tp_dpAll ds r c.2 h2)
end
end
theorem shaped_of {ds : List PyData} {n s : Nat} (h : ∀ x ∈ ds, Gd n s x) (hn : n ≤ 60) : SeqAt.shaped (.list ds) = true := by
  show (PyData.canLayAll0 ds && decide ((PyData.list ds).depth ≤ 64)) = true
  rw [lay_all fun x hx => (h x hx).2.2.2, Bool.true_and]
  have : (PyData.list ds).depth = PyData.depthAll ds + 1 := rfl
  have h2 := depthAll_le fun x hx => (h x hx).2.1
  exact decide_eq_true (by omega)
theorem eqv_list {ds : List PyData} {n s : Nat} (h : ∀ x ∈ ds, Gd n s x) : PyData.eqv (.list ds) (.list ds) = true := SeqAt.eqv_refl _ (lay_all fun x hx => (h x hx).2.2.2)
theorem nd_set {x : Addr} : ∀ {L : List Addr} {i : Nat}, L.Nodup → x ∉ L → (L.set i x).Nodup
  | [], _, _, _ => List.nodup_nil
  | a :: L, 0, h, n => by
    obtain ⟨_, h2⟩ := List.nodup_cons.mp h
    exact List.nodup_cons.mpr ⟨fun z => n (List.mem_cons_of_mem _ z), h2⟩
  | a :: L, i + 1, h, n => by
    obtain ⟨h1, h2⟩ := List.nodup_cons.mp h
    refine List.nodup_cons.mpr ⟨fun z => ?_, nd_set h2 fun z => n (List.mem_cons_of_mem _ z)⟩
    rcases List.mem_or_eq_of_mem_set z with w | w
    · exact h1 w
    · exact n (by rw [← w]; exact List.mem_cons_self)
/-- all different, all there -/
def Gr (L : List Addr) (H : Hp) : Prop := L.Nodup ∧ ∀ b ∈ L, ∃ u, H b = some u
theorem Gr.snoc {L : List Addr} {H H' : Hp} {x : Addr} (g : Gr L H) (s : Same H H') (n : H x = none) (e : ∃ u, H' x = some u) : Gr (L ++ [x]) H' := by
  obtain ⟨h1, h2⟩ := g
  refine ⟨?_, fun b hb => ?_⟩
  · rw [List.nodup_append]
    refine ⟨h1, by simp, fun a ha b hb => ?_⟩
    rw [show b = x by simpa using hb]
    obtain ⟨u, hu⟩ := h2 a ha
    exact ne_of_none hu n
  · rcases List.mem_append.mp hb with z | z
    · obtain ⟨u, hu⟩ := h2 b z
      exact ⟨u, s _ _ hu⟩
    · rw [show b = x by simpa using z]
      exact e
theorem Gr.same {L : List Addr} {H H' : Hp} (g : Gr L H) (s : Same H H') : Gr L H' := ⟨g.1, fun b hb => by
  obtain ⟨u, hu⟩ := g.2 b hb
  exact ⟨u, s _ _ hu⟩⟩
/-- what an __init__ leaves, where a new object is made -/
theorem made_same {H H1 : Hp} {x dx : Addr} {C : Addr} (nx : H x = none) (ndx : H dx = none) (f : Fr [x] (upd (upd H dx (.own x)) x (.ins C dx [])) H1) : Same H H1 := fun b o e => f b o (by simpa using ne_of_none e nx) (by rw [upd_ne (ne_of_none e nx), upd_ne (ne_of_none e ndx)]; exact e)
theorem made_free {H : Hp} {x dx l : Addr} {o1 o2 : HO} (n : (upd (upd H dx o1) x o2) l = none) : H l = none := by
  have n1 : l ≠ x := fun z => by
    rw [z, upd_same] at n
    cases n
  rw [upd_ne n1] at n
  have n2 : l ≠ dx := fun z => by
    rw [z, upd_same] at n
    cases n
  rwa [upd_ne n2] at n
theorem map_inl : ∀ {a b : List Int}, a.map (Sum.inl : Int → Key) = b.map Sum.inl → a = b
  | [], [], _ => rfl
  | [], y :: b, h => by cases h
  | x :: a, [], h => by cases h
  | x :: a, y :: b, h => by
    simp only [List.map_cons, List.cons.injEq, Sum.inl.injEq] at h
    rw [h.1, map_inl h.2]
/-- a copy holds the same things -/
theorem copy_val {m : List (Key × V)} : ∀ {ps : List (Int × V)}, (∀ x ∈ ps, valV m (.inl x.1) = some x.2) → ∀ n : Int, n ∈ ps.map (·.1) → valV (ps.map fun x => ((.inl x.1 : Key), x.2)) (.inl n) = valV m (.inl n)
  | [], _, n, h => by cases h
  | x :: ps, hv, n, h => by
    rw [List.map_cons]
    by_cases c : x.1 = n
    · rw [valV_pos (by show (Sum.inl x.1 : Key) = .inl n; rw [c]), ← c, hv x (by simp)]
    · rw [valV_neg (by intro z; exact c (Sum.inl.inj z))]
      refine copy_val (fun y hy => hv y (List.mem_cons_of_mem _ hy)) n ?_
      rw [List.map_cons] at h
      rcases List.mem_cons.mp h with z | z
      · exact absurd z.symm c
      · exact z
theorem copy_ok {k : Nat} {m : List (Key × V)} {vs : List V} {ns : List Int} {ps : List (Int × V)} (h : MOk k m vs) (e : m.map (·.1) = ns.map Sum.inl) (hp : (ps.map (·.1)).Perm ns) (hv : ∀ x ∈ ps, valV m (.inl x.1) = some x.2) : MOk k (ps.map fun x => ((.inl x.1 : Key), x.2)) vs := by
  obtain ⟨⟨ns1, e1, nd, hb⟩, hn⟩ := h
  have e2 : ns1 = ns := map_inl (e1.symm.trans e)
  subst e2
  refine ⟨⟨ps.map (·.1), by rw [List.map_map, List.map_map]; rfl, hp.nodup_iff.mpr nd, fun n hn2 => ?_⟩, ?_⟩
  · obtain ⟨a1, a2, a3⟩ := hb n (hp.mem_iff.mp hn2)
    exact ⟨a1, a2, by rw [copy_val hv n hn2, a3]⟩
  · cases z : valV (ps.map fun x => ((.inl x.1 : Key), x.2)) (.inl (k : Int)) with
    | none => rfl
    | some v =>
      have hk : (k : Int) ∈ ps.map (·.1) := val_mem (m := ps.map fun x => ((.inl x.1 : Key), x.2)) (by rw [List.map_map, List.map_map]; rfl) (by rw [z]; rfl)
      rw [copy_val hv _ hk, hn] at z
      cases z
end Mw

/-! E3 -/
namespace Mw
open PySem L2
theorem rd_callS {sp : Sp} {E : L2.St → XK} {t : TA} {σ : L2.St} {H : Hp} {Q : VK} (h : t σ H fun vs H1 => sp vs H1 Q (E σ)) : tCallS sp E t σ H Q := h
def spOutTop (C : Addr) : Sp := fun vs H Q _ => ∃ p g ds x, vs = [x] ∧ Tp C p H (.tuple [.int g, .tuple ds]) x ∧ Q (.int (g + (ds.length : Nat))) H
def spInTop (C : Addr) : Sp := fun vs H Q _ => ∃ p k pds x, vs = [x] ∧ Tp C p H (.tuple [.int k, .tuple pds]) x ∧ (∀ d ∈ pds, ∃ n t, d = .tuple [.int n, t]) ∧ pds.length ≤ 900 ∧ ∀ (m : Int) H', Same H H' → Q (.int m) H'
def outR (b : Bool) (d : PyData) : PyData := if isOut d = true then .tuple [.str "told", if b = true then d else .none] else .tuple [.str "NoState"]
def inR (b : Bool) (d : PyData) : PyData := if isIn d = true then .tuple [.str "told", if b = true then d else .none] else .tuple [.str "NoState"]
def spOutTold (C : Addr) : Sp := fun vs H Q _ => ∃ p l0 d x b, vs = [x, .bl b] ∧ HandAt p l0 H ∧ Tp C p H d x ∧ sz d ≤ 900 ∧ ∀ v H', Tp C p H' (outR b d) v → Same H H' → Q v H'
def spInTold (C : Addr) : Sp := fun vs H Q _ => ∃ p l0 d x b, vs = [x, .bl b] ∧ HandAt p l0 H ∧ Tp C p H d x ∧ sz d ≤ 900 ∧ ∀ v H', Tp C p H' (inR b d) v → Same H H' → Q v H'
theorem in_keys {C p : Addr} {H : Hp} {d : PyData} {k : Int} {pds : List PyData} {ps : List (Int × V)} (ed : d = .tuple [.int k, .tuple pds]) (h : isIn d = true) (hp : PrsD C p H pds ps) : (k :: ps.map (·.1)).Pairwise (· < ·) := by
  rw [ed] at h
  have h2 : (isNb 4294967296 (.int k) && canH k (.tuple pds)) = true := h
  simp only [Bool.and_eq_true, canH] at h2
  have e : pds.map numD = ps.map (·.1) := by
    refine List.ext_getElem? fun j => ?_
    rw [List.getElem?_map, List.getElem?_map]
    by_cases c : j < pds.length
    · have c2 : j < ps.length := by rw [← hp.1]; exact c
      obtain ⟨th, e1, _⟩ := hp.2 j _ _ (List.getElem?_eq_getElem c) (List.getElem?_eq_getElem c2)
      rw [List.getElem?_eq_getElem c, List.getElem?_eq_getElem c2, e1]
      rfl
    · rw [List.getElem?_eq_none (by omega), List.getElem?_eq_none (by rw [← hp.1]; omega)]
      rfl
  rw [← e]
  exact asc_pw h2.2.2.1
theorem val_ps {ps : List (Int × V)} (h : (ps.map (·.1)).Nodup) {x : Int × V} (hx : x ∈ ps) : valV (ps.map fun x => ((.inl x.1 : Key), x.2)) (.inl x.1) = some x.2 := by
  induction ps with
  | nil => cases hx
  | cons y ps ih =>
    rw [List.map_cons] at h
    obtain ⟨h1, h2⟩ := List.nodup_cons.mp h
    rw [List.map_cons]
    rcases List.mem_cons.mp hx with e | e
    · rw [e]
      exact valV_pos rfl
    · rw [valV_neg (by
        intro z
        exact h1 (by rw [show y.1 = x.1 from Sum.inl.inj z]; exact List.mem_map_of_mem e))]
      exact ih h2 e
theorem lt_le {l : List Int} (h : l.Pairwise (· < ·)) : l.Pairwise (· ≤ ·) := h.imp fun h => by omega
theorem same_prs {k : Int} {ps ps2 : List (Int × V)} (h : (k :: ps.map (·.1)).Pairwise (· < ·)) (hpm : (ps2.map (·.1)).Perm (ps.map (·.1))) (hpw : (ps2.map (·.1)).Pairwise (· ≤ ·)) (hv : ∀ x ∈ ps2, valV (ps.map fun x => ((.inl x.1 : Key), x.2)) (.inl x.1) = some x.2) : ps2 = ps := by
  have h2 := (List.pairwise_cons.mp h).2
  have nd : (ps.map (·.1)).Nodup := h2.imp fun h => by omega
  have e := sorted_one hpm hpw (lt_le h2)
  refine List.ext_getElem? fun j => ?_
  have ej : (ps2.map (·.1))[j]? = (ps.map (·.1))[j]? := by rw [e]
  rw [List.getElem?_map, List.getElem?_map] at ej
  cases z : ps2[j]? with
  | none =>
    rw [z] at ej
    cases z2 : ps[j]? with
    | none => rfl
    | some y =>
      rw [z2] at ej
      cases ej
  | some x =>
    rw [z] at ej
    cases z2 : ps[j]? with
    | none =>
      rw [z2] at ej
      cases ej
    | some y =>
      rw [z2] at ej
      have e1 : x.1 = y.1 := Option.some.inj ej
      have v1 := hv x (List.mem_of_getElem? z)
      have v2 := val_ps nd (List.mem_of_getElem? z2)
      rw [e1, v2] at v1
      have e2 : y.2 = x.2 := Option.some.inj v1
      rw [Prod.ext e1 e2.symm]
theorem prs_tp {C p : Addr} {H : Hp} (hp : ∀ xs, H p ≠ some (.tup xs)) : ∀ {pds : List PyData} {ps : List (Int × V)} {ts : List Addr}, PrsAt H ts ps → PrsD C p H pds ps → TpAll C p H pds (ts.map V.ref)
  | [], ps, ts, h, g => by
    have e1 : ps = [] := List.eq_nil_of_length_eq_zero g.1.symm
    subst e1
    have e2 : ts = [] := List.eq_nil_of_length_eq_zero h.1
    subst e2
    exact tpAll_nil
  | d :: pds, [], ts, h, g => by
    have := g.1
    simp at this
  | d :: pds, x :: ps, [], h, g => by
    have := h.1
    simp at this
  | d :: pds, x :: ps, t :: ts, h, g => by
    have ht := h.2 0 t x rfl rfl
    obtain ⟨th, e, tth⟩ := g.2 0 d x rfl rfl
    rw [e]
    refine tpAll_cons (tp_tup ⟨fun z => hp _ (z ▸ ht), ht⟩ (tpAll_cons tp_int (tpAll_cons tth tpAll_nil))) (prs_tp hp ⟨by simpa using h.1, fun j t' x' a b => h.2 (j + 1) t' x' (by simpa using a) (by simpa using b)⟩ ⟨by simpa using g.1, fun j d' x' a b => g.2 (j + 1) d' x' (by simpa using a) (by simpa using b)⟩)
theorem rd_ifx {t : TT} {ta tb : TE} {σ : L2.St} {H : Hp} {Q : VK} (h : t σ H fun c H1 => if c = true then ta σ H1 Q else tb σ H1 Q) : tIf t ta tb σ H Q := h
section
variable {P : Program} {w : World} {K : PySem.W.Frag} {mg : Str → Option Value} {base : Heap}
local macro_rules | `(tactic| walk_at "rd") => `(tactic| (repeat (first
  | ((with_reducible refine' rd_var ?h0 ?_); (case h0 => rfl))
  | with_reducible refine rd_c ?_
  | with_reducible refine rd_op ?_
  | with_reducible refine rd_nil ?_
  | with_reducible refine rd_cons ?_
  | with_reducible refine rd_tup ?_
  | with_reducible refine rd_lst ?_
  | with_reducible refine rd_ifs ?_
  | with_reducible refine rd_seq ?_
  | with_reducible refine rd_next ?_
  | with_reducible refine rd_ret ?_
  | with_reducible refine rd_asg ?_
  | ((with_reducible refine' rd_gset ?hs ?_); (case hs => ((simp only [L2.start, List.map_cons, List.map_nil, List.length_cons, List.length_nil, List.cons_append, List.nil_append, List.set_cons_zero, List.set_cons_succ, Nat.reduceAdd, Nat.reduceSub, Nat.zero_add, List.reduceReplicate]); rfl)))
  | with_reducible refine rd_drop ?_
  | with_reducible refine rd_test ?_
  | with_reducible refine rd_B ?_
  | with_reducible refine rd_bl ?_
  | with_reducible refine rd_blP ?_
  | with_reducible refine rd_andV ?_
  | with_reducible refine rd_orV ?_
  | with_reducible refine rd_notV ?_
  | with_reducible refine rd_and ?_
  | with_reducible refine rd_or ?_
  | with_reducible refine rd_not ?_
  | with_reducible refine rd_chain ?_
  | with_reducible refine rd_dput ?_
  | with_reducible refine rd_dget ?_
  | with_reducible refine rd_cb ?_
  | with_reducible refine rd_call ?_
  | with_reducible refine rd_un ?_
  | with_reducible refine rd_sl ?_
  | with_reducible refine rd_nopart ?_
  | with_reducible refine rd_part ?_
  | with_reducible refine rd_intP ?_
  | with_reducible refine rd_rU ?_
  | with_reducible refine rd_fld ?_
  | with_reducible refine rd_eqI ?_
  | with_reducible refine rd_neI ?_
  | with_reducible refine rd_mko ?_
  | with_reducible refine rd_bm ?_
  | with_reducible refine rd_gsub ?_
  | with_reducible refine rd_i0 ?_)))
theorem ok_law_out_top (T : Tx K mg) (B : Bk K mg T) : FnOk P w K mg base CX0 1 B.law_out_top.f B.law_out_top.fd ["state"] (spOutTop T.c_Outgoing) := by
  refine B.law_out_top.F.ok sc_law_out_top (fun vs H Q E h => ?_) (fun cdv A outer s H vs Q E hr h => ?_)
  · obtain ⟨p, g, ds, x, rfl, _⟩ := h
    rfl
  · obtain ⟨p, g, ds, x, rfl, hd, q⟩ := h
    obtain ⟨c, ys, rfl, hc, hy⟩ := tp_tup' hd
    obtain ⟨x1, x2, rfl, t1, t2⟩ := tpAll2 hy
    cases tp_int' t1
    obtain ⟨c2, zs, rfl, hc2, hz⟩ := tp_tup' t2
    refine ⟨_, (pss_one (ps_ret (pe_op op_add (pe_ix ix_tup (pv 0) pe_int (fun _ _ => rfl)) (pe_callB call_len_seq (by rfl) T.b_len (by decide +kernel) (pa_cons (pe_ix ix_tup (pv 0) pe_int (fun _ _ => rfl)) pa_nil))))), ?_⟩
    walk_at "rd"
    refine rd_ixT hc.2 rfl ?_
    walk_at "rd"
    refine rd_ixT hc.2 rfl ?_
    walk_at "rd"
    refine ⟨c2, zs, rfl, .inr (SqT.of hc2.2), ?_⟩
    walk_at "rd"
    rw [← hz.len]
    exact q
theorem ok_law_in_top (T : Tx K mg) (B : Bk K mg T) : FnOk P w K mg base CX0 1 B.law_in_top.f B.law_in_top.fd ["state"] (spInTop T.c_Outgoing) := by
  refine B.law_in_top.F.ok sc_law_in_top (fun vs H Q E h => ?_) (fun cdv A outer s H vs Q E hr h => ?_)
  · obtain ⟨p, k, pds, x, rfl, _⟩ := h
    rfl
  · obtain ⟨p, k, pds, x, rfl, hd, hf, hl, q⟩ := h
    obtain ⟨c, ys, rfl, hc, hy⟩ := tp_tup' hd
    obtain ⟨x1, x2, rfl, t1, t2⟩ := tpAll2 hy
    cases tp_int' t1
    obtain ⟨c2, zs, rfl, hc2, hz⟩ := tp_tup' t2
    have hlz := hz.len
    refine ⟨_, (pss_one (ps_ret (pe_callB (cr_max rfl) (by rfl) T.b_max (by decide +kernel) (pa_cons (pe_op op_cat (pe_lst (pa_cons (pe_ix ix_tup (pv 0) pe_int (fun _ _ => rfl)) pa_nil)) (pe_lc (own := [("pair", 1)]) (g := gName 1) rfl sc_law_in_top.nd (pi_tup (pe_ix ix_tup (pv 0) pe_int (fun _ _ => rfl))) (blkOk_by (own := [("pair", 1)]) (N := ["state", "pair"]) (sc := defScope s_law_in_top) (by decide +kernel)) (fun _ _ _ _ _ => pg_name (i := 1) sc_law_in_top.nd rfl (Or.inl rfl)) (fun _ _ _ _ _ => pts_nil) (fun _ _ _ _ _ => (pe_ix (r := rIxT K) ix_tup (pv 1) pe_int (fun _ _ => rfl))))) pa_nil)))), ?_⟩
    walk_at "rd"
    refine rd_ixT hc.2 rfl ?_
    refine rd_disp rfl fun l1 n1 => ?_
    have s1 := same_new (o := .lst [.int k]) n1
    walk_at "rd"
    show iTup _ _ _ _ _
    refine rd_itup ?_
    walk_at "rd"
    refine rd_ixT (s1 _ _ hc.2) rfl ?_
    refine ⟨c2, rfl, ⟨zs, SqT.of (s1 _ _ hc2.2)⟩, fun D hD => lc_tup (K := K) (a := c2) (xs := zs)
      (fun i H1 => Same (upd H l1 (.lst [.int k])) H1 ∧ ∃ ns : List Int, ns.length = i ∧ H1 D = some (.lst (ns.map V.int))) ⟨same_new hD, [], rfl, upd_same⟩ (fun i H1 _ hh => SqT.of (hh.1 _ _ (s1 _ _ hc2.2))) ?_ ?_⟩
    · rintro i y H1 hi ⟨hs, ns, hln, hacc⟩
      obtain ⟨d1, hd1, td1⟩ := hz.get' hi
      obtain ⟨n, t, rfl⟩ := hf d1 (List.mem_of_getElem? hd1)
      obtain ⟨c3, ws, rfl, hc3, hw⟩ := tp_tup' td1
      obtain ⟨w1, w2, rfl, r1, r2⟩ := tpAll2 hw
      cases tp_int' r1
      have il := (List.getElem?_eq_some_iff.mp hi).1
      refine ⟨rfl, ?_⟩
      refine rd_tyes ?_
      refine rd_yes rfl ?_
      walk_at "rd"
      refine rd_ixT (hs _ _ (s1 _ _ hc3.2)) rfl ?_
      refine ⟨_, hacc, ?_, fun b o e => ?_, ns ++ [n], by simp [hln], ?_⟩
      · exact small1000 (by rw [List.length_map]; omega)
      · rw [upd_ne (ne_of_none e hD)]
        exact hs b o e
      · rw [upd_same, List.map_append]
        rfl
    · rintro H1 ⟨hs, ns, hln, hacc⟩
      walk_at "rd"
      have s2 := s1.trans hs
      refine ⟨l1, D, [.int k], ns.map V.int, rfl, rfl, hs _ _ upd_same, hacc, Nat.le_trans (show _ ≤ 1000 by rw [List.length_map]; simp; omega) (by decide), fun l2 n2 => ?_⟩
      walk_at "rd"
      refine ⟨l2, k :: ns, rfl, SqL.of upd_same, by simp, fun m _ _ => ?_⟩
      exact q m _ (s2.trans (same_new n2))
theorem ok_law_out_told (T : Tx K mg) (B : Bk K mg T) : FnOk P w K mg base CX0 8 B.law_out_told.f B.law_out_told.fd ["thing", "is_asked"] (spOutTold T.c_Outgoing) := by
  have G_outgoing_of := ok_outgoing_of (P := P) (w := w) (base := base) T B
  have G_Outgoing_state := ok_ostate (P := P) (w := w) (base := base) T B
  refine B.law_out_told.F.ok sc_law_out_told (fun vs H Q E h => ?_) (fun cdv A outer s H vs Q E hr h => ?_)
  · obtain ⟨p, l0, d, x, b, rfl, _⟩ := h
    rfl
  · obtain ⟨p, l0, d, x, b, rfl, hh, hd, hz, q⟩ := h
    refine ⟨_, (pss_one (ps_try_many (Wout := fun _ _ _ _ => False) rfl rfl takes0 (fun W pn xe tk _ => (pss_cons (ps_set (i := 2) sc_law_out_told.nd rfl (Or.inl rfl) (pe_callS G_outgoing_of (hr.mono (by decide)) rfl B.outgoing_of.m B.outgoing_of.F.kp B.outgoing_of.b (fun σ => passAt tk σ) (pa_cons (pv 0) pa_nil)))
      (pss_one (ps_ret (pe_tup (pa_cons pe_str (pa_cons (pe_ifExp (pt_val (pv 1)) (pe_meth0 (pv 2) T.W_Outgoing.cl ⟨B.Outgoing_state.a, B.Outgoing_state.i, B.Outgoing_state.F.kp⟩ G_Outgoing_state (hr.mono (by decide)) B.Outgoing_state.b .nil pass0) pe_non) pa_nil))))))) (HdsOk.cons ⟨by rfl, by decide, Or.inl T.g_NoState⟩ (fun a oe cls d pn hz hf => (pss_one (ps_ret (pe_tup (pa_cons pe_str pa_nil))))) HdsOk.nil))), ?_⟩
    walk_at "rd"
    refine rd_callS ?_
    walk_at "rd"
    refine ⟨p, d, x, rfl, hd, hz, fun ho a l g xs ds H1 s1 na nl hO ed hds => ?_, fun ho H1 s1 => ?_⟩
    · walk_at "rd"
      obtain ⟨⟨dx, ha⟩, hl⟩ := id hO
      have hh1 := hh.keep s1
      refine rd_ifx ?_
      walk_at "rd"
      refine rd_ite (fun hb => ?_) (fun hb => ?_)
      · subst hb
        walk_at "rd"
        refine rd_meth ?_
        walk_at "rd"
        refine ⟨a, dx, _, rfl, ha, rfl, ?_⟩
        walk_at "rd"
        refine ⟨a, l, g, xs, rfl, hO, fun t u H2 s2 nt ht hu nu => ?_⟩
        walk_at "rd"
        refine rd_disp rfl fun t3 nt3 => ?_
        have hh2 := hh1.keep s2
        have td : Tp T.c_Outgoing p H2 d (.ref t) := by
          rw [ed]
          exact tp_tup ⟨hh1.ne nt, ht⟩ (tpAll_cons tp_int (tpAll_cons (tp_tup ⟨hh1.ne nu, hu⟩ (pas hds s2)) tpAll_nil))
        refine q _ _ ?_ ((s1.trans s2).trans (same_new nt3))
        unfold outR
        rw [if_pos ho, if_pos rfl]
        exact tp_new hh2 nt3 (tpAll_cons tp_str (tpAll_cons td tpAll_nil))
      · walk_at "rd"
        refine rd_disp rfl fun t3 nt3 => ?_
        refine q _ _ ?_ (s1.trans (same_new nt3))
        unfold outR
        rw [if_pos ho, hb, if_neg (by decide)]
        exact tp_new hh1 nt3 (tpAll_cons tp_str (tpAll_cons tp_non tpAll_nil))
    · refine ⟨true, T.e_NoStateNoState, fun _ z hnz => ?_, fun z => by cases z⟩
      walk_at "rd"
      have hh1 := hh.keep s1
      refine rd_disp rfl fun t3 nt3 => ?_
      walk_at "rd"
      refine q _ _ ?_ (s1.trans (same_new nt3))
      unfold outR
      rw [if_neg (by rw [ho]; decide)]
      exact tp_new hh1 nt3 (tpAll_cons tp_str tpAll_nil)
theorem ok_law_in_told (T : Tx K mg) (B : Bk K mg T) : FnOk P w K mg base CX0 8 B.law_in_told.f B.law_in_told.fd ["thing", "is_asked"] (spInTold T.c_Outgoing) := by
  have G_incoming_of := ok_incoming_of (P := P) (w := w) (base := base) T B
  have G_Incoming_state := ok_istate (P := P) (w := w) (base := base) T B
  refine B.law_in_told.F.ok sc_law_in_told (fun vs H Q E h => ?_) (fun cdv A outer s H vs Q E hr h => ?_)
  · obtain ⟨p, l0, d, x, b, rfl, _⟩ := h
    rfl
  · obtain ⟨p, l0, d, x, b, rfl, hh, hd, hz, q⟩ := h
    refine ⟨_, (pss_one (ps_try_many (Wout := fun _ _ _ _ => False) rfl rfl takes0 (fun W pn xe tk _ => (pss_cons (ps_set (i := 2) sc_law_in_told.nd rfl (Or.inl rfl) (pe_callS G_incoming_of (hr.mono (by decide)) rfl B.incoming_of.m B.incoming_of.F.kp B.incoming_of.b (fun σ => passAt tk σ) (pa_cons (pv 0) pa_nil)))
      (pss_one (ps_ret (pe_tup (pa_cons pe_str (pa_cons (pe_ifExp (pt_val (pv 1)) (pe_meth0 (pv 2) T.W_Incoming.cl ⟨B.Incoming_state.a, B.Incoming_state.i, B.Incoming_state.F.kp⟩ G_Incoming_state (hr.mono (by decide)) B.Incoming_state.b .nil pass0) pe_non) pa_nil))))))) (HdsOk.cons ⟨by rfl, by decide, Or.inl T.g_NoState⟩ (fun a oe cls d pn hz hf => (pss_one (ps_ret (pe_tup (pa_cons pe_str pa_nil))))) HdsOk.nil))), ?_⟩
    walk_at "rd"
    refine rd_callS ?_
    walk_at "rd"
    refine ⟨p, d, x, rfl, hd, hz, fun ho e dd k ps pds H1 s1 ne nd hI ed hpd => ?_, fun ho H1 s1 => ?_⟩
    · walk_at "rd"
      obtain ⟨⟨dx, he⟩, hdd⟩ := id hI
      have hh1 := hh.keep s1
      refine rd_ifx ?_
      walk_at "rd"
      refine rd_ite (fun hb => ?_) (fun hb => ?_)
      · subst hb
        have hkeys := in_keys ed ho hpd
        have hlen : ps.length ≤ 900 := by
          have : (sz d) = szAll pds + 1 + 0 + 1 + 1 := by
            rw [ed]
            show 1 + (szAll pds + 1 + 0) + 1 = _
            omega
          have := sz_len pds
          have := hpd.1
          omega
        walk_at "rd"
        refine rd_meth ?_
        walk_at "rd"
        refine ⟨e, dx, _, rfl, he, rfl, ?_⟩
        walk_at "rd"
        refine ⟨e, dd, k, _, ps.map (·.1), rfl, hI, by rw [List.map_map, List.map_map]; rfl, by rw [List.length_map]; omega, fun t u ts ps2 H2 s2 nt nu ht hu hprs hpm hpw hpv => ?_⟩
        have eps : ps2 = ps := same_prs hkeys hpm hpw hpv
        subst eps
        walk_at "rd"
        refine rd_disp rfl fun t3 nt3 => ?_
        have hh2 := hh1.keep s2
        have td : Tp T.c_Outgoing p H2 d (.ref t) := by
          rw [ed]
          exact tp_tup ⟨hh1.ne nt, ht⟩ (tpAll_cons tp_int (tpAll_cons (tp_tup ⟨hh1.ne nu, hu⟩ (prs_tp hh2.no hprs (hpd.keep (Keep.same s2)))) tpAll_nil))
        refine q _ _ ?_ ((s1.trans s2).trans (same_new nt3))
        unfold inR
        rw [if_pos ho, if_pos rfl]
        exact tp_new hh2 nt3 (tpAll_cons tp_str (tpAll_cons td tpAll_nil))
      · walk_at "rd"
        refine rd_disp rfl fun t3 nt3 => ?_
        refine q _ _ ?_ (s1.trans (same_new nt3))
        unfold inR
        rw [if_pos ho, hb, if_neg (by decide)]
        exact tp_new hh1 nt3 (tpAll_cons tp_str (tpAll_cons tp_non tpAll_nil))
    · refine ⟨true, T.e_NoStateNoState, fun _ z hnz => ?_, fun z => by cases z⟩
      walk_at "rd"
      have hh1 := hh.keep s1
      refine rd_disp rfl fun t3 nt3 => ?_
      walk_at "rd"
      refine q _ _ ?_ (s1.trans (same_new nt3))
      unfold inR
      rw [if_neg (by rw [ho]; decide)]
      exact tp_new hh1 nt3 (tpAll_cons tp_str tpAll_nil)
end
end Mw

/-! E4 -/
namespace Mw
open PySem L2
def spJud (C : Addr) : Sp := fun vs H Q _ => ∃ p l0 d x, vs = [x] ∧ HandAt p l0 H ∧ Tp C p H d x ∧ d.depth ≤ 6 ∧ sz d ≤ 900 ∧ ∀ H', Same H H' → Q (.bl true) H'
theorem thing_plain {d : PyData} (h : isThing d = true) : plainD d = true := by
  unfold isThing at h
  rw [Bool.and_eq_true] at h
  exact h.2
theorem out_form {d : PyData} (h : isOut d = true) : ∃ g ds, d = .tuple [.int g, .tuple ds] ∧ plainD d = true ∧ 0 ≤ g := by
  unfold isOut at h
  split at h
  · rename_i g ts
    rw [Bool.and_eq_true] at h
    cases g with
    | int g =>
      cases ts with
      | tuple ds =>
        refine ⟨g, ds, rfl, ?_, ?_⟩
        · show (true && (plainAll ds && true)) = true
          have : plainAll ds = true := plainAll_of fun x hx => by
            have z : (ds.map isThing).all id = true := h.2
            have := List.all_eq_true.mp z (isThing x) (List.mem_map_of_mem hx)
            exact thing_plain this
          rw [this]
          rfl
        · have z := h.1
          simp only [isNb, Bool.and_eq_true, decide_eq_true_eq] at z
          exact z.1
      | _ => cases h.2
    | _ => cases h.1
  · cases h
theorem in_form {d : PyData} (h : isIn d = true) : ∃ k pds, d = .tuple [.int k, .tuple pds] ∧ plainD d = true ∧ (∀ d ∈ pds, ∃ n t, d = .tuple [.int n, t]) := by
  unfold isIn at h
  split at h
  · rename_i k ts
    rw [Bool.and_eq_true] at h
    cases ts with
    | tuple ds =>
      have z : ((ds.map isNumd).all id && (asc (k :: ds.map numD) && decide ((k :: ds.map numD).getLast?.getD 0 < k + 1000))) = true := h.2
      rw [Bool.and_eq_true] at z
      have hn : ∀ x ∈ ds, isNumd x = true := fun x hx => List.all_eq_true.mp z.1 (isNumd x) (List.mem_map_of_mem hx)
      refine ⟨k, ds, rfl, ?_, fun x hx => numd_form (hn x hx)⟩
      show (true && (plainAll ds && true)) = true
      have : plainAll ds = true := plainAll_of fun x hx => by
        have hx2 := hn x hx
        obtain ⟨n, t, rfl⟩ := numd_form hx2
        have h3 : (isNum (.int n) && isThing t) = true := hx2
        rw [Bool.and_eq_true] at h3
        show (true && (plainD t && true)) = true
        rw [thing_plain h3.2]
        rfl
      rw [this]
      rfl
    | _ => cases h.2
  · cases h
theorem told_ok {s : Str} {b : Bool} {d : PyData} (hp : plainD d = true) (hd : d.depth ≤ 6) : noDict (.tuple [.str s, if b = true then d else .none]) = true ∧ (PyData.tuple [.str s, if b = true then d else .none]).depth < 8 := by
  have h2 : noDict (if b = true then d else .none) = true := by
    cases b
    · rfl
    · exact plain_no _ hp
  have h3 : (if b = true then d else PyData.none).depth ≤ 6 := by
    cases b
    · exact Nat.zero_le _
    · exact hd
  refine ⟨?_, ?_⟩
  · show (true && (noDict (if b = true then d else .none) && true)) = true
    rw [h2]
    rfl
  · show max 0 (max (if b = true then d else PyData.none).depth 0) + 1 < 8
    omega
theorem outR_ok {b : Bool} {d : PyData} (hd : d.depth ≤ 6) : noDict (outR b d) = true ∧ (outR b d).depth < 8 := by
  unfold outR
  by_cases c : isOut d = true
  · obtain ⟨g, ds, _, hp, _⟩ := out_form c
    rw [if_pos c]
    exact told_ok hp hd
  · rw [if_neg c]
    exact ⟨rfl, by decide +kernel⟩
theorem inR_ok {b : Bool} {d : PyData} (hd : d.depth ≤ 6) : noDict (inR b d) = true ∧ (inR b d).depth < 8 := by
  unfold inR
  by_cases c : isIn d = true
  · obtain ⟨g, ds, _, hp, _⟩ := in_form c
    rw [if_pos c]
    exact told_ok hp hd
  · rw [if_neg c]
    exact ⟨rfl, by decide +kernel⟩
section
variable {P : Program} {w : World} {K : PySem.W.Frag} {mg : Str → Option Value} {base : Heap}
local macro_rules | `(tactic| walk_at "rd") => `(tactic| (repeat (first
  | ((with_reducible refine' rd_var ?h0 ?_); (case h0 => rfl))
  | with_reducible refine rd_c ?_
  | with_reducible refine rd_op ?_
  | with_reducible refine rd_nil ?_
  | with_reducible refine rd_cons ?_
  | with_reducible refine rd_tup ?_
  | with_reducible refine rd_lst ?_
  | with_reducible refine rd_ifs ?_
  | with_reducible refine rd_seq ?_
  | with_reducible refine rd_next ?_
  | with_reducible refine rd_ret ?_
  | with_reducible refine rd_asg ?_
  | ((with_reducible refine' rd_gset ?hs ?_); (case hs => ((simp only [L2.start, List.map_cons, List.map_nil, List.length_cons, List.length_nil, List.cons_append, List.nil_append, List.set_cons_zero, List.set_cons_succ, Nat.reduceAdd, Nat.reduceSub, Nat.zero_add, List.reduceReplicate]); rfl)))
  | with_reducible refine rd_drop ?_
  | with_reducible refine rd_test ?_
  | with_reducible refine rd_B ?_
  | with_reducible refine rd_bl ?_
  | with_reducible refine rd_blP ?_
  | with_reducible refine rd_andV ?_
  | with_reducible refine rd_orV ?_
  | with_reducible refine rd_notV ?_
  | with_reducible refine rd_and ?_
  | with_reducible refine rd_or ?_
  | with_reducible refine rd_not ?_
  | with_reducible refine rd_chain ?_
  | with_reducible refine rd_dput ?_
  | with_reducible refine rd_dget ?_
  | with_reducible refine rd_cb ?_
  | with_reducible refine rd_call ?_
  | with_reducible refine rd_un ?_
  | with_reducible refine rd_sl ?_
  | with_reducible refine rd_nopart ?_
  | with_reducible refine rd_part ?_
  | with_reducible refine rd_intP ?_
  | with_reducible refine rd_rU ?_
  | with_reducible refine rd_fld ?_
  | with_reducible refine rd_eqI ?_
  | with_reducible refine rd_neI ?_
  | with_reducible refine rd_mko ?_
  | with_reducible refine rd_bm ?_
  | with_reducible refine rd_gsub ?_
  | with_reducible refine rd_i0 ?_)))
theorem ok_law_judged (T : Tx K mg) (B : Bk K mg T) : FnOk P w K mg base CX0 13 B.law_judged.f B.law_judged.fd ["thing"] (spJud T.c_Outgoing) := by
  have G_law_is_out := ok_law_is_out (P := P) (w := w) (base := base) T B
  have G_law_is_in := ok_law_is_in (P := P) (w := w) (base := base) T B
  have G_law_out_top := ok_law_out_top (P := P) (w := w) (base := base) T B
  have G_law_in_top := ok_law_in_top (P := P) (w := w) (base := base) T B
  have G_law_out_told := ok_law_out_told (P := P) (w := w) (base := base) T B
  have G_law_in_told := ok_law_in_told (P := P) (w := w) (base := base) T B
  have G_law_same := ok_law_same (P := P) (w := w) (base := base) T B 8
  refine B.law_judged.F.ok sc_law_judged (fun vs H Q E h => ?_) (fun cdv A outer s H vs Q E hr h => ?_)
  · obtain ⟨p, l0, d, x, rfl, _⟩ := h
    rfl
  · obtain ⟨p, l0, d, x, rfl, hh, hd, hdp, hz, q⟩ := h
    refine ⟨_, (pss_cons (ps_asg (pe_tup (pa_cons (pe_tup (pa_cons pe_str pa_nil)) (pa_cons pe_bl pa_nil))) (pg_tup (by rfl) (pgs_cons (pg_name (i := 1) sc_law_judged.nd rfl (Or.inl rfl)) (pgs_cons (pg_name (i := 2) sc_law_judged.nd rfl (Or.inl rfl)) pgs_nil))))
      (C8.pss_cut (ps_if (pt_val (pe_call G_law_is_out (hr.mono (by decide)) rfl B.law_is_out.m B.law_is_out.F.kp B.law_is_out.b .nil pass0 (pa_cons (pv 0) pa_nil))) (pss_cons (ps_set (i := 2) sc_law_judged.nd rfl (Or.inl rfl) (pe_cmpR op_lt (pe_call G_law_out_top (hr.mono (by decide)) rfl B.law_out_top.m B.law_out_top.F.kp B.law_out_top.b .nil pass0 (pa_cons (pv 0) pa_nil)) (pe_op op_pow pe_int pe_int) (nomark _)))
      (pss_one (ps_set (i := 1) sc_law_judged.nd rfl (Or.inl rfl) (pe_tup (pa_cons pe_str (pa_cons (pe_ifExp (pt_val (pv 2)) (pv 0) pe_non) pa_nil)))))) pss_nil)
      (pss_cons (ps_if (pt_not (pt_val (pe_call G_law_same (hr.mono (by decide)) rfl B.law_same.m B.law_same.F.kp B.law_same.b .nil pass0 (pa_cons (pe_call G_law_out_told (hr.mono (by decide)) rfl B.law_out_told.m B.law_out_told.F.kp B.law_out_told.b .nil pass0 (pa_cons (pv 0) (pa_cons (pv 2) pa_nil))) (pa_cons (pv 1) pa_nil))))) (pss_one (ps_ret pe_bl)) pss_nil)
      (pss_cons (ps_asg (pe_tup (pa_cons (pe_tup (pa_cons pe_str pa_nil)) (pa_cons pe_bl pa_nil))) (pg_tup (by rfl) (pgs_cons (pg_name (i := 1) sc_law_judged.nd rfl (Or.inl rfl)) (pgs_cons (pg_name (i := 2) sc_law_judged.nd rfl (Or.inl rfl)) pgs_nil))))
      (C8.pss_cut (ps_if (pt_val (pe_call G_law_is_in (hr.mono (by decide)) rfl B.law_is_in.m B.law_is_in.F.kp B.law_is_in.b .nil pass0 (pa_cons (pv 0) pa_nil))) (pss_cons (ps_set (i := 2) sc_law_judged.nd rfl (Or.inl rfl) (pe_cmpR op_lt (pe_call G_law_in_top (hr.mono (by decide)) rfl B.law_in_top.m B.law_in_top.F.kp B.law_in_top.b .nil pass0 (pa_cons (pv 0) pa_nil)) (pe_op op_pow pe_int pe_int) (nomark _)))
      (pss_one (ps_set (i := 1) sc_law_judged.nd rfl (Or.inl rfl) (pe_tup (pa_cons pe_str (pa_cons (pe_ifExp (pt_val (pv 2)) (pv 0) pe_non) pa_nil)))))) pss_nil)
      (pss_one (ps_ret (pe_call G_law_same (hr.mono (by decide)) rfl B.law_same.m B.law_same.F.kp B.law_same.b .nil pass0 (pa_cons (pe_call G_law_in_told (hr.mono (by decide)) rfl B.law_in_told.m B.law_in_told.F.kp B.law_in_told.b .nil pass0 (pa_cons (pv 0) (pa_cons (pv 2) pa_nil))) (pa_cons (pv 1) pa_nil)))))))))), ?_⟩
    walk_at "rd"
    refine rd_disp rfl fun t1 n1 => ?_
    have s1 := same_new (o := .tup [.str "NoState"]) n1
    have y1 := tp_new (C := T.c_Outgoing) hh n1 (tpAll_cons (tp_str (s := "NoState")) tpAll_nil)
    walk_at "rd"
    refine rd_disp rfl fun t2 n2 => ?_
    have s2 := same_new (o := .tup [.ref t1, .bl true]) n2
    have s12 := s1.trans s2
    walk_at "rd"
    refine ⟨t2, _, rfl, SqT.of upd_same, rfl, _, _, rfl, _, _, rfl, rfl, ?_⟩
    walk_at "rd"
    refine ⟨fun σ1 H1 => ∃ v1 b, σ1 = [some x, some v1, some (.bl b)] ∧ Same H H1 ∧ Tp T.c_Outgoing p H1 (outR b d) v1, ?_, ?_⟩
    · walk_at "rd"
      refine ⟨p, d, x, rfl, ps hd s12, by omega, hz, fun H3 s3 => ?_⟩
      walk_at "rd"
      have s13 := s12.trans s3
      refine rd_ite (fun c => ?_) (fun c => ?_)
      · obtain ⟨g, ds, ed, _, _⟩ := out_form c
        walk_at "rd"
        refine ⟨p, g, ds, x, rfl, by rw [← ed]; exact ps hd s13, ?_⟩
        walk_at "rd"
        refine rd_iC ⟨by decide, by decide, by decide⟩ ?_
        walk_at "rd"
        generalize decide (g + (ds.length : Nat) < 2 ^ (31 : Int).toNat) = b
        refine rd_ifx ?_
        walk_at "rd"
        refine rd_ite (fun hb => ?_) (fun hb => ?_)
        · subst hb
          walk_at "rd"
          refine rd_disp rfl fun t4 n4 => ?_
          refine ⟨_, true, rfl, s13.trans (same_new n4), ?_⟩
          unfold outR
          rw [if_pos c, if_pos rfl]
          exact tp_new (hh.keep s13) n4 (tpAll_cons tp_str (tpAll_cons (ps hd s13) tpAll_nil))
        · subst hb
          walk_at "rd"
          refine rd_disp rfl fun t4 n4 => ?_
          refine ⟨_, false, rfl, s13.trans (same_new n4), ?_⟩
          unfold outR
          rw [if_pos c, if_neg (by decide)]
          exact tp_new (hh.keep s13) n4 (tpAll_cons tp_str (tpAll_cons tp_non tpAll_nil))
      · refine ⟨_, true, rfl, s13, ?_⟩
        unfold outR
        rw [if_neg (by rw [c]; decide)]
        exact ps y1 (s2.trans s3)
    · rintro σ1 H4 ⟨v1, b, rfl, s4, hv1⟩
      have hh4 := hh.keep s4
      walk_at "rd"
      refine ⟨p, l0, d, x, b, rfl, hh4, ps hd s4, hz, fun v5 H5 hv5 s5 => ?_⟩
      walk_at "rd"
      refine ⟨p, outR b d, v5, v1, rfl, (outR_ok hdp).1, (outR_ok hdp).2, hv5, ps hv1 s5, fun H6 s6 => ?_⟩
      walk_at "rd"
      refine rd_no rfl ?_
      have s46 := s4.trans (s5.trans s6)
      clear y1 s1 s2 s12 hh4 hv1 hv5
      have hh6 := hh.keep s46
      walk_at "rd"
      refine rd_disp rfl fun t1 n1 => ?_
      have s1 := same_new (o := .tup [.str "NoState"]) n1
      have y1 := tp_new (C := T.c_Outgoing) hh6 n1 (tpAll_cons (tp_str (s := "NoState")) tpAll_nil)
      walk_at "rd"
      refine rd_disp rfl fun t2 n2 => ?_
      have s2 := same_new (o := .tup [.ref t1, .bl true]) n2
      have s12 := s46.trans (s1.trans s2)
      walk_at "rd"
      refine ⟨t2, _, rfl, SqT.of upd_same, rfl, _, _, rfl, _, _, rfl, rfl, ?_⟩
      walk_at "rd"
      refine ⟨fun σ1 H1 => ∃ v1 b, σ1 = [some x, some v1, some (.bl b)] ∧ Same H H1 ∧ Tp T.c_Outgoing p H1 (inR b d) v1, ?_, ?_⟩
      · walk_at "rd"
        refine ⟨p, d, x, rfl, ps hd s12, by omega, hz, ?_⟩
        walk_at "rd"
        refine rd_ite (fun c => ?_) (fun c => ?_)
        · obtain ⟨k, pds, ed, _, hf⟩ := in_form c
          walk_at "rd"
          refine ⟨p, k, pds, x, rfl, by rw [← ed]; exact ps hd s12, hf, ?_, fun m H3 s3 => ?_⟩
          · have : sz d = 1 + (szAll pds + 1 + 0) + 1 := by
              rw [ed]
              rfl
            have := sz_len pds
            omega
          walk_at "rd"
          refine rd_iC ⟨by decide, by decide, by decide⟩ ?_
          walk_at "rd"
          generalize decide (m < 2 ^ (31 : Int).toNat) = b
          have s13 := s12.trans s3
          refine rd_ifx ?_
          walk_at "rd"
          refine rd_ite (fun hb => ?_) (fun hb => ?_)
          · subst hb
            walk_at "rd"
            refine rd_disp rfl fun t4 n4 => ?_
            refine ⟨_, true, rfl, s13.trans (same_new n4), ?_⟩
            unfold inR
            rw [if_pos c, if_pos rfl]
            exact tp_new (hh.keep s13) n4 (tpAll_cons tp_str (tpAll_cons (ps hd s13) tpAll_nil))
          · subst hb
            walk_at "rd"
            refine rd_disp rfl fun t4 n4 => ?_
            refine ⟨_, false, rfl, s13.trans (same_new n4), ?_⟩
            unfold inR
            rw [if_pos c, if_neg (by decide)]
            exact tp_new (hh.keep s13) n4 (tpAll_cons tp_str (tpAll_cons tp_non tpAll_nil))
        · refine ⟨_, true, rfl, s12, ?_⟩
          unfold inR
          rw [if_neg (by rw [c]; decide)]
          exact ps y1 s2
      · rintro σ1 H7 ⟨v1, b, rfl, s7, hv1⟩
        have hh7 := hh.keep s7
        walk_at "rd"
        refine ⟨p, l0, d, x, b, rfl, hh7, ps hd s7, hz, fun v8 H8 hv8 s8 => ?_⟩
        walk_at "rd"
        refine ⟨p, inR b d, v8, v1, rfl, (inR_ok hdp).1, (inR_ok hdp).2, hv8, ps hv1 s8, fun H9 s9 => ?_⟩
        exact q H9 (s7.trans (s8.trans s9))
end
end Mw

/-! D7 -/
namespace Mw
open PySem L2
/-- how many follow one behind the other from b on -/
def run {α : Type} : Int → List (Int × α) → Nat
  | _, [] => 0
  | b, x :: r => if x.1 = b then run (b + 1) r + 1 else 0
def kvs (ps : List (Int × V)) : List (Key × V) := ps.map fun x => ((.inl x.1 : Key), x.2)
theorem run_len {α : Type} : ∀ (b : Int) (ps : List (Int × α)), run b ps ≤ ps.length
  | _, [] => Nat.le_refl _
  | b, x :: r => by
    unfold run
    have := run_len (b + 1) r
    split
    · rw [List.length_cons]
      omega
    · exact Nat.zero_le _
theorem asc_ge {α : Type} : ∀ {b : Int} {ps : List (Int × α)} {j : Nat} {x : Int × α}, (∀ y ∈ ps, b ≤ y.1) → (ps.map (·.1)).Pairwise (· < ·) → ps[j]? = some x → b + j ≤ x.1
  | b, [], j, x, _, _, e => by simp at e
  | b, y :: r, 0, x, h, _, e => by
    simp at e
    have := h y (by simp)
    rw [← e]
    simpa using this
  | b, y :: r, j + 1, x, h, hp, e => by
    rw [List.map_cons] at hp
    obtain ⟨h1, h2⟩ := List.pairwise_cons.mp hp
    have hy := h y (by simp)
    have := asc_ge (b := b + 1) (ps := r) (j := j) (x := x) (fun z hz => by
      have := h1 z.1 (List.mem_map_of_mem hz)
      omega) h2 (by simpa using e)
    omega
theorem run_get {α : Type} : ∀ {b : Int} {ps : List (Int × α)} {j : Nat} {x : Int × α}, (∀ y ∈ ps, b ≤ y.1) → (ps.map (·.1)).Pairwise (· < ·) → ps[j]? = some x → (x.1 = b + j ↔ j < run b ps)
  | b, [], j, x, _, _, e => by simp at e
  | b, y :: r, 0, x, h, _, e => by
    simp at e
    subst e
    unfold run
    split
    · rename_i c
      simp [c]
    · rename_i c
      simp [c]
  | b, y :: r, j + 1, x, h, hp, e => by
    rw [List.map_cons] at hp
    obtain ⟨h1, h2⟩ := List.pairwise_cons.mp hp
    have hy := h y (by simp)
    have hr : ∀ z ∈ r, b + 1 ≤ z.1 := fun z hz => by
      have := h1 z.1 (List.mem_map_of_mem hz)
      omega
    have e' : r[j]? = some x := by simpa using e
    unfold run
    split
    · have := run_get hr h2 e'
      constructor
      · intro z
        have := this.mp (by omega)
        omega
      · intro z
        have := this.mpr (by omega)
        omega
    · rename_i c
      constructor
      · intro z
        exfalso
        have := asc_ge (b := b + 2) (ps := r) (j := j) (x := x) (fun z hz => by
          have := h1 z.1 (List.mem_map_of_mem hz)
          omega) h2 e'
        omega
      · intro z
        omega
theorem kvs_none {b : Int} : ∀ {ps : List (Int × V)}, (∀ y ∈ ps, b < y.1) → valV (kvs ps) (.inl b) = none
  | [], _ => rfl
  | x :: ps, h => by
    show valV ((.inl x.1, x.2) :: kvs ps) (.inl b) = none
    have := h x (by simp)
    rw [valV_neg (by
      intro z
      have : x.1 = b := Sum.inl.inj z
      omega)]
    exact kvs_none fun y hy => h y (List.mem_cons_of_mem _ hy)
theorem kvs_drop {b : Int} : ∀ {ps : List (Int × V)}, (∀ y ∈ ps, b < y.1) → dropK (kvs ps) (.inl b) = kvs ps
  | [], _ => rfl
  | x :: ps, h => by
    show dropK ((.inl x.1, x.2) :: kvs ps) (.inl b) = (.inl x.1, x.2) :: kvs ps
    have h1 := h x (by simp)
    unfold dropK
    rw [List.filter_cons, if_pos (by
      simp only [decide_eq_true_eq]
      intro z
      have : x.1 = b := Sum.inl.inj z
      omega)]
    congr 1
    exact kvs_drop fun y hy => h y (List.mem_cons_of_mem _ hy)
theorem drain_run : ∀ (ps : List (Int × V)) (b : Int), (∀ y ∈ ps, b ≤ y.1) → (ps.map (·.1)).Pairwise (· < ·) → drain b (kvs ps) = (b + (run b ps : Nat), kvs (ps.drop (run b ps)), (ps.take (run b ps)).map (·.2))
  | [], b, _, _ => by
    rw [drain_no (by rfl)]
    simp [run, kvs]
  | x :: r, b, h, hp => by
    rw [List.map_cons] at hp
    obtain ⟨h1, h2⟩ := List.pairwise_cons.mp hp
    by_cases c : x.1 = b
    · have hv : valV (kvs (x :: r)) (.inl b) = some x.2 := valV_pos (by show (Sum.inl x.1 : Key) = .inl b; rw [c])
      have hb : ∀ y ∈ r, b < y.1 := fun y hy => by
        have := h1 y.1 (List.mem_map_of_mem hy)
        omega
      have hd : dropK (kvs (x :: r)) (.inl b) = kvs r := by
        show dropK ((.inl x.1, x.2) :: kvs r) (.inl b) = kvs r
        have e := kvs_drop hb
        unfold dropK at e ⊢
        rw [List.filter_cons, if_neg (by simp [c])]
        exact e
      rw [drain_yes hv, hd, drain_run r (b + 1) (fun y hy => by have := hb y hy; omega) h2]
      have er : run b (x :: r) = run (b + 1) r + 1 := by
        show (if x.1 = b then run (b + 1) r + 1 else 0) = _
        rw [if_pos c]
      rw [er]
      simp only [List.drop_succ_cons, List.take_succ_cons, List.map_cons]
      congr 1
      omega
    · have hx := h x (by simp)
      have hb : ∀ y ∈ x :: r, b < y.1 := fun y hy => by
        rcases List.mem_cons.mp hy with e | e
        · rw [e]
          omega
        · have := h1 y.1 (List.mem_map_of_mem e)
          omega
      rw [drain_no (kvs_none hb)]
      have er : run b (x :: r) = 0 := by
        show (if x.1 = b then run (b + 1) r + 1 else 0) = _
        rw [if_neg c]
      rw [er]
      simp
/-- what stands behind a gap goes out with it -/
theorem gap_run {k : Int} {ps : List (Int × V)} {y : V} (h : (k :: ps.map (·.1)).Pairwise (· < ·)) : hear k k y (kvs ps) = kvs ps ++ [(.inl k, y)] ∧ drain k (kvs ps ++ [(.inl k, y)]) = (k + 1 + (run (k + 1) ps : Nat), kvs (ps.drop (run (k + 1) ps)), y :: (ps.take (run (k + 1) ps)).map (·.2)) := by
  obtain ⟨h1, h2⟩ := List.pairwise_cons.mp h
  have hb : ∀ x ∈ ps, k < x.1 := fun x hx => h1 x.1 (List.mem_map_of_mem hx)
  have hn := kvs_none hb
  refine ⟨?_, ?_⟩
  · unfold hear
    rw [if_pos ⟨Int.le_refl _, by omega, hn⟩]
  · have hv : valV (kvs ps ++ [(.inl k, y)]) (.inl k) = some y := by rw [val_snoc hn, if_pos rfl]
    have hd : dropK (kvs ps ++ [(.inl k, y)]) (.inl k) = kvs ps := by
      have e := kvs_drop hb
      unfold dropK at e ⊢
      rw [List.filter_append, e]
      simp
    rw [drain_yes hv, hd, drain_run ps (k + 1) (fun x hx => by have := hb x hx; omega) h2]
end Mw

/-! E5 -/
namespace Mw
open PySem L2
def spOutGo (C : Addr) : Sp := fun vs H Q _ => ∃ p l0 g ds x, vs = [.ref p, x] ∧ HandAt p l0 H ∧ Tp C p H (outD g ds) x ∧ OutS g ds ∧ ∀ H', HandAt p l0 H' → Keep p H H' → Q (.bl true) H'
theorem gdt_thing {d : PyData} (h : GdT d) : isThing d = true := by
  unfold isThing
  rw [h.2, h.1.1]
  rfl
theorem outS_ok {g : Nat} {ds : List PyData} (h : OutS g ds) : isOut (outD g ds) = true ∧ sz (outD g ds) ≤ 900 ∧ noDict (outD g ds) = true ∧ (outD g ds).depth ≤ 6 := by
  obtain ⟨h1, h2, h3⟩ := h
  have hpl : plainAll ds = true := plainAll_of fun d hd => (h3 d hd).1.1
  refine ⟨?_, ?_, ?_, ?_⟩
  · show (isNb 4294967296 (.int (g : Nat)) && areT (.tuple ds)) = true
    have e1 : isNb 4294967296 (.int (g : Nat)) = true := by
      simp only [isNb, Bool.and_eq_true, decide_eq_true_eq]
      omega
    rw [e1, Bool.true_and]
    show (ds.map isThing).all id = true
    rw [List.all_eq_true]
    intro b hb
    obtain ⟨d, hd, rfl⟩ := List.mem_map.mp hb
    exact gdt_thing (h3 d hd)
  · show 1 + (szAll ds + 1 + 0) + 1 ≤ 900
    have := szAll_le fun d hd => (h3 d hd).1.2.2.1
    omega
  · show (true && (noDictAll ds && true)) = true
    rw [plain_noAll _ hpl]
    rfl
  · show max 0 (max (PyData.depthAll ds + 1) 0) + 1 ≤ 6
    have := depthAll_le fun d hd => (h3 d hd).1.2.1
    omega
section
variable {C p : Addr} {H H' : Hp} {K : PySem.W.Frag} {Q : VK}
theorem rd_from {v : V} {ds : List PyData} {r : Nat} (hp : ∃ o, H p = some o) (h1 : Tp C p H (.tuple ds) v) (hr : r ≤ ds.length) (q : ∀ t H', Same H H' → Tp C p H' (.tuple (ds.drop r)) t → Q t H') : rSlA K v (some (r : Int)) none H Q := by
  obtain ⟨a, xs, rfl, a1, a2⟩ := tp_tup' (id h1)
  obtain ⟨o, ho⟩ := hp
  have hl := a2.len
  refine ⟨a, xs, rfl, SqT.of a1.2, fun e => ?_, fun _ c hc => ?_⟩
  · have e1 : min r xs.length = 0 := by rw [← HT.sIx_nat xs.length 0 r]; exact e.1
    have e2 : ds.drop r = ds := by
      by_cases z : r = 0
      · rw [z, List.drop_zero]
      · have : ds = [] := List.eq_nil_of_length_eq_zero (by omega)
        rw [this, List.drop_nil]
    have z := q (.ref a) H (Same.refl H)
    rw [e2] at z
    exact z h1
  · have e : cutV xs (some (r : Int)) none = xs.drop r := by
      unfold cutV
      rw [HT.sIx_none, HT.sIx_nat, Nat.min_eq_left (by omega), List.take_of_length_le (by rw [List.length_drop]; omega)]
    rw [e]
    exact q _ _ (same_new hc) (tp_tup ⟨(ne_of_none ho hc).symm, upd_same⟩ (TpAll.keep (Keep.new hc) _ _ (a2.drop r)))
end
section
variable {P : Program} {w : World} {K : PySem.W.Frag} {mg : Str → Option Value} {base : Heap}
local macro_rules | `(tactic| walk_at "rd") => `(tactic| (repeat (first
  | ((with_reducible refine' rd_var ?h0 ?_); (case h0 => rfl))
  | with_reducible refine rd_c ?_
  | with_reducible refine rd_op ?_
  | with_reducible refine rd_nil ?_
  | with_reducible refine rd_cons ?_
  | with_reducible refine rd_tup ?_
  | with_reducible refine rd_lst ?_
  | with_reducible refine rd_ifs ?_
  | with_reducible refine rd_seq ?_
  | with_reducible refine rd_next ?_
  | with_reducible refine rd_ret ?_
  | with_reducible refine rd_asg ?_
  | ((with_reducible refine' rd_gset ?hs ?_); (case hs => ((simp only [L2.start, List.map_cons, List.map_nil, List.length_cons, List.length_nil, List.cons_append, List.nil_append, List.set_cons_zero, List.set_cons_succ, Nat.reduceAdd, Nat.reduceSub, Nat.zero_add, List.reduceReplicate]); rfl)))
  | with_reducible refine rd_drop ?_
  | with_reducible refine rd_test ?_
  | with_reducible refine rd_B ?_
  | with_reducible refine rd_bl ?_
  | with_reducible refine rd_blP ?_
  | with_reducible refine rd_andV ?_
  | with_reducible refine rd_orV ?_
  | with_reducible refine rd_notV ?_
  | with_reducible refine rd_and ?_
  | with_reducible refine rd_or ?_
  | with_reducible refine rd_not ?_
  | with_reducible refine rd_chain ?_
  | with_reducible refine rd_dput ?_
  | with_reducible refine rd_dget ?_
  | with_reducible refine rd_cb ?_
  | with_reducible refine rd_call ?_
  | with_reducible refine rd_un ?_
  | with_reducible refine rd_sl ?_
  | with_reducible refine rd_nopart ?_
  | with_reducible refine rd_part ?_
  | with_reducible refine rd_intP ?_
  | with_reducible refine rd_rU ?_
  | with_reducible refine rd_fld ?_
  | with_reducible refine rd_eqI ?_
  | with_reducible refine rd_neI ?_
  | with_reducible refine rd_mko ?_
  | with_reducible refine rd_bm ?_
  | with_reducible refine rd_gsub ?_
  | with_reducible refine rd_i0 ?_)))
theorem ok_law_out_goes_on (T : Tx K mg) (B : Bk K mg T) : FnOk P w K mg base CX0 10 B.law_out_goes_on.f B.law_out_goes_on.fd ["hand", "state"] (spOutGo T.c_Outgoing) := by
  have G_law_take := ok_law_take (P := P) (w := w) (base := base) T B
  have G_law_same := ok_law_same (P := P) (w := w) (base := base) T B 8
  have G_outgoing_of := ok_outgoing_of (P := P) (w := w) (base := base) T B
  have G_Outgoing_copy := ok_ocopy (P := P) (w := w) (base := base) T B
  have G_Outgoing_put := ok_put (P := P) (w := w) (base := base) T B
  have G_Outgoing_state := ok_ostate (P := P) (w := w) (base := base) T B
  have G_Outgoing_known := ok_known (P := P) (w := w) (base := base) T B
  refine B.law_out_goes_on.F.ok sc_law_out_goes_on (fun vs H Q E h => ?_) (fun cdv A outer s H vs Q E hr h => ?_)
  · obtain ⟨p, l0, g, ds, x, rfl, _⟩ := h
    rfl
  · obtain ⟨p, l0, g, ds, x, rfl, hh, hd, hS, q⟩ := h
    obtain ⟨o1, o2, o3, o4⟩ := outS_ok hS
    obtain ⟨c, ys, rfl, hc, hy⟩ := tp_tup' (id hd)
    obtain ⟨x1, x2, rfl, t1, t2⟩ := tpAll2 hy
    cases tp_int' t1
    obtain ⟨c2, zs, rfl, hc2, hz⟩ := tp_tup' (id t2)
    have hlz := hz.len
    have hl4 := hS.2.1
    refine ⟨_, (pss_cons (ps_set (i := 2) sc_law_out_goes_on.nd rfl (Or.inl rfl) (pe_call G_outgoing_of (hr.mono (by decide)) rfl B.outgoing_of.m B.outgoing_of.F.kp B.outgoing_of.b .nil passL (pa_cons (pv 1) pa_nil)))
      (pss_cons (ps_set (i := 3) sc_law_out_goes_on.nd rfl (Or.inl rfl) (pe_meth0 (pv 2) T.W_Outgoing.cl ⟨B.Outgoing_copy.a, B.Outgoing_copy.i, B.Outgoing_copy.F.kp⟩ G_Outgoing_copy (hr.mono (by decide)) B.Outgoing_copy.b .nil pass0))
      (pss_cons (ps_if (PW.pt (pw_or (pt_not (pt_val (pe_call G_law_same (hr.mono (by decide)) rfl B.law_same.m B.law_same.F.kp B.law_same.b .nil pass0 (pa_cons (pe_meth (pv 2) T.W_Outgoing.cl ⟨B.Outgoing_put.a, B.Outgoing_put.i, B.Outgoing_put.F.kp⟩ G_Outgoing_put (hr.mono (by decide)) B.Outgoing_put.b .nil pass0 (pa_cons (pe_tup (pa_cons pe_str pa_nil)) pa_nil)) (pa_cons (pe_op op_add (pe_ix ix_tup (pv 1) pe_int (fun _ _ => rfl)) (pe_callB call_len_seq (by rfl) T.b_len (by decide +kernel) (pa_cons (pe_ix ix_tup (pv 1) pe_int (fun _ _ => rfl)) pa_nil))) pa_nil))))) (pw_or1 (pt_not (pt_val (pe_call G_law_same (hr.mono (by decide)) rfl B.law_same.m B.law_same.F.kp B.law_same.b .nil pass0 (pa_cons (pe_meth0 (pv 3) T.W_Outgoing.cl ⟨B.Outgoing_state.a, B.Outgoing_state.i, B.Outgoing_state.F.kp⟩ G_Outgoing_state (hr.mono (by decide)) B.Outgoing_state.b .nil pass0) (pa_cons (pv 1) pa_nil)))))))) (pss_one (ps_ret pe_bl)) pss_nil)
      (pss_cons (ps_set (i := 4) sc_law_out_goes_on.nd rfl (Or.inl rfl) (pe_op op_add (pe_ix ix_tup (pv 1) pe_int (fun _ _ => rfl)) (pe_call G_law_take (hr.mono (by decide)) rfl B.law_take.m B.law_take.F.kp B.law_take.b .nil pass0 (pa_cons (pv 0) (pa_cons (pe_op op_add (pe_callB call_len_seq (by rfl) T.b_len (by decide +kernel) (pa_cons (pe_ix ix_tup (pv 1) pe_int (fun _ _ => rfl)) pa_nil)) pe_int) pa_nil)))))
      (pss_cons (ps_if (pt_not (pt_val (pe_call G_law_same (hr.mono (by decide)) rfl B.law_same.m B.law_same.F.kp B.law_same.b .nil pass0 (pa_cons (pe_meth (pv 2) T.W_Outgoing.cl ⟨B.Outgoing_known.a, B.Outgoing_known.i, B.Outgoing_known.F.kp⟩ G_Outgoing_known (hr.mono (by decide)) B.Outgoing_known.b .nil passL (pa_cons (pv 4) pa_nil)) (pa_cons (pe_op op_sub (pv 4) (pe_ix ix_tup (pv 1) pe_int (fun _ _ => rfl))) pa_nil))))) (pss_one (ps_ret pe_bl)) pss_nil)
      (pss_one (ps_ret (pe_call G_law_same (hr.mono (by decide)) rfl B.law_same.m B.law_same.F.kp B.law_same.b .nil pass0 (pa_cons (pe_meth0 (pv 2) T.W_Outgoing.cl ⟨B.Outgoing_state.a, B.Outgoing_state.i, B.Outgoing_state.F.kp⟩ G_Outgoing_state (hr.mono (by decide)) B.Outgoing_state.b .nil pass0) (pa_cons (pe_tup (pa_cons (pv 4) (pa_cons (pe_op op_catA (pe_slice sl_tupA (pe_ix ix_tup (pv 1) pe_int (fun _ _ => rfl)) (po_some (pe_op op_sub (pv 4) (pe_ix ix_tup (pv 1) pe_int (fun _ _ => rfl)))) po_none) (pe_tup (pa_cons (pe_tup (pa_cons pe_str pa_nil)) pa_nil))) pa_nil))) pa_nil)))))))))), ?_⟩
    walk_at "rd"
    refine ⟨p, _, _, rfl, hd, o2, fun _ a l g' xs ds' H1 s1 na nl hO ed hds => ?_, fun ho => by rw [o1] at ho; cases ho⟩
    obtain ⟨rfl, rfl⟩ : (g : Int) = g' ∧ ds = ds' := by
      have : PyData.tuple [.int (g : Nat), .tuple ds] = .tuple [.int g', .tuple ds'] := ed
      simp only [PyData.tuple.injEq, List.cons.injEq, PyData.int.injEq, and_true] at this
      exact this
    have hlx := hds.len
    have hh1 := hh.keep s1
    walk_at "rd"
    obtain ⟨⟨dx, ha⟩, hl⟩ := id hO
    refine rd_meth ?_
    walk_at "rd"
    refine ⟨a, dx, _, rfl, ha, rfl, ?_⟩
    walk_at "rd"
    refine ⟨a, l, g, xs, rfl, hO, fun a2 l2 H2 s2 na2 nl2 hO2 => ?_⟩
    walk_at "rd"
    have s12 := s1.trans s2
    have hOb := hO.same s2
    obtain ⟨⟨dxb, hab⟩, hlb⟩ := id hOb
    refine rd_meth ?_
    walk_at "rd"
    refine ⟨a, dxb, _, rfl, hab, rfl, ?_⟩
    walk_at "rd"
    refine rd_disp rfl fun t3 n3 => ?_
    have s3 := same_new (o := .tup [.str "new"]) n3
    have s13 := s12.trans s3
    have hh3 := hh.keep s13
    have y3 := tp_new (C := T.c_Outgoing) (hh.keep s12) n3 (tpAll_cons (tp_str (s := "new")) tpAll_nil)
    walk_at "rd"
    refine ⟨a, l, g, xs, .ref t3, rfl, hOb.same s3, by omega, fun H4 f4 hO4 => ?_⟩
    walk_at "rd"
    have nla : ∀ b u, H b = some u → b ∉ [l] := fun b u e => by simpa using ne_of_none e nl
    have S4 : Same H H4 := fun b u e => f4 b u (nla b u e) (s13 b u e)
    have hh4 := hh.keep S4
    have kt4 : KT (upd H2 t3 (.tup [.str "new"])) H4 := KT.fr f4 (fun b hb ys z => by
      rw [show b = l by simpa using hb, s3 _ _ hlb] at z
      cases z)
    have hx4 := (s3 _ _ hlb)
    refine rd_ixT (S4 _ _ hc.2) rfl ?_
    walk_at "rd"
    refine rd_ixT (S4 _ _ hc.2) rfl ?_
    walk_at "rd"
    refine ⟨c2, zs, rfl, .inr (SqT.of (S4 _ _ hc2.2)), ?_⟩
    walk_at "rd"
    rw [show (zs.length : Nat) = xs.length by omega]
    refine ⟨p, .int ((g : Int) + (xs.length : Nat)), _, _, rfl, rfl, (by show 0 < 8; decide), tp_int, tp_int, fun H5 s5 => ?_⟩
    walk_at "rd"
    refine rd_no rfl ?_
    walk_at "rd"
    have S5 := S4.trans s5
    have nl2l : l2 ≠ l := (ne_of_none hl nl2).symm
    have na2l : a2 ≠ l := (ne_of_none hl na2).symm
    have hT4 := (((hO2.same s3).fr f4 (by simpa using na2l) (by simpa using nl2l)).same s5)
    obtain ⟨⟨dxt, hat⟩, hlt⟩ := id hT4
    refine rd_meth ?_
    walk_at "rd"
    refine ⟨a2, dxt, _, rfl, hat, rfl, ?_⟩
    walk_at "rd"
    refine ⟨a2, l2, g, xs, rfl, hT4, fun t u H6 s6 nt ht hu nu => ?_⟩
    walk_at "rd"
    have hh5 := hh4.keep s5
    have S6 := S5.trans s6
    have hds5 : TpAll T.c_Outgoing p H5 ds xs := tp_kt (n := 3) (s := 5) ((KT.same (s2.trans s3)).trans (kt4.trans (KT.same s5))) (fun z hz => (hS.2.2 z hz).1) hds
    have td : Tp T.c_Outgoing p H6 (outD g ds) (.ref t) := tp_tup ⟨hh5.ne nt, ht⟩ (tpAll_cons tp_int (tpAll_cons (tp_tup ⟨hh5.ne nu, hu⟩ (pas hds5 s6)) tpAll_nil))
    refine ⟨p, outD g ds, _, _, rfl, o3, by omega, td, ps hd S6, fun H7 s7 => ?_⟩
    walk_at "rd"
    refine rd_no rfl ?_
    walk_at "rd"
    have S7 := S6.trans s7
    have hh7 := hh.keep S7
    refine rd_ixT (S7 _ _ hc.2) rfl ?_
    walk_at "rd"
    refine rd_ixT (S7 _ _ hc.2) rfl ?_
    walk_at "rd"
    refine ⟨c2, zs, rfl, .inr (SqT.of (S7 _ _ hc2.2)), ?_⟩
    walk_at "rd"
    refine ⟨p, l0, _, rfl, by omega, by omega, hh7, fun r H8 r0 r1 hh8 k8 => ?_⟩
    obtain ⟨r, rfl⟩ : ∃ r' : Nat, r = r' := ⟨r.toNat, by omega⟩
    have K8 : Keep p H H8 := (Keep.same S7).trans k8
    have kt8 : KT H7 H8 := KT.keep hh7 k8
    have npa : a ≠ p := hh.ne na
    have npl : l ≠ p := hh.ne nl
    have hO8 := (hO4.same (s5.trans (s6.trans s7))).fr k8.fr (by simpa using npa) (by simpa using npl)
    obtain ⟨⟨dx8, ha8⟩, hl8⟩ := id hO8
    walk_at "rd"
    refine rd_meth ?_
    walk_at "rd"
    refine ⟨a, dx8, _, rfl, ha8, rfl, ?_⟩
    walk_at "rd"
    refine ⟨a, l, g, _, _, rfl, hO8, by omega, by rw [List.length_append]; omega, by rw [List.length_append]; simp; omega, fun l9 u9 H9 hu9 f9 nl9 hO9 => ?_⟩
    have hur : u9 = r := by
      by_cases z : r = 0
      · rw [z, if_neg (by omega)] at hu9
        omega
      · rw [if_pos (by omega)] at hu9
        omega
    subst hur
    walk_at "rd"
    have hc9 : c ≠ a := ne_of_none hc.2 na
    have hc29 : c2 ≠ a := ne_of_none hc2.2 na
    have hcA := f9.one hc9 (K8 _ _ hc.1 hc.2)
    have hcB := f9.one hc29 (K8 _ _ hc2.1 hc2.2)
    have hh9 : HandAt p l0 H9 := by
      obtain ⟨u1, e1⟩ := hh.there
      obtain ⟨u2, e2⟩ := hh.there2
      exact hh8.fr f9 (by simpa using ne_of_none e1 na) (by simpa using ne_of_none e2 na)
    have K9 : Keep p H H9 := fun b u n e => f9.one (ne_of_none e na) (K8 b u n e)
    have kt9 : KT H8 H9 := KT.fr f9 (fun b hb ys z => by
      rw [show b = a by simpa using hb, ha8] at z
      cases z)
    refine rd_ixT hcA rfl ?_
    walk_at "rd"
    rw [show (g : Int) + (u9 : Nat) - g = (u9 : Nat) by omega]
    refine ⟨p, .int (u9 : Nat), _, _, rfl, rfl, (by show 0 < 8; decide), tp_int, tp_int, fun HA sA => ?_⟩
    walk_at "rd"
    refine rd_no rfl ?_
    walk_at "rd"
    have hOA := hO9.same sA
    obtain ⟨⟨dxA, haA⟩, hlA⟩ := id hOA
    refine rd_meth ?_
    walk_at "rd"
    refine ⟨a, dxA, _, rfl, haA, rfl, ?_⟩
    walk_at "rd"
    refine ⟨a, l9, _, _, rfl, hOA, fun tB uB HB sB nB hB huB nuB => ?_⟩
    walk_at "rd"
    have sAB := sA.trans sB
    refine rd_ixT (sAB _ _ hcA) rfl ?_
    walk_at "rd"
    refine rd_ixT (sAB _ _ hcA) rfl ?_
    walk_at "rd"
    have hhA := hh9.keep sA
    have hhB := hh9.keep sAB
    have K9B : Keep p H HB := K9.trans (Keep.same sAB)
    rw [show (g : Int) + (u9 : Nat) - g = (u9 : Nat) by omega]
    refine rd_from hhB.there (Tp.keep K9B _ _ t2) (by omega) fun tC HC sC hC => ?_
    walk_at "rd"
    refine rd_disp rfl fun tD nD => ?_
    have sD := same_new (o := .tup [.str "new"]) nD
    have hhC := hhB.keep sC
    have yD := tp_new (C := T.c_Outgoing) hhC nD (tpAll_cons (tp_str (s := "new")) tpAll_nil)
    walk_at "rd"
    refine rd_disp rfl fun tE nE => ?_
    have hhD := hhC.keep sD
    have sE := same_new (o := .tup [.ref tD]) nE
    have yE := tp_new hhD nE (tpAll_cons yD tpAll_nil)
    have hhE := hhD.keep sE
    refine rd_catT hhE.there (ps hC (sD.trans sE)) yE (by rw [List.length_drop]; simp; omega) fun tF HF sF hF => ?_
    walk_at "rd"
    refine rd_disp rfl fun tG nG => ?_
    have hhF := hhE.keep sF
    have sG := same_new (o := .tup [.int ((g : Int) + (u9 : Nat)), tF]) nG
    have sBG := (sC.trans (sD.trans sE)).trans (sF.trans sG)
    have yG := tp_new hhF nG (tpAll_cons (tp_int (i := (g : Int) + (u9 : Nat))) (tpAll_cons hF tpAll_nil))
    have ktA : KT H5 HB := (KT.same (s6.trans s7)).trans (kt8.trans (kt9.trans (KT.same sAB)))
    have kty : KT (upd H2 t3 (.tup [.str "new"])) HB := (kt4.trans (KT.same s5)).trans ktA
    have zB : TpAll T.c_Outgoing p HB ((ds ++ [PyData.tuple [.str "new"]]).drop u9) ((xs ++ [V.ref t3]).drop u9) := (TpAll.keepT kty _ _ (plainAll_of fun z hz => by
      rcases List.mem_append.mp hz with y | y
      · exact (hS.2.2 z y).1.1
      · rw [show z = .tuple [.str "new"] by simpa using y]
        rfl) ((pas (pas hds s2) s3).append (tpAll_cons y3 tpAll_nil))).drop u9
    rw [List.drop_append_of_le_length (by omega)] at zB
    have yB : Tp T.c_Outgoing p HB (.tuple [.int ((g : Int) + (u9 : Nat)), .tuple (ds.drop u9 ++ [.tuple [.str "new"]])]) (.ref tB) := tp_tup ⟨hhA.ne nB, hB⟩ (tpAll_cons tp_int (tpAll_cons (tp_tup ⟨hhA.ne nuB, huB⟩ zB) tpAll_nil))
    have hpl : plainAll (ds.drop u9 ++ [.tuple [.str "new"]]) = true := plainAll_of fun z hz => by
      rcases List.mem_append.mp hz with y | y
      · exact (hS.2.2 z (List.mem_of_mem_drop y)).1.1
      · rw [show z = .tuple [.str "new"] by simpa using y]
        rfl
    refine ⟨p, _, _, _, rfl, ?_, ?_, ps yB sBG, yG, fun HH sH => ?_⟩
    · show (true && (noDictAll (ds.drop u9 ++ [.tuple [.str "new"]]) && true)) = true
      rw [plain_noAll _ hpl]
      rfl
    · show max 0 (max (PyData.depthAll (ds.drop u9 ++ [.tuple [.str "new"]]) + 1) 0) + 1 < 8
      have := depthAll_le (n := 3) (ds := ds.drop u9 ++ [.tuple [.str "new"]]) fun z hz => by
        rcases List.mem_append.mp hz with y | y
        · exact (hS.2.2 z (List.mem_of_mem_drop y)).1.2.1
        · rw [show z = .tuple [.str "new"] by simpa using y]
          decide +kernel
      omega
    exact q HH (hhF.keep (sG.trans sH)) (K9B.trans (Keep.same (sBG.trans sH)))
end
end Mw

/-! E6 -/
namespace Mw
open PySem L2
def spGoOn (C : Addr) : Sp := fun vs H Q _ => ∃ p l0 g ds k ps x y, vs = [.ref p, x, y] ∧ HandAt p l0 H ∧ Tp C p H (outD g ds) x ∧ OutS g ds ∧ Tp C p H (outD k (pd ps)) y ∧ InS k ps ∧ ∀ H', HandAt p l0 H' → Keep p H H' → Q (.bl true) H'
theorem chk_pd {k : Int} : ∀ {la : Int} {ps : List (Int × PyData)}, (la :: ps.map (·.1)).Pairwise (· < ·) → (∀ x ∈ ps, GdT x.2) → (∀ x ∈ ps, x.1 < k + 1000) → chk k la (pd ps) = true
  | la, [], _, _, _ => rfl
  | la, x :: ps, h, hg, hl => by
    rw [List.map_cons] at h
    obtain ⟨h1, h2⟩ := List.pairwise_cons.mp h
    show (isThing x.2 && (decide (la < x.1) && decide (x.1 < k + 1000)) && chk k x.1 (pd ps)) = true
    rw [gdt_thing (hg x (by simp)), decide_eq_true (h1 x.1 (by simp)), decide_eq_true (hl x (by simp)), chk_pd h2 (fun y hy => hg y (List.mem_cons_of_mem _ hy)) (fun y hy => hl y (List.mem_cons_of_mem _ hy))]
    rfl
theorem pd_mem {ps : List (Int × PyData)} (h : ∀ x ∈ ps, GdT x.2) : ∀ d ∈ pd ps, Gd 4 7 d := fun d hd => by
  obtain ⟨x, hx, rfl⟩ := List.mem_map.mp hd
  obtain ⟨⟨a1, a2, a3, a4⟩, _⟩ := h x hx
  refine ⟨?_, ?_, ?_, ?_⟩
  · show (true && (plainD x.2 && true)) = true
    rw [a1]
    rfl
  · show max 0 (max x.2.depth 0) + 1 ≤ 4
    omega
  · show 1 + (sz x.2 + 0) + 1 ≤ 7
    omega
  · show (true && (x.2.canLay0 && true)) = true
    rw [a4]
    rfl
theorem inS_ok {k : Nat} {ps : List (Int × PyData)} (h : InS k ps) : isIn (outD k (pd ps)) = true ∧ sz (outD k (pd ps)) ≤ 900 ∧ noDict (outD k (pd ps)) = true ∧ (outD k (pd ps)).depth ≤ 6 := by
  obtain ⟨h1, h2, h3, h4, h5⟩ := h
  have hm := pd_mem h3
  have hpl : plainAll (pd ps) = true := plainAll_of fun d hd => (hm d hd).1
  have hlp : (pd ps).length = ps.length := List.length_map ..
  refine ⟨?_, ?_, ?_, ?_⟩
  · show (isNb 4294967296 (.int (k : Nat)) && canH k (.tuple (pd ps))) = true
    have e1 : isNb 4294967296 (.int (k : Nat)) = true := by
      simp only [isNb, Bool.and_eq_true, decide_eq_true_eq]
      omega
    rw [e1, Bool.true_and]
    exact (chk_can (k := (k : Int)) (by omega) (la := (k : Int)) ⟨Int.le_refl _, by omega⟩ (pd ps)).symm.trans (chk_pd h4 h3 h5)
  · show 1 + (szAll (pd ps) + 1 + 0) + 1 ≤ 900
    have := szAll_le fun d hd => (hm d hd).2.2.1
    omega
  · show (true && (noDictAll (pd ps) && true)) = true
    rw [plain_noAll _ hpl]
    rfl
  · show max 0 (max (PyData.depthAll (pd ps) + 1) 0) + 1 ≤ 6
    have := depthAll_le fun d hd => (hm d hd).2.1
    omega
theorem run_eq {α β : Type} : ∀ {b : Int} {ps : List (Int × α)} {qs : List (Int × β)}, ps.map (·.1) = qs.map (·.1) → run b ps = run b qs
  | _, [], [], _ => rfl
  | _, [], y :: qs, h => by cases h
  | _, x :: ps, [], h => by cases h
  | b, x :: ps, y :: qs, h => by
    simp only [List.map_cons, List.cons.injEq] at h
    unfold run
    rw [h.1, run_eq h.2]
theorem prs_fst {C p : Addr} {H : Hp} : ∀ {ps : List (Int × PyData)} {pv : List (Int × V)}, PrsD C p H (pd ps) pv → ps.map (·.1) = pv.map (·.1) ∧ TpAll C p H (ps.map (·.2)) (pv.map (·.2))
  | [], pv, h => by
    have : pv = [] := List.eq_nil_of_length_eq_zero h.1.symm
    subst this
    exact ⟨rfl, tpAll_nil⟩
  | x :: ps, [], h => by
    have := h.1
    simp [pd] at this
  | x :: ps, y :: pv, h => by
    obtain ⟨th, e, t⟩ := h.2 0 (.tuple [.int x.1, x.2]) y rfl rfl
    simp only [PyData.tuple.injEq, List.cons.injEq, PyData.int.injEq, and_true] at e
    obtain ⟨e1, e2⟩ := e
    subst e2
    obtain ⟨i1, i2⟩ := prs_fst (C := C) (p := p) (H := H) (ps := ps) (pv := pv) ⟨by simpa [pd] using h.1, fun j d z a b => h.2 (j + 1) d z (by simpa [pd] using a) (by simpa using b)⟩
    refine ⟨?_, tpAll_cons t i2⟩
    rw [List.map_cons, List.map_cons, e1, i1]
def gapD : PyData := .tuple [.str "gap"]
theorem PrsD.drop {C p : Addr} {H : Hp} {pds : List PyData} {ps : List (Int × V)} (h : PrsD C p H pds ps) (r : Nat) : PrsD C p H (pds.drop r) (ps.drop r) := ⟨by rw [List.length_drop, List.length_drop, h.1], fun j d x a b => h.2 (r + j) d x (by rw [List.getElem?_drop] at a; exact a) (by rw [List.getElem?_drop] at b; exact b)⟩
theorem PrsD.kt {C p : Addr} {H H' : Hp} {pds : List PyData} {ps : List (Int × V)} (h : PrsD C p H pds ps) (k : KT H H') (hg : ∀ d ∈ pds, plainD d = true) : PrsD C p H' pds ps := ⟨h.1, fun j d x a b => by
  obtain ⟨th, e, t⟩ := h.2 j d x a b
  refine ⟨th, e, Tp.keepT k _ _ ?_ t⟩
  have z := hg d (List.mem_of_getElem? a)
  rw [e] at z
  have z2 : (true && (plainD th && true)) = true := z
  simpa using z2⟩
section
variable {P : Program} {w : World} {K : PySem.W.Frag} {mg : Str → Option Value} {base : Heap}
local macro_rules | `(tactic| walk_at "rd") => `(tactic| (repeat (first
  | ((with_reducible refine' rd_var ?h0 ?_); (case h0 => rfl))
  | with_reducible refine rd_c ?_
  | with_reducible refine rd_op ?_
  | with_reducible refine rd_nil ?_
  | with_reducible refine rd_cons ?_
  | with_reducible refine rd_tup ?_
  | with_reducible refine rd_lst ?_
  | with_reducible refine rd_ifs ?_
  | with_reducible refine rd_seq ?_
  | with_reducible refine rd_next ?_
  | with_reducible refine rd_ret ?_
  | with_reducible refine rd_asg ?_
  | ((with_reducible refine' rd_gset ?hs ?_); (case hs => ((simp only [L2.start, List.map_cons, List.map_nil, List.length_cons, List.length_nil, List.cons_append, List.nil_append, List.set_cons_zero, List.set_cons_succ, Nat.reduceAdd, Nat.reduceSub, Nat.zero_add, List.reduceReplicate]); rfl)))
  | with_reducible refine rd_drop ?_
  | with_reducible refine rd_test ?_
  | with_reducible refine rd_B ?_
  | with_reducible refine rd_bl ?_
  | with_reducible refine rd_blP ?_
  | with_reducible refine rd_andV ?_
  | with_reducible refine rd_orV ?_
  | with_reducible refine rd_notV ?_
  | with_reducible refine rd_and ?_
  | with_reducible refine rd_or ?_
  | with_reducible refine rd_not ?_
  | with_reducible refine rd_chain ?_
  | with_reducible refine rd_dput ?_
  | with_reducible refine rd_dget ?_
  | with_reducible refine rd_cb ?_
  | with_reducible refine rd_call ?_
  | with_reducible refine rd_un ?_
  | with_reducible refine rd_sl ?_
  | with_reducible refine rd_nopart ?_
  | with_reducible refine rd_part ?_
  | with_reducible refine rd_intP ?_
  | with_reducible refine rd_rU ?_
  | with_reducible refine rd_fld ?_
  | with_reducible refine rd_eqI ?_
  | with_reducible refine rd_neI ?_
  | with_reducible refine rd_mko ?_
  | with_reducible refine rd_bm ?_
  | with_reducible refine rd_gsub ?_
  | with_reducible refine rd_i0 ?_)))
theorem ok_law_goes_on (T : Tx K mg) (B : Bk K mg T) : FnOk P w K mg base CX0 11 B.law_goes_on.f B.law_goes_on.fd ["hand", "state", "other"] (spGoOn T.c_Outgoing) := by
  have G_law_out_top := ok_law_out_top (P := P) (w := w) (base := base) T B
  have G_law_in_top := ok_law_in_top (P := P) (w := w) (base := base) T B
  have G_law_out_goes_on := ok_law_out_goes_on (P := P) (w := w) (base := base) T B
  have G_law_same := ok_law_same (P := P) (w := w) (base := base) T B 8
  have G_incoming_of := ok_incoming_of (P := P) (w := w) (base := base) T B
  have G_Incoming_copy := ok_icopy (P := P) (w := w) (base := base) T B
  have G_Incoming_take := ok_itake (P := P) (w := w) (base := base) T B
  have G_Incoming_state := ok_istate (P := P) (w := w) (base := base) T B
  refine B.law_goes_on.F.ok sc_law_goes_on (fun vs H Q E h => ?_) (fun cdv A outer s H vs Q E hr h => ?_)
  · obtain ⟨p, l0, g, ds, k, ps, x, y, rfl, _⟩ := h
    rfl
  · obtain ⟨p, l0, g, ds, k, qs, x, y, rfl, hh, hx, hS, hy, hI, q⟩ := h
    obtain ⟨o1, o2, o3, o4⟩ := inS_ok hI
    obtain ⟨i1, i2, i3, i4, i5⟩ := id hI
    refine ⟨_, (C8.pss_cut (ps_if (PW.pt (pw_and (pt_cmpR op_lt (pe_op op_add (pe_call G_law_out_top (hr.mono (by decide)) rfl B.law_out_top.m B.law_out_top.F.kp B.law_out_top.b .nil pass0 (pa_cons (pv 1) pa_nil)) pe_int) (pe_op op_pow pe_int pe_int) (nomark _)) (pw_and1 (pt_not (pt_val (pe_call G_law_out_goes_on (hr.mono (by decide)) rfl B.law_out_goes_on.m B.law_out_goes_on.F.kp B.law_out_goes_on.b .nil pass0 (pa_cons (pv 0) (pa_cons (pv 1) pa_nil)))))))) (pss_one (ps_ret pe_bl)) pss_nil)
      (pss_cons (ps_if (pt_cmpR op_ge (pe_op op_add (pe_call G_law_in_top (hr.mono (by decide)) rfl B.law_in_top.m B.law_in_top.F.kp B.law_in_top.b .nil pass0 (pa_cons (pv 2) pa_nil)) pe_int) (pe_op op_pow pe_int pe_int) (nomark _)) (pss_one (ps_ret pe_bl)) pss_nil)
      (pss_cons (ps_set (i := 3) sc_law_goes_on.nd rfl (Or.inl rfl) (pe_call G_incoming_of (hr.mono (by decide)) rfl B.incoming_of.m B.incoming_of.F.kp B.incoming_of.b .nil passL (pa_cons (pv 2) pa_nil)))
      (pss_cons (ps_set (i := 4) sc_law_goes_on.nd rfl (Or.inl rfl) (pe_meth0 (pv 3) T.W_Incoming.cl ⟨B.Incoming_copy.a, B.Incoming_copy.i, B.Incoming_copy.F.kp⟩ G_Incoming_copy (hr.mono (by decide)) B.Incoming_copy.b .nil pass0))
      (pss_cons (ps_set (i := 5) sc_law_goes_on.nd rfl (Or.inl rfl) (pe_lst (pa_cons (pe_tup (pa_cons pe_str pa_nil)) pa_nil)))
      (pss_cons (ps_for PassesOwn.never rfl (pi_range1 (by rfl) T.b_range (pa_cons (pe_callB call_len_seq (by rfl) T.b_len (by decide +kernel) (pa_cons (pe_ix ix_tup (pv 2) pe_int (fun _ _ => rfl)) pa_nil)) pa_nil)) (pg_name (i := 6) sc_law_goes_on.nd rfl (Or.inl rfl)) (pss_one (ps_if (pt_cmpR op_eq (pe_ix ix_tup (pe_ix ix_tup (pe_ix ix_tup (pv 2) pe_int (fun _ _ => rfl)) (pv 6) (fun _ _ => rfl)) pe_int (fun _ _ => rfl)) (pe_op op_add (pe_op op_add (pe_ix ix_tup (pv 2) pe_int (fun _ _ => rfl)) pe_int) (pv 6)) (nomark _)) (pss_one (ps_expr (pe_bm PySem.F.plainAttrs_list PySem.F.slot_list_append PySem.F.type_list_append mt_append (pv 5) (pa_cons (pe_ix ix_tup (pe_ix ix_tup (pe_ix ix_tup (pv 2) pe_int (fun _ _ => rfl)) (pv 6) (fun _ _ => rfl)) pe_int (fun _ _ => rfl)) pa_nil)))) pss_nil)))
      (pss_cons (ps_if (pt_not (pt_val (pe_call G_law_same (hr.mono (by decide)) rfl B.law_same.m B.law_same.F.kp B.law_same.b .nil pass0 (pa_cons (pe_meth (pv 3) T.W_Incoming.cl ⟨B.Incoming_take.a, B.Incoming_take.i, B.Incoming_take.F.kp⟩ G_Incoming_take (hr.mono (by decide)) B.Incoming_take.b .nil passL (pa_cons (pe_ix ix_tup (pv 2) pe_int (fun _ _ => rfl)) (pa_cons (pe_tup (pa_cons pe_str pa_nil)) pa_nil))) (pa_cons (pv 5) pa_nil))))) (pss_one (ps_ret pe_bl)) pss_nil)
      (pss_cons (ps_set (i := 7) sc_law_goes_on.nd rfl (Or.inl rfl) (pe_slice sl_tupA (pe_ix ix_tup (pv 2) pe_int (fun _ _ => rfl)) (po_some (pe_op op_sub (pe_callB call_len_seq (by rfl) T.b_len (by decide +kernel) (pa_cons (pv 5) pa_nil)) pe_int)) po_none))
      (pss_cons (ps_if (pt_not (pt_val (pe_call G_law_same (hr.mono (by decide)) rfl B.law_same.m B.law_same.F.kp B.law_same.b .nil pass0 (pa_cons (pe_meth0 (pv 3) T.W_Incoming.cl ⟨B.Incoming_state.a, B.Incoming_state.i, B.Incoming_state.F.kp⟩ G_Incoming_state (hr.mono (by decide)) B.Incoming_state.b .nil pass0) (pa_cons (pe_tup (pa_cons (pe_op op_add (pe_ix ix_tup (pv 2) pe_int (fun _ _ => rfl)) (pe_callB call_len_seq (by rfl) T.b_len (by decide +kernel) (pa_cons (pv 5) pa_nil))) (pa_cons (pv 7) pa_nil))) pa_nil))))) (pss_one (ps_ret pe_bl)) pss_nil)
      (pss_one (ps_ret (pe_call G_law_same (hr.mono (by decide)) rfl B.law_same.m B.law_same.F.kp B.law_same.b .nil pass0 (pa_cons (pe_meth0 (pv 4) T.W_Incoming.cl ⟨B.Incoming_state.a, B.Incoming_state.i, B.Incoming_state.F.kp⟩ G_Incoming_state (hr.mono (by decide)) B.Incoming_state.b .nil pass0) (pa_cons (pv 2) pa_nil)))))))))))))), ?_⟩
    walk_at "rd"
    refine ⟨fun σ1 H1 => σ1 = [some (.ref p), some x, some y, none, none, none, none, none] ∧ HandAt p l0 H1 ∧ Keep p H H1, ?_, ?_⟩
    · walk_at "rd"
      refine ⟨p, g, ds, x, rfl, hx, ?_⟩
      walk_at "rd"
      refine rd_iC ⟨by decide, by decide, by decide⟩ ?_
      walk_at "rd"
      generalize decide ((g : Int) + (ds.length : Nat) + 1 < 2 ^ (31 : Int).toNat) = bb
      refine rd_ite (fun cc => ?_) (fun cc => ?_)
      · walk_at "rd"
        refine ⟨p, l0, g, ds, x, rfl, hh, hx, hS, fun H1 hh1 k1 => ?_⟩
        walk_at "rd"
        refine rd_no rfl ?_
        exact ⟨rfl, hh1, k1⟩
      · refine rd_no rfl ?_
        exact ⟨rfl, hh, Keep.refl⟩
    · rintro σ1 H1 ⟨rfl, hh1, k1⟩
      have hy1 := Tp.keep k1 _ _ hy
      obtain ⟨c, ys, rfl, hc, hys⟩ := tp_tup' (id hy1)
      obtain ⟨x1, x2, rfl, t1, t2⟩ := tpAll2 hys
      cases tp_int' t1
      obtain ⟨c2, zs, rfl, hc2, hz⟩ := tp_tup' (id t2)
      have hlz := hz.len
      have hlp : (pd qs).length = qs.length := List.length_map ..
      walk_at "rd"
      refine ⟨p, k, pd qs, _, rfl, hy1, fun d hd => ?_, by omega, fun m H2 s2 => ?_⟩
      · obtain ⟨z, _, rfl⟩ := List.mem_map.mp hd
        exact ⟨_, _, rfl⟩
      walk_at "rd"
      refine rd_iC ⟨by decide, by decide, by decide⟩ ?_
      walk_at "rd"
      refine rd_ite (fun cc => ?_) (fun cc => ?_)
      · walk_at "rd"
        exact q _ (hh1.keep s2) (k1.trans (Keep.same s2))
      walk_at "rd"
      refine ⟨p, _, _, rfl, ps hy1 s2, o2, fun _ e dd k' pv pds H3 s3 ne nd hI3 ed hpd => ?_, fun ho => by rw [o1] at ho; cases ho⟩
      have hkeys := in_keys ed o1 hpd
      obtain ⟨rfl, rfl⟩ : (k : Int) = k' ∧ pd qs = pds := by
        have : PyData.tuple [.int (k : Nat), .tuple (pd qs)] = .tuple [.int k', .tuple pds] := ed
        simp only [PyData.tuple.injEq, List.cons.injEq, PyData.int.injEq, and_true] at this
        exact this
      have S3 := s2.trans s3
      obtain ⟨hfst, hsnd⟩ := prs_fst hpd
      have hlv : qs.length = pv.length := by
        have := congrArg List.length hfst
        simpa using this
      obtain ⟨⟨dx, he⟩, hdd⟩ := id hI3
      have hnd2 := (List.pairwise_cons.mp hkeys).2
      have hnod : (pv.map (·.1)).Nodup := hnd2.imp fun h => by omega
      walk_at "rd"
      refine rd_meth ?_
      walk_at "rd"
      refine ⟨e, dx, _, rfl, he, rfl, ?_⟩
      walk_at "rd"
      refine ⟨e, dd, k, kvs pv, pv.map (·.1), rfl, hI3, by unfold kvs; rw [List.map_map, List.map_map]; rfl, by rw [List.length_map]; omega, hnod, fun e2 d2 ps2 H4 s4 ne2 nd2 hI4 hpm hpw hpv => ?_⟩
      have eps : ps2 = pv := same_prs hkeys hpm hpw hpv
      subst eps
      walk_at "rd"
      refine rd_disp rfl fun t5 n5 => ?_
      have s5 := same_new (o := .tup [.str "gap"]) n5
      have S4 := S3.trans s4
      have S5 := S4.trans s5
      have hh4 := hh1.keep S4
      have y5 : Tp T.c_Outgoing p _ gapD (.ref t5) := tp_new (C := T.c_Outgoing) hh4 n5 (tpAll_cons (tp_str (s := "gap")) tpAll_nil)
      walk_at "rd"
      refine rd_disp rfl fun D nD => ?_
      have s6 := same_new (o := .lst [.ref t5]) nD
      have S6 := S5.trans s6
      have nD4 := s5.free nD
      walk_at "rd"
      show iRng1 _ _ _ _
      refine rd_rng1 ?_
      walk_at "rd"
      refine rd_ixT (S6 _ _ hc.2) rfl ?_
      walk_at "rd"
      refine ⟨c2, zs, rfl, .inr (SqT.of (S6 _ _ hc2.2)), ?_⟩
      have hqk := i4
      have hq2 := (List.pairwise_cons.mp i4).2
      have hqb : ∀ z ∈ qs, (k : Int) + 1 ≤ z.1 := fun z hz => by
        have := (List.pairwise_cons.mp i4).1 z.1 (List.mem_map_of_mem hz)
        omega
      have hrl := run_len ((k : Int) + 1) qs
      have hreq : run ((k : Int) + 1) ps2 = run ((k : Int) + 1) qs := run_eq hfst.symm
      generalize hr0 : run ((k : Int) + 1) qs = r at *
      refine ⟨_, rfl, by omega, by omega, for_range (lo := 0) (n := ((zs.length : Nat) : Int).toNat) (fun i σ H7 => ∃ (u6 : Option V) (ws : List V), σ = [some (.ref p), some x, some (.ref c), some (.ref e), some (.ref e2), some (.ref D), u6, none] ∧ Fr [D] (upd (upd H4 t5 (.tup [.str "gap"])) D (.lst [.ref t5])) H7 ∧ H7 D = some (.lst ws) ∧ TpAll T.c_Outgoing p H7 (gapD :: (qs.map (·.2)).take (min i r)) ws)
        ⟨_, [.ref t5], rfl, Fr.same (Same.refl _), upd_same, by rw [Nat.zero_min]; exact tpAll_cons (ps y5 s6) tpAll_nil⟩ ?_ ?_⟩
      · rintro i σ H7 hi ⟨u6, ws, rfl, f7, hD7, hws⟩
        have nDb : ∀ b u, (upd H4 t5 (.tup [.str "gap"])) b = some u → b ≠ D := fun b u z => ne_of_none z nD
        have hc7 := f7.one (nDb _ _ (S5 _ _ hc.2)) (S6 _ _ hc.2)
        have hc27 := f7.one (nDb _ _ (S5 _ _ hc2.2)) (S6 _ _ hc2.2)
        have hiq : i < qs.length := by omega
        obtain ⟨z, hz0, tz⟩ := hz.get (i := i) (d := .tuple [.int (qs[i]).1, (qs[i]).2]) (by unfold pd; rw [List.getElem?_map, List.getElem?_eq_getElem hiq]; rfl)
        have hgi : qs[i]? = some qs[i] := List.getElem?_eq_getElem hiq
        generalize qs[i] = xi at *
        obtain ⟨ci, vs, rfl, hci, hvs⟩ := tp_tup' tz
        obtain ⟨v1, v2, rfl, r1, r2⟩ := tpAll2 hvs
        cases tp_int' r1
        have hci7 := f7.one (nDb _ _ (S5 _ _ hci.2)) (S6 _ _ hci.2)
        have hgx := i3 xi (List.mem_of_getElem? hgi)
        have r27 : Tp T.c_Outgoing p H7 xi.2 v2 := Tp.keepT ((KT.same S6).trans (KT.fr f7 (fun b hb ys z => by
          rw [show b = D by simpa using hb, upd_same] at z
          cases z))) _ _ hgx.1.1 r2
        have hrun := run_get hqb hq2 hgi
        rw [hr0] at hrun
        walk_at "rd"
        refine rd_ixT hc7 rfl ?_
        walk_at "rd"
        refine rd_ixT hc27 (at_of (j := i) (by omega) hz0) ?_
        walk_at "rd"
        refine rd_ixT hci7 rfl ?_
        walk_at "rd"
        refine rd_ixT hc7 rfl ?_
        walk_at "rd"
        refine rd_ite (fun h1 => ?_) (fun h1 => ?_)
        · have hir : i < r := hrun.mp (by
            have := of_decide_eq_true h1
            omega)
          have hlw := hws.len
          rw [List.length_cons, List.length_take, List.length_map] at hlw
          walk_at "rd"
          refine ⟨.inl ⟨rfl, _, SqL.of hD7⟩, ?_⟩
          walk_at "rd"
          refine rd_ixT hc7 rfl ?_
          walk_at "rd"
          refine rd_ixT hc27 (at_of (j := i) (by omega) hz0) ?_
          walk_at "rd"
          refine rd_ixT hci7 rfl ?_
          walk_at "rd"
          refine rd_append hD7 (small1000 (by omega)) ?_
          refine ⟨_, ws ++ [v2], rfl, f7.trans Fr.mut, upd_same, ?_⟩
          have em : (qs.map (·.2))[i]? = some xi.2 := by rw [List.getElem?_map, hgi]; rfl
          rw [show min (i + 1) r = i + 1 by omega, take_snoc em]
          rw [show min i r = i by omega] at hws
          refine TpAll.keepT (kt_mut (p := p) (l0 := l0) hD7) _ _ ?_ (hws.append (tpAll_cons r27 tpAll_nil))
          refine plainAll_of fun d hd => ?_
          rcases List.mem_cons.mp hd with w | w
          · rw [w]
            rfl
          · rcases List.mem_append.mp w with w | w
            · obtain ⟨q1, hq1, rfl⟩ := List.mem_map.mp (List.mem_of_mem_take w)
              exact (i3 q1 hq1).1.1
            · rw [show d = xi.2 by simpa using w]
              exact hgx.1.1
        · have hir : ¬ i < r := fun z => by
            have := hrun.mpr z
            have := of_decide_eq_false h1
            omega
          refine ⟨_, ws, rfl, f7, hD7, ?_⟩
          rw [show min (i + 1) r = min i r by omega]
          exact hws
      · rintro σ H7 ⟨u6, ws, rfl, f7, hD7, hws⟩
        rw [show min ((zs.length : Nat) : Int).toNat r = r by omega] at hws
        have hlw := hws.len
        rw [List.length_cons, List.length_take, List.length_map, Nat.min_eq_left hrl] at hlw
        have nDb : ∀ b u, (upd H4 t5 (.tup [.str "gap"])) b = some u → b ≠ D := fun b u z => ne_of_none z nD
        have ktD : KT H4 H7 := (KT.same (s5.trans s6)).trans (KT.fr f7 (fun b hb ys z => by
          rw [show b = D by simpa using hb, upd_same] at z
          cases z))
        have F47 : ∀ b u, H4 b = some u → H7 b = some u := fun b u z => f7.one (nDb _ _ (s5 _ _ z)) ((s5.trans s6) _ _ z)
        have S47 : Same H4 H7 := F47
        have S7 := S4.trans S47
        have hh7 := hh1.keep S7
        have hI7 := (hI3.same s4).same S47
        obtain ⟨⟨dx7, he7⟩, hd7⟩ := id hI7
        walk_at "rd"
        refine rd_meth ?_
        walk_at "rd"
        refine ⟨e, dx7, _, rfl, he7, rfl, ?_⟩
        walk_at "rd"
        refine rd_ixT (S7 _ _ hc.2) rfl ?_
        walk_at "rd"
        refine rd_disp rfl fun t8 n8 => ?_
        have s8 := same_new (o := .tup [.str "gap"]) n8
        have y8 : Tp T.c_Outgoing p _ gapD (.ref t8) := tp_new (C := T.c_Outgoing) hh7 n8 (tpAll_cons (tp_str (s := "gap")) tpAll_nil)
        walk_at "rd"
        obtain ⟨e1, e9⟩ := gap_run (y := .ref t8) hkeys
        have hsub : ((k : Int) :: (ps2.drop r).map (·.1)).Pairwise (· < ·) := hkeys.sublist (List.Sublist.cons₂ _ ((List.drop_sublist r ps2).map _))
        have hndr : ((ps2.drop r).map (·.1)).Pairwise (· < ·) := (List.pairwise_cons.mp hsub).2
        have hkl : (kvs ps2).length = ps2.length := List.length_map ..
        refine ⟨e, dd, k, kvs ps2, k, .ref t8, rfl, hI7.same s8, by omega, by omega, by omega, fun L H9 f9 nL hI9 hL => ?_⟩
        rw [e1, e9, hreq] at hI9 hL
        dsimp only at hI9 hL
        have S48 := S47.trans s8
        have n1 : ∀ b, H3 b = none → b = e → False := fun b z w => by
          rw [w, he] at z
          cases z
        have fE : ∀ b u, H1 b = some u → b ∉ [e, dd] := fun b u z => by
          have z2 := s2 _ _ z
          simp [ne_of_none z2 ne, ne_of_none z2 nd]
        have S9 : Same H1 H9 := fun b u z => f9 b u (fE b u z) ((S7.trans s8) b u z)
        have hh9 := hh1.keep S9
        have kt9 : KT (upd H7 t8 (.tup [.str "gap"])) H9 := KT.fr f9 (fun b hb ys z => by
          simp only [List.mem_cons, List.not_mem_nil, or_false] at hb
          rcases hb with w | w
          · rw [w, s8 _ _ he7] at z
            cases z
          · rw [w, s8 _ _ hd7] at z
            cases z)
        have neD : D ≠ e := fun z => by
          rw [z, s4 _ _ he] at nD4
          cases nD4
        have ndD : D ≠ dd := fun z => by
          rw [z, s4 _ _ hdd] at nD4
          cases nD4
        have hD9 : H9 D = some (.lst ws) := f9.two neD ndD (s8 _ _ hD7)
        have tpl : ∀ d ∈ gapD :: (qs.map (·.2)).take r, plainD d = true ∧ d.depth ≤ 3 := fun d hd => by
          rcases List.mem_cons.mp hd with w | w
          · rw [w]
            exact ⟨rfl, by decide +kernel⟩
          · obtain ⟨q1, hq1, rfl⟩ := List.mem_map.mp (List.mem_of_mem_take w)
            exact ⟨(i3 q1 hq1).1.1, (i3 q1 hq1).1.2.1⟩
        have pall : plainAll (gapD :: (qs.map (·.2)).take r) = true := plainAll_of fun d hd => (tpl d hd).1
        have ws9 : TpAll T.c_Outgoing p H9 (gapD :: (qs.map (·.2)).take r) ws := TpAll.keepT kt9 _ _ pall (pas hws s8)
        have hp7 : TpAll T.c_Outgoing p H7 (qs.map (·.2)) (ps2.map (·.2)) := TpAll.keepT ((KT.same s4).trans ktD) _ _ (plainAll_of fun d hd => by
          obtain ⟨q1, hq1, rfl⟩ := List.mem_map.mp hd
          exact (i3 q1 hq1).1.1) hsnd
        have ls9 : TpAll T.c_Outgoing p H9 (gapD :: (qs.map (·.2)).take r) (.ref t8 :: (ps2.take r).map (·.2)) := TpAll.keepT kt9 _ _ pall (tpAll_cons y8 (by
          rw [List.map_take]
          exact (pas hp7 s8).take r))
        walk_at "rd"
        have hh8 := hh7.keep s8
        refine ⟨p, .list (gapD :: (qs.map (·.2)).take r), _, _, rfl, ?_, ?_, tp_lst ⟨hh8.ne nL, hL⟩ ls9, tp_lst ⟨hh4.ne nD4, hD9⟩ ws9, fun HA sA => ?_⟩
        · show noDictAll _ = true
          exact plain_noAll _ pall
        · show PyData.depthAll _ + 1 < 8
          have := depthAll_le fun d hd => (tpl d hd).2
          omega
        walk_at "rd"
        refine rd_no rfl ?_
        walk_at "rd"
        have SA := S9.trans sA
        have hhA := hh1.keep SA
        refine rd_ixT (SA _ _ hc.2) rfl ?_
        walk_at "rd"
        refine ⟨D, ws, rfl, .inl (SqL.of (sA _ _ hD9)), ?_⟩
        walk_at "rd"
        rw [show ((ws.length : Nat) : Int) - 1 = (r : Nat) by omega]
        refine rd_from hhA.there (ps t2 SA) (by omega) fun tB HB sB hB => ?_
        walk_at "rd"
        have sAB := sA.trans sB
        have hIB := hI9.same sAB
        obtain ⟨⟨dxB, heB⟩, hdB⟩ := id hIB
        refine rd_meth ?_
        walk_at "rd"
        refine ⟨e, dxB, _, rfl, heB, rfl, ?_⟩
        walk_at "rd"
        refine ⟨e, dd, _, kvs (ps2.drop r), (ps2.drop r).map (·.1), rfl, hIB, by unfold kvs; rw [List.map_map, List.map_map]; rfl, by rw [List.length_map, List.length_drop]; omega, fun tC uC tsC psC HC sC nC nuC hC huC hprC hpmC hpwC hpvC => ?_⟩
        have eps : psC = ps2.drop r := same_prs hsub hpmC hpwC hpvC
        subst eps
        walk_at "rd"
        have SB := SA.trans sB
        have SC := SB.trans sC
        refine rd_ixT (SC _ _ hc.2) rfl ?_
        walk_at "rd"
        refine ⟨D, ws, rfl, .inl (SqL.of ((sAB.trans sC) _ _ hD9)), ?_⟩
        walk_at "rd"
        rw [show (k : Int) + ((ws.length : Nat) : Int) = (k : Int) + 1 + (r : Nat) by omega]
        refine rd_disp rfl fun tE nE => ?_
        have hhB := hhA.keep sB
        have hhC := hhB.keep sC
        have sE := same_new (o := .tup [.int ((k : Int) + 1 + (r : Nat)), tB]) nE
        have gpd := pd_mem i3
        have hpC : PrsD T.c_Outgoing p HC ((pd qs).drop r) (ps2.drop r) := (hpd.kt (((KT.same s4).trans ktD).trans ((KT.same s8).trans (kt9.trans (KT.same (sAB.trans sC))))) (fun d hd => (gpd d hd).1)).drop r
        have yC : Tp T.c_Outgoing p HC (.tuple [.int ((k : Int) + 1 + (r : Nat)), .tuple ((pd qs).drop r)]) (.ref tC) := tp_tup ⟨hhB.ne nC, hC⟩ (tpAll_cons tp_int (tpAll_cons (tp_tup ⟨hhB.ne nuC, huC⟩ (prs_tp hhC.no hprC hpC)) tpAll_nil))
        have yE := tp_new hhC nE (tpAll_cons (tp_int (i := (k : Int) + 1 + (r : Nat))) (tpAll_cons (ps hB sC) tpAll_nil))
        refine ⟨p, .tuple [.int ((k : Int) + 1 + (r : Nat)), .tuple ((pd qs).drop r)], _, _, rfl, ?_, ?_, ps yC sE, yE, fun HF sF => ?_⟩
        · show (true && (noDictAll ((pd qs).drop r) && true)) = true
          rw [plain_noAll _ (plainAll_of fun d hd => (gpd d (List.mem_of_mem_drop hd)).1)]
          rfl
        · show max 0 (max (PyData.depthAll ((pd qs).drop r) + 1) 0) + 1 < 8
          have := depthAll_le (n := 4) (ds := (pd qs).drop r) fun d hd => (gpd d (List.mem_of_mem_drop hd)).2.1
          omega
        walk_at "rd"
        refine rd_no rfl ?_
        walk_at "rd"
        have sCF := sE.trans sF
        have SF := SC.trans sCF
        have hhF := hh1.keep SF
        have ne2e : e2 ≠ e := (ne_of_none he ne2).symm
        have ne2d : e2 ≠ dd := (ne_of_none hdd ne2).symm
        have nd2e : d2 ≠ e := (ne_of_none he nd2).symm
        have nd2d : d2 ≠ dd := (ne_of_none hdd nd2).symm
        have hIF := ((hI4.same S48).fr f9 (by simp [ne2e, ne2d]) (by simp [nd2e, nd2d])).same ((sAB.trans sC).trans sCF)
        obtain ⟨⟨dxF, heF⟩, hdF⟩ := id hIF
        refine rd_meth ?_
        walk_at "rd"
        refine ⟨e2, dxF, _, rfl, heF, rfl, ?_⟩
        walk_at "rd"
        refine ⟨e2, d2, k, kvs ps2, ps2.map (·.1), rfl, hIF, by unfold kvs; rw [List.map_map, List.map_map]; rfl, by rw [List.length_map]; omega, fun tG uG tsG psG HG sG nG nuG hG huG hprG hpmG hpwG hpvG => ?_⟩
        have epsG : psG = ps2 := same_prs hkeys hpmG hpwG hpvG
        subst epsG
        walk_at "rd"
        have hhG := hhF.keep sG
        have hpG : PrsD T.c_Outgoing p HG (pd qs) psG := hpd.kt ((((KT.same s4).trans ktD).trans ((KT.same s8).trans (kt9.trans (KT.same (sAB.trans sC))))).trans (KT.same (sCF.trans sG))) (fun d hd => (gpd d hd).1)
        have yG : Tp T.c_Outgoing p HG (outD k (pd qs)) (.ref tG) := tp_tup ⟨hhF.ne nG, hG⟩ (tpAll_cons tp_int (tpAll_cons (tp_tup ⟨hhF.ne nuG, huG⟩ (prs_tp hhG.no hprG hpG)) tpAll_nil))
        refine ⟨p, outD k (pd qs), _, _, rfl, o3, by omega, yG, ps hy1 (SF.trans sG), fun HH sH => ?_⟩
        exact q HH (hhG.keep sH) (k1.trans (Keep.same (SF.trans (sG.trans sH))))
end
end Mw

/-! E7 -/
namespace Mw
open PySem L2
/-- a state whose items are tuples, none deep -/
def StS (xs : List PyData) : Prop := xs.length ≤ 4 ∧ ∀ x ∈ xs, ∃ ys, x = .tuple ys ∧ x.depth ≤ 4 ∧ sz x ≤ 7
def spSpoilt (C : Addr) : Sp := fun vs H Q _ => ∃ p l0 n xs v, vs = [.ref p, v] ∧ HandAt p l0 H ∧ Tp C p H (.tuple [.int n, .tuple xs]) v ∧ StS xs ∧ ∀ d x H', d.depth ≤ 6 → sz d ≤ 100 → Tp C p H' d x → HandAt p l0 H' → Keep p H H' → Q x H'
theorem rd_or2 {a b : Bool} {X Y M : Prop} (hM : (if b = true then X else Y) → M) (h : if (a || b) = true then X else Y) : if a = true then (if true = true then X else Y) else M := by
  cases a
  · exact hM h
  · exact h
theorem all_app {q : PyData → Prop} {a b : List PyData} (h1 : ∀ x ∈ a, q x) (h2 : ∀ x ∈ b, q x) : ∀ x ∈ a ++ b, q x := fun x hx => (List.mem_append.mp hx).elim (h1 x) (h2 x)
theorem all_one {q : PyData → Prop} {a : PyData} (h : q a) : ∀ x ∈ [a], q x := fun x hx => by
  rw [show x = a by simpa using hx]
  exact h
def Bd (n s : Nat) (d : PyData) : Prop := d.depth ≤ n ∧ sz d ≤ s
theorem bd_tup {n s : Nat} {ds : List PyData} (h : ∀ x ∈ ds, x.depth ≤ n) (hs : szAll ds ≤ s) : Bd (n + 1) (s + 1) (.tuple ds) := by
  refine ⟨?_, ?_⟩
  · show PyData.depthAll ds + 1 ≤ n + 1
    have := depthAll_le h
    omega
  · show szAll ds + 1 ≤ s + 1
    omega
theorem bd_list {n s : Nat} {ds : List PyData} (h : ∀ x ∈ ds, x.depth ≤ n) : Bd (n + 1) (s + 1) (.list ds) := by
  refine ⟨?_, ?_⟩
  · show PyData.depthAll ds + 1 ≤ n + 1
    have := depthAll_le h
    omega
  · show 1 ≤ s + 1
    omega
theorem Bd.mono {n s n' s' : Nat} {d : PyData} (h : Bd n s d) (h1 : n ≤ n') (h2 : s ≤ s') : Bd n' s' d := ⟨Nat.le_trans h.1 h1, Nat.le_trans h.2 h2⟩
section
variable {P : Program} {w : World} {K : PySem.W.Frag} {mg : Str → Option Value} {base : Heap}
local macro_rules | `(tactic| walk_at "rd") => `(tactic| (repeat (first
  | ((with_reducible refine' rd_var ?h0 ?_); (case h0 => rfl))
  | with_reducible refine rd_c ?_
  | with_reducible refine rd_op ?_
  | with_reducible refine rd_nil ?_
  | with_reducible refine rd_cons ?_
  | with_reducible refine rd_tup ?_
  | with_reducible refine rd_lst ?_
  | with_reducible refine rd_ifs ?_
  | with_reducible refine rd_seq ?_
  | with_reducible refine rd_next ?_
  | with_reducible refine rd_ret ?_
  | with_reducible refine rd_asg ?_
  | ((with_reducible refine' rd_gset ?hs ?_); (case hs => ((simp only [L2.start, List.map_cons, List.map_nil, List.length_cons, List.length_nil, List.cons_append, List.nil_append, List.set_cons_zero, List.set_cons_succ, Nat.reduceAdd, Nat.reduceSub, Nat.zero_add, List.reduceReplicate]); rfl)))
  | with_reducible refine rd_drop ?_
  | with_reducible refine rd_test ?_
  | with_reducible refine rd_B ?_
  | with_reducible refine rd_bl ?_
  | with_reducible refine rd_blP ?_
  | with_reducible refine rd_andV ?_
  | with_reducible refine rd_orV ?_
  | with_reducible refine rd_notV ?_
  | with_reducible refine rd_and ?_
  | with_reducible refine rd_or ?_
  | with_reducible refine rd_not ?_
  | with_reducible refine rd_chain ?_
  | with_reducible refine rd_dput ?_
  | with_reducible refine rd_dget ?_
  | with_reducible refine rd_cb ?_
  | with_reducible refine rd_call ?_
  | with_reducible refine rd_un ?_
  | with_reducible refine rd_sl ?_
  | with_reducible refine rd_nopart ?_
  | with_reducible refine rd_part ?_
  | with_reducible refine rd_intP ?_
  | with_reducible refine rd_rU ?_
  | with_reducible refine rd_fld ?_
  | with_reducible refine rd_eqI ?_
  | with_reducible refine rd_neI ?_
  | with_reducible refine rd_mko ?_
  | with_reducible refine rd_bm ?_
  | with_reducible refine rd_gsub ?_
  | with_reducible refine rd_i0 ?_)))
theorem ok_law_spoilt (T : Tx K mg) (B : Bk K mg T) : FnOk P w K mg base CX0 10 B.law_spoilt.f B.law_spoilt.fd ["hand", "state"] (spSpoilt T.c_Outgoing) := by
  have G_law_take := ok_law_take (P := P) (w := w) (base := base) T B
  have G_law_pick := ok_law_pick (P := P) (w := w) (base := base) T B
  have G_law_odd := ok_law_odd (P := P) (w := w) (base := base) T B
  refine B.law_spoilt.F.ok sc_law_spoilt (fun vs H Q E h => ?_) (fun cdv A outer s H vs Q E hr h => ?_)
  · obtain ⟨p, l0, n, xs, v, rfl, _⟩ := h
    rfl
  · obtain ⟨p, l0, n, xs, v, rfl, hh, hv, hS, q⟩ := h
    obtain ⟨c, ys, rfl, hc, hys⟩ := tp_tup' (id hv)
    obtain ⟨x1, x2, rfl, t1, t2⟩ := tpAll2 hys
    cases tp_int' t1
    obtain ⟨c2, zs, rfl, hc2, hz⟩ := tp_tup' (id t2)
    have hlz := hz.len
    have hl4 := hS.1
    have hxd : ∀ x ∈ xs, x.depth ≤ 4 := fun x hx => by
      obtain ⟨_, _, a, _⟩ := hS.2 x hx
      exact a
    have hxs : ∀ x ∈ xs, sz x ≤ 7 := fun x hx => by
      obtain ⟨_, _, _, a⟩ := hS.2 x hx
      exact a
    have hsx : szAll xs ≤ 28 := by
      have := szAll_le hxs
      omega
    have bx : Bd 5 29 (.tuple xs) := bd_tup hxd hsx
    have bs : ∀ x ∈ [PyData.int n, .tuple xs], x.depth ≤ 5 := fun x hx => by
      simp only [List.mem_cons, List.not_mem_nil, or_false] at hx
      rcases hx with rfl | rfl
      · exact Nat.zero_le _
      · exact bx.1
    have fin : ∀ (y : PyData) (a : PyData) (vx vy : V) (H' : Hp) (t : Addr), Bd 5 90 y → Bd 5 3 a → Tp T.c_Outgoing p H' a vx → Tp T.c_Outgoing p H' y vy → HandAt p l0 H' → H' t = none → Keep p H H' → Q (.ref t) (upd H' t (.tup [vx, vy])) := fun y a vx vy H' t hb ha hx hy hhx ht kx => by
      have b : Bd 6 100 (.tuple [a, y]) := (bd_tup (n := 5) (s := 93) (fun x hx => by
        simp only [List.mem_cons, List.not_mem_nil, or_false] at hx
        rcases hx with rfl | rfl
        · exact ha.1
        · exact hb.1) (by
        show sz a + (sz y + 0) ≤ 93
        have := ha.2
        have := hb.2
        omega)).mono (by omega) (by omega)
      exact q _ _ _ b.1 b.2 (tp_new hhx ht (tpAll_cons hx (tpAll_cons hy tpAll_nil))) (hhx.keep (same_new ht)) (kx.put ht)
    refine ⟨_, (pss_cons (ps_set (i := 2) sc_law_spoilt.nd rfl (Or.inl rfl) (pe_call G_law_take (hr.mono (by decide)) rfl B.law_take.m B.law_take.F.kp B.law_take.b .nil pass0 (pa_cons (pv 0) (pa_cons pe_int pa_nil))))
      (pss_cons (ps_if (pt_cmpR op_eq (pv 2) pe_int (nomark _)) (pss_one (ps_ret (pe_call G_law_pick (hr.mono (by decide)) rfl B.law_pick.m B.law_pick.F.kp B.law_pick.b .nil pass0 (pa_cons (pv 0) (pa_cons (pe_lst (pa_cons (pe_call G_law_odd (hr.mono (by decide)) rfl B.law_odd.m B.law_odd.F.kp B.law_odd.b .nil pass0 (pa_cons (pv 0) pa_nil)) (pa_cons (pe_callTy call_list_of (by rfl) T.b_list (by decide +kernel) (pa_cons (pv 1) pa_nil)) (pa_cons (pe_slice sl_tupA (pv 1) po_none (po_some pe_int)) (pa_cons (pe_op op_catA (pv 1) (pe_tup (pa_cons pe_int pa_nil))) pa_nil))))) pa_nil))))) pss_nil)
      (pss_cons (ps_if (pt_cmpR op_eq (pv 2) pe_int (nomark _)) (pss_one (ps_ret (pe_tup (pa_cons (pe_call G_law_pick (hr.mono (by decide)) rfl B.law_pick.m B.law_pick.F.kp B.law_pick.b .nil pass0 (pa_cons (pv 0) (pa_cons (pe_lst (pa_cons (pe_un un_neg pe_int) (pa_cons pe_bl (pa_cons (pe_op op_pow pe_int pe_int) (pa_cons pe_non (pa_cons (pe_op op_add (pe_ix ix_tup (pv 1) pe_int (fun _ _ => rfl)) pe_int) (pa_cons pe_str pa_nil))))))) pa_nil))) (pa_cons (pe_ix ix_tup (pv 1) pe_int (fun _ _ => rfl)) pa_nil))))) pss_nil)
      (pss_cons (ps_if (PW.pt (pw_or (pt_cmpR op_eq (pv 2) pe_int (nomark _)) (pw_or1 (pt_cmpR op_eq (pe_callB call_len_seq (by rfl) T.b_len (by decide +kernel) (pa_cons (pe_ix ix_tup (pv 1) pe_int (fun _ _ => rfl)) pa_nil)) pe_int (nomark _))))) (pss_cons (ps_set (i := 3) sc_law_spoilt.nd rfl (Or.inl rfl) (pe_lst (pa_cons (pe_callTy call_list_of (by rfl) T.b_list (by decide +kernel) (pa_cons (pe_ix ix_tup (pv 1) pe_int (fun _ _ => rfl)) pa_nil)) (pa_cons (pe_op op_catA (pe_ix ix_tup (pv 1) pe_int (fun _ _ => rfl)) (pe_tup (pa_cons (pe_call G_law_odd (hr.mono (by decide)) rfl B.law_odd.m B.law_odd.F.kp B.law_odd.b .nil pass0 (pa_cons (pv 0) pa_nil)) pa_nil))) (pa_cons pe_non (pa_cons (pe_op op_catA (pe_ix ix_tup (pv 1) pe_int (fun _ _ => rfl)) (pe_tup (pa_cons (pe_tup (pa_cons (pe_ix ix_tup (pv 1) pe_int (fun _ _ => rfl)) (pa_cons (pe_tup pa_nil) pa_nil))) pa_nil))) pa_nil))))))
      (pss_one (ps_ret (pe_tup (pa_cons (pe_ix ix_tup (pv 1) pe_int (fun _ _ => rfl)) (pa_cons (pe_call G_law_pick (hr.mono (by decide)) rfl B.law_pick.m B.law_pick.F.kp B.law_pick.b .nil pass0 (pa_cons (pv 0) (pa_cons (pv 3) pa_nil))) pa_nil)))))) pss_nil)
      (pss_cons (ps_set (i := 4) sc_law_spoilt.nd rfl (Or.inl rfl) (pe_call G_law_take (hr.mono (by decide)) rfl B.law_take.m B.law_take.F.kp B.law_take.b .nil pass0 (pa_cons (pv 0) (pa_cons (pe_callB call_len_seq (by rfl) T.b_len (by decide +kernel) (pa_cons (pe_ix ix_tup (pv 1) pe_int (fun _ _ => rfl)) pa_nil)) pa_nil))))
      (pss_cons (ps_set (i := 5) sc_law_spoilt.nd rfl (Or.inl rfl) (pe_ix ix_tup (pe_ix ix_tup (pv 1) pe_int (fun _ _ => rfl)) (pv 4) (fun _ _ => rfl)))
      (pss_cons (ps_set (i := 6) sc_law_spoilt.nd rfl (Or.inl rfl) (pe_lst (pa_cons (pe_call G_law_odd (hr.mono (by decide)) rfl B.law_odd.m B.law_odd.F.kp B.law_odd.b .nil pass0 (pa_cons (pv 0) pa_nil)) (pa_cons (pe_callTy call_list_of (by rfl) T.b_list (by decide +kernel) (pa_cons (pv 5) pa_nil)) (pa_cons (pe_op op_catA (pv 5) (pe_tup (pa_cons (pe_lst pa_nil) pa_nil))) (pa_cons (pe_op op_catA (pv 5) (pe_tup (pa_cons pe_dnewK pa_nil))) (pa_cons (pv 5) pa_nil)))))))
      (pss_cons (ps_set (i := 6) sc_law_spoilt.nd rfl (Or.inl rfl) (pe_op op_cat (pv 6) (pe_lst (pa_cons (pe_tup (pa_cons (pe_op op_add (pe_ix ix_tup (pv 1) pe_int (fun _ _ => rfl)) pe_int) (pa_cons (pe_tup pa_nil) pa_nil))) (pa_cons (pe_tup (pa_cons (pe_op op_add (pe_ix ix_tup (pv 1) pe_int (fun _ _ => rfl)) pe_int) (pa_cons (pe_tup pa_nil) pa_nil))) pa_nil)))))
      (pss_one (ps_ret (pe_tup (pa_cons (pe_ix ix_tup (pv 1) pe_int (fun _ _ => rfl)) (pa_cons (pe_op op_catA (pe_op op_catA (pe_slice sl_tupA (pe_ix ix_tup (pv 1) pe_int (fun _ _ => rfl)) po_none (po_some (pv 4))) (pe_tup (pa_cons (pe_call G_law_pick (hr.mono (by decide)) rfl B.law_pick.m B.law_pick.F.kp B.law_pick.b .nil pass0 (pa_cons (pv 0) (pa_cons (pv 6) pa_nil))) pa_nil))) (pe_slice sl_tupA (pe_ix ix_tup (pv 1) pe_int (fun _ _ => rfl)) (po_some (pe_op op_add (pv 4) pe_int)) po_none)) pa_nil))))))))))))), ?_⟩
    walk_at "rd"
    refine ⟨p, l0, _, rfl, by decide, by decide, hh, fun r H1 r0 r1 hh1 k1 => ?_⟩
    have hv1 := Tp.keep k1 _ _ hv
    have t21 := Tp.keep k1 _ _ t2
    have hc1 := k1 _ _ hc.1 hc.2
    have hc21 := k1 _ _ hc2.1 hc2.2
    walk_at "rd"
    refine rd_ite (fun h1 => ?_) (fun h1 => ?_)
    · walk_at "rd"
      refine ⟨p, l0, rfl, hh1, fun d2 y2 H2 sx2 td2 hh2 k2 => ?_⟩
      have m2 := tpAll_cons td2 tpAll_nil
      have bd2 : Bd 6 100 d2 := by
        unfold sxD at sx2
        simp only [Bool.and_eq_true, decide_eq_true_eq] at sx2
        exact ⟨by omega, by omega⟩
      walk_at "rd"
      have K2 := k1.trans k2
      refine ⟨c, _, rfl, .inr (SqT.of (k2 _ _ hc.1 hc1)), fun l3 n3 => ?_⟩
      have s3 := same_new (o := .lst [.int n, .ref c2]) n3
      have y3 := tp_newL hh2 n3 (Tp.keep K2 _ _ t1 |> fun a => tpAll_cons a (tpAll_cons (Tp.keep K2 _ _ t2) tpAll_nil))
      have hh3 := hh2.keep s3
      have m3 := psn m2 s3 y3
      have K3 := K2.trans (Keep.same s3)
      walk_at "rd"
      refine rd_cutP hh3.there (Tp.keep K3 _ _ hv) fun r4 es H4 s4 hle hsub t4 => ?_
      have hh4 := hh3.keep s4
      have m4 := psn m3 s4 t4
      have K4 := K3.trans (Keep.same s4)
      walk_at "rd"
      refine rd_disp rfl fun t5 n5 => ?_
      have s5 := same_new (o := .tup [.int 0]) n5
      have y5 := tp_new hh4 n5 (tp_ints (C := T.c_Outgoing) [0])
      have hh5 := hh4.keep s5
      have K5 := K4.trans (Keep.same s5)
      refine rd_catT hh5.there (Tp.keep K5 _ _ hv) y5 (by simp) fun r6 H6 s6 t6 => ?_
      have hh6 := hh5.keep s6
      have m6 := psn m4 (s5.trans s6) t6
      walk_at "rd"
      refine rd_disp rfl fun lm nm => ?_
      have sm := same_new (o := .lst [y2, .ref l3, r4, r6]) nm
      have mm := pas m6 sm
      walk_at "rd"
      refine ⟨p, l0, lm, _, rfl, ⟨hh6.ne nm, upd_same⟩, by simp, by simp, hh6.keep sm, fun j y HF hj hhF kF => ?_⟩
      obtain ⟨dF, hdF, tdF⟩ := mm.get' hj
      have bF : Bd 6 100 dF := by
        have hm := List.mem_of_getElem? hdF
        simp only [List.cons_append, List.nil_append, List.map_cons, List.map_nil, List.mem_cons, List.not_mem_nil, or_false] at hm
        rcases hm with rfl | rfl | rfl | rfl
        · exact bd2
        · exact (bd_list (n := 5) (s := 0) bs).mono (by omega) (by omega)
        · refine (bd_tup (n := 5) (s := 60) (fun x hx => bs x (hsub x hx)) ?_).mono (by omega) (by omega)
          have : ∀ x ∈ es, sz x ≤ 29 := fun x hx => by
            have := hsub x hx
            simp only [List.mem_cons, List.not_mem_nil, or_false] at this
            rcases this with rfl | rfl
            · show 1 ≤ 29
              omega
            · exact bx.2
          have h2 := szAll_le this
          have : es.length * 29 ≤ 2 * 29 := Nat.mul_le_mul_right _ hle
          omega
        · refine (bd_tup (n := 5) (s := 60) (all_app bs (all_one (Nat.zero_le _))) ?_).mono (by omega) (by omega)
          show 1 + (sz (.tuple xs) + (1 + 0)) ≤ 60
          have := bx.2
          omega
      exact q dF y HF bF.1 bF.2 (Tp.keep kF _ _ tdF) hhF ((K5.trans (Keep.same (s6.trans sm))).trans kF)
    · walk_at "rd"
      refine rd_ite (fun h2 => ?_) (fun h2 => ?_)
      · walk_at "rd"
        refine rd_iC ⟨by decide, by decide, by decide⟩ ?_
        walk_at "rd"
        refine rd_ixT hc1 rfl ?_
        walk_at "rd"
        refine rd_disp rfl fun lm nm => ?_
        have sm := same_new (o := .lst [.int (-1), .bl true, .int (2 ^ (32 : Int).toNat), .non, .int (n + 1), .str "0"]) nm
        have mm : TpAll T.c_Outgoing p (upd H1 lm (.lst [.int (-1), .bl true, .int (2 ^ (32 : Int).toNat), .non, .int (n + 1), .str "0"])) [.int (-1), .bool true, .int (2 ^ (32 : Int).toNat), .none, .int (n + 1), .str "0"] [.int (-1), .bl true, .int (2 ^ (32 : Int).toNat), .non, .int (n + 1), .str "0"] :=
          tpAll_cons tp_int (tpAll_cons tp_bl (tpAll_cons tp_int (tpAll_cons tp_non (tpAll_cons tp_int (tpAll_cons tp_str tpAll_nil)))))
        walk_at "rd"
        refine ⟨p, l0, lm, _, rfl, ⟨hh1.ne nm, upd_same⟩, by simp, by simp, hh1.keep sm, fun j y H2 hj hh2 k2 => ?_⟩
        obtain ⟨dF, hdF, tdF⟩ := mm.get' hj
        have bF : Bd 5 3 dF := by
          have hm := List.mem_of_getElem? hdF
          simp only [List.mem_cons, List.not_mem_nil, or_false] at hm
          rcases hm with rfl | rfl | rfl | rfl | rfl | rfl <;> exact ⟨Nat.zero_le _, by show 1 ≤ 3; omega⟩
        have K2 : Keep p H H2 := (k1.trans (Keep.same sm)).trans k2
        walk_at "rd"
        refine rd_ixT (K2 _ _ hc.1 hc.2) rfl ?_
        walk_at "rd"
        refine rd_disp rfl fun t3 n3 => ?_
        exact fin _ dF _ _ H2 t3 (bx.mono (by omega) (by omega)) bF (Tp.keep k2 _ _ tdF) (Tp.keep K2 _ _ t2) hh2 n3 K2
      · walk_at "rd"
        refine rd_or2 (b := decide (((zs.length : Nat) : Int) = 0)) (fun h => ?_) ?_
        · walk_at "rd"
          refine rd_ixT hc1 rfl ?_
          walk_at "rd"
          refine ⟨c2, zs, rfl, .inr (SqT.of hc21), ?_⟩
          walk_at "rd"
          exact h
        refine rd_ite (fun h3 => ?_) (fun h3 => ?_)
        · walk_at "rd"
          refine rd_ixT hc1 rfl ?_
          walk_at "rd"
          refine ⟨c2, zs, rfl, .inr (SqT.of hc21), fun l3 n3 => ?_⟩
          have s3 := same_new (o := .lst zs) n3
          have y3 := tp_newL hh1 n3 (TpAll.keep k1 _ _ hz)
          have hh3 := hh1.keep s3
          have m3 := tpAll_cons y3 tpAll_nil
          have K3 := k1.trans (Keep.same s3)
          walk_at "rd"
          refine rd_ixT (K3 _ _ hc.1 hc.2) rfl ?_
          walk_at "rd"
          refine ⟨p, l0, rfl, hh3, fun d4 y4 H4 sx4 td4 hh4 k4 => ?_⟩
          have K4 := K3.trans k4
          have m4 := TpAll.keep k4 _ _ m3
          unfold sxD at sx4
          simp only [Bool.and_eq_true, decide_eq_true_eq] at sx4
          walk_at "rd"
          refine rd_disp rfl fun t5 n5 => ?_
          have s5 := same_new (o := .tup [y4]) n5
          have y5 := tp_new hh4 n5 (tpAll_cons td4 tpAll_nil)
          have hh5 := hh4.keep s5
          have K5 := K4.trans (Keep.same s5)
          refine rd_catT hh5.there (Tp.keep K5 _ _ t2) y5 (by simp; omega) fun r6 H6 s6 t6 => ?_
          have hh6 := hh5.keep s6
          have m6 := psn m4 (s5.trans s6) t6
          have K6 := K5.trans (Keep.same s6)
          walk_at "rd"
          refine rd_ixT (K6 _ _ hc.1 hc.2) rfl ?_
          walk_at "rd"
          refine rd_ixT (K6 _ _ hc.1 hc.2) rfl ?_
          walk_at "rd"
          refine rd_disp rfl fun t7 n7 => ?_
          have s7 := same_new (o := .tup []) n7
          have y7 := tp_new (C := T.c_Outgoing) hh6 n7 tpAll_nil
          have hh7 := hh6.keep s7
          walk_at "rd"
          refine rd_disp rfl fun t8 n8 => ?_
          have s8 := same_new (o := .tup [.int n, .ref t7]) n8
          have y8 := tp_new hh7 n8 (tpAll_cons (tp_int (i := n)) (tpAll_cons y7 tpAll_nil))
          have hh8 := hh7.keep s8
          walk_at "rd"
          refine rd_disp rfl fun t9 n9 => ?_
          have s9 := same_new (o := .tup [.ref t8]) n9
          have y9 := tp_new hh8 n9 (tpAll_cons y8 tpAll_nil)
          have hh9 := hh8.keep s9
          have s79 := s7.trans (s8.trans s9)
          have K9 := K6.trans (Keep.same s79)
          refine rd_catT hh9.there (Tp.keep K9 _ _ t2) y9 (by simp; omega) fun rA HA sA tA => ?_
          have hhA := hh9.keep sA
          have mA := psn (psn m6 (Same.refl _) (tp_non)) (s79.trans sA) tA
          have KA := K9.trans (Keep.same sA)
          walk_at "rd"
          refine rd_disp rfl fun lm nm => ?_
          have sm := same_new (o := .lst [.ref l3, r6, .non, rA]) nm
          have mm := pas mA sm
          have KM := KA.trans (Keep.same sm)
          walk_at "rd"
          refine rd_ixT (KM _ _ hc.1 hc.2) rfl ?_
          walk_at "rd"
          refine ⟨p, l0, lm, _, rfl, ⟨hhA.ne nm, upd_same⟩, by simp, by simp, hhA.keep sm, fun j y HF hj hhF kF => ?_⟩
          obtain ⟨dF, hdF, tdF⟩ := mm.get' hj
          have bF : Bd 5 90 dF := by
            have hm := List.mem_of_getElem? hdF
            simp only [List.cons_append, List.nil_append, List.map_cons, List.map_nil, List.mem_cons, List.not_mem_nil, or_false] at hm
            rcases hm with rfl | rfl | rfl | rfl
            · exact (bd_list (n := 4) (s := 0) hxd).mono (by omega) (by omega)
            · refine (bd_tup (n := 4) (s := 40) (all_app hxd (all_one (by omega))) ?_).mono (by omega) (by omega)
              rw [sz_app]
              show szAll xs + (sz d4 + 0) ≤ 40
              omega
            · exact ⟨Nat.zero_le _, by show 1 ≤ 90; omega⟩
            · refine (bd_tup (n := 4) (s := 40) (all_app hxd (all_one (by show max 0 (max (0 + 1) 0) + 1 ≤ 4; decide))) ?_).mono (by omega) (by omega)
              rw [sz_app]
              show szAll xs + (1 + (0 + 1 + 0) + 1 + 0) ≤ 40
              omega
          walk_at "rd"
          have KF := KM.trans kF
          refine rd_disp rfl fun tG nG => ?_
          exact fin dF (.int n) _ _ HF tG bF ⟨Nat.zero_le _, by show 1 ≤ 3; omega⟩ tp_int (Tp.keep kF _ _ tdF) hhF nG KF
        · have hz0 : zs.length ≠ 0 := by
            simp only [Bool.or_eq_false_iff, decide_eq_false_iff_not] at h3
            omega
          walk_at "rd"
          refine rd_ixT hc1 rfl ?_
          walk_at "rd"
          refine ⟨c2, zs, rfl, .inr (SqT.of hc21), ?_⟩
          walk_at "rd"
          refine ⟨p, l0, _, rfl, by omega, by omega, hh1, fun at' H2 a0 a1 hh2 k2 => ?_⟩
          obtain ⟨a, rfl⟩ : ∃ a : Nat, at' = a := ⟨at'.toNat, by omega⟩
          have K2 := k1.trans k2
          obtain ⟨ov, hov⟩ : ∃ ov, zs[a]? = some ov := ⟨_, List.getElem?_eq_getElem (by omega)⟩
          obtain ⟨od, hod, tod⟩ := hz.get' hov
          obtain ⟨oy, rfl, od4, os7⟩ := hS.2 od (List.mem_of_getElem? hod)
          obtain ⟨c3, ws, rfl, hc3, hws⟩ := tp_tup' (id tod)
          have oyd : ∀ x ∈ oy, x.depth ≤ 3 := fun x hx => by
            obtain ⟨j, hj⟩ := List.mem_iff_getElem?.mp hx
            have := depthAll_get hj
            have : PyData.depthAll oy + 1 ≤ 4 := od4
            omega
          have oys : szAll oy ≤ 6 := by
            have : szAll oy + 1 ≤ 7 := os7
            omega
          have oyl : oy.length ≤ 6 := Nat.le_trans (sz_len oy) oys
          walk_at "rd"
          refine rd_ixT (K2 _ _ hc.1 hc.2) rfl ?_
          walk_at "rd"
          refine rd_ixT (K2 _ _ hc2.1 hc2.2) (atI_nat hov) ?_
          walk_at "rd"
          refine ⟨p, l0, rfl, hh2, fun d4 y4 H4 sx4 td4 hh4 k4 => ?_⟩
          have K4 := K2.trans k4
          unfold sxD at sx4
          simp only [Bool.and_eq_true, decide_eq_true_eq] at sx4
          have m4 := tpAll_cons td4 tpAll_nil
          walk_at "rd"
          refine ⟨c3, ws, rfl, .inr (SqT.of (K4 _ _ hc3.1 hc3.2)), fun l5 n5 => ?_⟩
          have s5 := same_new (o := .lst ws) n5
          have y5 := tp_newL hh4 n5 (TpAll.keep K4 _ _ hws)
          have hh5 := hh4.keep s5
          have m5 := psn m4 s5 y5
          have K5 := K4.trans (Keep.same s5)
          walk_at "rd"
          refine rd_disp rfl fun t6 n6 => ?_
          have s6 := same_new (o := .lst []) n6
          have y6 := tp_newL (C := T.c_Outgoing) hh5 n6 tpAll_nil
          have hh6 := hh5.keep s6
          walk_at "rd"
          refine rd_disp rfl fun t7 n7 => ?_
          have s7 := same_new (o := .tup [.ref t6]) n7
          have y7 := tp_new hh6 n7 (tpAll_cons y6 tpAll_nil)
          have hh7 := hh6.keep s7
          have K7 := K5.trans (Keep.same (s6.trans s7))
          refine rd_catT hh7.there (Tp.keep K7 _ _ tod) y7 (by simp; omega) fun r8 H8 s8 t8 => ?_
          have hh8 := hh7.keep s8
          have m8 := psn m5 (s6.trans (s7.trans s8)) t8
          have K8 := K7.trans (Keep.same s8)
          walk_at "rd"
          intro t9 n9
          have s9 := same_new (o := .dK []) n9
          have hh9 := hh8.keep s9
          have y9 : Tp T.c_Outgoing p (upd H8 t9 (.dK [])) (.dict []) (.ref t9) := by
            simp only [Tp]
            exact ⟨t9, rfl, hh8.ne n9, .inl upd_same⟩
          walk_at "rd"
          refine rd_disp rfl fun tA nA => ?_
          have sA := same_new (o := .tup [.ref t9]) nA
          have yA := tp_new hh9 nA (tpAll_cons y9 tpAll_nil)
          have hhA := hh9.keep sA
          have KA := K8.trans (Keep.same (s9.trans sA))
          refine rd_catT hhA.there (Tp.keep KA _ _ tod) yA (by simp; omega) fun rB HB sB tB => ?_
          have hhB := hhA.keep sB
          have mB := psn m8 (s9.trans (sA.trans sB)) tB
          have KB := KA.trans (Keep.same sB)
          walk_at "rd"
          refine rd_disp rfl fun lm nm => ?_
          have sm := same_new (o := .lst [y4, .ref l5, r8, rB, .ref c3]) nm
          have KM := KB.trans (Keep.same sm)
          have mM := psn mB sm (Tp.keep KM _ _ tod)
          have hhM := hhB.keep sm
          have hlm := (upd_same (H := HB) (a := lm) (o := .lst [y4, .ref l5, r8, rB, .ref c3]))
          walk_at "rd"
          refine rd_ixT (KM _ _ hc.1 hc.2) rfl ?_
          walk_at "rd"
          refine rd_disp rfl fun tC nC => ?_
          have sC := same_new (o := .tup []) nC
          have yC := tp_new (C := T.c_Outgoing) hhM nC tpAll_nil
          have hhC := hhM.keep sC
          walk_at "rd"
          refine rd_disp rfl fun tD nD => ?_
          have sD := same_new (o := .tup [.int (n + 1000), .ref tC]) nD
          have yD := tp_new hhC nD (tpAll_cons (tp_int (i := n + 1000)) (tpAll_cons yC tpAll_nil))
          have hhD := hhC.keep sD
          have mD := psn mM (sC.trans sD) yD
          have KD := KM.trans (Keep.same (sC.trans sD))
          walk_at "rd"
          refine rd_ixT (KD _ _ hc.1 hc.2) rfl ?_
          walk_at "rd"
          refine rd_disp rfl fun tE nE => ?_
          have sE := same_new (o := .tup []) nE
          have yE := tp_new (C := T.c_Outgoing) hhD nE tpAll_nil
          have hhE := hhD.keep sE
          walk_at "rd"
          refine rd_disp rfl fun tF nF => ?_
          have sF := same_new (o := .tup [.int (n + 999), .ref tE]) nF
          have yF := tp_new hhE nF (tpAll_cons (tp_int (i := n + 999)) (tpAll_cons yE tpAll_nil))
          have hhF := hhE.keep sF
          have mF := psn mD (sE.trans sF) yF
          walk_at "rd"
          refine rd_disp rfl fun lG nG => ?_
          have sG := same_new (o := .lst [.ref tD, .ref tF]) nG
          have hhG := hhF.keep sG
          have sMG := (sC.trans sD).trans ((sE.trans sF).trans sG)
          refine ⟨lm, lG, _, _, rfl, rfl, sMG _ _ hlm, upd_same, Nat.le_trans (show _ ≤ 1000 by simp) (by decide), fun lH nH => ?_⟩
          have sH := same_new (o := .lst ([y4, .ref l5, r8, rB, .ref c3] ++ [.ref tD, .ref tF])) nH
          have hhH := hhG.keep sH
          have mH := pas mF (sG.trans sH)
          have KH := KM.trans (Keep.same (sMG.trans sH))
          walk_at "rd"
          refine rd_ixT (KH _ _ hc.1 hc.2) rfl ?_
          walk_at "rd"
          refine rd_ixT (KH _ _ hc.1 hc.2) rfl ?_
          walk_at "rd"
          refine rd_cutP hhH.there (Tp.keep KH _ _ t2) fun rI es1 HI sI le1 sub1 tI => ?_
          have hhI := hhH.keep sI
          walk_at "rd"
          refine ⟨p, l0, lH, _, rfl, ⟨hhG.ne nH, sI _ _ upd_same⟩, by simp, by simp, hhI, fun j y HJ hj hhJ kJ => ?_⟩
          obtain ⟨dF, hdF, tdF⟩ := mH.get' hj
          have bF : Bd 4 8 dF := by
            have hm := List.mem_of_getElem? hdF
            simp only [List.cons_append, List.nil_append, List.map_cons, List.map_nil, List.mem_cons, List.not_mem_nil, or_false] at hm
            rcases hm with rfl | rfl | rfl | rfl | rfl | rfl | rfl
            · exact ⟨by omega, by omega⟩
            · exact (bd_list (n := 3) (s := 0) oyd).mono (by omega) (by omega)
            · refine (bd_tup (n := 3) (s := 7) (all_app oyd (all_one (by decide +kernel))) ?_).mono (by omega) (by omega)
              rw [sz_app]
              show szAll oy + (1 + 0) ≤ 7
              omega
            · refine (bd_tup (n := 3) (s := 7) (all_app oyd (all_one (by decide +kernel))) ?_).mono (by omega) (by omega)
              rw [sz_app]
              show szAll oy + (1 + 0) ≤ 7
              omega
            · exact ⟨od4, by omega⟩
            · exact ⟨by show max 0 (max (0 + 1) 0) + 1 ≤ 4; decide, by show 1 + (0 + 1 + 0) + 1 ≤ 8; decide⟩
            · exact ⟨by show max 0 (max (0 + 1) 0) + 1 ≤ 4; decide, by show 1 + (0 + 1 + 0) + 1 ≤ 8; decide⟩
          have KJ := (KH.trans (Keep.same sI)).trans kJ
          walk_at "rd"
          refine rd_disp rfl fun tK nK => ?_
          have sK := same_new (o := .tup [y]) nK
          have yK := tp_new hhJ nK (tpAll_cons (Tp.keep kJ _ _ (ps tdF sI)) tpAll_nil)
          have hhK := hhJ.keep sK
          refine rd_catT hhK.there (ps (Tp.keep kJ _ _ tI) sK) yK (by simp; omega) fun rL HL sL tL => ?_
          have hhL := hhK.keep sL
          have KL := KJ.trans (Keep.same (sK.trans sL))
          walk_at "rd"
          refine rd_ixT (KL _ _ hc.1 hc.2) rfl ?_
          walk_at "rd"
          refine rd_cutP hhL.there (Tp.keep KL _ _ t2) fun rM es2 HM sM le2 sub2 tM => ?_
          have hhM2 := hhL.keep sM
          refine rd_catT hhM2.there (ps tL sM) tM (by simp; omega) fun rN HN sN tN => ?_
          have hhN := hhM2.keep sN
          have KN := KL.trans (Keep.same (sM.trans sN))
          walk_at "rd"
          refine rd_disp rfl fun tO nO => ?_
          have bs1 : szAll es1 ≤ 28 := by
            have := szAll_le fun x hx => hxs x (sub1 x hx)
            have : es1.length * 7 ≤ 4 * 7 := Nat.mul_le_mul_right _ (by omega)
            omega
          have bs2 : szAll es2 ≤ 28 := by
            have := szAll_le fun x hx => hxs x (sub2 x hx)
            have : es2.length * 7 ≤ 4 * 7 := Nat.mul_le_mul_right _ (by omega)
            omega
          have bN : Bd 5 90 (.tuple (es1 ++ [dF] ++ es2)) := (bd_tup (n := 4) (s := 80) (all_app (all_app (fun x hx => hxd x (sub1 x hx)) (all_one bF.1)) (fun x hx => hxd x (sub2 x hx))) (by
            rw [sz_app, sz_app]
            show szAll es1 + (sz dF + 0) + szAll es2 ≤ 80
            have := bF.2
            omega)).mono (by omega) (by omega)
          exact fin _ (.int n) _ _ HN tO bN ⟨Nat.zero_le _, by show 1 ≤ 3; omega⟩ tp_int tN hhN nO KN
end
end Mw

/-! D6 -/
namespace Mw
open PySem L2
def spFirst (K : PySem.W.Frag) : Sp := fun vs H Q _ => ∃ (a : Addr) (ns : List Int), vs = [.ref a] ∧ SqL K H a (ns.map V.int) ∧ ∀ H', Same H H' → Q (.bl true) H'
theorem rd_disp2 {tk tv tk2 tv2 : TE} {σ : L2.St} {H : Hp} {Q : VK} (h : ∀ p, H p = none → tk σ (upd H p (.dK [])) fun x H1 => tv σ H1 fun y H2 => tk2 σ H2 fun x2 H3 => tv2 σ H3 fun y2 H4 => H4 p = some (.dK []) ∧ ∃ kvs : List (Key × V), [(x, y), (x2, y2)] = kvs.map (fun kv => (kV kv.1, kv.2)) ∧ kvs.length ≤ 15 ∧ Q (.ref p) (upd H4 p (.dK (mergeK [] kvs)))) : tDisp [(tk, tv), (tk2, tv2)] σ H Q := h
/-- what was kept, somewhere else -/
def Kp (CO CI p : Addr) (H0 : Hp) (L : List Addr) (H : Hp) (v : V) : Prop := v = .non ∨ ∃ (kt o l e d tl mi hd : Addr) (g k : Nat) (m mm : List (Key × V)) (vs : List V) (ds : List PyData),
  v = .ref kt ∧ H kt = some (.tup [.ref o, .ref e, .ref tl, .int (g : Nat), .ref mi]) ∧ EndSt CO CI p H o l e d tl mi hd g k m mm vs ds ∧ o ≠ e ∧ (∀ b ∈ [o, l, e, d, tl, mi, hd], b ∉ L) ∧ ∀ b ∈ [o, l, e, d, tl, mi, hd], H0 b = none
theorem Kp.fr {CO CI p : Addr} {H0 : Hp} {L M L' : List Addr} {H H' : Hp} {v : V} (h : Kp CO CI p H0 L H v) (f : Fr M H H') (kt : KT H H') (hM : ∀ b ∈ M, b ∈ L) (hL : ∀ b ∈ L', b ∈ L ∨ H b = none) : Kp CO CI p H0 L' H' v := by
  rcases h with h | ⟨t, o, l, e, d, tl, mi, hd, g, k, m, mm, vs, ds, h1, h2, h3, h4, h5, h6⟩
  · exact .inl h
  · refine .inr ⟨t, o, l, e, d, tl, mi, hd, g, k, m, mm, vs, ds, h1, kt _ _ h2, h3.fr f kt (fun b hb z => h5 b hb (hM b z)), h4, fun b hb z => ?_, h6⟩
    obtain ⟨u, hu⟩ := h3.ex b hb
    rcases hL b z with w | w
    · exact h5 b hb w
    · rw [hu] at w
      cases w
/-- where the first half of the law is, before a round -/
def First (CO CI s0 p l0 o e d tl al mi hd : Addr) (H0 : Hp) (i : Nat) (σ : L2.St) (H : Hp) : Prop := ∃ (l : Addr) (g k : Nat) (m : List (Key × V)) (vs : List V) (ds : List PyData) (u8 : V) (u9 u10 u11 : Option V),
  σ = [some (.ref s0), some (.ref p), some (.ref o), some (.ref e), some (.ref tl), some (.ref al), some (.ref mi), some (.int (g : Nat)), some u8, u9, u10, u11, none] ∧ HandAt p l0 H ∧ EndSt CO CI p H o l e d tl mi hd g k m m vs ds ∧ H al = some (.lst (vs.take k)) ∧
  Gr [p, l0, o, l, e, d, tl, al, mi, hd] H ∧ m.length ≤ i ∧ Kp CO CI p H0 [p, l0, o, l, e, d, tl, al, mi, hd] H u8 ∧ Same H0 H ∧ o ≠ e ∧ ∀ b ∈ [p, l0, o, l, e, d, tl, al, mi, hd], H0 b = none
theorem Gr.two {L : List Addr} {H H' : Hp} {x y : Addr} (g : Gr L H) (s : Same H H') (n : H x = none) (n2 : H y = none) (ne : x ≠ y) (e : ∃ u, H' x = some u) (e2 : ∃ u, H' y = some u) : Gr (L ++ [x, y]) H' := by
  have g1 := g.snoc s n e
  refine ⟨?_, fun b hb => ?_⟩
  · rw [show L ++ [x, y] = (L ++ [x]) ++ [y] by simp, List.nodup_append]
    refine ⟨g1.1, by simp, fun a ha b hb => ?_⟩
    rw [show b = y by simpa using hb]
    rcases List.mem_append.mp ha with z | z
    · obtain ⟨u, hu⟩ := g.2 a z
      exact ne_of_none hu n2
    · rw [show a = x by simpa using z]
      exact ne
  · rcases List.mem_append.mp hb with z | z
    · obtain ⟨u, hu⟩ := g.2 b z
      exact ⟨u, s _ _ hu⟩
    · simp only [List.mem_cons, List.not_mem_nil, or_false] at z
      rcases z with z | z
      · rw [z]
        exact e
      · rw [z]
        exact e2
theorem gr_of {CO CI p l0 : Addr} {H : Hp} {o l e d tl al mi hd : Addr} {g k : Nat} {m mm : List (Key × V)} {vs : List V} {ds : List PyData} {u : HO} (hh : HandAt p l0 H) (h : EndSt CO CI p H o l e d tl mi hd g k m mm vs ds) (ha : H al = some u) (n : [p, l0, o, l, e, d, tl, al, mi, hd].Nodup) : Gr [p, l0, o, l, e, d, tl, al, mi, hd] H := by
  refine ⟨n, fun b hb => ?_⟩
  simp only [List.mem_cons, List.not_mem_nil, or_false] at hb
  have hx := h.ex
  rcases hb with rfl | rfl | rfl | rfl | rfl | rfl | rfl | rfl | rfl | rfl
  · exact hh.there
  · exact hh.there2
  · exact hx _ (by simp)
  · exact hx _ (by simp)
  · exact hx _ (by simp)
  · exact hx _ (by simp)
  · exact hx _ (by simp)
  · exact ⟨_, ha⟩
  · exact hx _ (by simp)
  · exact hx _ (by simp)
theorem shaped_ints (ns : List Int) : SeqAt.shaped (.tuple (ns.map PyData.int)) = true := by
  have h : ∀ x ∈ ns.map PyData.int, Gd 0 1 x := fun x hx => by
    obtain ⟨i, _, rfl⟩ := List.mem_map.mp hx
    exact ⟨rfl, Nat.le_refl _, Nat.le_refl _, rfl⟩
  show (PyData.canLayAll0 (ns.map PyData.int) && decide ((PyData.tuple (ns.map PyData.int)).depth ≤ 64)) = true
  rw [lay_all fun x hx => (h x hx).2.2.2, Bool.true_and]
  have : (PyData.tuple (ns.map PyData.int)).depth = PyData.depthAll (ns.map PyData.int) + 1 := rfl
  have h2 := depthAll_le fun x hx => (h x hx).2.1
  exact decide_eq_true (by omega)
theorem eqv_ints (ns : List Int) : PyData.eqv (.tuple (ns.map PyData.int)) (.tuple (ns.map PyData.int)) = true := by
  refine SeqAt.eqv_refl _ (lay_all fun x hx => ?_)
  obtain ⟨i, _, rfl⟩ := List.mem_map.mp hx
  rfl
theorem dp_ints {K : PySem.W.Frag} {H : Hp} : ∀ ns : List Int, DpAll K H (ns.map V.int) (ns.map PyData.int)
  | [] => .nil
  | n :: ns => .cons (.int n) (dp_ints ns)
section
variable {P : Program} {w : World} {K : PySem.W.Frag} {mg : Str → Option Value} {base : Heap}
local macro_rules | `(tactic| walk_at "rd") => `(tactic| (repeat (first
  | ((with_reducible refine' rd_var ?h0 ?_); (case h0 => rfl))
  | with_reducible refine rd_c ?_
  | with_reducible refine rd_op ?_
  | with_reducible refine rd_nil ?_
  | with_reducible refine rd_cons ?_
  | with_reducible refine rd_tup ?_
  | with_reducible refine rd_lst ?_
  | with_reducible refine rd_ifs ?_
  | with_reducible refine rd_seq ?_
  | with_reducible refine rd_next ?_
  | with_reducible refine rd_ret ?_
  | with_reducible refine rd_asg ?_
  | ((with_reducible refine' rd_gset ?hs ?_); (case hs => ((simp only [L2.start, List.map_cons, List.map_nil, List.length_cons, List.length_nil, List.cons_append, List.nil_append, List.set_cons_zero, List.set_cons_succ, Nat.reduceAdd, Nat.reduceSub, Nat.zero_add, List.reduceReplicate]); rfl)))
  | with_reducible refine rd_drop ?_
  | with_reducible refine rd_test ?_
  | with_reducible refine rd_B ?_
  | with_reducible refine rd_bl ?_
  | with_reducible refine rd_blP ?_
  | with_reducible refine rd_andV ?_
  | with_reducible refine rd_orV ?_
  | with_reducible refine rd_notV ?_
  | with_reducible refine rd_and ?_
  | with_reducible refine rd_or ?_
  | with_reducible refine rd_not ?_
  | with_reducible refine rd_chain ?_
  | with_reducible refine rd_dput ?_
  | with_reducible refine rd_dget ?_
  | with_reducible refine rd_cb ?_
  | with_reducible refine rd_call ?_
  | with_reducible refine rd_un ?_
  | with_reducible refine rd_sl ?_
  | with_reducible refine rd_nopart ?_
  | with_reducible refine rd_part ?_
  | with_reducible refine rd_intP ?_
  | with_reducible refine rd_rU ?_
  | with_reducible refine rd_fld ?_
  | with_reducible refine rd_eqI ?_
  | with_reducible refine rd_neI ?_
  | with_reducible refine rd_mko ?_
  | with_reducible refine rd_bm ?_
  | with_reducible refine rd_gsub ?_
  | with_reducible refine rd_i0 ?_)))
theorem ok_law_first (T : Tx K mg) (B : Bk K mg T) : FnOk P w K mg base CX0 11 B.law_first.f B.law_first.fd ["script"] (spFirst K) := by
  have G_law_hand := ok_law_hand (P := P) (w := w) (base := base) T B
  have G_law_take := ok_law_take (P := P) (w := w) (base := base) T B
  have G_law_pick := ok_law_pick (P := P) (w := w) (base := base) T B
  have G_law_deed := ok_law_deed (P := P) (w := w) (base := base) T B
  have G_law_drained := ok_law_drained (P := P) (w := w) (base := base) T B
  have G_law_ends_right := ok_law_ends_right (P := P) (w := w) (base := base) T B
  have G_law_same := ok_law_same (P := P) (w := w) (base := base) T B 8
  have G_Outgoing_init := ok_out_init (P := P) (w := w) (base := base) T B
  have G_Outgoing_copy := ok_ocopy (P := P) (w := w) (base := base) T B
  have G_Outgoing_known := ok_known (P := P) (w := w) (base := base) T B
  have G_Outgoing_waiting := ok_waiting (P := P) (w := w) (base := base) T B
  have G_Incoming_init := ok_inc_init (P := P) (w := w) (base := base) T B
  have G_Incoming_copy := ok_icopy (P := P) (w := w) (base := base) T B
  have G_Incoming_take := ok_itake (P := P) (w := w) (base := base) T B
  have G_Incoming_taken := ok_taken (P := P) (w := w) (base := base) T B
  have G_Incoming_held := ok_held (P := P) (w := w) (base := base) T B
  refine B.law_first.F.ok sc_law_first (fun vs H Q E h => ?_) (fun cdv A outer s H vs Q E hr h => ?_)
  · obtain ⟨a, ns, rfl, _⟩ := h
    rfl
  · obtain ⟨s0, ns, rfl, hs0, q⟩ := h
    refine ⟨_, (pss_cons (ps_set (i := 1) sc_law_first.nd rfl (Or.inl rfl) (pe_call G_law_hand (hr.mono (by decide)) rfl B.law_hand.m B.law_hand.F.kp B.law_hand.b .nil pass0 (pa_cons (pv 0) pa_nil)))
      (pss_cons (ps_set (i := 2) sc_law_first.nd rfl (Or.inl rfl) (pe_make0 (mk_of_Outgoing T B.Outgoing_init) G_Outgoing_init (hr.mono (by decide)) rfl T.g_Outgoing B.Outgoing_init.b .nil pass0))
      (pss_cons (ps_set (i := 3) sc_law_first.nd rfl (Or.inl rfl) (pe_make0 (mk_of_Incoming T B.Incoming_init) G_Incoming_init (hr.mono (by decide)) rfl T.g_Incoming B.Incoming_init.b .nil pass0))
      (pss_cons (ps_set (i := 4) sc_law_first.nd rfl (Or.inl rfl) (pe_lst pa_nil))
      (pss_cons (ps_set (i := 5) sc_law_first.nd rfl (Or.inl rfl) (pe_lst pa_nil))
      (pss_cons (ps_set (i := 6) sc_law_first.nd rfl (Or.inl rfl) (pe_disp (pps_cons pe_str pe_int (pps_cons pe_str pe_dnewK pps_nil)) rfl rfl (List.cons_ne_nil _ _) (by decide)))
      (pss_cons (ps_set (i := 7) sc_law_first.nd rfl (Or.inl rfl) pe_int)
      (pss_cons (ps_set (i := 8) sc_law_first.nd rfl (Or.inl rfl) pe_non)
      (pss_cons (ps_for PassesOwn.never rfl (pi_range1 (by rfl) T.b_range (pa_cons (pe_call G_law_pick (hr.mono (by decide)) rfl B.law_pick.m B.law_pick.F.kp B.law_pick.b .nil pass0 (pa_cons (pv 1) (pa_cons (pe_lst (pa_cons pe_int (pa_cons pe_int (pa_cons pe_int pa_nil)))) pa_nil))) pa_nil)) (pg_name (i := 9) sc_law_first.nd rfl (Or.inl rfl)) (pss_cons (ps_asg (pe_call G_law_deed (hr.mono (by decide)) rfl B.law_deed.m B.law_deed.F.kp B.law_deed.b .nil pass0 (pa_cons (pv 1) (pa_cons (pv 2) (pa_cons (pv 3) (pa_cons (pv 4) (pa_cons (pv 7) (pa_cons (pv 6) (pa_cons (pv 5) pa_nil)))))))) (pg_tup (by rfl) (pgs_cons (pg_name (i := 10) sc_law_first.nd rfl (Or.inl rfl)) (pgs_cons (pg_name (i := 7) sc_law_first.nd rfl (Or.inl rfl)) pgs_nil))))
      (pss_cons (ps_if (PW.pt (pw_or (pt_not (pt_val (pv 10))) (pw_or1 (pt_not (pt_val (pe_call G_law_ends_right (hr.mono (by decide)) rfl B.law_ends_right.m B.law_ends_right.F.kp B.law_ends_right.b .nil pass0 (pa_cons (pv 2) (pa_cons (pv 3) (pa_cons (pv 4) (pa_cons (pv 7) (pa_cons (pv 6) pa_nil))))))))))) (pss_one (ps_ret pe_bl)) pss_nil)
      (pss_cons (ps_if (PW.pt (pw_or (pt_cmpR (op_neD hr.units) (pv 5) (pe_slice sl_list (pv 4) po_none (po_some (pe_callB call_len_seq (by rfl) T.b_len (by decide +kernel) (pa_cons (pv 5) pa_nil)))) (nomark _)) (pw_or1 (pt_cmpR op_ne (pe_callB call_len_seq (by rfl) T.b_len (by decide +kernel) (pa_cons (pv 5) pa_nil)) (pe_dget (hu_of hr) (pv 6) pe_str (fun _ _ => rfl)) (nomark _))))) (pss_one (ps_ret pe_bl)) pss_nil)
      (pss_one (ps_if (pt_cmpR op_eq (pe_call G_law_take (hr.mono (by decide)) rfl B.law_take.m B.law_take.F.kp B.law_take.b .nil pass0 (pa_cons (pv 1) (pa_cons pe_int pa_nil))) pe_int (nomark _)) (pss_cons (ps_set (i := 8) sc_law_first.nd rfl (Or.inl rfl) (pe_tup (pa_cons (pe_meth0 (pv 2) T.W_Outgoing.cl ⟨B.Outgoing_copy.a, B.Outgoing_copy.i, B.Outgoing_copy.F.kp⟩ G_Outgoing_copy (hr.mono (by decide)) B.Outgoing_copy.b .nil pass0) (pa_cons (pe_meth0 (pv 3) T.W_Incoming.cl ⟨B.Incoming_copy.a, B.Incoming_copy.i, B.Incoming_copy.F.kp⟩ G_Incoming_copy (hr.mono (by decide)) B.Incoming_copy.b .nil pass0) (pa_cons (pe_callTy call_list_of (by rfl) T.b_list (by decide +kernel) (pa_cons (pv 4) pa_nil)) (pa_cons (pv 7) (pa_cons (pe_disp (pps_cons pe_str (pe_dget (hu_of hr) (pv 6) pe_str (fun _ _ => rfl)) (pps_cons pe_str (pe_callTy call_dictD (by rfl) T.b_dict (by decide +kernel) (pa_cons (pe_dget (hu_of hr) (pv 6) pe_str (fun _ _ => rfl)) pa_nil)) pps_nil)) rfl rfl (List.cons_ne_nil _ _) (by decide)) pa_nil)))))))
      (pss_cons (ps_set (i := 11) sc_law_first.nd rfl (Or.inl rfl) (pe_op op_add (pe_op op_add (pe_meth0 (pv 3) T.W_Incoming.cl ⟨B.Incoming_taken.a, B.Incoming_taken.i, B.Incoming_taken.F.kp⟩ G_Incoming_taken (hr.mono (by decide)) B.Incoming_taken.b .nil pass0) pe_int) (pe_call G_law_take (hr.mono (by decide)) rfl B.law_take.m B.law_take.F.kp B.law_take.b .nil pass0 (pa_cons (pv 1) (pa_cons pe_int pa_nil)))))
      (pss_one (ps_if (PW.pt (pw_or (pt_cmpR (op_neD hr.units) (pe_meth (pv 3) T.W_Incoming.cl ⟨B.Incoming_take.a, B.Incoming_take.i, B.Incoming_take.F.kp⟩ G_Incoming_take (hr.mono (by decide)) B.Incoming_take.b .nil passL (pa_cons (pv 11) (pa_cons (pe_tup (pa_cons pe_str pa_nil)) pa_nil))) (pe_lst pa_nil) (nomark _)) (pw_or1 (pt_cmpR (op_neD hr.units) (pe_meth0 (pv 3) T.W_Incoming.cl ⟨B.Incoming_held.a, B.Incoming_held.i, B.Incoming_held.F.kp⟩ G_Incoming_held (hr.mono (by decide)) B.Incoming_held.b .nil pass0) (pe_callTy call_tuple_of (by rfl) T.b_tuple (by decide +kernel) (pa_cons (pe_callB cr_sortedI (by rfl) T.b_sorted (by decide +kernel) (pa_cons (pe_listKeysK rfl (pe_dget (hu_of hr) (pv 6) pe_str (fun _ _ => rfl)) (by rfl) T.b_list) pa_nil)) pa_nil)) (nomark _))))) (pss_one (ps_ret pe_bl)) pss_nil)))) pss_nil))))))
      (pss_cons (ps_if (PW.pt (pw_or (pt_not (pt_val (pe_call G_law_drained (hr.mono (by decide)) rfl B.law_drained.m B.law_drained.F.kp B.law_drained.b .nil pass0 (pa_cons (pv 2) (pa_cons (pv 3) (pa_cons (pe_callB call_len_seq (by rfl) T.b_len (by decide +kernel) (pa_cons (pv 4) pa_nil)) pa_nil)))))) (pw_or (pt_cmpR op_ne (pe_meth0 (pv 3) T.W_Incoming.cl ⟨B.Incoming_taken.a, B.Incoming_taken.i, B.Incoming_taken.F.kp⟩ G_Incoming_taken (hr.mono (by decide)) B.Incoming_taken.b .nil pass0) (pe_callB call_len_seq (by rfl) T.b_len (by decide +kernel) (pa_cons (pv 4) pa_nil)) (nomark _)) (pw_or1 (pt_cmpR (op_neD hr.units) (pe_meth0 (pv 3) T.W_Incoming.cl ⟨B.Incoming_held.a, B.Incoming_held.i, B.Incoming_held.F.kp⟩ G_Incoming_held (hr.mono (by decide)) B.Incoming_held.b .nil pass0) (pe_tup pa_nil) (nomark _)))))) (pss_one (ps_ret pe_bl)) pss_nil)
      (C8.pss_cut (ps_if (pt_cmpR op_notN (pv 8) pe_non (nomark _)) (pss_cons (ps_if (pt_not (pt_val (pe_call G_law_ends_right (hr.mono (by decide)) rfl B.law_ends_right.m B.law_ends_right.F.kp B.law_ends_right.b .nil pass0 (pa_cons (pe_ix ix_tup (pv 8) pe_int (fun _ _ => rfl)) (pa_cons (pe_ix ix_tup (pv 8) pe_int (fun _ _ => rfl)) (pa_cons (pe_ix ix_tup (pv 8) pe_int (fun _ _ => rfl)) (pa_cons (pe_ix ix_tup (pv 8) pe_int (fun _ _ => rfl)) (pa_cons (pe_ix ix_tup (pv 8) pe_int (fun _ _ => rfl)) pa_nil)))))))) (pss_one (ps_ret pe_bl)) pss_nil)
      (pss_one (ps_if (pt_not (pt_val (pe_call G_law_drained (hr.mono (by decide)) rfl B.law_drained.m B.law_drained.F.kp B.law_drained.b .nil pass0 (pa_cons (pe_ix ix_tup (pv 8) pe_int (fun _ _ => rfl)) (pa_cons (pe_ix ix_tup (pv 8) pe_int (fun _ _ => rfl)) (pa_cons (pe_callB call_len_seq (by rfl) T.b_len (by decide +kernel) (pa_cons (pe_ix ix_tup (pv 8) pe_int (fun _ _ => rfl)) pa_nil)) pa_nil)))))) (pss_one (ps_ret pe_bl)) pss_nil))) pss_nil)
      (pss_cons (ps_set (i := 12) sc_law_first.nd rfl (Or.inl rfl) (pe_meth0 (pv 2) T.W_Outgoing.cl ⟨B.Outgoing_waiting.a, B.Outgoing_waiting.i, B.Outgoing_waiting.F.kp⟩ G_Outgoing_waiting (hr.mono (by decide)) B.Outgoing_waiting.b .nil pass0))
      (pss_cons (ps_expr (pe_bm PySem.F.plainAttrs_list PySem.F.slot_list_append PySem.F.type_list_append mt_append (pv 12) (pa_cons (pe_tup (pa_cons pe_int (pa_cons (pe_tup pa_nil) pa_nil))) pa_nil)))
      (pss_one (ps_ret (pe_and (pe_cmpR (op_eqD hr.units) (pe_meth0 (pv 2) T.W_Outgoing.cl ⟨B.Outgoing_waiting.a, B.Outgoing_waiting.i, B.Outgoing_waiting.F.kp⟩ G_Outgoing_waiting (hr.mono (by decide)) B.Outgoing_waiting.b .nil pass0) (pe_lst pa_nil) (nomark _)) (pe_one (pe_call G_law_same (hr.mono (by decide)) rfl B.law_same.m B.law_same.F.kp B.law_same.b .nil pass0 (pa_cons (pe_meth (pv 2) T.W_Outgoing.cl ⟨B.Outgoing_known.a, B.Outgoing_known.i, B.Outgoing_known.F.kp⟩ G_Outgoing_known (hr.mono (by decide)) B.Outgoing_known.b .nil passL (pa_cons pe_int pa_nil)) (pa_cons pe_int pa_nil)))))))))))))))))))), ?_⟩
    walk_at "rd"
    refine ⟨s0, ns, rfl, hs0, fun p l0 H1 np nl0' hh1 s1 => ?_⟩
    have nl0 : l0 ≠ p := by
      obtain ⟨_, _, _, _, _, _, z, _⟩ := hh1
      exact z
    walk_at "rd"
    refine rd_make ?_
    walk_at "rd"
    intro o dx no ndx _
    refine ⟨o, dx, rfl, upd_same, fun l H2 f2 nl ho2 => ⟨rfl, ?_⟩⟩
    have s2 : Same H1 H2 := made_same no ndx f2
    walk_at "rd"
    refine rd_make ?_
    walk_at "rd"
    intro e dy ne ndy _
    refine ⟨e, dy, rfl, upd_same, fun d H3 f3 nd hi3 => ⟨rfl, ?_⟩⟩
    have s3 : Same H2 H3 := made_same ne ndy f3
    walk_at "rd"
    refine rd_disp rfl fun tl ntl => ?_
    walk_at "rd"
    refine rd_disp rfl fun al nal => ?_
    walk_at "rd"
    refine rd_disp2 fun mi nmi => ?_
    walk_at "rd"
    intro hd nhd
    have nmh : mi ≠ hd := ne_of_none upd_same nhd
    refine ⟨(upd_ne nmh).trans upd_same, mD 0 hd, rfl, by show 2 ≤ 15; decide, ?_⟩
    rw [show mergeK [] (mD 0 hd) = mD 0 hd from rfl]
    have g1 : Gr [p, l0] H1 := ⟨by simp [nl0.symm], fun b hb => by
      simp only [List.mem_cons, List.not_mem_nil, or_false] at hb
      rcases hb with rfl | rfl
      · exact hh1.there
      · exact hh1.there2⟩
    obtain ⟨⟨dx2, ha2⟩, hl2⟩ := id ho2
    obtain ⟨⟨dy3, he3⟩, hd3⟩ := id hi3
    have g2 : Gr [p, l0, o, l] H2 := g1.two s2 no (made_free nl) ho2.ne ⟨_, ha2⟩ ⟨_, hl2⟩
    have g3 : Gr [p, l0, o, l, e, d] H3 := g2.two s3 ne (made_free nd) hi3.ne ⟨_, he3⟩ ⟨_, hd3⟩
    have g4 : Gr [p, l0, o, l, e, d, tl] _ := g3.snoc (same_new (o := .lst []) ntl) ntl ⟨_, upd_same⟩
    have g5 : Gr [p, l0, o, l, e, d, tl, al] _ := g4.snoc (same_new (o := .lst []) nal) nal ⟨_, upd_same⟩
    have sM : Same (upd (upd H3 tl (.lst [])) al (.lst [])) (upd (upd (upd (upd (upd H3 tl (.lst [])) al (.lst [])) mi (.dK [])) hd (.dK [])) mi (.dK (mD 0 hd))) := fun b u eb => by
      have n1 := ne_of_none eb nmi
      have n2 : b ≠ hd := fun z => by
        rw [upd_ne nmh.symm, ← z, eb] at nhd
        cases nhd
      rw [upd_ne n1, upd_ne n2, upd_ne n1]
      exact eb
    have g6 : Gr [p, l0, o, l, e, d, tl, al, mi, hd] _ := g5.two sM nmi (by rw [upd_ne nmh.symm] at nhd; exact nhd) nmh ⟨_, upd_same⟩ ⟨_, (upd_ne nmh.symm).trans upd_same⟩
    have s4 := same_new (o := .lst []) ntl
    have s5 := same_new (o := .lst []) nal
    have s46 := (s4.trans s5).trans sM
    have htl6 := (s5.trans sM) _ _ (upd_same (H := H3) (a := tl) (o := .lst []))
    have hal6 := sM _ _ (upd_same (H := upd H3 tl (.lst [])) (a := al) (o := .lst []))
    have hhd6 : (upd (upd (upd (upd (upd H3 tl (.lst [])) al (.lst [])) mi (.dK [])) hd (.dK [])) mi (.dK (mD 0 hd))) hd = some (.dK []) := (upd_ne nmh.symm).trans upd_same
    have hmi6 : (upd (upd (upd (upd (upd H3 tl (.lst [])) al (.lst [])) mi (.dK [])) hd (.dK [])) mi (.dK (mD 0 hd))) mi = some (.dK (mD 0 hd)) := upd_same
    have S6 := (s1.trans (s2.trans s3)).trans s46
    have ho6 := ho2.same (s3.trans s46)
    have hi6 := hi3.same s46
    have hh6 := hh1.keep ((s2.trans s3).trans s46)
    generalize upd (upd (upd (upd (upd H3 tl (.lst [])) al (.lst [])) mi (.dK [])) hd (.dK [])) mi (.dK (mD 0 hd)) = H6 at *
    walk_at "rd"
    show iRng1 _ _ _ _
    refine rd_rng1 ?_
    walk_at "rd"
    refine rd_disp rfl fun lm nm => ?_
    have s7 := same_new (o := .lst [.int 5, .int 20, .int 60]) nm
    walk_at "rd"
    refine ⟨p, l0, lm, _, rfl, ⟨hh6.ne nm, upd_same⟩, by simp, by simp, hh6.keep s7, fun j x H8 hj hh8 k8 => ?_⟩
    obtain ⟨n, rfl, hn⟩ : ∃ n : Nat, x = .int (n : Nat) ∧ n ≤ 60 := by
      match j, hj with
      | 0, hj => exact ⟨5, (Option.some.inj hj).symm, by decide⟩
      | 1, hj => exact ⟨20, (Option.some.inj hj).symm, by decide⟩
      | 2, hj => exact ⟨60, (Option.some.inj hj).symm, by decide⟩
      | j + 3, hj => simp at hj
    have sH : Same H H8 := fun b u eb => k8 b u (ne_of_none eb np) ((S6.trans s7) b u eb)
    have K8 : Keep p H6 H8 := (Keep.same s7).trans k8
    have M : ∀ (i : Nat) {b : Addr}, [p, l0, o, l, e, d, tl, al, mi, hd][i]? = some b → i ≠ 0 → b ∉ [p] := fun i b hb n => by simpa using nd_ne g6.1 (i := i) (j := 0) hb rfl n
    have noe : o ≠ e := nd_ne g6.1 (i := 2) (j := 4) rfl rfl (by decide)
    have E8 : EndSt T.c_Outgoing T.c_Incoming p H8 o l e d tl mi hd 0 0 [] [] [] [] := ⟨ho6.fr K8.fr (M 2 rfl (by decide)) (M 3 rfl (by decide)), hi6.fr K8.fr (M 4 rfl (by decide)) (M 5 rfl (by decide)), K8.fr _ _ (M 6 rfl (by decide)) htl6, K8.fr _ _ (M 8 rfl (by decide)) hmi6, K8.fr _ _ (M 9 rfl (by decide)) hhd6, tpAll_nil, (fun x hx => (by cases hx)),
      ⟨MW.nil 0 [], rfl⟩, Nat.le_refl _, Nat.le_refl _, Nat.zero_le _, Nat.zero_le _, fun ns h => ⟨ns, h, .refl ns⟩⟩
    have al8 := K8.fr _ _ (M 7 rfl (by decide)) hal6
    have fresh : ∀ b ∈ [p, l0, o, l, e, d, tl, al, mi, hd], H b = none := fun b hb => by
      have nd3 := s1.free (s2.free (made_free nd))
      have S3 := s1.trans (s2.trans s3)
      simp only [List.mem_cons, List.not_mem_nil, or_false] at hb
      rcases hb with rfl | rfl | rfl | rfl | rfl | rfl | rfl | rfl | rfl | rfl
      · exact np
      · exact nl0'
      · exact s1.free no
      · exact s1.free (made_free nl)
      · exact (s1.trans s2).free ne
      · exact nd3
      · exact S3.free ntl
      · exact (S3.trans s4).free nal
      · exact ((S3.trans s4).trans s5).free nmi
      · exact ((S3.trans s4).trans s5).free (by rw [upd_ne nmh.symm] at nhd; exact nhd)
    walk_at "rd"
    refine ⟨_, rfl, by omega, by omega, for_range (lo := 0) (n := ((n : Nat) : Int).toNat) (First T.c_Outgoing T.c_Incoming s0 p l0 o e d tl al mi hd H)
      ⟨l, 0, 0, [], [], [], .non, none, none, none, rfl, hh8, E8, al8, gr_of hh8 E8 al8 g6.1, Nat.le_refl _, .inl rfl, sH, noe, fresh⟩ ?_ ?_⟩
    · rintro i σ H9 hi ⟨l, g, k, m, vs, ds, u8, u9, u10, u11, rfl, hh, hE, hal, hG, hmi, hK, hS, _, hN⟩
      walk_at "rd"
      refine ⟨p, l0, o, l, e, d, tl, al, mi, hd, g, k, m, vs, ds, rfl, hh, hE, hal, hG.1, by omega, fun t l' g' k' m' vs' ds' HA fA kA hl' hhA hEA halA hmA ht => ?_⟩
      walk_at "rd"
      refine ⟨t, _, rfl, SqT.of ht, rfl, _, _, rfl, _, _, rfl, rfl, ?_⟩
      walk_at "rd"
      have hL' : ∀ b ∈ [p, l0, o, l', e, d, tl, al, mi, hd], b ∈ [p, l0, o, l, e, d, tl, al, mi, hd] ∨ H9 b = none := fun b hb => by
        rcases hl' with z | z
        · subst z
          exact .inl hb
        · have hb2 : b ∈ ([p, l0, o, l, e, d, tl, al, mi, hd] : List Addr).set 3 l' := hb
          rcases List.mem_or_eq_of_mem_set hb2 with w | w
          · exact .inl w
          · exact .inr (by rw [w]; exact z)
      have nA : [p, l0, o, l', e, d, tl, al, mi, hd].Nodup := by
        rcases hl' with z | z
        · subst z
          exact hG.1
        · refine nd_set (L := [p, l0, o, l, e, d, tl, al, mi, hd]) (i := 3) (x := l') hG.1 fun w => ?_
          obtain ⟨u, hu⟩ := hG.2 l' w
          rw [hu] at z
          cases z
      have hKA : Kp T.c_Outgoing T.c_Incoming p H [p, l0, o, l', e, d, tl, al, mi, hd] HA u8 := hK.fr fA kA (fun b hb => by
        simp only [List.mem_cons, List.not_mem_nil, or_false] at hb ⊢
        rcases hb with z | z | z | z | z | z | z | z | z <;> simp [z]) hL'
      have hNA : ∀ b ∈ [p, l0, o, l', e, d, tl, al, mi, hd], H b = none := fun b hb => by
        rcases hL' b hb with z | z
        · exact hN b z
        · exact hS.free z
      have hSA : Same H HA := fun b u eb => fA b u (fun z => by
        have := hN b (by
          simp only [List.mem_cons, List.not_mem_nil, or_false] at z ⊢
          rcases z with z | z | z | z | z | z | z | z | z <;> simp [z])
        rw [eb] at this
        cases this) (hS b u eb)
      have hmi1 : m'.length ≤ i + 1 := by omega
      clear hl' hL' hK hE hal hG hN hS hmi hmA hh fA
      refine rd_no rfl ?_
      walk_at "rd"
      refine ⟨p, l0, o, l', e, d, tl, mi, hd, g', k', m', m', vs', ds', rfl, hhA, hEA, fun HB sB => ?_⟩
      walk_at "rd"
      refine rd_no rfl ?_
      walk_at "rd"
      have hEB := hEA.same sB
      have hhB := hhA.keep sB
      have halB := sB _ _ halA
      have hKB := hKA.fr (M := []) (Fr.same sB) (KT.same sB) (fun b hb => by cases hb) (fun b hb => .inl hb)
      have hSB := hSA.trans sB
      clear hEA hhA halA hKA hSA ht
      obtain ⟨ho, hi, htl, hmi, hhd, hds, hgd, hmok, hgk, hkl, hl30, hml, hmm⟩ := id hEB
      have htk : (vs'.take k').length = k' := by rw [List.length_take]; omega
      refine ⟨al, _, rfl, .inl (SqL.of halB), ?_⟩
      walk_at "rd"
      refine ⟨tl, _, rfl, SqL.of htl, fun DC nDC => ?_⟩
      have ec : cutV vs' none (some (((vs'.take k').length : Nat) : Int)) = vs'.take k' := by
        unfold cutV
        rw [HT.sIx_none, HT.sIx_nat, htk, Nat.min_eq_left hkl]
        simp
      rw [ec]
      have sC := same_new (o := .lst (vs'.take k')) nDC
      have gT : ∀ x ∈ ds'.take k', Gd 4 46 x := fun x hx => hgd x (List.mem_of_mem_take hx)
      have pT := plainAll_of fun x hx => (gT x hx).1
      refine ⟨.list (ds'.take k'), .list (ds'.take k'), .lst (SqL.of (sC _ _ halB)) (tp_dpAll _ _ pT ((pas hds sC).take k')), .lst (SqL.of upd_same) (tp_dpAll _ _ pT ((pas hds sC).take k')), shaped_of gT (by decide), shaped_of gT (by decide), ?_⟩
      rw [eqv_list gT]
      walk_at "rd"
      refine rd_no rfl ?_
      walk_at "rd"
      refine ⟨al, _, rfl, .inl (SqL.of (sC _ _ halB)), ?_⟩
      walk_at "rd"
      refine ⟨mi, _, rfl, DGet.k (k := .inr "taken") (sC _ _ hmi), ?_⟩
      walk_at "rd"
      refine rd_no (by simp [htk]) ?_
      walk_at "rd"
      refine ⟨p, l0, _, rfl, by decide, by decide, hhB.keep sC, fun r HD r0 r1 hhD kD => ?_⟩
      have fD : Fr [p] HB HD := (Fr.same sC).trans kD.fr
      have kBD : KT HB HD := (KT.same sC).trans (KT.keep (hhB.keep sC) kD)
      have hp : ∀ b ∈ [o, l', e, d, tl, mi, hd], b ∉ [p] := fun b hb z => (List.nodup_cons.mp nA).1 (by
        have e1 : b = p := by simpa using z
        rw [← e1]
        simp only [List.mem_cons, List.not_mem_nil, or_false] at hb ⊢
        rcases hb with z | z | z | z | z | z | z <;> simp [z])
      have hED := hEB.fr fD kBD hp
      have halD := fD _ _ (show al ∉ [p] by simpa using nd_ne nA (i := 7) (j := 0) rfl rfl (by decide)) halB
      have hKD := hKB.fr (L' := [p, l0, o, l', e, d, tl, al, mi, hd]) fD kBD (fun b hb => by simp at hb; simp [hb]) (fun b hb => .inl hb)
      have hSD : Same H HD := fun b u eb => fD b u (by simpa using ne_of_none eb np) (hSB b u eb)
      have grD := gr_of hhD hED halD nA
      walk_at "rd"
      refine rd_ite (fun h1 => ?_) (fun h1 => ?_)
      · clear hEB halB hKB hSB ho hi htl hmi hhd hds
        obtain ⟨ho, hi, htl, hmi, hhd, hds, _⟩ := id hED
        obtain ⟨⟨dxo, hao⟩, hlo⟩ := id ho
        obtain ⟨⟨dye, hae⟩, hde⟩ := id hi
        obtain ⟨⟨ns, en, nnd, hns⟩, hnk⟩ := id hmok
        have hnl : ns.length = m'.length := by
          have := congrArg List.length en
          simpa using this.symm
        walk_at "rd"
        refine rd_meth ?_
        walk_at "rd"
        refine ⟨o, dxo, _, rfl, hao, rfl, ?_⟩
        walk_at "rd"
        refine ⟨o, l', g', _, rfl, ho, fun o2 l2 HE sE no2 nl2 ho2 => ?_⟩
        walk_at "rd"
        refine rd_meth ?_
        walk_at "rd"
        refine ⟨e, dye, _, rfl, sE _ _ hae, rfl, ?_⟩
        walk_at "rd"
        refine ⟨e, d, k', m', ns, rfl, hi.same sE, en, by omega, nnd, fun e2 d2 ps HF sF ne2 nd2 hi2 hpm hpw hpv => ?_⟩
        walk_at "rd"
        have sDF := sE.trans sF
        refine ⟨tl, _, rfl, .inl (SqL.of (sDF _ _ htl)), fun tl2 ntl2 => ?_⟩
        walk_at "rd"
        have sG := same_new (o := .lst vs') ntl2
        have sDG := sDF.trans sG
        refine rd_disp2 fun mi2 nmi2 => ?_
        have sM := same_new (o := .dK []) nmi2
        walk_at "rd"
        refine ⟨mi, _, rfl, DGet.k (k := .inr "taken") ((sDG.trans sM) _ _ hmi), ?_⟩
        walk_at "rd"
        refine ⟨mi, _, rfl, DGet.k (k := .inr "held") ((sDG.trans sM) _ _ hmi), ?_⟩
        walk_at "rd"
        refine ⟨hd, m', rfl, .inl ((sDG.trans sM) _ _ hhd), fun hd2 nhd2 => ?_⟩
        walk_at "rd"
        have nmh2 : mi2 ≠ hd2 := ne_of_none upd_same nhd2
        refine ⟨(upd_ne nmh2).trans upd_same, mD k' hd2, rfl, by show 2 ≤ 15; decide, ?_⟩
        rw [show mergeK [] (mD (k' : Int) hd2) = mD k' hd2 from rfl]
        refine rd_disp rfl fun kt nkt => ?_
        -- all that is new is new
        have sH2 := same_new (o := .dK m') nhd2
        have nmi2' : (upd (upd HF tl2 (.lst vs')) mi2 (.dK [])) mi2 = some (.dK []) := upd_same
        have sMM : Same (upd HF tl2 (.lst vs')) (upd (upd (upd (upd HF tl2 (.lst vs')) mi2 (.dK [])) hd2 (.dK m')) mi2 (.dK (mD k' hd2))) := fun b u eb => by
          rw [upd_ne (ne_of_none eb nmi2)]
          exact (sM.trans sH2) b u eb
        have sK := same_new (o := .tup [.ref o2, .ref e2, .ref tl2, .int (g' : Nat), .ref mi2]) nkt
        have sDK := sDG.trans (sMM.trans sK)
        have hmi3 := sK _ _ (upd_same (H := upd (upd (upd HF tl2 (.lst vs')) mi2 (.dK [])) hd2 (.dK m')) (a := mi2) (o := .dK (mD k' hd2)))
        have hhd3 := sK _ _ ((upd_ne (H := upd (upd (upd HF tl2 (.lst vs')) mi2 (.dK [])) hd2 (.dK m')) (a := mi2) (o := .dK (mD k' hd2)) nmh2.symm).trans upd_same)
        have htl3 := (sMM.trans sK) _ _ (upd_same (H := HF) (a := tl2) (o := .lst vs'))
        have ho3 := ho2.same (sF.trans (sG.trans (sMM.trans sK)))
        have hi3 := hi2.same (sG.trans (sMM.trans sK))
        have hds3 := pas hds sDK
        have hkt3 : (upd (upd (upd (upd (upd HF tl2 (.lst vs')) mi2 (.dK [])) hd2 (.dK m')) mi2 (.dK (mD k' hd2))) kt (.tup [.ref o2, .ref e2, .ref tl2, .int (g' : Nat), .ref mi2])) kt = some (.tup [.ref o2, .ref e2, .ref tl2, .int (g' : Nat), .ref mi2]) := upd_same
        have nhd2' : HF hd2 = none := by
          rw [upd_ne nmh2.symm] at nhd2
          exact sG.free nhd2
        have nmi2'' : HF mi2 = none := sG.free nmi2
        have nbs : ∀ b ∈ [o2, l2, e2, d2, tl2, mi2, hd2], HD b = none := fun b hb => by
          simp only [List.mem_cons, List.not_mem_nil, or_false] at hb
          rcases hb with rfl | rfl | rfl | rfl | rfl | rfl | rfl
          · exact no2
          · exact nl2
          · exact sE.free ne2
          · exact sE.free nd2
          · exact sDF.free ntl2
          · exact sDF.free nmi2''
          · exact sDF.free nhd2'
        have dj : ∀ b ∈ [o2, l2, e2, d2, tl2, mi2, hd2], b ∉ [p, l0, o, l', e, d, tl, al, mi, hd] := fun b hb z => by
          obtain ⟨u, hu⟩ := grD.2 b z
          have nb := nbs b hb
          rw [hu] at nb
          cases nb
        have noe2 : o2 ≠ e2 := by
          obtain ⟨⟨_, z⟩, _⟩ := ho2
          exact ne_of_none z ne2
        have hps : ∀ ns1 : List Int, (ps.map fun x => ((.inl x.1 : Key), x.2)).map (·.1) = ns1.map Sum.inl → ∃ ns2 : List Int, m'.map (·.1) = ns2.map Sum.inl ∧ ns2.Perm ns1 := fun ns1 h => by
          have e1 : ps.map (·.1) = ns1 := map_inl (by rw [← h, List.map_map, List.map_map]; rfl)
          exact ⟨ns, en, by rw [← e1]; exact hpm.symm⟩
        have hpl : (ps.map fun x => ((.inl x.1 : Key), x.2)).length ≤ 100 := by
          have := hpm.length_eq
          rw [List.length_map] at this ⊢
          omega
        have kpK : Kp T.c_Outgoing T.c_Incoming p H [p, l0, o, l', e, d, tl, al, mi, hd] _ (.ref kt) := .inr ⟨kt, o2, l2, e2, d2, tl2, mi2, hd2, g', k', _, m', vs', ds', rfl, hkt3, ⟨ho3, hi3, htl3, hmi3, hhd3, hds3, hgd, copy_ok hmok en hpm hpv, hgk, hkl, hl30, hpl, hps⟩, noe2, dj, fun b hb => hSD.free (nbs b hb)⟩
        have hEK := hED.same sDK
        have halK := sDK _ _ halD
        have hhK := hhD.keep sDK
        have hSK := hSD.trans sDK
        generalize upd (upd (upd (upd (upd HF tl2 (.lst vs')) mi2 (.dK [])) hd2 (.dK m')) mi2 (.dK (mD k' hd2))) kt (.tup [.ref o2, .ref e2, .ref tl2, .int (g' : Nat), .ref mi2]) = HK at *
        clear hED halD hhD hSD grD ho hi htl hmi hhd hds hao hlo hae hde hKD ho3 hi3 htl3 hmi3 hhd3 hds3 hkt3 hhB
        obtain ⟨ho, hi, htl, hmi, hhd, hds, _⟩ := id hEK
        obtain ⟨⟨dye, hae⟩, hde⟩ := id hi
        walk_at "rd"
        refine rd_meth ?_
        walk_at "rd"
        refine ⟨e, dye, _, rfl, hae, rfl, ?_⟩
        walk_at "rd"
        refine ⟨e, d, k', m', rfl, hi, ?_⟩
        walk_at "rd"
        refine ⟨p, l0, _, rfl, by decide, by decide, hhK, fun r5 HI r50 r51 hhI kI => ?_⟩
        walk_at "rd"
        have fI := kI.fr
        have kKI := KT.keep hhK kI
        have hEI := hEK.fr fI kKI hp
        have halI := fI _ _ (show al ∉ [p] by simpa using nd_ne nA (i := 7) (j := 0) rfl rfl (by decide)) halK
        have kpI := kpK.fr (L' := [p, l0, o, l', e, d, tl, al, mi, hd]) fI kKI (fun b hb => by simp at hb; simp [hb]) (fun b hb => .inl hb)
        have hSI : Same H HI := fun b u eb => fI b u (by simpa using ne_of_none eb np) (hSK b u eb)
        clear hEK halK kpK hSK ho hi htl hmi hhd hds hae hde
        obtain ⟨ho, hi, htl, hmi, hhd, hds, _⟩ := id hEI
        obtain ⟨⟨dyI, haeI⟩, hdI⟩ := id hi
        refine rd_meth ?_
        walk_at "rd"
        refine ⟨e, dyI, _, rfl, haeI, rfl, ?_⟩
        walk_at "rd"
        refine rd_disp rfl fun tf ntf => ?_
        have sf := same_new (o := .tup [.str "far"]) ntf
        walk_at "rd"
        refine ⟨e, d, k', m', _, _, rfl, hi.same sf, by omega, by omega, by omega, fun L HJ fJ nL hiJ hL => ?_⟩
        have eh : hear (k' : Int) (k' + 1000 + r5) (.ref tf) m' = m' := by
          unfold hear
          rw [if_neg (fun c => by omega)]
        rw [eh, drain_no hmok.2] at hiJ hL
        dsimp only at hiJ hL
        walk_at "rd"
        refine rd_disp rfl fun le nle => ?_
        have sle := same_new (o := .lst []) nle
        refine ⟨.list [], .list [], .lst (SqL.of (sle _ _ hL)) .nil, .lst (SqL.of upd_same) .nil, rfl, rfl, ?_⟩
        rw [show PyData.eqv (.list []) (.list []) = true from rfl]
        walk_at "rd"
        refine rd_no rfl ?_
        walk_at "rd"
        have hiK := hiJ.same sle
        obtain ⟨⟨dyK, haeK⟩, hdK⟩ := id hiK
        refine rd_meth ?_
        walk_at "rd"
        refine ⟨e, dyK, _, rfl, haeK, rfl, ?_⟩
        walk_at "rd"
        refine ⟨e, d, k', m', ns, rfl, hiK, en, fun t9 ns' HL sL nt9 ht9 hpm9 hpw9 => ?_⟩
        have fL : Fr [e, d] HI HL := ((Fr.same sf).trans fJ).trans (Fr.same (sle.trans sL))
        have kL : KT HI HL := KT.fr fL (fun b hb ys z => by
          simp only [List.mem_cons, List.not_mem_nil, or_false] at hb
          rcases hb with w | w
          · rw [w, haeI] at z
            cases z
          · rw [w, hdI] at z
            cases z)
        have N : ∀ (i j : Nat) {a b : Addr}, [p, l0, o, l', e, d, tl, al, mi, hd][i]? = some a → [p, l0, o, l', e, d, tl, al, mi, hd][j]? = some b → i ≠ j → a ≠ b := fun i j a b => nd_ne nA
        have M2 : ∀ (i : Nat) {b : Addr}, [p, l0, o, l', e, d, tl, al, mi, hd][i]? = some b → i ≠ 4 → i ≠ 5 → b ∉ [e, d] := fun i b hb n1 n2 => by
          have z1 := nd_ne nA (i := i) (j := 4) hb rfl n1
          have z2 := nd_ne nA (i := i) (j := 5) hb rfl n2
          simp [z1, z2]
        have hEL : EndSt T.c_Outgoing T.c_Incoming p HL o l' e d tl mi hd g' k' m' m' vs' ds' := ⟨ho.fr fL (M2 2 rfl (by decide) (by decide)) (M2 3 rfl (by decide) (by decide)), hiK.same sL, fL _ _ (M2 6 rfl (by decide) (by decide)) htl, fL _ _ (M2 8 rfl (by decide) (by decide)) hmi, fL _ _ (M2 9 rfl (by decide) (by decide)) hhd, tp_kt kL hgd hds, hgd, hmok, hgk, hkl, hl30, hml, hmm⟩
        have halL := fL _ _ (M2 7 rfl (by decide) (by decide)) halI
        have hhL := hhI.fr fL (M2 0 rfl (by decide) (by decide)) (M2 1 rfl (by decide) (by decide))
        have kpL := kpI.fr (L' := [p, l0, o, l', e, d, tl, al, mi, hd]) fL kL (fun b hb => by
          simp only [List.mem_cons, List.not_mem_nil, or_false] at hb ⊢
          rcases hb with z | z <;> simp [z]) (fun b hb => .inl hb)
        have hSL : Same H HL := fun b u eb => fL b u (fun z => by
          have := hNA b (by
            simp only [List.mem_cons, List.not_mem_nil, or_false] at z ⊢
            rcases z with z | z <;> simp [z])
          rw [eb] at this
          cases this) (hSI b u eb)
        clear kpI halI hEI hSI
        walk_at "rd"
        refine rd_listKeysK ?_
        walk_at "rd"
        refine ⟨mi, _, rfl, DGet.k (k := .inr "held") (fL _ _ (M2 8 rfl (by decide) (by decide)) hmi), ?_⟩
        refine ⟨hd, m', ns, rfl, fL _ _ (M2 9 rfl (by decide) (by decide)) hhd, en, fun l7 nl7 => ?_⟩
        walk_at "rd"
        refine ⟨l7, ns, rfl, SqL.of upd_same, fun ns8 l8 hpm8 hpw8 nl8 => ?_⟩
        obtain rfl : ns8 = ns' := sorted_one (hpm8.trans hpm9.symm) hpw8 hpw9
        walk_at "rd"
        refine ⟨l8, _, rfl, .inl ⟨SqL.of upd_same, fun t10 nt10 => ?_⟩⟩
        have s7 := same_new (o := .lst (ns.map V.int)) nl7
        have s8 := same_new (o := .lst (ns8.map V.int)) nl8
        have s9 := same_new (o := .tup (ns8.map V.int)) nt10
        have s79 := s7.trans (s8.trans s9)
        walk_at "rd"
        refine ⟨.tuple (ns8.map PyData.int), .tuple (ns8.map PyData.int), .tup (SqT.of (s79 _ _ ht9)) (dp_ints ns8), .tup (SqT.of upd_same) (dp_ints ns8), shaped_ints ns8, shaped_ints ns8, ?_⟩
        rw [eqv_ints]
        walk_at "rd"
        refine rd_no rfl ?_
        walk_at "rd"
        exact ⟨l', g', k', m', vs', ds', .ref kt, _, _, _, rfl, hhL.keep s79, hEL.same s79, s79 _ _ halL, gr_of (hhL.keep s79) (hEL.same s79) (s79 _ _ halL) nA, hmi1, kpL.fr (M := []) (Fr.same s79) (KT.same s79) (fun b hb => by cases hb) (fun b hb => .inl hb), hSL.trans s79, noe, hNA⟩
      · exact ⟨l', g', k', m', vs', ds', u8, _, _, _, rfl, hhD, hED, halD, grD, by omega, hKD, hSD, noe, hNA⟩
    · rintro σ H9 ⟨l, g, k, m, vs, ds, u8, u9, u10, u11, rfl, hh, hE, hal, hG, hmi, hK, hS, _, hN⟩
      obtain ⟨ho, hi, htl, _, _, _, _, hmok, hgk, hkl, hl30, hml, _⟩ := id hE
      have N : ∀ (i j : Nat) {a b : Addr}, [p, l0, o, l, e, d, tl, al, mi, hd][i]? = some a → [p, l0, o, l, e, d, tl, al, mi, hd][j]? = some b → i ≠ j → a ≠ b := fun i j a b => nd_ne hG.1
      walk_at "rd"
      refine ⟨tl, _, rfl, .inl (SqL.of htl), ?_⟩
      walk_at "rd"
      refine ⟨o, l, e, d, g, k, m, vs, rfl, ho, hi, hmok, hgk, hkl, hl30, by omega, noe, fun lA HA fA hlA hoA hiA => ?_⟩
      walk_at "rd"
      refine rd_no rfl ?_
      walk_at "rd"
      obtain ⟨⟨dyA, haeA⟩, hdA⟩ := id hiA
      refine rd_meth ?_
      walk_at "rd"
      refine ⟨e, dyA, _, rfl, haeA, rfl, ?_⟩
      walk_at "rd"
      refine ⟨e, d, _, [], rfl, hiA, ?_⟩
      walk_at "rd"
      have htlA := fA _ _ (by simp [N 6 2 rfl rfl (by decide), N 6 4 rfl rfl (by decide), N 6 5 rfl rfl (by decide)]) htl
      refine ⟨tl, _, rfl, .inl (SqL.of htlA), ?_⟩
      walk_at "rd"
      refine rd_no (by simp) ?_
      walk_at "rd"
      refine rd_meth ?_
      walk_at "rd"
      refine ⟨e, dyA, _, rfl, haeA, rfl, ?_⟩
      walk_at "rd"
      refine ⟨e, d, _, [], [], rfl, hiA, rfl, fun t ns' HB sB nt ht hpm hpw => ?_⟩
      obtain rfl : ns' = [] := hpm.eq_nil
      walk_at "rd"
      refine rd_disp rfl fun te nte => ?_
      have ste := same_new (o := .tup []) nte
      refine ⟨.tuple [], .tuple [], .tup (SqT.of (ste _ _ ht)) .nil, .tup (SqT.of upd_same) .nil, rfl, rfl, ?_⟩
      rw [show PyData.eqv (.tuple []) (.tuple []) = true from rfl]
      walk_at "rd"
      refine rd_no rfl ?_
      walk_at "rd"
      have sAC := sB.trans ste
      have fC : Fr [o, e, d] H9 _ := fA.trans (Fr.same sAC)
      have hoC := hoA.same sAC
      have kin : ∀ b ∈ [o, e, d], ∀ ys, H9 b ≠ some (.tup ys) := fun b hb ys z => by
        obtain ⟨⟨_, w1⟩, _⟩ := ho
        obtain ⟨⟨_, w2⟩, w3⟩ := hi
        simp only [List.mem_cons, List.not_mem_nil, or_false] at hb
        rcases hb with rfl | rfl | rfl
        · rw [w1] at z
          cases z
        · rw [w2] at z
          cases z
        · rw [w3] at z
          cases z
      have hMC : ∀ b ∈ [o, e, d], b ∈ [p, l0, o, l, e, d, tl, al, mi, hd] := fun b hb => by
        simp only [List.mem_cons, List.not_mem_nil, or_false] at hb ⊢
        rcases hb with z | z | z <;> simp [z]
      have hKC := hK.fr (L' := [p, l0, o, l, e, d, tl, al, mi, hd]) fC (KT.fr fC kin) hMC (fun b hb => .inl hb)
      have hhC := hh.fr fC (by simp [N 0 2 rfl rfl (by decide), N 0 4 rfl rfl (by decide), N 0 5 rfl rfl (by decide)]) (by simp [N 1 2 rfl rfl (by decide), N 1 4 rfl rfl (by decide), N 1 5 rfl rfl (by decide)])
      have hSC : Same H _ := fun b u eb => fC b u (fun z => by
        have := hN b (hMC b z)
        rw [eb] at this
        cases this) (hS b u eb)
      have hKC' : ∀ (kt o2 l2 e2 d2 tl2 mi2 hd2 : Addr) (g2 k2 : Nat) (m2 mm2 : List (Key × V)) (vs2 : List V) (ds2 : List PyData), EndSt T.c_Outgoing T.c_Incoming p H9 o2 l2 e2 d2 tl2 mi2 hd2 g2 k2 m2 mm2 vs2 ds2 → (∀ b ∈ [o2, l2, e2, d2, tl2, mi2, hd2], b ∉ [p, l0, o, l, e, d, tl, al, mi, hd]) → o ∉ [o2, e2, d2] ∧ lA ∉ [o2, e2, d2] := fun kt o2 l2 e2 d2 tl2 mi2 hd2 g2 k2 m2 mm2 vs2 ds2 h3 h5 => by
        have key : ∀ b ∈ [o2, e2, d2], b ∈ [o2, l2, e2, d2, tl2, mi2, hd2] := fun b hb => by
          simp only [List.mem_cons, List.not_mem_nil, or_false] at hb ⊢
          rcases hb with z | z | z <;> simp [z]
        refine ⟨fun z => h5 _ (key _ z) (by simp), fun z => ?_⟩
        rcases hlA with w | w
        · exact h5 _ (key _ z) (by rw [w]; simp)
        · obtain ⟨u, hu⟩ := h3.ex _ (key _ z)
          rw [hu] at w
          cases w
      generalize upd HB te (.tup []) = HC at *
      refine ⟨fun σ1 H1 => ∃ v8 v9 v10 v11, σ1 = [some (.ref s0), some (.ref p), some (.ref o), some (.ref e), some (.ref tl), some (.ref al), some (.ref mi), some (.int (g : Nat)), v8, v9, v10, v11, none] ∧ Same H H1 ∧ OutAt T.c_Outgoing H1 o lA (vs.length : Nat) [], ?_, ?_⟩
      · rcases hK with rfl | ⟨kt, o2, l2, e2, d2, tl2, mi2, hd2, g2, k2, m2, mm2, vs2, ds2, rfl, hk2, hE2, noe2, dj, fr2⟩
        · walk_at "rd"
          refine ⟨rfl, ?_⟩
          walk_at "rd"
          refine rd_no rfl ?_
          exact ⟨_, _, _, _, rfl, hSC, hoC⟩
        · obtain ⟨d1, d2'⟩ := hKC' kt o2 l2 e2 d2 tl2 mi2 hd2 g2 k2 m2 mm2 vs2 ds2 hE2 dj
          have hkC := (KT.fr fC kin) _ _ hk2
          have hE2C := hE2.fr fC (KT.fr fC kin) (fun b hb z => dj b hb (hMC b z))
          walk_at "rd"
          refine ⟨rfl, ?_⟩
          walk_at "rd"
          refine rd_yes rfl ?_
          walk_at "rd"
          refine rd_ixT hkC rfl ?_
          walk_at "rd"
          refine rd_ixT hkC rfl ?_
          walk_at "rd"
          refine rd_ixT hkC rfl ?_
          walk_at "rd"
          refine rd_ixT hkC rfl ?_
          walk_at "rd"
          refine rd_ixT hkC rfl ?_
          walk_at "rd"
          refine ⟨p, l0, o2, l2, e2, d2, tl2, mi2, hd2, g2, k2, m2, mm2, vs2, ds2, rfl, hhC, hE2C, fun HD sD => ?_⟩
          walk_at "rd"
          refine rd_no rfl ?_
          walk_at "rd"
          have hkD := sD _ _ hkC
          have hE2D := hE2C.same sD
          obtain ⟨ho2, hi2, htl2, _, _, _, _, hmok2, hgk2, hkl2, hl302, hml2, _⟩ := id hE2D
          refine rd_ixT hkD rfl ?_
          walk_at "rd"
          refine rd_ixT hkD rfl ?_
          walk_at "rd"
          refine rd_ixT hkD rfl ?_
          walk_at "rd"
          refine ⟨tl2, _, rfl, .inl (SqL.of htl2), ?_⟩
          walk_at "rd"
          refine ⟨o2, l2, e2, d2, g2, k2, m2, vs2, rfl, ho2, hi2, hmok2, hgk2, hkl2, hl302, by omega, noe2, fun lB HE fE hlB hoE hiE => ?_⟩
          walk_at "rd"
          refine rd_no rfl ?_
          have hSE : Same H HE := fun b u eb => fE b u (fun z => by
            have hb2 : b ∈ [o2, l2, e2, d2, tl2, mi2, hd2] := by
              simp only [List.mem_cons, List.not_mem_nil, or_false] at z ⊢
              rcases z with z | z | z <;> simp [z]
            have := fr2 b hb2
            rw [eb] at this
            cases this) (sD _ _ (hSC b u eb))
          exact ⟨_, _, _, _, rfl, hSE, (hoC.same sD).fr fE d1 d2'⟩
      · rintro σ1 H1 ⟨v8, v9, v10, v11, rfl, hS1, ho1⟩
        obtain ⟨⟨dx1, ha1⟩, hl1⟩ := id ho1
        walk_at "rd"
        refine rd_meth ?_
        walk_at "rd"
        refine ⟨o, dx1, _, rfl, ha1, rfl, ?_⟩
        walk_at "rd"
        refine ⟨o, lA, _, [], rfl, ho1, by omega, by omega, fun D ts H2 s2 nD hD hlt hw => ?_⟩
        walk_at "rd"
        refine ⟨.inl ⟨rfl, _, SqL.of hD⟩, ?_⟩
        walk_at "rd"
        refine rd_disp rfl fun t1 nt1 => ?_
        walk_at "rd"
        refine rd_disp rfl fun t2 nt2 => ?_
        walk_at "rd"
        have s34 := (same_new (o := .tup []) nt1).trans (same_new (o := .tup [.int 0, .ref t1]) nt2)
        refine rd_append (s34 _ _ hD) (small1000 (by rw [List.length_map, hlt]; exact Nat.zero_le _)) ?_
        have nDo : o ≠ D := ne_of_none ha1 nD
        have nDl : lA ≠ D := ne_of_none hl1 nD
        have nD4 : ∀ b u, H1 b = some u → b ≠ D := fun b u z => ne_of_none z nD
        have s24 := s2.trans s34
        have ho5 := (ho1.same s24).fr (Fr.mut (a := D) (o := .lst (ts.map V.ref ++ [.ref t2]))) (by simpa using nDo) (by simpa using nDl)
        have hS5 : Same H (upd (upd (upd H2 t1 (.tup [])) t2 (.tup [.int 0, .ref t1])) D (.lst (ts.map V.ref ++ [.ref t2]))) := fun b u eb => (upd_ne (nD4 b u (hS1 b u eb))).trans (s24 b u (hS1 b u eb))
        generalize upd (upd (upd H2 t1 (.tup [])) t2 (.tup [.int 0, .ref t1])) D (.lst (ts.map V.ref ++ [.ref t2])) = H5 at *
        obtain ⟨⟨dx5, ha5⟩, hl5⟩ := id ho5
        walk_at "rd"
        refine rd_meth ?_
        walk_at "rd"
        refine ⟨o, dx5, _, rfl, ha5, rfl, ?_⟩
        walk_at "rd"
        refine ⟨o, lA, _, [], rfl, ho5, by omega, by omega, fun D6 ts6 H6 s6 nD6 hD6 hlt6 hw6 => ?_⟩
        have e6 : ts6 = [] := List.eq_nil_of_length_eq_zero hlt6
        subst e6
        walk_at "rd"
        refine rd_disp rfl fun t7 nt7 => ?_
        have s7 := same_new (o := .lst []) nt7
        refine ⟨.list [], .list [], .lst (SqL.of (s7 _ _ hD6)) .nil, .lst (SqL.of upd_same) .nil, rfl, rfl, ?_⟩
        rw [show PyData.eqv (.list []) (.list []) = true from rfl]
        walk_at "rd"
        refine rd_yes rfl ?_
        walk_at "rd"
        have ho7 := ho5.same (s6.trans s7)
        obtain ⟨⟨dx7, ha7⟩, hl7⟩ := id ho7
        refine rd_meth ?_
        walk_at "rd"
        refine ⟨o, dx7, _, rfl, ha7, rfl, ?_⟩
        walk_at "rd"
        refine ⟨o, lA, _, [], 0, rfl, ho7, by omega, by omega, by simp, fun l8 u H8 hu f8 nl8 ho8 => ?_⟩
        have hu0 : u = 0 := by
          rw [if_neg (by omega)] at hu
          omega
        subst hu0
        walk_at "rd"
        refine ⟨p, .int 0, _, _, rfl, rfl, (by show 0 < 8; decide), (show Tp T.c_Outgoing p H8 (.int 0) (.int ((0 : Nat) : Int)) from tp_int), tp_int, fun H9 s9 => ?_⟩
        refine q H9 fun b v eb => s9 _ _ (f8 b v (fun z => ?_) ((s6.trans s7) _ _ (hS5 b v eb)))
        have := hN o (by simp)
        rw [show b = o by simpa using z, this] at eb
        cases eb
end
end Mw

/-! E8 -/
namespace Mw
open PySem L2
theorem SqL.sm {K : PySem.W.Frag} {H H' : Hp} {a : Addr} {xs : List V} (h : SqL K H a xs) (s : Same H H') : SqL K H' a xs := by
  rcases h with h | h
  · rcases h with h | ⟨o, h⟩
    · exact .inl (.inl (s _ _ h))
    · exact .inl (.inr ⟨o, s _ _ h⟩)
  · exact .inr h
def spSecond (K : PySem.W.Frag) : Sp := fun vs H Q _ => ∃ (a : Addr) (ns : List Int), vs = [.ref a] ∧ SqL K H a (ns.map V.int) ∧ ∀ H', Q (.bl true) H'
def spLaw (K : PySem.W.Frag) : Sp := fun vs H Q _ => ∃ (a : Addr) (ns : List Int), vs = [.ref a] ∧ SqL K H a (ns.map V.int) ∧ ∀ H', Q (.bl true) H'
theorem gdt_st {xs : List PyData} (hl : xs.length ≤ 4) (h : ∀ x ∈ xs, GdT x) : StS xs := ⟨hl, fun x hx => by
  obtain ⟨⟨_, a2, a3, _⟩, b⟩ := h x hx
  cases x with
  | tuple ys => exact ⟨ys, rfl, by omega, by omega⟩
  | _ => cases b⟩
theorem pd_st {ps : List (Int × PyData)} (hl : ps.length ≤ 4) (h : ∀ x ∈ ps, GdT x.2) : StS (pd ps) := ⟨by unfold pd; rw [List.length_map]; exact hl, fun x hx => by
  have z := pd_mem h x hx
  obtain ⟨y, _, rfl⟩ := List.mem_map.mp hx
  exact ⟨_, rfl, z.2.1, z.2.2.1⟩⟩
section
variable {P : Program} {w : World} {K : PySem.W.Frag} {mg : Str → Option Value} {base : Heap}
local macro_rules | `(tactic| walk_at "rd") => `(tactic| (repeat (first
  | ((with_reducible refine' rd_var ?h0 ?_); (case h0 => rfl))
  | with_reducible refine rd_c ?_
  | with_reducible refine rd_op ?_
  | with_reducible refine rd_nil ?_
  | with_reducible refine rd_cons ?_
  | with_reducible refine rd_tup ?_
  | with_reducible refine rd_lst ?_
  | with_reducible refine rd_ifs ?_
  | with_reducible refine rd_seq ?_
  | with_reducible refine rd_next ?_
  | with_reducible refine rd_ret ?_
  | with_reducible refine rd_asg ?_
  | ((with_reducible refine' rd_gset ?hs ?_); (case hs => ((simp only [L2.start, List.map_cons, List.map_nil, List.length_cons, List.length_nil, List.cons_append, List.nil_append, List.set_cons_zero, List.set_cons_succ, Nat.reduceAdd, Nat.reduceSub, Nat.zero_add, List.reduceReplicate]); rfl)))
  | with_reducible refine rd_drop ?_
  | with_reducible refine rd_test ?_
  | with_reducible refine rd_B ?_
  | with_reducible refine rd_bl ?_
  | with_reducible refine rd_blP ?_
  | with_reducible refine rd_andV ?_
  | with_reducible refine rd_orV ?_
  | with_reducible refine rd_notV ?_
  | with_reducible refine rd_and ?_
  | with_reducible refine rd_or ?_
  | with_reducible refine rd_not ?_
  | with_reducible refine rd_chain ?_
  | with_reducible refine rd_dput ?_
  | with_reducible refine rd_dget ?_
  | with_reducible refine rd_cb ?_
  | with_reducible refine rd_call ?_
  | with_reducible refine rd_un ?_
  | with_reducible refine rd_sl ?_
  | with_reducible refine rd_nopart ?_
  | with_reducible refine rd_part ?_
  | with_reducible refine rd_intP ?_
  | with_reducible refine rd_rU ?_
  | with_reducible refine rd_fld ?_
  | with_reducible refine rd_eqI ?_
  | with_reducible refine rd_neI ?_
  | with_reducible refine rd_mko ?_
  | with_reducible refine rd_bm ?_
  | with_reducible refine rd_gsub ?_
  | with_reducible refine rd_i0 ?_)))
theorem ok_law_second (T : Tx K mg) (B : Bk K mg T) : FnOk P w K mg base CX0 14 B.law_second.f B.law_second.fd ["script"] (spSecond K) := by
  have G_law_hand := ok_law_hand (P := P) (w := w) (base := base) T B
  have G_law_out_state := ok_law_out_state (P := P) (w := w) (base := base) T B
  have G_law_in_state := ok_law_in_state (P := P) (w := w) (base := base) T B
  have G_law_judged := ok_law_judged (P := P) (w := w) (base := base) T B
  have G_law_goes_on := ok_law_goes_on (P := P) (w := w) (base := base) T B
  have G_law_spoilt := ok_law_spoilt (P := P) (w := w) (base := base) T B
  have G_law_same := ok_law_same (P := P) (w := w) (base := base) T B 8
  have G_Outgoing_init := ok_out_init (P := P) (w := w) (base := base) T B
  have G_Outgoing_state := ok_ostate (P := P) (w := w) (base := base) T B
  have G_Incoming_init := ok_inc_init (P := P) (w := w) (base := base) T B
  have G_Incoming_state := ok_istate (P := P) (w := w) (base := base) T B
  refine B.law_second.F.ok sc_law_second (fun vs H Q E h => ?_) (fun cdv A outer s H vs Q E hr h => ?_)
  · obtain ⟨a, ns, rfl, _⟩ := h
    rfl
  · obtain ⟨s0, ns, rfl, hs0, q⟩ := h
    refine ⟨_, (pss_cons (ps_set (i := 1) sc_law_second.nd rfl (Or.inl rfl) (pe_call G_law_hand (hr.mono (by decide)) rfl B.law_hand.m B.law_hand.F.kp B.law_hand.b .nil pass0 (pa_cons (pv 0) pa_nil)))
      (pss_cons (ps_set (i := 2) sc_law_second.nd rfl (Or.inl rfl) (pe_call G_law_out_state (hr.mono (by decide)) rfl B.law_out_state.m B.law_out_state.F.kp B.law_out_state.b .nil pass0 (pa_cons (pv 1) pa_nil)))
      (pss_cons (ps_set (i := 3) sc_law_second.nd rfl (Or.inl rfl) (pe_call G_law_in_state (hr.mono (by decide)) rfl B.law_in_state.m B.law_in_state.F.kp B.law_in_state.b .nil pass0 (pa_cons (pv 1) pa_nil)))
      (pss_cons (ps_if (PW.pt (pw_or (pt_not (pt_val (pe_call G_law_judged (hr.mono (by decide)) rfl B.law_judged.m B.law_judged.F.kp B.law_judged.b .nil pass0 (pa_cons (pv 2) pa_nil)))) (pw_or (pt_not (pt_val (pe_call G_law_judged (hr.mono (by decide)) rfl B.law_judged.m B.law_judged.F.kp B.law_judged.b .nil pass0 (pa_cons (pv 3) pa_nil)))) (pw_or1 (pt_not (pt_val (pe_call G_law_goes_on (hr.mono (by decide)) rfl B.law_goes_on.m B.law_goes_on.F.kp B.law_goes_on.b .nil pass0 (pa_cons (pv 1) (pa_cons (pv 2) (pa_cons (pv 3) pa_nil)))))))))) (pss_one (ps_ret pe_bl)) pss_nil)
      (pss_cons (ps_for PassesOwn.never rfl (pi_range1 (by rfl) T.b_range (pa_cons pe_int pa_nil)) (pg_name (i := 4) sc_law_second.nd rfl (Or.inl rfl)) (pss_one (ps_if (PW.pt (pw_or (pt_not (pt_val (pe_call G_law_judged (hr.mono (by decide)) rfl B.law_judged.m B.law_judged.F.kp B.law_judged.b .nil pass0 (pa_cons (pe_call G_law_spoilt (hr.mono (by decide)) rfl B.law_spoilt.m B.law_spoilt.F.kp B.law_spoilt.b .nil pass0 (pa_cons (pv 1) (pa_cons (pv 2) pa_nil))) pa_nil)))) (pw_or1 (pt_not (pt_val (pe_call G_law_judged (hr.mono (by decide)) rfl B.law_judged.m B.law_judged.F.kp B.law_judged.b .nil pass0 (pa_cons (pe_call G_law_spoilt (hr.mono (by decide)) rfl B.law_spoilt.m B.law_spoilt.F.kp B.law_spoilt.b .nil pass0 (pa_cons (pv 1) (pa_cons (pv 3) pa_nil))) pa_nil))))))) (pss_one (ps_ret pe_bl)) pss_nil)))
      (pss_one (ps_ret (pe_and (pe_call G_law_same (hr.mono (by decide)) rfl B.law_same.m B.law_same.F.kp B.law_same.b .nil pass0 (pa_cons (pe_meth0 (pe_make0 (mk_of_Outgoing T B.Outgoing_init) G_Outgoing_init (hr.mono (by decide)) rfl T.g_Outgoing B.Outgoing_init.b .nil pass0) T.W_Outgoing.cl ⟨B.Outgoing_state.a, B.Outgoing_state.i, B.Outgoing_state.F.kp⟩ G_Outgoing_state (hr.mono (by decide)) B.Outgoing_state.b .nil pass0) (pa_cons (pe_tup (pa_cons pe_int (pa_cons (pe_tup pa_nil) pa_nil))) pa_nil))) (pe_one (pe_call G_law_same (hr.mono (by decide)) rfl B.law_same.m B.law_same.F.kp B.law_same.b .nil pass0 (pa_cons (pe_meth0 (pe_make0 (mk_of_Incoming T B.Incoming_init) G_Incoming_init (hr.mono (by decide)) rfl T.g_Incoming B.Incoming_init.b .nil pass0) T.W_Incoming.cl ⟨B.Incoming_state.a, B.Incoming_state.i, B.Incoming_state.F.kp⟩ G_Incoming_state (hr.mono (by decide)) B.Incoming_state.b .nil pass0) (pa_cons (pe_tup (pa_cons pe_int (pa_cons (pe_tup pa_nil) pa_nil))) pa_nil)))))))))))), ?_⟩
    walk_at "rd"
    refine ⟨s0, ns, rfl, hs0, fun p l0 H1 np nl0 hh1 s1 => ?_⟩
    walk_at "rd"
    refine ⟨p, l0, rfl, hh1, fun g ds x H2 hS hx hh2 k2 => ?_⟩
    obtain ⟨a1, a2, a3, a4⟩ := outS_ok hS
    walk_at "rd"
    refine ⟨p, l0, rfl, hh2, fun k ps y H3 hI hy hh3 k3 => ?_⟩
    obtain ⟨b1, b2, b3, b4⟩ := inS_ok hI
    walk_at "rd"
    have hx3 := Tp.keep k3 _ _ hx
    refine ⟨p, l0, _, x, rfl, hh3, hx3, a4, a2, fun H4 s4 => ?_⟩
    walk_at "rd"
    refine rd_no rfl ?_
    walk_at "rd"
    have hh4 := hh3.keep s4
    refine ⟨p, l0, _, y, rfl, hh4, Mw.ps hy s4, b4, b2, fun H5 s5 => ?_⟩
    walk_at "rd"
    refine rd_no rfl ?_
    walk_at "rd"
    have s45 := s4.trans s5
    have hh5 := hh4.keep s5
    refine ⟨p, l0, g, ds, k, ps, x, y, rfl, hh5, Mw.ps hx3 s45, hS, Mw.ps hy s45, hI, fun H6 hh6 k6 => ?_⟩
    walk_at "rd"
    refine rd_no rfl ?_
    walk_at "rd"
    have K36 : Keep p H3 H6 := (Keep.same s45).trans k6
    have hx6 := Tp.keep K36 _ _ hx3
    have hy6 := Tp.keep K36 _ _ hy
    show iRng1 _ _ _ _
    refine rd_rng1 ?_
    walk_at "rd"
    refine ⟨_, rfl, by omega, by omega, for_range (lo := 0) (n := (4 : Int).toNat) (fun i σ H7 => ∃ u4, σ = [some (.ref s0), some (.ref p), some x, some y, u4] ∧ HandAt p l0 H7 ∧ Keep p H6 H7) ⟨_, rfl, hh6, Keep.refl⟩ ?_ ?_⟩
    · rintro i σ H7 hi ⟨u4, rfl, hh7, k7⟩
      walk_at "rd"
      refine ⟨p, l0, g, ds, x, rfl, hh7, Tp.keep k7 _ _ hx6, gdt_st hS.2.1 hS.2.2, fun d8 x8 H8 dp8 sz8 td8 hh8 k8 => ?_⟩
      walk_at "rd"
      refine ⟨p, l0, d8, x8, rfl, hh8, td8, dp8, by omega, fun H9 s9 => ?_⟩
      walk_at "rd"
      refine rd_no rfl ?_
      walk_at "rd"
      have K9 := (k7.trans k8).trans (Keep.same s9)
      have hh9 := hh8.keep s9
      refine ⟨p, l0, k, pd ps, y, rfl, hh9, Tp.keep K9 _ _ hy6, pd_st hI.2.1 hI.2.2.1, fun dA xA HA dpA szA tdA hhA kA => ?_⟩
      walk_at "rd"
      refine ⟨p, l0, dA, xA, rfl, hhA, tdA, dpA, by omega, fun HB sB => ?_⟩
      walk_at "rd"
      refine rd_no rfl ?_
      exact ⟨_, rfl, hhA.keep sB, (K9.trans kA).trans (Keep.same sB)⟩
    · rintro σ H7 ⟨u4, rfl, hh7, k7⟩
      walk_at "rd"
      refine rd_meth ?_
      refine rd_make ?_
      walk_at "rd"
      intro o dx no ndx _
      refine ⟨o, dx, rfl, upd_same, fun l H8 f8 nl ho8 => ⟨rfl, ?_⟩⟩
      have s8 : Same H7 H8 := made_same no ndx f8
      obtain ⟨⟨dx8, ha8⟩, hl8⟩ := id ho8
      walk_at "rd"
      refine ⟨o, dx8, _, rfl, ha8, rfl, ?_⟩
      walk_at "rd"
      refine ⟨o, l, 0, [], rfl, ho8, fun t u H9 s9 nt ht hu nu => ?_⟩
      walk_at "rd"
      have hh8 := hh7.keep s8
      have hh9 := hh8.keep s9
      have td9 : Tp T.c_Outgoing p H9 (.tuple [.int 0, .tuple []]) (.ref t) := tp_tup ⟨hh8.ne nt, ht⟩ (tpAll_cons tp_int (tpAll_cons (tp_tup ⟨hh8.ne nu, hu⟩ tpAll_nil) tpAll_nil))
      refine rd_disp rfl fun tA nA => ?_
      have yA := tp_new (C := T.c_Outgoing) hh9 nA tpAll_nil
      have sA := same_new (o := .tup []) nA
      have hhA := hh9.keep sA
      walk_at "rd"
      refine rd_disp rfl fun tB nB => ?_
      have yB := tp_new hhA nB (tpAll_cons (tp_int (i := 0)) (tpAll_cons yA tpAll_nil))
      have sB := same_new (o := .tup [.int 0, .ref tA]) nB
      have hhB := hhA.keep sB
      walk_at "rd"
      refine ⟨p, _, _, _, rfl, rfl, by decide +kernel, Mw.ps td9 (sA.trans sB), yB, fun HC sC => ?_⟩
      walk_at "rd"
      refine rd_yes rfl ?_
      walk_at "rd"
      have hhC := hhB.keep sC
      refine rd_meth ?_
      refine rd_make ?_
      walk_at "rd"
      intro e dy ne ndy _
      refine ⟨e, dy, rfl, upd_same, fun d HD fD nd hiD => ⟨rfl, ?_⟩⟩
      have sD : Same HC HD := made_same ne ndy fD
      obtain ⟨⟨dyD, heD⟩, hdD⟩ := id hiD
      walk_at "rd"
      refine ⟨e, dyD, _, rfl, heD, rfl, ?_⟩
      walk_at "rd"
      refine ⟨e, d, 0, [], [], rfl, hiD, rfl, by simp, fun t2 u2 ts2 ps2 HE sE nt2 nu2 ht2 hu2 hpr hpm hpw hpv => ?_⟩
      have e2 : ps2 = [] := by
        have := hpm.length_eq
        rw [List.length_map] at this
        exact List.eq_nil_of_length_eq_zero (by simpa using this)
      subst e2
      have e3 : ts2 = [] := List.eq_nil_of_length_eq_zero hpr.1
      subst e3
      walk_at "rd"
      have hhD := hhC.keep sD
      have hhE := hhD.keep sE
      have tdE : Tp T.c_Outgoing p HE (.tuple [.int 0, .tuple []]) (.ref t2) := tp_tup ⟨hhD.ne nt2, ht2⟩ (tpAll_cons tp_int (tpAll_cons (tp_tup ⟨hhD.ne nu2, hu2⟩ tpAll_nil) tpAll_nil))
      refine rd_disp rfl fun tF nF => ?_
      have yF := tp_new (C := T.c_Outgoing) hhE nF tpAll_nil
      have sF := same_new (o := .tup []) nF
      have hhF := hhE.keep sF
      walk_at "rd"
      refine rd_disp rfl fun tG nG => ?_
      have yG := tp_new hhF nG (tpAll_cons (tp_int (i := 0)) (tpAll_cons yF tpAll_nil))
      have sG := same_new (o := .tup [.int 0, .ref tF]) nG
      walk_at "rd"
      exact ⟨p, _, _, _, rfl, rfl, by decide +kernel, Mw.ps tdE (sF.trans sG), yG, fun HH sH => q HH⟩
theorem ok_law (T : Tx K mg) (B : Bk K mg T) : FnOk P w K mg base CX0 15 B.law.f B.law.fd ["script"] (spLaw K) := by
  have G_law_first := ok_law_first (P := P) (w := w) (base := base) T B
  have G_law_second := ok_law_second (P := P) (w := w) (base := base) T B
  refine B.law.F.ok sc_law (fun vs H Q E h => ?_) (fun cdv A outer s H vs Q E hr h => ?_)
  · obtain ⟨a, ns, rfl, _⟩ := h
    rfl
  · obtain ⟨s0, ns, rfl, hs0, q⟩ := h
    refine ⟨_, (pss_one (ps_ret (pe_and (pe_call G_law_first (hr.mono (by decide)) rfl B.law_first.m B.law_first.F.kp B.law_first.b .nil pass0 (pa_cons (pv 0) pa_nil)) (pe_one (pe_call G_law_second (hr.mono (by decide)) rfl B.law_second.m B.law_second.F.kp B.law_second.b .nil pass0 (pa_cons (pv 0) pa_nil)))))), ?_⟩
    walk_at "rd"
    refine ⟨s0, ns, rfl, hs0, fun H1 s1 => ?_⟩
    walk_at "rd"
    refine rd_yes rfl ?_
    walk_at "rd"
    exact ⟨s0, ns, rfl, SqL.sm hs0 s1, q⟩
end
end Mw

/-! Z1 -/
namespace Mw
open PySem L2
theorem kit_bt {K : PySem.W.Frag} {C : Addr} {T : String} {b : Bool} (h : PySem.W.mroIn K C (.type T) = some b) (hm : PySem.W.kitMeta T = true) (hne : (Value.ref C == .type T) = false) : PySem.W.kitOne K (.ref C) (.type T) = some b := by
  unfold PySem.W.kitOne PySem.W.kitCls
  rw [if_neg (by rw [hne]; simp)]
  simp only [hm, if_true]
  exact h
theorem kit_cls {K : PySem.W.Frag} {t : Value} {C : Addr} {b : Bool} (hne : (t == .ref C) = false) (h2 : PySem.W.isClsIn K C = true) (h3 : PySem.W.typeIn K (.ref C) = some (.type "type")) (h : PySem.W.subIn K t (.ref C) = some b) : PySem.W.kitOne K t (.ref C) = some b := by
  have e2 : ((PySem.W.clsIn K C).isSome && PySem.W.typeIn K (.ref C) == some (.type "type")) = true := by
    have h2' : (PySem.W.clsIn K C).isSome = true := h2
    rw [h2', h3] <;> rfl
  unfold PySem.W.kitOne PySem.W.kitCls
  rw [if_neg (by rw [hne]; simp)]
  simp only [e2]
  exact h
theorem exm_cls {K : PySem.W.Frag} {S D : Addr} {b : Bool} (h1 : PySem.W.subIn K (.ref D) (.type "BaseException") = some true) (h2 : PySem.W.isClsIn K D = true) (h3 : PySem.W.typeIn K (.ref D) = some (.type "type")) (h4 : PySem.W.subIn K (.ref S) (.ref D) = some b) : PySem.W.exmOne K (.ref S) (.ref D) = some b := by
  have e2 : ((PySem.W.clsIn K D).isSome && PySem.W.typeIn K (.ref D) == some (.type "type")) = true := by
    have h2' : (PySem.W.clsIn K D).isSome = true := h2
    rw [h2', h3] <;> rfl
  unfold PySem.W.exmOne PySem.W.kitCls
  rw [if_pos (by rw [h1] <;> rfl)]
  simp only [e2]
  exact h4
theorem kit_subT {K : PySem.W.Frag} {C : Addr} {T : String} (hm : PySem.W.kitMeta T = true) (h : PySem.W.subIn K (.ref C) (.type T) = some true) : PySem.W.kitOne K (.ref C) (.type T) = some true := by
  unfold PySem.W.kitOne PySem.W.kitCls
  split
  · rfl
  · simp only [hm, if_true]
    exact h
theorem kit_subR {K : PySem.W.Frag} {A C : Addr} (h2 : PySem.W.isClsIn K C = true) (h3 : PySem.W.typeIn K (.ref C) = some (.type "type")) (h : PySem.W.subIn K (.ref A) (.ref C) = some true) : PySem.W.kitOne K (.ref A) (.ref C) = some true := by
  have e2 : ((PySem.W.clsIn K C).isSome && PySem.W.typeIn K (.ref C) == some (.type "type")) = true := by
    have h2' : (PySem.W.clsIn K C).isSome = true := h2
    rw [h2', h3] <;> rfl
  unfold PySem.W.kitOne PySem.W.kitCls
  split
  · rfl
  · simp only [e2]
    exact h
theorem tup_not {K : PySem.W.Frag} {C : Addr} : PySem.W.subIn K (.type "tuple") (.ref C) = some false := rfl
theorem fin_of {l : PySem.W.OpenLaw} {w : World} {K : PySem.W.Frag} {mg : Str → Option Value} {fa : Addr} (T : Tx K mg) (B : Bk K mg T) (hfa : mg "law" = some (.ref fa)) (hb : ∀ (s : Shared) (v : Value), BindsTo s B.law.fd ⟨[v], []⟩ [("script", v)]) :
    ∃ fd : FuncData, (∀ (s : Shared) (v : Value), BindsTo s fd ⟨[v], []⟩ [("script", v)]) ∧ ∀ base : Heap, K.In base → base.Ns mainGlobals mg → FnOk l.prog w K mg base CX0 15 fa fd ["script"] (spLaw K) := by
  have e : fa = B.law.f := by
    have z := hfa.symm.trans B.law.m
    injection z with z
    injection z
  subst e
  exact ⟨B.law.fd, hb, fun base _ _ => ok_law T B⟩
theorem all_mk {l : PySem.W.OpenLaw} {w : World} {K : PySem.W.Frag} {h : Heap} {mg : Str → Option Value} {fa c_Outgoing c_Incoming c_NoNumber c_NoState f0 f1 f2 f3 f4 f5 f6 f7 f8 f9 f10 f11 f12 f13 f14 f15 f16 f17 f18 f19 f20 f21 f22 f23 f24 f25 f26 f27 f28 f29 f30 f31 f32 f33 f34 f35 f36 f37 f38 f39 f40 f41 f42 f43 f44 f45 f46 f47 f48 f49 f50 f51 f52 f53 f54 f55 f56 f57 f58 : Addr} (X : K.In h) (G : h.Ns mainGlobals mg) (hfa : mg "law" = some (.ref fa)) {tk1 tk2 : Tok}
    {nm0 q0 : Str} {N0 ss0 : Addr} {bs0 : List Value} {sn0 : List Str} {sub0 : List Value} {ab0 : Bool} {col0 : Option Bool} {dd0 : Option Addr} {ma0 mb0 mc0 md0 me0 : Option Value} {nm1 q1 : Str} {N1 ss1 : Addr} {bs1 : List Value} {sn1 : List Str} {sub1 : List Value} {ab1 : Bool} {col1 : Option Bool} {dd1 : Option Addr} {ma1 mb1 mc1 md1 me1 : Option Value}
    {od0 an0 : Option Addr} {sl0 : Array (Option Value)} {oc0 kV0 dc0 pm0 cd0 ct0 : Value}
    {od1 an1 : Option Addr} {sl1 : Array (Option Value)} {oc1 kV1 dc1 pm1 cd1 ct1 : Value}
    {od2 an2 : Option Addr} {sl2 : Array (Option Value)} {oc2 kV2 dc2 pm2 cd2 ct2 : Value}
    {od3 an3 : Option Addr} {sl3 : Array (Option Value)} {oc3 kV3 dc3 pm3 cd3 ct3 : Value}
    {od4 an4 : Option Addr} {sl4 : Array (Option Value)} {oc4 kV4 dc4 pm4 cd4 ct4 : Value}
    {od5 an5 : Option Addr} {sl5 : Array (Option Value)} {oc5 kV5 dc5 pm5 cd5 ct5 : Value}
    {od6 an6 : Option Addr} {sl6 : Array (Option Value)} {oc6 kV6 dc6 pm6 cd6 ct6 : Value}
    {od7 an7 : Option Addr} {sl7 : Array (Option Value)} {oc7 kV7 dc7 pm7 cd7 ct7 : Value}
    {od8 an8 : Option Addr} {sl8 : Array (Option Value)} {oc8 kV8 dc8 pm8 cd8 ct8 : Value}
    {od9 an9 : Option Addr} {sl9 : Array (Option Value)} {oc9 kV9 dc9 pm9 cd9 ct9 : Value}
    {od10 an10 : Option Addr} {sl10 : Array (Option Value)} {oc10 kV10 dc10 pm10 cd10 ct10 : Value}
    {od11 an11 : Option Addr} {sl11 : Array (Option Value)} {oc11 kV11 dc11 pm11 cd11 ct11 : Value}
    {od12 an12 : Option Addr} {sl12 : Array (Option Value)} {oc12 kV12 dc12 pm12 cd12 ct12 : Value}
    {od13 an13 : Option Addr} {sl13 : Array (Option Value)} {oc13 kV13 dc13 pm13 cd13 ct13 : Value}
    {od14 an14 : Option Addr} {sl14 : Array (Option Value)} {oc14 kV14 dc14 pm14 cd14 ct14 : Value}
    {od15 an15 : Option Addr} {sl15 : Array (Option Value)} {oc15 kV15 dc15 pm15 cd15 ct15 : Value}
    {od16 an16 : Option Addr} {sl16 : Array (Option Value)} {oc16 kV16 dc16 pm16 cd16 ct16 : Value}
    {od17 an17 : Option Addr} {sl17 : Array (Option Value)} {oc17 kV17 dc17 pm17 cd17 ct17 : Value}
    {od18 an18 : Option Addr} {sl18 : Array (Option Value)} {oc18 kV18 dc18 pm18 cd18 ct18 : Value}
    {od19 an19 : Option Addr} {sl19 : Array (Option Value)} {oc19 kV19 dc19 pm19 cd19 ct19 : Value}
    {od20 an20 : Option Addr} {sl20 : Array (Option Value)} {oc20 kV20 dc20 pm20 cd20 ct20 : Value}
    {od21 an21 : Option Addr} {sl21 : Array (Option Value)} {oc21 kV21 dc21 pm21 cd21 ct21 : Value}
    {od22 an22 : Option Addr} {sl22 : Array (Option Value)} {oc22 kV22 dc22 pm22 cd22 ct22 : Value}
    {od23 an23 : Option Addr} {sl23 : Array (Option Value)} {oc23 kV23 dc23 pm23 cd23 ct23 : Value}
    {od24 an24 : Option Addr} {sl24 : Array (Option Value)} {oc24 kV24 dc24 pm24 cd24 ct24 : Value}
    {od25 an25 : Option Addr} {sl25 : Array (Option Value)} {oc25 kV25 dc25 pm25 cd25 ct25 : Value}
    {od26 an26 : Option Addr} {sl26 : Array (Option Value)} {oc26 kV26 dc26 pm26 cd26 ct26 : Value}
    {od27 an27 : Option Addr} {sl27 : Array (Option Value)} {oc27 kV27 dc27 pm27 cd27 ct27 : Value}
    {od28 an28 : Option Addr} {sl28 : Array (Option Value)} {oc28 kV28 dc28 pm28 cd28 ct28 : Value}
    {od29 an29 : Option Addr} {sl29 : Array (Option Value)} {oc29 kV29 dc29 pm29 cd29 ct29 : Value}
    {od30 an30 : Option Addr} {sl30 : Array (Option Value)} {oc30 kV30 dc30 pm30 cd30 ct30 : Value}
    {od31 an31 : Option Addr} {sl31 : Array (Option Value)} {oc31 kV31 dc31 pm31 cd31 ct31 : Value}
    {od32 an32 : Option Addr} {sl32 : Array (Option Value)} {oc32 kV32 dc32 pm32 cd32 ct32 : Value}
    {od33 an33 : Option Addr} {sl33 : Array (Option Value)} {oc33 kV33 dc33 pm33 cd33 ct33 : Value}
    {od34 an34 : Option Addr} {sl34 : Array (Option Value)} {oc34 kV34 dc34 pm34 cd34 ct34 : Value}
    {od35 an35 : Option Addr} {sl35 : Array (Option Value)} {oc35 kV35 dc35 pm35 cd35 ct35 : Value}
    {od36 an36 : Option Addr} {sl36 : Array (Option Value)} {oc36 kV36 dc36 pm36 cd36 ct36 : Value}
    {od37 an37 : Option Addr} {sl37 : Array (Option Value)} {oc37 kV37 dc37 pm37 cd37 ct37 : Value}
    {od38 an38 : Option Addr} {sl38 : Array (Option Value)} {oc38 kV38 dc38 pm38 cd38 ct38 : Value}
    {od39 an39 : Option Addr} {sl39 : Array (Option Value)} {oc39 kV39 dc39 pm39 cd39 ct39 : Value}
    {od40 an40 : Option Addr} {sl40 : Array (Option Value)} {oc40 kV40 dc40 pm40 cd40 ct40 : Value}
    {od41 an41 : Option Addr} {sl41 : Array (Option Value)} {oc41 kV41 dc41 pm41 cd41 ct41 : Value}
    {od42 an42 : Option Addr} {sl42 : Array (Option Value)} {oc42 kV42 dc42 pm42 cd42 ct42 : Value}
    {od43 an43 : Option Addr} {sl43 : Array (Option Value)} {oc43 kV43 dc43 pm43 cd43 ct43 : Value}
    {od44 an44 : Option Addr} {sl44 : Array (Option Value)} {oc44 kV44 dc44 pm44 cd44 ct44 : Value}
    {od45 an45 : Option Addr} {sl45 : Array (Option Value)} {oc45 kV45 dc45 pm45 cd45 ct45 : Value}
    {od46 an46 : Option Addr} {sl46 : Array (Option Value)} {oc46 kV46 dc46 pm46 cd46 ct46 : Value}
    {od47 an47 : Option Addr} {sl47 : Array (Option Value)} {oc47 kV47 dc47 pm47 cd47 ct47 : Value}
    {od48 an48 : Option Addr} {sl48 : Array (Option Value)} {oc48 kV48 dc48 pm48 cd48 ct48 : Value}
    {od49 an49 : Option Addr} {sl49 : Array (Option Value)} {oc49 kV49 dc49 pm49 cd49 ct49 : Value}
    {od50 an50 : Option Addr} {sl50 : Array (Option Value)} {oc50 kV50 dc50 pm50 cd50 ct50 : Value}
    {od51 an51 : Option Addr} {sl51 : Array (Option Value)} {oc51 kV51 dc51 pm51 cd51 ct51 : Value}
    {od52 an52 : Option Addr} {sl52 : Array (Option Value)} {oc52 kV52 dc52 pm52 cd52 ct52 : Value}
    {od53 an53 : Option Addr} {sl53 : Array (Option Value)} {oc53 kV53 dc53 pm53 cd53 ct53 : Value}
    {od54 an54 : Option Addr} {sl54 : Array (Option Value)} {oc54 kV54 dc54 pm54 cd54 ct54 : Value}
    {od55 an55 : Option Addr} {sl55 : Array (Option Value)} {oc55 kV55 dc55 pm55 cd55 ct55 : Value}
    {od56 an56 : Option Addr} {sl56 : Array (Option Value)} {oc56 kV56 dc56 pm56 cd56 ct56 : Value}
    {od57 an57 : Option Addr} {sl57 : Array (Option Value)} {oc57 kV57 dc57 pm57 cd57 ct57 : Value}
    {od58 an58 : Option Addr} {sl58 : Array (Option Value)} {oc58 kV58 dc58 pm58 cd58 ct58 : Value}
    (g_c_Outgoing : PySem.W.nsIn K mainGlobals "Outgoing" = some (some (.ref c_Outgoing)))
    (g_c_Incoming : PySem.W.nsIn K mainGlobals "Incoming" = some (some (.ref c_Incoming)))
    (g_c_NoNumber : PySem.W.nsIn K mainGlobals "NoNumber" = some (some (.ref c_NoNumber)))
    (g_c_NoState : PySem.W.nsIn K mainGlobals "NoState" = some (some (.ref c_NoState)))
    (g_NUMBER_LIMIT : PySem.W.nsIn K mainGlobals "NUMBER_LIMIT" = some (some (.int 4294967296 tk1)))
    (g_HELD_AHEAD : PySem.W.nsIn K mainGlobals "HELD_AHEAD" = some (some (.int 1000 tk2)))
    (b_isinstance : PySem.W.nsIn K mainGlobals "isinstance" = some none)
    (b_int : PySem.W.nsIn K mainGlobals "int" = some none)
    (b_bool : PySem.W.nsIn K mainGlobals "bool" = some none)
    (b_tuple : PySem.W.nsIn K mainGlobals "tuple" = some none)
    (b_list : PySem.W.nsIn K mainGlobals "list" = some none)
    (b_str : PySem.W.nsIn K mainGlobals "str" = some none)
    (b_dict : PySem.W.nsIn K mainGlobals "dict" = some none)
    (b_len : PySem.W.nsIn K mainGlobals "len" = some none)
    (b_range : PySem.W.nsIn K mainGlobals "range" = some none)
    (b_enumerate : PySem.W.nsIn K mainGlobals "enumerate" = some none)
    (b_zip : PySem.W.nsIn K mainGlobals "zip" = some none)
    (b_sorted : PySem.W.nsIn K mainGlobals "sorted" = some none)
    (b_max : PySem.W.nsIn K mainGlobals "max" = some none)
    (b_all : PySem.W.nsIn K mainGlobals "all" = some none)
    (w_c_Outgoing_pg : PySem.W.plainGet K c_Outgoing Str.empty = true)
    (w_c_Outgoing_hd : PySem.W.hasDictIn K c_Outgoing = true)
    (w_c_Outgoing_po : PySem.W.plainOver K c_Outgoing = true)
    (w_c_Outgoing_sa : PySem.W.findIn K (.ref c_Outgoing) "__setattr__" = some (some (.builtin "object.__setattr__")))
    (w_c_Outgoing_ca : PySem.W.findIn K (.ref c_Outgoing) "__class__" = some (some (.builtin "object.__class__")))
    (w_c_Outgoing_co : PySem.W.mroIn K c_Outgoing (.type "object") = some true)
    (w_c_Outgoing_ki : PySem.W.mroIn K c_Outgoing (.type "int") = some false)
    (w_c_Outgoing_kb : PySem.W.mroIn K c_Outgoing (.type "bool") = some false)
    (w_c_Outgoing_kt : PySem.W.mroIn K c_Outgoing (.type "tuple") = some false)
    (w_c_Outgoing_kl : PySem.W.mroIn K c_Outgoing (.type "list") = some false)
    (w_c_Outgoing_ks : PySem.W.mroIn K c_Outgoing (.type "str") = some false)
    (w_c_Outgoing_is : PySem.W.isClsIn K c_Outgoing = true)
    (w_c_Outgoing_ty : PySem.W.typeIn K (.ref c_Outgoing) = some (.type "type"))
    (w_c_Outgoing_mk : PySem.W.makesIn K c_Outgoing = true)
    (w_c_Outgoing_kp : PySem.W.keepIn K (.ref c_Outgoing) = true)
    (w_c_Incoming_pg : PySem.W.plainGet K c_Incoming Str.empty = true)
    (w_c_Incoming_hd : PySem.W.hasDictIn K c_Incoming = true)
    (w_c_Incoming_po : PySem.W.plainOver K c_Incoming = true)
    (w_c_Incoming_sa : PySem.W.findIn K (.ref c_Incoming) "__setattr__" = some (some (.builtin "object.__setattr__")))
    (w_c_Incoming_ca : PySem.W.findIn K (.ref c_Incoming) "__class__" = some (some (.builtin "object.__class__")))
    (w_c_Incoming_co : PySem.W.mroIn K c_Incoming (.type "object") = some true)
    (w_c_Incoming_ki : PySem.W.mroIn K c_Incoming (.type "int") = some false)
    (w_c_Incoming_kb : PySem.W.mroIn K c_Incoming (.type "bool") = some false)
    (w_c_Incoming_kt : PySem.W.mroIn K c_Incoming (.type "tuple") = some false)
    (w_c_Incoming_kl : PySem.W.mroIn K c_Incoming (.type "list") = some false)
    (w_c_Incoming_ks : PySem.W.mroIn K c_Incoming (.type "str") = some false)
    (w_c_Incoming_is : PySem.W.isClsIn K c_Incoming = true)
    (w_c_Incoming_ty : PySem.W.typeIn K (.ref c_Incoming) = some (.type "type"))
    (w_c_Incoming_mk : PySem.W.makesIn K c_Incoming = true)
    (w_c_Incoming_kp : PySem.W.keepIn K (.ref c_Incoming) = true)
    (w_cg : PySem.W.specialIn K (.builtin "object.__class__") "__get__" = some (some (.builtin "getset_descriptor.__get__")))
    (w_ct : PySem.W.takesIn K (.builtin "object.__class__") = some true)
    (w_na_let_go : PySem.W.findIn K (.ref c_Outgoing) "let_go" = some none)
    (w_na_things : PySem.W.findIn K (.ref c_Outgoing) "things" = some none)
    (w_na_many : PySem.W.findIn K (.ref c_Incoming) "many" = some none)
    (w_na_ahead : PySem.W.findIn K (.ref c_Incoming) "ahead" = some none)
    (x0_l : K.lookup c_NoNumber = some (excClassObj nm0 q0 c_NoNumber N0 bs0 [.ref ss0, .type "ValueError", .type "Exception", .type "BaseException", .type "object"] true sn0 sub0 ab0 col0 dd0 ma0 mb0 mc0 md0 me0 "ValueError.__new__"))
    (x0_sa : PySem.W.findIn K (.ref c_NoNumber) "__setattr__" = some (some (.builtin "object.__setattr__")))
    (x0_ex : PySem.W.subIn K (.ref c_NoNumber) (.type "BaseException") = some true)
    (x0_ty : PySem.W.typeIn K (.ref c_NoNumber) = some (.type "type"))
    (x0_kp : PySem.W.keepIn K (.ref c_NoNumber) = true)
    (x0_is : PySem.W.isClsIn K c_NoNumber = true)
    (x1_l : K.lookup c_NoState = some (excClassObj nm1 q1 c_NoState N1 bs1 [.ref ss1, .type "ValueError", .type "Exception", .type "BaseException", .type "object"] true sn1 sub1 ab1 col1 dd1 ma1 mb1 mc1 md1 me1 "ValueError.__new__"))
    (x1_sa : PySem.W.findIn K (.ref c_NoState) "__setattr__" = some (some (.builtin "object.__setattr__")))
    (x1_ex : PySem.W.subIn K (.ref c_NoState) (.type "BaseException") = some true)
    (x1_ty : PySem.W.typeIn K (.ref c_NoState) = some (.type "type"))
    (x1_kp : PySem.W.keepIn K (.ref c_NoState) = true)
    (x1_is : PySem.W.isClsIn K c_NoState = true)
    (se_NoStateNoState : PySem.W.subIn K (.ref c_NoState) (.ref c_NoState) = some true)
    (a0 : PySem.W.findIn K (.ref c_NoNumber) "__init__" = some (some (.ref f0)))
    (i0 : PySem.W.isFn K (.ref f0) = true)
    (t0 : PySem.W.typeIn K (.ref f0) = some (.type "function"))
    (l0 : K.lookup f0 = some ⟨oc0, od0, .func (PySem.W.fnOf "__init__" "NoNumber.__init__" (defArgs s_NoNumber_init) (defBody s_NoNumber_init) (defScope s_NoNumber_init) .none kV0 dc0 pm0 an0 cd0 ct0), sl0⟩)
    (c0 : PySem.W.codeIn K cd0 "NoNumber.__init__" = true)
    (k0 : PySem.W.keepIn K (.ref f0) = true)
    (a1 : PySem.W.findIn K (.ref c_NoState) "__init__" = some (some (.ref f1)))
    (i1 : PySem.W.isFn K (.ref f1) = true)
    (t1 : PySem.W.typeIn K (.ref f1) = some (.type "function"))
    (l1 : K.lookup f1 = some ⟨oc1, od1, .func (PySem.W.fnOf "__init__" "NoState.__init__" (defArgs s_NoState_init) (defBody s_NoState_init) (defScope s_NoState_init) .none kV1 dc1 pm1 an1 cd1 ct1), sl1⟩)
    (c1 : PySem.W.codeIn K cd1 "NoState.__init__" = true)
    (k1 : PySem.W.keepIn K (.ref f1) = true)
    (a2 : PySem.W.nsIn K mainGlobals "is_int" = some (some (.ref f2)))
    (l2 : K.lookup f2 = some ⟨oc2, od2, .func (PySem.W.fnOf "is_int" "is_int" (defArgs s_is_int) (defBody s_is_int) (defScope s_is_int) .none kV2 dc2 pm2 an2 cd2 ct2), sl2⟩)
    (c2 : PySem.W.codeIn K cd2 "is_int" = true)
    (k2 : PySem.W.keepIn K (.ref f2) = true)
    (a3 : PySem.W.nsIn K mainGlobals "is_number" = some (some (.ref f3)))
    (l3 : K.lookup f3 = some ⟨oc3, od3, .func (PySem.W.fnOf "is_number" "is_number" (defArgs s_is_number) (defBody s_is_number) (defScope s_is_number) .none kV3 dc3 pm3 an3 cd3 ct3), sl3⟩)
    (c3 : PySem.W.codeIn K cd3 "is_number" = true)
    (k3 : PySem.W.keepIn K (.ref f3) = true)
    (a4 : PySem.W.nsIn K mainGlobals "is_number_below" = some (some (.ref f4)))
    (l4 : K.lookup f4 = some ⟨oc4, od4, .func (PySem.W.fnOf "is_number_below" "is_number_below" (defArgs s_is_number_below) (defBody s_is_number_below) (defScope s_is_number_below) .none kV4 dc4 pm4 an4 cd4 ct4), sl4⟩)
    (c4 : PySem.W.codeIn K cd4 "is_number_below" = true)
    (k4 : PySem.W.keepIn K (.ref f4) = true)
    (a5 : PySem.W.nsIn K mainGlobals "is_tuple_of" = some (some (.ref f5)))
    (l5 : K.lookup f5 = some ⟨oc5, od5, .func (PySem.W.fnOf "is_tuple_of" "is_tuple_of" (defArgs s_is_tuple_of) (defBody s_is_tuple_of) (defScope s_is_tuple_of) .none kV5 dc5 pm5 an5 cd5 ct5), sl5⟩)
    (c5 : PySem.W.codeIn K cd5 "is_tuple_of" = true)
    (k5 : PySem.W.keepIn K (.ref f5) = true)
    (a6 : PySem.W.nsIn K mainGlobals "is_link_number" = some (some (.ref f6)))
    (l6 : K.lookup f6 = some ⟨oc6, od6, .func (PySem.W.fnOf "is_link_number" "is_link_number" (defArgs s_is_link_number) (defBody s_is_link_number) (defScope s_is_link_number) .none kV6 dc6 pm6 an6 cd6 ct6), sl6⟩)
    (c6 : PySem.W.codeIn K cd6 "is_link_number" = true)
    (k6 : PySem.W.keepIn K (.ref f6) = true)
    (a7 : PySem.W.findIn K (.ref c_Outgoing) "__init__" = some (some (.ref f7)))
    (i7 : PySem.W.isFn K (.ref f7) = true)
    (t7 : PySem.W.typeIn K (.ref f7) = some (.type "function"))
    (l7 : K.lookup f7 = some ⟨oc7, od7, .func (PySem.W.fnOf "__init__" "Outgoing.__init__" (defArgs s_Outgoing_init) (defBody s_Outgoing_init) (defScope s_Outgoing_init) .none kV7 dc7 pm7 an7 cd7 ct7), sl7⟩)
    (c7 : PySem.W.codeIn K cd7 "Outgoing.__init__" = true)
    (k7 : PySem.W.keepIn K (.ref f7) = true)
    (a8 : PySem.W.findIn K (.ref c_Outgoing) "put" = some (some (.ref f8)))
    (i8 : PySem.W.isFn K (.ref f8) = true)
    (t8 : PySem.W.typeIn K (.ref f8) = some (.type "function"))
    (l8 : K.lookup f8 = some ⟨oc8, od8, .func (PySem.W.fnOf "put" "Outgoing.put" (defArgs s_Outgoing_put) (defBody s_Outgoing_put) (defScope s_Outgoing_put) .none kV8 dc8 pm8 an8 cd8 ct8), sl8⟩)
    (c8 : PySem.W.codeIn K cd8 "Outgoing.put" = true)
    (k8 : PySem.W.keepIn K (.ref f8) = true)
    (a9 : PySem.W.findIn K (.ref c_Outgoing) "known" = some (some (.ref f9)))
    (i9 : PySem.W.isFn K (.ref f9) = true)
    (t9 : PySem.W.typeIn K (.ref f9) = some (.type "function"))
    (l9 : K.lookup f9 = some ⟨oc9, od9, .func (PySem.W.fnOf "known" "Outgoing.known" (defArgs s_Outgoing_known) (defBody s_Outgoing_known) (defScope s_Outgoing_known) .none kV9 dc9 pm9 an9 cd9 ct9), sl9⟩)
    (c9 : PySem.W.codeIn K cd9 "Outgoing.known" = true)
    (k9 : PySem.W.keepIn K (.ref f9) = true)
    (a10 : PySem.W.findIn K (.ref c_Outgoing) "waiting" = some (some (.ref f10)))
    (i10 : PySem.W.isFn K (.ref f10) = true)
    (t10 : PySem.W.typeIn K (.ref f10) = some (.type "function"))
    (l10 : K.lookup f10 = some ⟨oc10, od10, .func (PySem.W.fnOf "waiting" "Outgoing.waiting" (defArgs s_Outgoing_waiting) (defBody s_Outgoing_waiting) (defScope s_Outgoing_waiting) .none kV10 dc10 pm10 an10 cd10 ct10), sl10⟩)
    (c10 : PySem.W.codeIn K cd10 "Outgoing.waiting" = true)
    (k10 : PySem.W.keepIn K (.ref f10) = true)
    (a11 : PySem.W.findIn K (.ref c_Outgoing) "many_put" = some (some (.ref f11)))
    (i11 : PySem.W.isFn K (.ref f11) = true)
    (t11 : PySem.W.typeIn K (.ref f11) = some (.type "function"))
    (l11 : K.lookup f11 = some ⟨oc11, od11, .func (PySem.W.fnOf "many_put" "Outgoing.many_put" (defArgs s_Outgoing_many_put) (defBody s_Outgoing_many_put) (defScope s_Outgoing_many_put) .none kV11 dc11 pm11 an11 cd11 ct11), sl11⟩)
    (c11 : PySem.W.codeIn K cd11 "Outgoing.many_put" = true)
    (k11 : PySem.W.keepIn K (.ref f11) = true)
    (a12 : PySem.W.findIn K (.ref c_Outgoing) "state" = some (some (.ref f12)))
    (i12 : PySem.W.isFn K (.ref f12) = true)
    (t12 : PySem.W.typeIn K (.ref f12) = some (.type "function"))
    (l12 : K.lookup f12 = some ⟨oc12, od12, .func (PySem.W.fnOf "state" "Outgoing.state" (defArgs s_Outgoing_state) (defBody s_Outgoing_state) (defScope s_Outgoing_state) .none kV12 dc12 pm12 an12 cd12 ct12), sl12⟩)
    (c12 : PySem.W.codeIn K cd12 "Outgoing.state" = true)
    (k12 : PySem.W.keepIn K (.ref f12) = true)
    (a13 : PySem.W.findIn K (.ref c_Outgoing) "copy" = some (some (.ref f13)))
    (i13 : PySem.W.isFn K (.ref f13) = true)
    (t13 : PySem.W.typeIn K (.ref f13) = some (.type "function"))
    (l13 : K.lookup f13 = some ⟨oc13, od13, .func (PySem.W.fnOf "copy" "Outgoing.copy" (defArgs s_Outgoing_copy) (defBody s_Outgoing_copy) (defScope s_Outgoing_copy) .none kV13 dc13 pm13 an13 cd13 ct13), sl13⟩)
    (c13 : PySem.W.codeIn K cd13 "Outgoing.copy" = true)
    (k13 : PySem.W.keepIn K (.ref f13) = true)
    (a14 : PySem.W.nsIn K mainGlobals "_outgoing" = some (some (.ref f14)))
    (l14 : K.lookup f14 = some ⟨oc14, od14, .func (PySem.W.fnOf "_outgoing" "_outgoing" (defArgs s_outgoing) (defBody s_outgoing) (defScope s_outgoing) .none kV14 dc14 pm14 an14 cd14 ct14), sl14⟩)
    (c14 : PySem.W.codeIn K cd14 "_outgoing" = true)
    (k14 : PySem.W.keepIn K (.ref f14) = true)
    (a15 : PySem.W.nsIn K mainGlobals "is_outgoing_state" = some (some (.ref f15)))
    (l15 : K.lookup f15 = some ⟨oc15, od15, .func (PySem.W.fnOf "is_outgoing_state" "is_outgoing_state" (defArgs s_is_outgoing_state) (defBody s_is_outgoing_state) (defScope s_is_outgoing_state) .none kV15 dc15 pm15 an15 cd15 ct15), sl15⟩)
    (c15 : PySem.W.codeIn K cd15 "is_outgoing_state" = true)
    (k15 : PySem.W.keepIn K (.ref f15) = true)
    (a16 : PySem.W.nsIn K mainGlobals "outgoing_of" = some (some (.ref f16)))
    (l16 : K.lookup f16 = some ⟨oc16, od16, .func (PySem.W.fnOf "outgoing_of" "outgoing_of" (defArgs s_outgoing_of) (defBody s_outgoing_of) (defScope s_outgoing_of) .none kV16 dc16 pm16 an16 cd16 ct16), sl16⟩)
    (c16 : PySem.W.codeIn K cd16 "outgoing_of" = true)
    (k16 : PySem.W.keepIn K (.ref f16) = true)
    (a17 : PySem.W.nsIn K mainGlobals "_is_thing" = some (some (.ref f17)))
    (l17 : K.lookup f17 = some ⟨oc17, od17, .func (PySem.W.fnOf "_is_thing" "_is_thing" (defArgs s_is_thing) (defBody s_is_thing) (defScope s_is_thing) .none kV17 dc17 pm17 an17 cd17 ct17), sl17⟩)
    (c17 : PySem.W.codeIn K cd17 "_is_thing" = true)
    (k17 : PySem.W.keepIn K (.ref f17) = true)
    (a18 : PySem.W.findIn K (.ref c_Incoming) "__init__" = some (some (.ref f18)))
    (i18 : PySem.W.isFn K (.ref f18) = true)
    (t18 : PySem.W.typeIn K (.ref f18) = some (.type "function"))
    (l18 : K.lookup f18 = some ⟨oc18, od18, .func (PySem.W.fnOf "__init__" "Incoming.__init__" (defArgs s_Incoming_init) (defBody s_Incoming_init) (defScope s_Incoming_init) .none kV18 dc18 pm18 an18 cd18 ct18), sl18⟩)
    (c18 : PySem.W.codeIn K cd18 "Incoming.__init__" = true)
    (k18 : PySem.W.keepIn K (.ref f18) = true)
    (a19 : PySem.W.findIn K (.ref c_Incoming) "take" = some (some (.ref f19)))
    (i19 : PySem.W.isFn K (.ref f19) = true)
    (t19 : PySem.W.typeIn K (.ref f19) = some (.type "function"))
    (l19 : K.lookup f19 = some ⟨oc19, od19, .func (PySem.W.fnOf "take" "Incoming.take" (defArgs s_Incoming_take) (defBody s_Incoming_take) (defScope s_Incoming_take) .none kV19 dc19 pm19 an19 cd19 ct19), sl19⟩)
    (c19 : PySem.W.codeIn K cd19 "Incoming.take" = true)
    (k19 : PySem.W.keepIn K (.ref f19) = true)
    (a20 : PySem.W.findIn K (.ref c_Incoming) "taken" = some (some (.ref f20)))
    (i20 : PySem.W.isFn K (.ref f20) = true)
    (t20 : PySem.W.typeIn K (.ref f20) = some (.type "function"))
    (l20 : K.lookup f20 = some ⟨oc20, od20, .func (PySem.W.fnOf "taken" "Incoming.taken" (defArgs s_Incoming_taken) (defBody s_Incoming_taken) (defScope s_Incoming_taken) .none kV20 dc20 pm20 an20 cd20 ct20), sl20⟩)
    (c20 : PySem.W.codeIn K cd20 "Incoming.taken" = true)
    (k20 : PySem.W.keepIn K (.ref f20) = true)
    (a21 : PySem.W.findIn K (.ref c_Incoming) "held" = some (some (.ref f21)))
    (i21 : PySem.W.isFn K (.ref f21) = true)
    (t21 : PySem.W.typeIn K (.ref f21) = some (.type "function"))
    (l21 : K.lookup f21 = some ⟨oc21, od21, .func (PySem.W.fnOf "held" "Incoming.held" (defArgs s_Incoming_held) (defBody s_Incoming_held) (defScope s_Incoming_held) .none kV21 dc21 pm21 an21 cd21 ct21), sl21⟩)
    (c21 : PySem.W.codeIn K cd21 "Incoming.held" = true)
    (k21 : PySem.W.keepIn K (.ref f21) = true)
    (a22 : PySem.W.findIn K (.ref c_Incoming) "state" = some (some (.ref f22)))
    (i22 : PySem.W.isFn K (.ref f22) = true)
    (t22 : PySem.W.typeIn K (.ref f22) = some (.type "function"))
    (l22 : K.lookup f22 = some ⟨oc22, od22, .func (PySem.W.fnOf "state" "Incoming.state" (defArgs s_Incoming_state) (defBody s_Incoming_state) (defScope s_Incoming_state) .none kV22 dc22 pm22 an22 cd22 ct22), sl22⟩)
    (c22 : PySem.W.codeIn K cd22 "Incoming.state" = true)
    (k22 : PySem.W.keepIn K (.ref f22) = true)
    (a23 : PySem.W.findIn K (.ref c_Incoming) "copy" = some (some (.ref f23)))
    (i23 : PySem.W.isFn K (.ref f23) = true)
    (t23 : PySem.W.typeIn K (.ref f23) = some (.type "function"))
    (l23 : K.lookup f23 = some ⟨oc23, od23, .func (PySem.W.fnOf "copy" "Incoming.copy" (defArgs s_Incoming_copy) (defBody s_Incoming_copy) (defScope s_Incoming_copy) .none kV23 dc23 pm23 an23 cd23 ct23), sl23⟩)
    (c23 : PySem.W.codeIn K cd23 "Incoming.copy" = true)
    (k23 : PySem.W.keepIn K (.ref f23) = true)
    (a24 : PySem.W.nsIn K mainGlobals "_incoming" = some (some (.ref f24)))
    (l24 : K.lookup f24 = some ⟨oc24, od24, .func (PySem.W.fnOf "_incoming" "_incoming" (defArgs s_incoming) (defBody s_incoming) (defScope s_incoming) .none kV24 dc24 pm24 an24 cd24 ct24), sl24⟩)
    (c24 : PySem.W.codeIn K cd24 "_incoming" = true)
    (k24 : PySem.W.keepIn K (.ref f24) = true)
    (a25 : PySem.W.nsIn K mainGlobals "is_incoming_state" = some (some (.ref f25)))
    (l25 : K.lookup f25 = some ⟨oc25, od25, .func (PySem.W.fnOf "is_incoming_state" "is_incoming_state" (defArgs s_is_incoming_state) (defBody s_is_incoming_state) (defScope s_is_incoming_state) .none kV25 dc25 pm25 an25 cd25 ct25), sl25⟩)
    (c25 : PySem.W.codeIn K cd25 "is_incoming_state" = true)
    (k25 : PySem.W.keepIn K (.ref f25) = true)
    (a26 : PySem.W.nsIn K mainGlobals "incoming_of" = some (some (.ref f26)))
    (l26 : K.lookup f26 = some ⟨oc26, od26, .func (PySem.W.fnOf "incoming_of" "incoming_of" (defArgs s_incoming_of) (defBody s_incoming_of) (defScope s_incoming_of) .none kV26 dc26 pm26 an26 cd26 ct26), sl26⟩)
    (c26 : PySem.W.codeIn K cd26 "incoming_of" = true)
    (k26 : PySem.W.keepIn K (.ref f26) = true)
    (a27 : PySem.W.nsIn K mainGlobals "_can_be_held" = some (some (.ref f27)))
    (l27 : K.lookup f27 = some ⟨oc27, od27, .func (PySem.W.fnOf "_can_be_held" "_can_be_held" (defArgs s_can_be_held) (defBody s_can_be_held) (defScope s_can_be_held) .none kV27 dc27 pm27 an27 cd27 ct27), sl27⟩)
    (c27 : PySem.W.codeIn K cd27 "_can_be_held" = true)
    (k27 : PySem.W.keepIn K (.ref f27) = true)
    (a28 : PySem.W.nsIn K mainGlobals "_is_numbered" = some (some (.ref f28)))
    (l28 : K.lookup f28 = some ⟨oc28, od28, .func (PySem.W.fnOf "_is_numbered" "_is_numbered" (defArgs s_is_numbered) (defBody s_is_numbered) (defScope s_is_numbered) .none kV28 dc28 pm28 an28 cd28 ct28), sl28⟩)
    (c28 : PySem.W.codeIn K cd28 "_is_numbered" = true)
    (k28 : PySem.W.keepIn K (.ref f28) = true)
    (a29 : PySem.W.nsIn K mainGlobals "_law_hand" = some (some (.ref f29)))
    (l29 : K.lookup f29 = some ⟨oc29, od29, .func (PySem.W.fnOf "_law_hand" "_law_hand" (defArgs s_law_hand) (defBody s_law_hand) (defScope s_law_hand) .none kV29 dc29 pm29 an29 cd29 ct29), sl29⟩)
    (c29 : PySem.W.codeIn K cd29 "_law_hand" = true)
    (k29 : PySem.W.keepIn K (.ref f29) = true)
    (a30 : PySem.W.nsIn K mainGlobals "_law_take" = some (some (.ref f30)))
    (l30 : K.lookup f30 = some ⟨oc30, od30, .func (PySem.W.fnOf "_law_take" "_law_take" (defArgs s_law_take) (defBody s_law_take) (defScope s_law_take) .none kV30 dc30 pm30 an30 cd30 ct30), sl30⟩)
    (c30 : PySem.W.codeIn K cd30 "_law_take" = true)
    (k30 : PySem.W.keepIn K (.ref f30) = true)
    (a31 : PySem.W.nsIn K mainGlobals "_law_pick" = some (some (.ref f31)))
    (l31 : K.lookup f31 = some ⟨oc31, od31, .func (PySem.W.fnOf "_law_pick" "_law_pick" (defArgs s_law_pick) (defBody s_law_pick) (defScope s_law_pick) .none kV31 dc31 pm31 an31 cd31 ct31), sl31⟩)
    (c31 : PySem.W.codeIn K cd31 "_law_pick" = true)
    (k31 : PySem.W.keepIn K (.ref f31) = true)
    (a32 : PySem.W.nsIn K mainGlobals "_law_is_integer" = some (some (.ref f32)))
    (l32 : K.lookup f32 = some ⟨oc32, od32, .func (PySem.W.fnOf "_law_is_integer" "_law_is_integer" (defArgs s_law_is_integer) (defBody s_law_is_integer) (defScope s_law_is_integer) .none kV32 dc32 pm32 an32 cd32 ct32), sl32⟩)
    (c32 : PySem.W.codeIn K cd32 "_law_is_integer" = true)
    (k32 : PySem.W.keepIn K (.ref f32) = true)
    (a33 : PySem.W.nsIn K mainGlobals "_law_same" = some (some (.ref f33)))
    (l33 : K.lookup f33 = some ⟨oc33, od33, .func (PySem.W.fnOf "_law_same" "_law_same" (defArgs s_law_same) (defBody s_law_same) (defScope s_law_same) .none kV33 dc33 pm33 an33 cd33 ct33), sl33⟩)
    (c33 : PySem.W.codeIn K cd33 "_law_same" = true)
    (k33 : PySem.W.keepIn K (.ref f33) = true)
    (a34 : PySem.W.nsIn K mainGlobals "_law_item" = some (some (.ref f34)))
    (l34 : K.lookup f34 = some ⟨oc34, od34, .func (PySem.W.fnOf "_law_item" "_law_item" (defArgs s_law_item) (defBody s_law_item) (defScope s_law_item) .none kV34 dc34 pm34 an34 cd34 ct34), sl34⟩)
    (c34 : PySem.W.codeIn K cd34 "_law_item" = true)
    (k34 : PySem.W.keepIn K (.ref f34) = true)
    (a35 : PySem.W.nsIn K mainGlobals "_law_thing" = some (some (.ref f35)))
    (l35 : K.lookup f35 = some ⟨oc35, od35, .func (PySem.W.fnOf "_law_thing" "_law_thing" (defArgs s_law_thing) (defBody s_law_thing) (defScope s_law_thing) .none kV35 dc35 pm35 an35 cd35 ct35), sl35⟩)
    (c35 : PySem.W.codeIn K cd35 "_law_thing" = true)
    (k35 : PySem.W.keepIn K (.ref f35) = true)
    (a36 : PySem.W.nsIn K mainGlobals "_law_heard" = some (some (.ref f36)))
    (l36 : K.lookup f36 = some ⟨oc36, od36, .func (PySem.W.fnOf "_law_heard" "_law_heard" (defArgs s_law_heard) (defBody s_law_heard) (defScope s_law_heard) .none kV36 dc36 pm36 an36 cd36 ct36), sl36⟩)
    (c36 : PySem.W.codeIn K cd36 "_law_heard" = true)
    (k36 : PySem.W.keepIn K (.ref f36) = true)
    (a37 : PySem.W.nsIn K mainGlobals "_law_ends_right" = some (some (.ref f37)))
    (l37 : K.lookup f37 = some ⟨oc37, od37, .func (PySem.W.fnOf "_law_ends_right" "_law_ends_right" (defArgs s_law_ends_right) (defBody s_law_ends_right) (defScope s_law_ends_right) .none kV37 dc37 pm37 an37 cd37 ct37), sl37⟩)
    (c37 : PySem.W.codeIn K cd37 "_law_ends_right" = true)
    (k37 : PySem.W.keepIn K (.ref f37) = true)
    (a38 : PySem.W.nsIn K mainGlobals "_law_deed" = some (some (.ref f38)))
    (l38 : K.lookup f38 = some ⟨oc38, od38, .func (PySem.W.fnOf "_law_deed" "_law_deed" (defArgs s_law_deed) (defBody s_law_deed) (defScope s_law_deed) .none kV38 dc38 pm38 an38 cd38 ct38), sl38⟩)
    (c38 : PySem.W.codeIn K cd38 "_law_deed" = true)
    (k38 : PySem.W.keepIn K (.ref f38) = true)
    (a39 : PySem.W.nsIn K mainGlobals "_law_drained" = some (some (.ref f39)))
    (l39 : K.lookup f39 = some ⟨oc39, od39, .func (PySem.W.fnOf "_law_drained" "_law_drained" (defArgs s_law_drained) (defBody s_law_drained) (defScope s_law_drained) .none kV39 dc39 pm39 an39 cd39 ct39), sl39⟩)
    (c39 : PySem.W.codeIn K cd39 "_law_drained" = true)
    (k39 : PySem.W.keepIn K (.ref f39) = true)
    (a40 : PySem.W.nsIn K mainGlobals "_law_first" = some (some (.ref f40)))
    (l40 : K.lookup f40 = some ⟨oc40, od40, .func (PySem.W.fnOf "_law_first" "_law_first" (defArgs s_law_first) (defBody s_law_first) (defScope s_law_first) .none kV40 dc40 pm40 an40 cd40 ct40), sl40⟩)
    (c40 : PySem.W.codeIn K cd40 "_law_first" = true)
    (k40 : PySem.W.keepIn K (.ref f40) = true)
    (a41 : PySem.W.nsIn K mainGlobals "_law_is_within" = some (some (.ref f41)))
    (l41 : K.lookup f41 = some ⟨oc41, od41, .func (PySem.W.fnOf "_law_is_within" "_law_is_within" (defArgs s_law_is_within) (defBody s_law_is_within) (defScope s_law_is_within) .none kV41 dc41 pm41 an41 cd41 ct41), sl41⟩)
    (c41 : PySem.W.codeIn K cd41 "_law_is_within" = true)
    (k41 : PySem.W.keepIn K (.ref f41) = true)
    (a42 : PySem.W.nsIn K mainGlobals "_law_odd" = some (some (.ref f42)))
    (l42 : K.lookup f42 = some ⟨oc42, od42, .func (PySem.W.fnOf "_law_odd" "_law_odd" (defArgs s_law_odd) (defBody s_law_odd) (defScope s_law_odd) .none kV42 dc42 pm42 an42 cd42 ct42), sl42⟩)
    (c42 : PySem.W.codeIn K cd42 "_law_odd" = true)
    (k42 : PySem.W.keepIn K (.ref f42) = true)
    (a43 : PySem.W.nsIn K mainGlobals "_law_is_thing" = some (some (.ref f43)))
    (l43 : K.lookup f43 = some ⟨oc43, od43, .func (PySem.W.fnOf "_law_is_thing" "_law_is_thing" (defArgs s_law_is_thing) (defBody s_law_is_thing) (defScope s_law_is_thing) .none kV43 dc43 pm43 an43 cd43 ct43), sl43⟩)
    (c43 : PySem.W.codeIn K cd43 "_law_is_thing" = true)
    (k43 : PySem.W.keepIn K (.ref f43) = true)
    (a44 : PySem.W.nsIn K mainGlobals "_law_some_thing" = some (some (.ref f44)))
    (l44 : K.lookup f44 = some ⟨oc44, od44, .func (PySem.W.fnOf "_law_some_thing" "_law_some_thing" (defArgs s_law_some_thing) (defBody s_law_some_thing) (defScope s_law_some_thing) .none kV44 dc44 pm44 an44 cd44 ct44), sl44⟩)
    (c44 : PySem.W.codeIn K cd44 "_law_some_thing" = true)
    (k44 : PySem.W.keepIn K (.ref f44) = true)
    (a45 : PySem.W.nsIn K mainGlobals "_law_out_state" = some (some (.ref f45)))
    (l45 : K.lookup f45 = some ⟨oc45, od45, .func (PySem.W.fnOf "_law_out_state" "_law_out_state" (defArgs s_law_out_state) (defBody s_law_out_state) (defScope s_law_out_state) .none kV45 dc45 pm45 an45 cd45 ct45), sl45⟩)
    (c45 : PySem.W.codeIn K cd45 "_law_out_state" = true)
    (k45 : PySem.W.keepIn K (.ref f45) = true)
    (a46 : PySem.W.nsIn K mainGlobals "_law_in_state" = some (some (.ref f46)))
    (l46 : K.lookup f46 = some ⟨oc46, od46, .func (PySem.W.fnOf "_law_in_state" "_law_in_state" (defArgs s_law_in_state) (defBody s_law_in_state) (defScope s_law_in_state) .none kV46 dc46 pm46 an46 cd46 ct46), sl46⟩)
    (c46 : PySem.W.codeIn K cd46 "_law_in_state" = true)
    (k46 : PySem.W.keepIn K (.ref f46) = true)
    (a47 : PySem.W.nsIn K mainGlobals "_law_spoilt" = some (some (.ref f47)))
    (l47 : K.lookup f47 = some ⟨oc47, od47, .func (PySem.W.fnOf "_law_spoilt" "_law_spoilt" (defArgs s_law_spoilt) (defBody s_law_spoilt) (defScope s_law_spoilt) .none kV47 dc47 pm47 an47 cd47 ct47), sl47⟩)
    (c47 : PySem.W.codeIn K cd47 "_law_spoilt" = true)
    (k47 : PySem.W.keepIn K (.ref f47) = true)
    (a48 : PySem.W.nsIn K mainGlobals "_law_is_out" = some (some (.ref f48)))
    (l48 : K.lookup f48 = some ⟨oc48, od48, .func (PySem.W.fnOf "_law_is_out" "_law_is_out" (defArgs s_law_is_out) (defBody s_law_is_out) (defScope s_law_is_out) .none kV48 dc48 pm48 an48 cd48 ct48), sl48⟩)
    (c48 : PySem.W.codeIn K cd48 "_law_is_out" = true)
    (k48 : PySem.W.keepIn K (.ref f48) = true)
    (a49 : PySem.W.nsIn K mainGlobals "_law_is_in" = some (some (.ref f49)))
    (l49 : K.lookup f49 = some ⟨oc49, od49, .func (PySem.W.fnOf "_law_is_in" "_law_is_in" (defArgs s_law_is_in) (defBody s_law_is_in) (defScope s_law_is_in) .none kV49 dc49 pm49 an49 cd49 ct49), sl49⟩)
    (c49 : PySem.W.codeIn K cd49 "_law_is_in" = true)
    (k49 : PySem.W.keepIn K (.ref f49) = true)
    (a50 : PySem.W.nsIn K mainGlobals "_law_out_top" = some (some (.ref f50)))
    (l50 : K.lookup f50 = some ⟨oc50, od50, .func (PySem.W.fnOf "_law_out_top" "_law_out_top" (defArgs s_law_out_top) (defBody s_law_out_top) (defScope s_law_out_top) .none kV50 dc50 pm50 an50 cd50 ct50), sl50⟩)
    (c50 : PySem.W.codeIn K cd50 "_law_out_top" = true)
    (k50 : PySem.W.keepIn K (.ref f50) = true)
    (a51 : PySem.W.nsIn K mainGlobals "_law_in_top" = some (some (.ref f51)))
    (l51 : K.lookup f51 = some ⟨oc51, od51, .func (PySem.W.fnOf "_law_in_top" "_law_in_top" (defArgs s_law_in_top) (defBody s_law_in_top) (defScope s_law_in_top) .none kV51 dc51 pm51 an51 cd51 ct51), sl51⟩)
    (c51 : PySem.W.codeIn K cd51 "_law_in_top" = true)
    (k51 : PySem.W.keepIn K (.ref f51) = true)
    (a52 : PySem.W.nsIn K mainGlobals "_law_out_told" = some (some (.ref f52)))
    (l52 : K.lookup f52 = some ⟨oc52, od52, .func (PySem.W.fnOf "_law_out_told" "_law_out_told" (defArgs s_law_out_told) (defBody s_law_out_told) (defScope s_law_out_told) .none kV52 dc52 pm52 an52 cd52 ct52), sl52⟩)
    (c52 : PySem.W.codeIn K cd52 "_law_out_told" = true)
    (k52 : PySem.W.keepIn K (.ref f52) = true)
    (a53 : PySem.W.nsIn K mainGlobals "_law_in_told" = some (some (.ref f53)))
    (l53 : K.lookup f53 = some ⟨oc53, od53, .func (PySem.W.fnOf "_law_in_told" "_law_in_told" (defArgs s_law_in_told) (defBody s_law_in_told) (defScope s_law_in_told) .none kV53 dc53 pm53 an53 cd53 ct53), sl53⟩)
    (c53 : PySem.W.codeIn K cd53 "_law_in_told" = true)
    (k53 : PySem.W.keepIn K (.ref f53) = true)
    (a54 : PySem.W.nsIn K mainGlobals "_law_judged" = some (some (.ref f54)))
    (l54 : K.lookup f54 = some ⟨oc54, od54, .func (PySem.W.fnOf "_law_judged" "_law_judged" (defArgs s_law_judged) (defBody s_law_judged) (defScope s_law_judged) .none kV54 dc54 pm54 an54 cd54 ct54), sl54⟩)
    (c54 : PySem.W.codeIn K cd54 "_law_judged" = true)
    (k54 : PySem.W.keepIn K (.ref f54) = true)
    (a55 : PySem.W.nsIn K mainGlobals "_law_out_goes_on" = some (some (.ref f55)))
    (l55 : K.lookup f55 = some ⟨oc55, od55, .func (PySem.W.fnOf "_law_out_goes_on" "_law_out_goes_on" (defArgs s_law_out_goes_on) (defBody s_law_out_goes_on) (defScope s_law_out_goes_on) .none kV55 dc55 pm55 an55 cd55 ct55), sl55⟩)
    (c55 : PySem.W.codeIn K cd55 "_law_out_goes_on" = true)
    (k55 : PySem.W.keepIn K (.ref f55) = true)
    (a56 : PySem.W.nsIn K mainGlobals "_law_goes_on" = some (some (.ref f56)))
    (l56 : K.lookup f56 = some ⟨oc56, od56, .func (PySem.W.fnOf "_law_goes_on" "_law_goes_on" (defArgs s_law_goes_on) (defBody s_law_goes_on) (defScope s_law_goes_on) .none kV56 dc56 pm56 an56 cd56 ct56), sl56⟩)
    (c56 : PySem.W.codeIn K cd56 "_law_goes_on" = true)
    (k56 : PySem.W.keepIn K (.ref f56) = true)
    (a57 : PySem.W.nsIn K mainGlobals "_law_second" = some (some (.ref f57)))
    (l57 : K.lookup f57 = some ⟨oc57, od57, .func (PySem.W.fnOf "_law_second" "_law_second" (defArgs s_law_second) (defBody s_law_second) (defScope s_law_second) .none kV57 dc57 pm57 an57 cd57 ct57), sl57⟩)
    (c57 : PySem.W.codeIn K cd57 "_law_second" = true)
    (k57 : PySem.W.keepIn K (.ref f57) = true)
    (a58 : PySem.W.nsIn K mainGlobals "law" = some (some (.ref f58)))
    (l58 : K.lookup f58 = some ⟨oc58, od58, .func (PySem.W.fnOf "law" "law" (defArgs s_law) (defBody s_law) (defScope s_law) .none kV58 dc58 pm58 an58 cd58 ct58), sl58⟩)
    (c58 : PySem.W.codeIn K cd58 "law" = true)
    (k58 : PySem.W.keepIn K (.ref f58) = true) :
    ∃ fd : FuncData, (∀ (s : Shared) (v : Value), BindsTo s fd ⟨[v], []⟩ [("script", v)]) ∧ ∀ base : Heap, K.In base → base.Ns mainGlobals mg → FnOk l.prog w K mg base CX0 15 fa fd ["script"] (spLaw K) := by
  have hb : ∀ (s : Shared) (v : Value), BindsTo s (PySem.W.fnOf "law" "law" (defArgs s_law) (defBody s_law) (defScope s_law) .none kV58 dc58 pm58 an58 cd58 ct58) ⟨[v], []⟩ [("script", v)] := fun s v => .of_eq rfl
  let T : Tx K mg := {
    c_Outgoing := c_Outgoing, c_Incoming := c_Incoming, c_NoNumber := c_NoNumber, c_NoState := c_NoState,
    b_isinstance := PySem.W.mg_none_of X G b_isinstance,
    b_int := PySem.W.mg_none_of X G b_int,
    b_bool := PySem.W.mg_none_of X G b_bool,
    b_tuple := PySem.W.mg_none_of X G b_tuple,
    b_list := PySem.W.mg_none_of X G b_list,
    b_str := PySem.W.mg_none_of X G b_str,
    b_dict := PySem.W.mg_none_of X G b_dict,
    b_len := PySem.W.mg_none_of X G b_len,
    b_range := PySem.W.mg_none_of X G b_range,
    b_enumerate := PySem.W.mg_none_of X G b_enumerate,
    b_zip := PySem.W.mg_none_of X G b_zip,
    b_sorted := PySem.W.mg_none_of X G b_sorted,
    b_max := PySem.W.mg_none_of X G b_max,
    b_all := PySem.W.mg_none_of X G b_all,
    g_Outgoing := PySem.W.mg_of X G g_c_Outgoing,
    g_Incoming := PySem.W.mg_of X G g_c_Incoming,
    g_NoNumber := PySem.W.mg_of X G g_c_NoNumber,
    g_NoState := PySem.W.mg_of X G g_c_NoState,
    k1 := tk1, k2 := tk2,
    g_NUMBER_LIMIT := PySem.W.mg_of X G g_NUMBER_LIMIT,
    g_HELD_AHEAD := PySem.W.mg_of X G g_HELD_AHEAD,
    W_Outgoing := ⟨⟨w_c_Outgoing_pg, w_c_Outgoing_hd, w_c_Outgoing_po, w_c_Outgoing_sa⟩, w_c_Outgoing_ca, w_cg, w_ct, w_c_Outgoing_co, kit_bt w_c_Outgoing_ki rfl rfl, kit_bt w_c_Outgoing_kb rfl rfl, kit_bt w_c_Outgoing_kt rfl rfl, kit_bt w_c_Outgoing_kl rfl rfl, kit_bt w_c_Outgoing_ks rfl rfl⟩, mk_Outgoing := ⟨w_c_Outgoing_mk, w_c_Outgoing_kp⟩,
    W_Incoming := ⟨⟨w_c_Incoming_pg, w_c_Incoming_hd, w_c_Incoming_po, w_c_Incoming_sa⟩, w_c_Incoming_ca, w_cg, w_ct, w_c_Incoming_co, kit_bt w_c_Incoming_ki rfl rfl, kit_bt w_c_Incoming_kb rfl rfl, kit_bt w_c_Incoming_kt rfl rfl, kit_bt w_c_Incoming_kl rfl rfl, kit_bt w_c_Incoming_ks rfl rfl⟩, mk_Incoming := ⟨w_c_Incoming_mk, w_c_Incoming_kp⟩,
    na_let_go := w_na_let_go,
    na_things := w_na_things,
    na_many := w_na_many,
    na_ahead := w_na_ahead,
    x_NoNumber := ⟨⟨_, _, _, _, _, _, _, _, _, _, _, _, _, _, _, x0_l, rfl⟩, x0_sa, x0_ex, x0_ty, x0_kp⟩,
    x_NoState := ⟨⟨_, _, _, _, _, _, _, _, _, _, _, _, _, _, _, x1_l, rfl⟩, x1_sa, x1_ex, x1_ty, x1_kp⟩,
    e_NoStateNoState := exm_cls x1_ex x1_is x1_ty se_NoStateNoState }
  let B : Bk K mg T := {
    NoNumber_init := ⟨f0, _, fun_mk (st := s_NoNumber_init) l0 c0 k0, a0, i0, t0, (fun_mk (st := s_NoNumber_init) l0 c0 k0).binds (ps := ["self"]) fun _ _ _ _ _ _ us hl => match us, hl with | [_], _ => rfl⟩,
    NoState_init := ⟨f1, _, fun_mk (st := s_NoState_init) l1 c1 k1, a1, i1, t1, (fun_mk (st := s_NoState_init) l1 c1 k1).binds (ps := ["self"]) fun _ _ _ _ _ _ us hl => match us, hl with | [_], _ => rfl⟩,
    is_int := ⟨f2, _, fun_mk (st := s_is_int) l2 c2 k2, PySem.W.mg_of X G a2, (fun_mk (st := s_is_int) l2 c2 k2).binds (ps := ["thing"]) fun _ _ _ _ _ _ us hl => match us, hl with | [_], _ => rfl⟩,
    is_number := ⟨f3, _, fun_mk (st := s_is_number) l3 c3 k3, PySem.W.mg_of X G a3, (fun_mk (st := s_is_number) l3 c3 k3).binds (ps := ["thing"]) fun _ _ _ _ _ _ us hl => match us, hl with | [_], _ => rfl⟩,
    is_number_below := ⟨f4, _, fun_mk (st := s_is_number_below) l4 c4 k4, PySem.W.mg_of X G a4, (fun_mk (st := s_is_number_below) l4 c4 k4).binds (ps := ["limit", "thing"]) fun _ _ _ _ _ _ us hl => match us, hl with | [_, _], _ => rfl⟩,
    is_tuple_of := ⟨f5, _, fun_mk (st := s_is_tuple_of) l5 c5 k5, PySem.W.mg_of X G a5, (fun_mk (st := s_is_tuple_of) l5 c5 k5).binds (ps := ["many", "thing"]) fun _ _ _ _ _ _ us hl => match us, hl with | [_, _], _ => rfl⟩,
    is_link_number := ⟨f6, _, fun_mk (st := s_is_link_number) l6 c6 k6, PySem.W.mg_of X G a6, (fun_mk (st := s_is_link_number) l6 c6 k6).binds (ps := ["thing"]) fun _ _ _ _ _ _ us hl => match us, hl with | [_], _ => rfl⟩,
    Outgoing_init := ⟨f7, _, fun_mk (st := s_Outgoing_init) l7 c7 k7, a7, i7, t7, (fun_mk (st := s_Outgoing_init) l7 c7 k7).binds (ps := ["self"]) fun _ _ _ _ _ _ us hl => match us, hl with | [_], _ => rfl⟩,
    Outgoing_put := ⟨f8, _, fun_mk (st := s_Outgoing_put) l8 c8 k8, a8, i8, t8, (fun_mk (st := s_Outgoing_put) l8 c8 k8).binds (ps := ["self", "thing"]) fun _ _ _ _ _ _ us hl => match us, hl with | [_, _], _ => rfl⟩,
    Outgoing_known := ⟨f9, _, fun_mk (st := s_Outgoing_known) l9 c9 k9, a9, i9, t9, (fun_mk (st := s_Outgoing_known) l9 c9 k9).binds (ps := ["self", "number"]) fun _ _ _ _ _ _ us hl => match us, hl with | [_, _], _ => rfl⟩,
    Outgoing_waiting := ⟨f10, _, fun_mk (st := s_Outgoing_waiting) l10 c10 k10, a10, i10, t10, (fun_mk (st := s_Outgoing_waiting) l10 c10 k10).binds (ps := ["self"]) fun _ _ _ _ _ _ us hl => match us, hl with | [_], _ => rfl⟩,
    Outgoing_many_put := ⟨f11, _, fun_mk (st := s_Outgoing_many_put) l11 c11 k11, a11, i11, t11, (fun_mk (st := s_Outgoing_many_put) l11 c11 k11).binds (ps := ["self"]) fun _ _ _ _ _ _ us hl => match us, hl with | [_], _ => rfl⟩,
    Outgoing_state := ⟨f12, _, fun_mk (st := s_Outgoing_state) l12 c12 k12, a12, i12, t12, (fun_mk (st := s_Outgoing_state) l12 c12 k12).binds (ps := ["self"]) fun _ _ _ _ _ _ us hl => match us, hl with | [_], _ => rfl⟩,
    Outgoing_copy := ⟨f13, _, fun_mk (st := s_Outgoing_copy) l13 c13 k13, a13, i13, t13, (fun_mk (st := s_Outgoing_copy) l13 c13 k13).binds (ps := ["self"]) fun _ _ _ _ _ _ us hl => match us, hl with | [_], _ => rfl⟩,
    outgoing := ⟨f14, _, fun_mk (st := s_outgoing) l14 c14 k14, PySem.W.mg_of X G a14, (fun_mk (st := s_outgoing) l14 c14 k14).binds (ps := ["let_go", "things"]) fun _ _ _ _ _ _ us hl => match us, hl with | [_, _], _ => rfl⟩,
    is_outgoing_state := ⟨f15, _, fun_mk (st := s_is_outgoing_state) l15 c15 k15, PySem.W.mg_of X G a15, (fun_mk (st := s_is_outgoing_state) l15 c15 k15).binds (ps := ["thing"]) fun _ _ _ _ _ _ us hl => match us, hl with | [_], _ => rfl⟩,
    outgoing_of := ⟨f16, _, fun_mk (st := s_outgoing_of) l16 c16 k16, PySem.W.mg_of X G a16, (fun_mk (st := s_outgoing_of) l16 c16 k16).binds (ps := ["state"]) fun _ _ _ _ _ _ us hl => match us, hl with | [_], _ => rfl⟩,
    is_thing := ⟨f17, _, fun_mk (st := s_is_thing) l17 c17 k17, PySem.W.mg_of X G a17, (fun_mk (st := s_is_thing) l17 c17 k17).binds (ps := ["thing"]) fun _ _ _ _ _ _ us hl => match us, hl with | [_], _ => rfl⟩,
    Incoming_init := ⟨f18, _, fun_mk (st := s_Incoming_init) l18 c18 k18, a18, i18, t18, (fun_mk (st := s_Incoming_init) l18 c18 k18).binds (ps := ["self"]) fun _ _ _ _ _ _ us hl => match us, hl with | [_], _ => rfl⟩,
    Incoming_take := ⟨f19, _, fun_mk (st := s_Incoming_take) l19 c19 k19, a19, i19, t19, (fun_mk (st := s_Incoming_take) l19 c19 k19).binds (ps := ["self", "number", "thing"]) fun _ _ _ _ _ _ us hl => match us, hl with | [_, _, _], _ => rfl⟩,
    Incoming_taken := ⟨f20, _, fun_mk (st := s_Incoming_taken) l20 c20 k20, a20, i20, t20, (fun_mk (st := s_Incoming_taken) l20 c20 k20).binds (ps := ["self"]) fun _ _ _ _ _ _ us hl => match us, hl with | [_], _ => rfl⟩,
    Incoming_held := ⟨f21, _, fun_mk (st := s_Incoming_held) l21 c21 k21, a21, i21, t21, (fun_mk (st := s_Incoming_held) l21 c21 k21).binds (ps := ["self"]) fun _ _ _ _ _ _ us hl => match us, hl with | [_], _ => rfl⟩,
    Incoming_state := ⟨f22, _, fun_mk (st := s_Incoming_state) l22 c22 k22, a22, i22, t22, (fun_mk (st := s_Incoming_state) l22 c22 k22).binds (ps := ["self"]) fun _ _ _ _ _ _ us hl => match us, hl with | [_], _ => rfl⟩,
    Incoming_copy := ⟨f23, _, fun_mk (st := s_Incoming_copy) l23 c23 k23, a23, i23, t23, (fun_mk (st := s_Incoming_copy) l23 c23 k23).binds (ps := ["self"]) fun _ _ _ _ _ _ us hl => match us, hl with | [_], _ => rfl⟩,
    incoming := ⟨f24, _, fun_mk (st := s_incoming) l24 c24 k24, PySem.W.mg_of X G a24, (fun_mk (st := s_incoming) l24 c24 k24).binds (ps := ["state"]) fun _ _ _ _ _ _ us hl => match us, hl with | [_], _ => rfl⟩,
    is_incoming_state := ⟨f25, _, fun_mk (st := s_is_incoming_state) l25 c25 k25, PySem.W.mg_of X G a25, (fun_mk (st := s_is_incoming_state) l25 c25 k25).binds (ps := ["thing"]) fun _ _ _ _ _ _ us hl => match us, hl with | [_], _ => rfl⟩,
    incoming_of := ⟨f26, _, fun_mk (st := s_incoming_of) l26 c26 k26, PySem.W.mg_of X G a26, (fun_mk (st := s_incoming_of) l26 c26 k26).binds (ps := ["state"]) fun _ _ _ _ _ _ us hl => match us, hl with | [_], _ => rfl⟩,
    can_be_held := ⟨f27, _, fun_mk (st := s_can_be_held) l27 c27 k27, PySem.W.mg_of X G a27, (fun_mk (st := s_can_be_held) l27 c27 k27).binds (ps := ["many", "pairs"]) fun _ _ _ _ _ _ us hl => match us, hl with | [_, _], _ => rfl⟩,
    is_numbered := ⟨f28, _, fun_mk (st := s_is_numbered) l28 c28 k28, PySem.W.mg_of X G a28, (fun_mk (st := s_is_numbered) l28 c28 k28).binds (ps := ["thing"]) fun _ _ _ _ _ _ us hl => match us, hl with | [_], _ => rfl⟩,
    law_hand := ⟨f29, _, fun_mk (st := s_law_hand) l29 c29 k29, PySem.W.mg_of X G a29, (fun_mk (st := s_law_hand) l29 c29 k29).binds (ps := ["script"]) fun _ _ _ _ _ _ us hl => match us, hl with | [_], _ => rfl⟩,
    law_take := ⟨f30, _, fun_mk (st := s_law_take) l30 c30 k30, PySem.W.mg_of X G a30, (fun_mk (st := s_law_take) l30 c30 k30).binds (ps := ["hand", "many"]) fun _ _ _ _ _ _ us hl => match us, hl with | [_, _], _ => rfl⟩,
    law_pick := ⟨f31, _, fun_mk (st := s_law_pick) l31 c31 k31, PySem.W.mg_of X G a31, (fun_mk (st := s_law_pick) l31 c31 k31).binds (ps := ["hand", "things"]) fun _ _ _ _ _ _ us hl => match us, hl with | [_, _], _ => rfl⟩,
    law_is_integer := ⟨f32, _, fun_mk (st := s_law_is_integer) l32 c32 k32, PySem.W.mg_of X G a32, (fun_mk (st := s_law_is_integer) l32 c32 k32).binds (ps := ["thing"]) fun _ _ _ _ _ _ us hl => match us, hl with | [_], _ => rfl⟩,
    law_same := ⟨f33, _, fun_mk (st := s_law_same) l33 c33 k33, PySem.W.mg_of X G a33, (fun_mk (st := s_law_same) l33 c33 k33).binds (ps := ["actual", "due"]) fun _ _ _ _ _ _ us hl => match us, hl with | [_, _], _ => rfl⟩,
    law_item := ⟨f34, _, fun_mk (st := s_law_item) l34 c34 k34, PySem.W.mg_of X G a34, (fun_mk (st := s_law_item) l34 c34 k34).binds (ps := ["hand", "deep"]) fun _ _ _ _ _ _ us hl => match us, hl with | [_, _], _ => rfl⟩,
    law_thing := ⟨f35, _, fun_mk (st := s_law_thing) l35 c35 k35, PySem.W.mg_of X G a35, (fun_mk (st := s_law_thing) l35 c35 k35).binds (ps := ["hand"]) fun _ _ _ _ _ _ us hl => match us, hl with | [_], _ => rfl⟩,
    law_heard := ⟨f36, _, fun_mk (st := s_law_heard) l36 c36 k36, PySem.W.mg_of X G a36, (fun_mk (st := s_law_heard) l36 c36 k36).binds (ps := ["mind", "number", "thing"]) fun _ _ _ _ _ _ us hl => match us, hl with | [_, _, _], _ => rfl⟩,
    law_ends_right := ⟨f37, _, fun_mk (st := s_law_ends_right) l37 c37 k37, PySem.W.mg_of X G a37, (fun_mk (st := s_law_ends_right) l37 c37 k37).binds (ps := ["out", "end", "things", "gone", "mind"]) fun _ _ _ _ _ _ us hl => match us, hl with | [_, _, _, _, _], _ => rfl⟩,
    law_deed := ⟨f38, _, fun_mk (st := s_law_deed) l38 c38 k38, PySem.W.mg_of X G a38, (fun_mk (st := s_law_deed) l38 c38 k38).binds (ps := ["hand", "out", "end", "things", "gone", "mind", "all_taken"]) fun _ _ _ _ _ _ us hl => match us, hl with | [_, _, _, _, _, _, _], _ => rfl⟩,
    law_drained := ⟨f39, _, fun_mk (st := s_law_drained) l39 c39 k39, PySem.W.mg_of X G a39, (fun_mk (st := s_law_drained) l39 c39 k39).binds (ps := ["out", "end", "many"]) fun _ _ _ _ _ _ us hl => match us, hl with | [_, _, _], _ => rfl⟩,
    law_first := ⟨f40, _, fun_mk (st := s_law_first) l40 c40 k40, PySem.W.mg_of X G a40, (fun_mk (st := s_law_first) l40 c40 k40).binds (ps := ["script"]) fun _ _ _ _ _ _ us hl => match us, hl with | [_], _ => rfl⟩,
    law_is_within := ⟨f41, _, fun_mk (st := s_law_is_within) l41 c41 k41, PySem.W.mg_of X G a41, (fun_mk (st := s_law_is_within) l41 c41 k41).binds (ps := ["thing", "least", "most"]) fun _ _ _ _ _ _ us hl => match us, hl with | [_, _, _], _ => rfl⟩,
    law_odd := ⟨f42, _, fun_mk (st := s_law_odd) l42 c42 k42, PySem.W.mg_of X G a42, (fun_mk (st := s_law_odd) l42 c42 k42).binds (ps := ["hand"]) fun _ _ _ _ _ _ us hl => match us, hl with | [_], _ => rfl⟩,
    law_is_thing := ⟨f43, _, fun_mk (st := s_law_is_thing) l43 c43 k43, PySem.W.mg_of X G a43, (fun_mk (st := s_law_is_thing) l43 c43 k43).binds (ps := ["thing"]) fun _ _ _ _ _ _ us hl => match us, hl with | [_], _ => rfl⟩,
    law_some_thing := ⟨f44, _, fun_mk (st := s_law_some_thing) l44 c44 k44, PySem.W.mg_of X G a44, (fun_mk (st := s_law_some_thing) l44 c44 k44).binds (ps := ["hand"]) fun _ _ _ _ _ _ us hl => match us, hl with | [_], _ => rfl⟩,
    law_out_state := ⟨f45, _, fun_mk (st := s_law_out_state) l45 c45 k45, PySem.W.mg_of X G a45, (fun_mk (st := s_law_out_state) l45 c45 k45).binds (ps := ["hand"]) fun _ _ _ _ _ _ us hl => match us, hl with | [_], _ => rfl⟩,
    law_in_state := ⟨f46, _, fun_mk (st := s_law_in_state) l46 c46 k46, PySem.W.mg_of X G a46, (fun_mk (st := s_law_in_state) l46 c46 k46).binds (ps := ["hand"]) fun _ _ _ _ _ _ us hl => match us, hl with | [_], _ => rfl⟩,
    law_spoilt := ⟨f47, _, fun_mk (st := s_law_spoilt) l47 c47 k47, PySem.W.mg_of X G a47, (fun_mk (st := s_law_spoilt) l47 c47 k47).binds (ps := ["hand", "state"]) fun _ _ _ _ _ _ us hl => match us, hl with | [_, _], _ => rfl⟩,
    law_is_out := ⟨f48, _, fun_mk (st := s_law_is_out) l48 c48 k48, PySem.W.mg_of X G a48, (fun_mk (st := s_law_is_out) l48 c48 k48).binds (ps := ["thing"]) fun _ _ _ _ _ _ us hl => match us, hl with | [_], _ => rfl⟩,
    law_is_in := ⟨f49, _, fun_mk (st := s_law_is_in) l49 c49 k49, PySem.W.mg_of X G a49, (fun_mk (st := s_law_is_in) l49 c49 k49).binds (ps := ["thing"]) fun _ _ _ _ _ _ us hl => match us, hl with | [_], _ => rfl⟩,
    law_out_top := ⟨f50, _, fun_mk (st := s_law_out_top) l50 c50 k50, PySem.W.mg_of X G a50, (fun_mk (st := s_law_out_top) l50 c50 k50).binds (ps := ["state"]) fun _ _ _ _ _ _ us hl => match us, hl with | [_], _ => rfl⟩,
    law_in_top := ⟨f51, _, fun_mk (st := s_law_in_top) l51 c51 k51, PySem.W.mg_of X G a51, (fun_mk (st := s_law_in_top) l51 c51 k51).binds (ps := ["state"]) fun _ _ _ _ _ _ us hl => match us, hl with | [_], _ => rfl⟩,
    law_out_told := ⟨f52, _, fun_mk (st := s_law_out_told) l52 c52 k52, PySem.W.mg_of X G a52, (fun_mk (st := s_law_out_told) l52 c52 k52).binds (ps := ["thing", "is_asked"]) fun _ _ _ _ _ _ us hl => match us, hl with | [_, _], _ => rfl⟩,
    law_in_told := ⟨f53, _, fun_mk (st := s_law_in_told) l53 c53 k53, PySem.W.mg_of X G a53, (fun_mk (st := s_law_in_told) l53 c53 k53).binds (ps := ["thing", "is_asked"]) fun _ _ _ _ _ _ us hl => match us, hl with | [_, _], _ => rfl⟩,
    law_judged := ⟨f54, _, fun_mk (st := s_law_judged) l54 c54 k54, PySem.W.mg_of X G a54, (fun_mk (st := s_law_judged) l54 c54 k54).binds (ps := ["thing"]) fun _ _ _ _ _ _ us hl => match us, hl with | [_], _ => rfl⟩,
    law_out_goes_on := ⟨f55, _, fun_mk (st := s_law_out_goes_on) l55 c55 k55, PySem.W.mg_of X G a55, (fun_mk (st := s_law_out_goes_on) l55 c55 k55).binds (ps := ["hand", "state"]) fun _ _ _ _ _ _ us hl => match us, hl with | [_, _], _ => rfl⟩,
    law_goes_on := ⟨f56, _, fun_mk (st := s_law_goes_on) l56 c56 k56, PySem.W.mg_of X G a56, (fun_mk (st := s_law_goes_on) l56 c56 k56).binds (ps := ["hand", "state", "other"]) fun _ _ _ _ _ _ us hl => match us, hl with | [_, _, _], _ => rfl⟩,
    law_second := ⟨f57, _, fun_mk (st := s_law_second) l57 c57 k57, PySem.W.mg_of X G a57, (fun_mk (st := s_law_second) l57 c57 k57).binds (ps := ["script"]) fun _ _ _ _ _ _ us hl => match us, hl with | [_], _ => rfl⟩,
    law := ⟨f58, _, fun_mk (st := s_law) l58 c58 k58, PySem.W.mg_of X G a58, (fun_mk (st := s_law) l58 c58 k58).binds (ps := ["script"]) fun _ _ _ _ _ _ us hl => match us, hl with | [_], _ => rfl⟩ }
  exact fin_of T B hfa hb
theorem walk {l : PySem.W.OpenLaw} {q : Program} {loose : List Str} {XP : (Str → Option Value) → Heap → Prop} {YP : World → Heap → Prop} {d : DefRec} {K : Params → PySem.W.Frag} (hn : l.most = some 63) (hdf : d.params.defaults = [])
    (hY : ∀ (w : World) (h : Heap), YP w h → (K w.params).In h)
    (F : ∀ (w : World) (mg : Str → Option Value) (fa : Addr) (h : Heap), (K w.params).In h → h.Ns mainGlobals mg → mg d.name = some (.ref fa) →
      ∃ fd : FuncData, (∀ (s : Shared) (u : Value), BindsTo s fd ⟨[u], []⟩ [("script", u)]) ∧ ∀ base : Heap, (K w.params).In base → base.Ns mainGlobals mg → FnOk l.prog w (K w.params) mg base CX0 15 fa fd ["script"] (spLaw (K w.params))) :
    PySem.W.WalkO q loose XP YP l.row.toRowW d [] (fun f vs => PySem.call f vs) :=
  L2.walk_of (n := 63) (k := 15) (x := "script") (CX := fun _ => CX0) (sp := fun w => spLaw (K w.params)) hn (by decide) hdf ⟨rfl, by decide, by decide⟩ hY F (fun _ _ a ns hl _ hS => ⟨a, ns, rfl, hS, fun _ => rfl⟩) fun _ _ _ _ _ z => z
end Mw

/-! Z2 -/
open PySem PySem.W PyProof.Rows in
set_option maxRecDepth 100000 in
set_option maxHeartbeats 0 in
theorem PySem.Challenge.cw_moststream_k27_whole_links_and_their_sta_holds : PySem.Challenge.rw_moststream_k27_whole_links_and_their_sta.Holds := by
  w_on; o_law; k_head; (case hw => w_witness2)
  k_fill
  refine Mw.walk (l := PySem.Challenge.rw_moststream_k27_whole_links_and_their_sta) rfl rfl (fun w h Y => PySem.W.kIn_of Y) ?F
  case F =>
    intro w mg fa h KX G hmg
    refine' Mw.all_mk KX G hmg ?g_c_Outgoing ?g_c_Incoming ?g_c_NoNumber ?g_c_NoState ?g_NUMBER_LIMIT ?g_HELD_AHEAD ?b_isinstance ?b_int ?b_bool ?b_tuple ?b_list ?b_str ?b_dict ?b_len ?b_range ?b_enumerate ?b_zip ?b_sorted ?b_max ?b_all ?w_c_Outgoing_pg ?w_c_Outgoing_hd ?w_c_Outgoing_po ?w_c_Outgoing_sa ?w_c_Outgoing_ca ?w_c_Outgoing_co ?w_c_Outgoing_ki ?w_c_Outgoing_kb ?w_c_Outgoing_kt ?w_c_Outgoing_kl ?w_c_Outgoing_ks ?w_c_Outgoing_is ?w_c_Outgoing_ty ?w_c_Outgoing_mk ?w_c_Outgoing_kp ?w_c_Incoming_pg ?w_c_Incoming_hd ?w_c_Incoming_po ?w_c_Incoming_sa ?w_c_Incoming_ca ?w_c_Incoming_co ?w_c_Incoming_ki ?w_c_Incoming_kb ?w_c_Incoming_kt ?w_c_Incoming_kl ?w_c_Incoming_ks ?w_c_Incoming_is ?w_c_Incoming_ty ?w_c_Incoming_mk ?w_c_Incoming_kp ?w_cg ?w_ct ?w_na_let_go ?w_na_things ?w_na_many ?w_na_ahead ?x0_l ?x0_sa ?x0_ex ?x0_ty ?x0_kp ?x0_is ?x1_l ?x1_sa ?x1_ex ?x1_ty ?x1_kp ?x1_is ?se_NoStateNoState ?a0 ?i0 ?t0 ?l0 ?c0 ?k0 ?a1 ?i1 ?t1 ?l1 ?c1 ?k1 ?a2 ?l2 ?c2 ?k2 ?a3 ?l3 ?c3 ?k3 ?a4 ?l4 ?c4 ?k4 ?a5 ?l5 ?c5 ?k5 ?a6 ?l6 ?c6 ?k6 ?a7 ?i7 ?t7 ?l7 ?c7 ?k7 ?a8 ?i8 ?t8 ?l8 ?c8 ?k8 ?a9 ?i9 ?t9 ?l9 ?c9 ?k9 ?a10 ?i10 ?t10 ?l10 ?c10 ?k10 ?a11 ?i11 ?t11 ?l11 ?c11 ?k11 ?a12 ?i12 ?t12 ?l12 ?c12 ?k12 ?a13 ?i13 ?t13 ?l13 ?c13 ?k13 ?a14 ?l14 ?c14 ?k14 ?a15 ?l15 ?c15 ?k15 ?a16 ?l16 ?c16 ?k16 ?a17 ?l17 ?c17 ?k17 ?a18 ?i18 ?t18 ?l18 ?c18 ?k18 ?a19 ?i19 ?t19 ?l19 ?c19 ?k19 ?a20 ?i20 ?t20 ?l20 ?c20 ?k20 ?a21 ?i21 ?t21 ?l21 ?c21 ?k21 ?a22 ?i22 ?t22 ?l22 ?c22 ?k22 ?a23 ?i23 ?t23 ?l23 ?c23 ?k23 ?a24 ?l24 ?c24 ?k24 ?a25 ?l25 ?c25 ?k25 ?a26 ?l26 ?c26 ?k26 ?a27 ?l27 ?c27 ?k27 ?a28 ?l28 ?c28 ?k28 ?a29 ?l29 ?c29 ?k29 ?a30 ?l30 ?c30 ?k30 ?a31 ?l31 ?c31 ?k31 ?a32 ?l32 ?c32 ?k32 ?a33 ?l33 ?c33 ?k33 ?a34 ?l34 ?c34 ?k34 ?a35 ?l35 ?c35 ?k35 ?a36 ?l36 ?c36 ?k36 ?a37 ?l37 ?c37 ?k37 ?a38 ?l38 ?c38 ?k38 ?a39 ?l39 ?c39 ?k39 ?a40 ?l40 ?c40 ?k40 ?a41 ?l41 ?c41 ?k41 ?a42 ?l42 ?c42 ?k42 ?a43 ?l43 ?c43 ?k43 ?a44 ?l44 ?c44 ?k44 ?a45 ?l45 ?c45 ?k45 ?a46 ?l46 ?c46 ?k46 ?a47 ?l47 ?c47 ?k47 ?a48 ?l48 ?c48 ?k48 ?a49 ?l49 ?c49 ?k49 ?a50 ?l50 ?c50 ?k50 ?a51 ?l51 ?c51 ?k51 ?a52 ?l52 ?c52 ?k52 ?a53 ?l53 ?c53 ?k53 ?a54 ?l54 ?c54 ?k54 ?a55 ?l55 ?c55 ?k55 ?a56 ?l56 ?c56 ?k56 ?a57 ?l57 ?c57 ?k57 ?a58 ?l58 ?c58 ?k58
    (case g_c_Outgoing => k_is)
    (case g_c_Incoming => k_is)
    (case g_c_NoNumber => k_is)
    (case g_c_NoState => k_is)
    (case g_NUMBER_LIMIT => k_is)
    (case g_HELD_AHEAD => k_is)
    (case b_isinstance => k_is)
    (case b_int => k_is)
    (case b_bool => k_is)
    (case b_tuple => k_is)
    (case b_list => k_is)
    (case b_str => k_is)
    (case b_dict => k_is)
    (case b_len => k_is)
    (case b_range => k_is)
    (case b_enumerate => k_is)
    (case b_zip => k_is)
    (case b_sorted => k_is)
    (case b_max => k_is)
    (case b_all => k_is)
    (case w_c_Outgoing_pg => k_is)
    (case w_c_Outgoing_hd => k_is)
    (case w_c_Outgoing_po => k_is)
    (case w_c_Outgoing_sa => k_is)
    (case w_c_Outgoing_ca => k_is)
    (case w_c_Outgoing_co => k_is)
    (case w_c_Outgoing_ki => k_is)
    (case w_c_Outgoing_kb => k_is)
    (case w_c_Outgoing_kt => k_is)
    (case w_c_Outgoing_kl => k_is)
    (case w_c_Outgoing_ks => k_is)
    (case w_c_Outgoing_is => k_is)
    (case w_c_Outgoing_ty => k_is)
    (case w_c_Outgoing_mk => k_is)
    (case w_c_Outgoing_kp => k_is)
    (case w_c_Incoming_pg => k_is)
    (case w_c_Incoming_hd => k_is)
    (case w_c_Incoming_po => k_is)
    (case w_c_Incoming_sa => k_is)
    (case w_c_Incoming_ca => k_is)
    (case w_c_Incoming_co => k_is)
    (case w_c_Incoming_ki => k_is)
    (case w_c_Incoming_kb => k_is)
    (case w_c_Incoming_kt => k_is)
    (case w_c_Incoming_kl => k_is)
    (case w_c_Incoming_ks => k_is)
    (case w_c_Incoming_is => k_is)
    (case w_c_Incoming_ty => k_is)
    (case w_c_Incoming_mk => k_is)
    (case w_c_Incoming_kp => k_is)
    (case w_cg => k_is)
    (case w_ct => k_is)
    (case w_na_let_go => k_is)
    (case w_na_things => k_is)
    (case w_na_many => k_is)
    (case w_na_ahead => k_is)
    (case x0_l => k_is)
    (case x0_sa => k_is)
    (case x0_ex => k_is)
    (case x0_ty => k_is)
    (case x0_kp => k_is)
    (case x0_is => k_is)
    (case x1_l => k_is)
    (case x1_sa => k_is)
    (case x1_ex => k_is)
    (case x1_ty => k_is)
    (case x1_kp => k_is)
    (case x1_is => k_is)
    (case se_NoStateNoState => k_is)
    (case a0 => k_is)
    (case i0 => k_is)
    (case t0 => k_is)
    (case l0 => k_is)
    (case c0 => k_is)
    (case k0 => k_is)
    (case a1 => k_is)
    (case i1 => k_is)
    (case t1 => k_is)
    (case l1 => k_is)
    (case c1 => k_is)
    (case k1 => k_is)
    (case a2 => k_is)
    (case l2 => k_is)
    (case c2 => k_is)
    (case k2 => k_is)
    (case a3 => k_is)
    (case l3 => k_is)
    (case c3 => k_is)
    (case k3 => k_is)
    (case a4 => k_is)
    (case l4 => k_is)
    (case c4 => k_is)
    (case k4 => k_is)
    (case a5 => k_is)
    (case l5 => k_is)
    (case c5 => k_is)
    (case k5 => k_is)
    (case a6 => k_is)
    (case l6 => k_is)
    (case c6 => k_is)
    (case k6 => k_is)
    (case a7 => k_is)
    (case i7 => k_is)
    (case t7 => k_is)
    (case l7 => k_is)
    (case c7 => k_is)
    (case k7 => k_is)
    (case a8 => k_is)
    (case i8 => k_is)
    (case t8 => k_is)
    (case l8 => k_is)
    (case c8 => k_is)
    (case k8 => k_is)
    (case a9 => k_is)
    (case i9 => k_is)
    (case t9 => k_is)
    (case l9 => k_is)
    (case c9 => k_is)
    (case k9 => k_is)
    (case a10 => k_is)
    (case i10 => k_is)
    (case t10 => k_is)
    (case l10 => k_is)
    (case c10 => k_is)
    (case k10 => k_is)
    (case a11 => k_is)
    (case i11 => k_is)
    (case t11 => k_is)
    (case l11 => k_is)
    (case c11 => k_is)
    (case k11 => k_is)
    (case a12 => k_is)
    (case i12 => k_is)
    (case t12 => k_is)
    (case l12 => k_is)
    (case c12 => k_is)
    (case k12 => k_is)
    (case a13 => k_is)
    (case i13 => k_is)
    (case t13 => k_is)
    (case l13 => k_is)
    (case c13 => k_is)
    (case k13 => k_is)
    (case a14 => k_is)
    (case l14 => k_is)
    (case c14 => k_is)
    (case k14 => k_is)
    (case a15 => k_is)
    (case l15 => k_is)
    (case c15 => k_is)
    (case k15 => k_is)
    (case a16 => k_is)
    (case l16 => k_is)
    (case c16 => k_is)
    (case k16 => k_is)
    (case a17 => k_is)
    (case l17 => k_is)
    (case c17 => k_is)
    (case k17 => k_is)
    (case a18 => k_is)
    (case i18 => k_is)
    (case t18 => k_is)
    (case l18 => k_is)
    (case c18 => k_is)
    (case k18 => k_is)
    (case a19 => k_is)
    (case i19 => k_is)
    (case t19 => k_is)
    (case l19 => k_is)
    (case c19 => k_is)
    (case k19 => k_is)
    (case a20 => k_is)
    (case i20 => k_is)
    (case t20 => k_is)
    (case l20 => k_is)
    (case c20 => k_is)
    (case k20 => k_is)
    (case a21 => k_is)
    (case i21 => k_is)
    (case t21 => k_is)
    (case l21 => k_is)
    (case c21 => k_is)
    (case k21 => k_is)
    (case a22 => k_is)
    (case i22 => k_is)
    (case t22 => k_is)
    (case l22 => k_is)
    (case c22 => k_is)
    (case k22 => k_is)
    (case a23 => k_is)
    (case i23 => k_is)
    (case t23 => k_is)
    (case l23 => k_is)
    (case c23 => k_is)
    (case k23 => k_is)
    (case a24 => k_is)
    (case l24 => k_is)
    (case c24 => k_is)
    (case k24 => k_is)
    (case a25 => k_is)
    (case l25 => k_is)
    (case c25 => k_is)
    (case k25 => k_is)
    (case a26 => k_is)
    (case l26 => k_is)
    (case c26 => k_is)
    (case k26 => k_is)
    (case a27 => k_is)
    (case l27 => k_is)
    (case c27 => k_is)
    (case k27 => k_is)
    (case a28 => k_is)
    (case l28 => k_is)
    (case c28 => k_is)
    (case k28 => k_is)
    (case a29 => k_is)
    (case l29 => k_is)
    (case c29 => k_is)
    (case k29 => k_is)
    (case a30 => k_is)
    (case l30 => k_is)
    (case c30 => k_is)
    (case k30 => k_is)
    (case a31 => k_is)
    (case l31 => k_is)
    (case c31 => k_is)
    (case k31 => k_is)
    (case a32 => k_is)
    (case l32 => k_is)
    (case c32 => k_is)
    (case k32 => k_is)
    (case a33 => k_is)
    (case l33 => k_is)
    (case c33 => k_is)
    (case k33 => k_is)
    (case a34 => k_is)
    (case l34 => k_is)
    (case c34 => k_is)
    (case k34 => k_is)
    (case a35 => k_is)
    (case l35 => k_is)
    (case c35 => k_is)
    (case k35 => k_is)
    (case a36 => k_is)
    (case l36 => k_is)
    (case c36 => k_is)
    (case k36 => k_is)
    (case a37 => k_is)
    (case l37 => k_is)
    (case c37 => k_is)
    (case k37 => k_is)
    (case a38 => k_is)
    (case l38 => k_is)
    (case c38 => k_is)
    (case k38 => k_is)
    (case a39 => k_is)
    (case l39 => k_is)
    (case c39 => k_is)
    (case k39 => k_is)
    (case a40 => k_is)
    (case l40 => k_is)
    (case c40 => k_is)
    (case k40 => k_is)
    (case a41 => k_is)
    (case l41 => k_is)
    (case c41 => k_is)
    (case k41 => k_is)
    (case a42 => k_is)
    (case l42 => k_is)
    (case c42 => k_is)
    (case k42 => k_is)
    (case a43 => k_is)
    (case l43 => k_is)
    (case c43 => k_is)
    (case k43 => k_is)
    (case a44 => k_is)
    (case l44 => k_is)
    (case c44 => k_is)
    (case k44 => k_is)
    (case a45 => k_is)
    (case l45 => k_is)
    (case c45 => k_is)
    (case k45 => k_is)
    (case a46 => k_is)
    (case l46 => k_is)
    (case c46 => k_is)
    (case k46 => k_is)
    (case a47 => k_is)
    (case l47 => k_is)
    (case c47 => k_is)
    (case k47 => k_is)
    (case a48 => k_is)
    (case l48 => k_is)
    (case c48 => k_is)
    (case k48 => k_is)
    (case a49 => k_is)
    (case l49 => k_is)
    (case c49 => k_is)
    (case k49 => k_is)
    (case a50 => k_is)
    (case l50 => k_is)
    (case c50 => k_is)
    (case k50 => k_is)
    (case a51 => k_is)
    (case l51 => k_is)
    (case c51 => k_is)
    (case k51 => k_is)
    (case a52 => k_is)
    (case l52 => k_is)
    (case c52 => k_is)
    (case k52 => k_is)
    (case a53 => k_is)
    (case l53 => k_is)
    (case c53 => k_is)
    (case k53 => k_is)
    (case a54 => k_is)
    (case l54 => k_is)
    (case c54 => k_is)
    (case k54 => k_is)
    (case a55 => k_is)
    (case l55 => k_is)
    (case c55 => k_is)
    (case k55 => k_is)
    (case a56 => k_is)
    (case l56 => k_is)
    (case c56 => k_is)
    (case k56 => k_is)
    (case a57 => k_is)
    (case l57 => k_is)
    (case c57 => k_is)
    (case k57 => k_is)
    (case a58 => k_is)
    (case l58 => k_is)
    (case c58 => k_is)
    (case k58 => k_is)
