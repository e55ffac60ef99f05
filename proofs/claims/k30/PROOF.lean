import PyProof.Rows.All
import Wide.All
import OpenK.AllK
import Wide.FinOn
import PyProof.EqAt
import PyProof.EqKinds
import PyProof.TupleCall
import HandS.Base
import HandS.Call
import HandS.List
import HandS.Comp
import HandS.Iter
import HandS.Ends
import HandS.Exc
import HandS.Words
import PyProof.Draws
import HandS.Zip0
import KE.KFromBytes
import HandS.ExcInit
import HandS.OwnEq
import HandS.IsInst
import HandS.ForMost
import HandS.ForExc
import HandS.TryMany
import HandS.ExcField
import HandS.TupAny
import HandS.TupLe
import HandS.TupSets
import HandS.Zip
import HandS.Style
import HandS.Conv
import HandS.SortInts
import KE.KDictSum
import KE.KDictWalk
import HandS.GenList
import KE.KDictZip
import KE.GoesEnumKw
import PyProof.Rows.CallKwBuiltin
import HandS.Dict
import HandS.More
import HandS.Codes
import HandS.Walk
import HandS.Text
import HandS.RaiseMore
import HandS.TupMul
import PySem.Challenge.RW_moststream_k30_whole_disks_and_kept_parc
set_option Elab.async false
set_option linter.all false
set_option maxRecDepth 100000
set_option maxHeartbeats 4000000
/-! M0 -/
/-! Readings one step at a time: each lemma turns a reading into what is left to be shown. -/
namespace Mw
open PySem L2
section
variable {σ : St} {H : Hp} {v x y : V} {i : Nat} {Q : VK} {ta tb te : TE} {r : R2} {D : Ends} {K : PySem.W.Frag}
theorem rd_var (h : σ[i]? = some (some v)) (q : Q v H) : tVar i σ H Q := ⟨v, h, q⟩
theorem rd_c (q : Q v H) : tC v σ H Q := q
theorem rd_op (h : ta σ H fun x H1 => tb σ H1 fun y H2 => r x y H2 Q) : tOp r ta tb σ H Q := h
theorem rd_un {r : V → Hp → VK → Prop} (h : ta σ H fun x H1 => r x H1 Q) : tUn r ta σ H Q := h
theorem rd_nil {Q : List V → Hp → Prop} (q : Q [] H) : tNil σ H Q := q
theorem rd_cons {tr : TA} {Q : List V → Hp → Prop} (h : ta σ H fun x H1 => tr σ H1 fun xs H2 => Q (x :: xs) H2) : tCons ta tr σ H Q := h
theorem rd_disp {xs : List V} {B : Prop} (hl : Nat.ble xs.length 1000 = true) (q : B) : xs.length ≤ sizeLine ∧ B := ⟨Nat.le_trans (Nat.le_of_ble_eq_true hl) (by decide), q⟩
theorem rd_tup {t : TA} (h : t σ H fun xs H1 => xs.length ≤ sizeLine ∧ ∀ p, H1 p = none → Q (.ref p) (upd H1 p (.tup xs))) : tTup t σ H Q := h
theorem rd_lst {t : TA} (h : t σ H fun xs H1 => xs.length ≤ sizeLine ∧ ∀ p, H1 p = none → Q (.ref p) (upd H1 p (.lst xs))) : tLst t σ H Q := h
theorem rd_ifs {c : TT} {t u : TS} (h : c σ H fun b H1 => if b = true then t D σ H1 else u D σ H1) : tIfS c t u D σ H := h
theorem rd_seq {t u : TS} (h : t { D with nx := u D } σ H) : tSeq t u D σ H := h
theorem rd_next (h : D.nx σ H) : tNext D σ H := h
theorem rd_ret (h : te σ H D.rt) : tRet te D σ H := h
theorem rd_asg {g : TG} (h : te σ H fun x H1 => g x σ H1 D.nx) : tAsg te g D σ H := h
theorem rd_gname {Q : St → Hp → Prop} (h : Q (σ.set i (some v)) H) : gName i v σ H Q := h
theorem rd_drop (h : te σ H fun _ H1 => D.nx σ H1) : tDrop te D σ H := h
theorem rd_test {Q : Bool → Hp → Prop} (h : te σ H fun x H' => ∃ k, x = .bl k ∧ Q k H') : tTest te σ H Q := h
theorem rd_B {Q : Bool → Hp → Prop} (h : te σ H fun x H1 => ∃ c, x = .bl c ∧ Q c H1) : tB te σ H Q := h
theorem rd_bl {b : Bool} {Q : Bool → Hp → Prop} (q : Q b H) : ∃ k, V.bl b = .bl k ∧ Q k H := ⟨b, rfl, q⟩
theorem rd_blP {b : Bool} {Q : Bool → Prop} (q : Q b) : ∃ k, V.bl b = .bl k ∧ Q k := ⟨b, rfl, q⟩
theorem rd_andV (h : ta σ H fun x H1 => ∃ c, x = .bl c ∧ if c = true then tb σ H1 Q else Q (.bl false) H1) : tAndV ta tb σ H Q := h
theorem rd_orV (h : ta σ H fun x H1 => ∃ c, x = .bl c ∧ if c = true then Q (.bl true) H1 else tb σ H1 Q) : tOrV ta tb σ H Q := h
theorem rd_notV (h : ta σ H fun x H1 => ∃ c, x = .bl c ∧ Q (.bl (!c)) H1) : tNotV ta σ H Q := h
theorem rd_and {t u : TT} {Q : Bool → Hp → Prop} (h : t σ H fun c H1 => if c = true then u σ H1 Q else Q false H1) : tAnd t u σ H Q := h
theorem rd_or {t u : TT} {Q : Bool → Hp → Prop} (h : t σ H fun c H1 => if c = true then Q true H1 else u σ H1 Q) : tOr t u σ H Q := h
theorem rd_not {t : TT} {Q : Bool → Hp → Prop} (h : t σ H fun c H1 => Q (!c) H1) : tNot t σ H Q := h
theorem rd_cb {r : List V → Hp → VK → Prop} {t : TA} (h : t σ H fun vs H1 => r vs H1 Q) : tCB r t σ H Q := h
theorem rd_call {sp : Sp} {dvs : List V} {E : XK} {t : TA} (h : t σ H fun vs H1 => sp (vs ++ dvs) H1 Q E) : tCall sp dvs E t σ H Q := h
theorem rd_i0 {g : Int → Int → V} {a b : Int} (q : Q (g a b) H) : rI0 g (.int a) (.int b) H Q := ⟨a, b, rfl, rfl, q⟩
theorem rd_eq (hs : scal x y = true) (q : Q (.bl (decide (x = y))) H) : rEq x y H Q := ⟨hs, q⟩
end
section
variable {σ : L2.St} {H : Hp} {x y : V} {Q : VK} {te : TE} {K : PySem.W.Frag}
theorem rd_sl {r : V → Option Int → Option Int → Hp → VK → Prop} {tl th : TO} (h : te σ H fun x H1 => tl σ H1 fun l H2 => th σ H2 fun u H3 => r x l u H3 Q) : tSl r te tl th σ H Q := h
theorem rd_nopart {Q : Option Int → Hp → Prop} (h : Q none H) : tNoPart σ H Q := h
theorem rd_part {Q : Option Int → Hp → Prop} (h : te σ H fun x H1 => ∃ i, x = .int i ∧ Q (some i) H1) : tPart te σ H Q := h
theorem rd_intP {j : Int} {P : Int → Prop} (h : P j) : ∃ i, V.int j = .int i ∧ P i := ⟨j, rfl, h⟩
theorem rd_fld {f : Str} (h : te σ H fun x H1 => ∃ a C dx fs v, x = .ref a ∧ H1 a = some (.ins C dx fs) ∧ Cls K C ∧ NoAttr K C f ∧ fs.lookup f = some v ∧ Q v H1) : tFld K te f σ H Q := h
theorem rd_ne (hs : scal x y = true) (q : Q (.bl (!decide (x = y))) H) : rNe x y H Q := ⟨hs, q⟩
theorem rd_rU {g : Int → V} {a : Int} (q : Q (g a) H) : rU g (.int a) H Q := ⟨a, rfl, q⟩
theorem rd_iC {C : Int → Int → Prop} {g : Int → Int → V} {a b : Int} (hc : C a b) (q : Q (g a b) H) : rI C g (.int a) (.int b) H Q := ⟨a, b, rfl, rfl, hc, q⟩
theorem rd_eqI {a b : Int} (q : Q (.bl (decide (a = b))) H) : rEq (.int a) (.int b) H Q := ⟨rfl, by rw [show decide (V.int a = V.int b) = decide (a = b) by simp]; exact q⟩
theorem rd_neI {a b : Int} (q : Q (.bl (!decide (a = b))) H) : rNe (.int a) (.int b) H Q := ⟨rfl, by rw [show decide (V.int a = V.int b) = decide (a = b) by simp]; exact q⟩
end
/-! the step: all that needs no choice -/
local macro_rules | `(tactic| walk_at "rd") => `(tactic| (repeat (first
  | ((with_reducible refine' rd_var ?h0 ?_); (case h0 => rfl))
  | with_reducible refine rd_c ?_
  | with_reducible refine rd_op ?_
  | with_reducible refine rd_nil ?_
  | with_reducible refine rd_cons ?_
  | with_reducible refine rd_tup ?_
  | with_reducible refine rd_lst ?_
  | with_reducible refine rd_ifs ?_
  | with_reducible refine rd_seq ?_
  | with_reducible refine rd_next ?_
  | with_reducible refine rd_ret ?_
  | with_reducible refine rd_asg ?_
  | with_reducible refine rd_gname ?_
  | with_reducible refine rd_drop ?_
  | with_reducible refine rd_test ?_
  | with_reducible refine rd_B ?_
  | with_reducible refine rd_bl ?_
  | with_reducible refine rd_blP ?_
  | with_reducible refine rd_andV ?_
  | with_reducible refine rd_orV ?_
  | with_reducible refine rd_notV ?_
  | with_reducible refine rd_and ?_
  | with_reducible refine rd_or ?_
  | with_reducible refine rd_not ?_
  | with_reducible refine rd_cb ?_
  | with_reducible refine rd_call ?_
  | with_reducible refine rd_un ?_
  | with_reducible refine rd_sl ?_
  | with_reducible refine rd_nopart ?_
  | with_reducible refine rd_part ?_
  | with_reducible refine rd_intP ?_
  | with_reducible refine rd_rU ?_
  | with_reducible refine rd_fld ?_
  | with_reducible refine rd_eqI ?_
  | with_reducible refine rd_neI ?_
  | with_reducible refine rd_i0 ?_)))
end Mw

/-! MR1 -/
/-! enumerate over a tuple. -/
namespace Mw
open PySem PySem.Spec PyProof.Rows L2
section
variable {prog : Program} {w : World} {A : Around} {E : Value → Shared → Prop} {s : Shared}
/-- a tuple's own iterator, as something that is drawn from -/
theorem drawsT (hh : A.handled = none) {it a : Addr} {items : Array Value} (hne : a ≠ it) :
    Draws prog w A it [it, a] items.size (fun i x => items[i]? = some x) (fun i h => h.IsTupleIter it a i ∧ h.IsTuple a items) where
  live := fun i h st => by
    obtain ⟨⟨o, ho, _⟩, _⟩ := st
    exact ⟨o, ho⟩
  frame := fun i h h' st k => by
    obtain ⟨⟨o, ho, r⟩, ⟨o2, ho2, r2⟩⟩ := st
    exact ⟨⟨o, k it (by simp) o ho, r⟩, ⟨o2, k a (by simp) o2 ho2, r2⟩⟩
  item := fun i s Q E hi st hQ => by
    obtain ⟨h1, h2⟩ := st
    refine RZ.nextOf_tuple_item h1 h2 (x := items[i]) (by simp [hi]) fun h' hit' sb => ?_
    obtain ⟨o2, ho2, r2⟩ := h2
    exact hQ _ h' s.toks (by simp [hi]) ⟨hit', ⟨o2, (sb.2 a hne).trans ho2, r2⟩⟩ sb
  done := fun s Q E st hE => RZ.nextOf_tuple_end hh st.1 st.2 (by simp) hE
theorem enum_newT (l : Addr) (items : Array Value) :
    Meets (Builtin.«enumerate.__new__» ⟨[.type "enumerate", .ref l], []⟩) (fun _ R s => s.heap.IsTuple l items ∧
      R (.ok (.ret (.ref (s.heap.push { cls := .type "tuple_iterator", data := .fields #[.ref l, .int 0 0] }).objs.size)))
        { s with heap := (s.heap.push { cls := .type "tuple_iterator", data := .fields #[.ref l, .int 0 0] }).push { cls := .type "enumerate", data := .fields #[.none, .bool false, .ref s.heap.objs.size, rawInt 0, .none, .none] } }) :=
  .of_wp fun prog w A R s h => by
    obtain ⟨hp, g, d, tk, os⟩ := s
    obtain ⟨hl, h⟩ := h
    have hsub := sub_enumerate
    have hT : Heap.IsTuple (Shared.heap ⟨hp, g, d, tk, os⟩) l items := hl
    wp_walk using wpAny_pyIter_tuple hT
    refine wpAny_stack_any fun st => wpAny_pure ?_
    split
    · rename_i c _ _ _ _ _
      cases (c == Value.type "enumerate")
      all_goals
        wp_walk using wpAny_pyIter_tuple hT
        exact ⟨_, rfl, h⟩
    · wp_walk using wpAny_pyIter_tuple hT
      exact ⟨_, rfl, h⟩
theorem call_enumT {l : Addr} {items : Array Value} {Q : Value → Shared → Prop} (hT : s.heap.IsTuple l items)
    (h : ∀ h', IsEnum h' (s.heap.objs.size + 1) s.heap.objs.size 0 .none → h'.IsTupleIter s.heap.objs.size l 0 →
      (∀ c u, s.heap.get? c = some u → h'.get? c = some u) → Q (.ref (s.heap.objs.size + 1)) { s with heap := h' }) :
    wpAny (model prog w) A (call (.type "enumerate") [.ref l]) Q E s := by
  refine callType_new F.called_enumerate (by decide) (F.typeCall_enumerate_1 _) (F.newCall_enumerate_1 _) (fun o => F.args_object_init_2 o _) F.entry_enumerate_new (enum_newT l items) ⟨hT, ?_⟩
  generalize hit : ({ cls := .type "tuple_iterator", data := .fields #[.ref l, .int 0 0] } : Obj) = oi
  have hz : (s.heap.push oi).objs.size = s.heap.objs.size + 1 := Heap.size_push ..
  show _ ∧ _
  rw [hz]
  have he : IsEnum ((s.heap.push oi).push { cls := .type "enumerate", data := .fields #[.none, .bool false, .ref s.heap.objs.size, rawInt 0, .none, .none] }) (s.heap.objs.size + 1) s.heap.objs.size 0 .none := by
    have q := Heap.get?_push_size (s.heap.push oi) (o := { cls := .type "enumerate", data := .fields #[.none, .bool false, .ref s.heap.objs.size, rawInt 0, .none, .none] }) rfl
    rw [hz] at q
    exact q
  refine ⟨⟨_, he, rfl⟩, h _ he ⟨oi, Heap.get?_push_of_some _ (Heap.get?_push_size _ (by rw [← hit]; rfl)), by rw [← hit], by rw [← hit]; rfl⟩ fun c u x => Heap.get?_push_of_some _ (Heap.get?_push_of_some _ x)⟩
end
/-- the tuple at a, each item in a new pair with its number -/
def IteT (K : PySem.W.Frag) (a : Addr) : It :=
  ⟨fun i H => ∃ (xs : List V) (x : V), SqT K H a xs ∧ xs[i]? = some x, fun i H v H' => ∃ T x, v = .ref T ∧ H T = none ∧ H' = upd H T (.tup [.int (i : Nat), x]) ∧ ∀ ys, SqT K H a ys → ys[i]? = some x,
    fun i H => ∃ xs : List V, SqT K H a xs ∧ xs.length ≤ i⟩
theorem turn_enumT {P : Program} {w : World} {K : PySem.W.Frag} {elts : List Expr} {kk : Nat} {tpos : Pos} (a e it : Addr) (hea : e ≠ a) (hia : a ≠ it) :
    Turn P w K (.Tuple elts kk tpos) (IteT K a) [e, it] e (fun i h => (∃ old, IsEnum h e it ((i : Nat) : Int) old) ∧ h.IsTupleIter it a i ∧ e ≠ it) where
  mem := by simp
  obj := fun i h st b hb => by
    obtain ⟨⟨old, he⟩, ⟨o, ho, hc, hd⟩, _⟩ := st
    have e' : b = e ∨ b = it := by simpa using hb
    rcases e' with z | z
    · rw [z]; exact ⟨_, he, fun v q => nomatch q⟩
    · exact ⟨o, by rw [z]; exact ho, fun v q => by rw [hd] at q; cases q⟩
  keep := fun i h h' st k => by
    obtain ⟨⟨old, he⟩, hi, hne⟩ := st
    exact ⟨⟨old, k e (by simp) _ he⟩, hi.at fun o q => k it (by simp) o q, hne⟩
  item := by
    intro X hP hw hK hc i pins s σ H E I hf st hg
    subst hP hw hK
    obtain ⟨⟨old, he⟩, hit, hne⟩ := st
    obtain ⟨xs, x, hq, hx⟩ := hg
    obtain ⟨its, rv, p, hz⟩ := I.tuple hq
    obtain ⟨u, hu, ru⟩ := rv.get hx
    have hel : e < s.heap.objs.size := Heap.lt_size he
    have hil : it < s.heap.objs.size := by
      obtain ⟨_, q, _⟩ := hit
      exact Heap.lt_size q
    have hT : s.heap.IsTuple a its.toArray := p
    have hlt : i < its.toArray.size := by
      have q := (List.getElem?_eq_some_iff.mp hu).1
      simpa using q
    refine wpAny_pyNext_enum_itemD (drawsT (A := X.A.in1) (prog := X.prog) (w := X.w) (I.ok.hd hc) hia) he ⟨hit, hT⟩ hlt hne (by simp [hne, hea]) fun x' h' tk hx' ho hs' hT' hsz hk => ?_
    obtain rfl : x' = u := by
      have q : its[i]? = some x' := by simpa using hx'
      rw [hu] at q
      exact (Option.some.inj q).symm
    refine ⟨_, rfl, wpAny_letOwnedTupleGo_enum (s := { s with heap := h', toks := tk + 1 }) ho fun h2 he2 sb => ?_⟩
    have hT2 : h2.get? s.heap.objs.size = some { cls := .type "tuple", data := .seq #[.int i tk, x'] } := (sb.2 _ (Nat.ne_of_gt hel)).trans hT'
    have new : ObjOk X.prog X.w (upd H s.heap.objs.size (.tup [.int (i : Nat), x])) h2 s.heap.objs.size (.tup [.int (i : Nat), x]) :=
      ⟨(by decide : 2 ≤ sizeLine), [.int i tk, x'], .cons ⟨_, rfl⟩ (.cons ru .nil), ⟨_, hT2, rfl, _, rfl⟩⟩
    have I1 : Inv X pins σ (upd H s.heap.objs.size (.tup [.int (i : Nat), x])) { s with heap := h2, toks := tk + 1 } :=
      I.turnedNew (ch := [e, it]) (fun b u hb q => (sb.2 b fun z => hb (by simp [z])).trans (hk b u (fun z => hb (by simp [z])) (fun z => hb (by simp [z])) q)) hf (Nat.le_refl _) new
    refine ⟨.ref s.heap.objs.size, _, I1, rfl, ⟨_, x, rfl, I.hok.fresh (Nat.le_refl _), rfl, fun ys hy => by rw [I.tuple_inj hy hq]; exact hx⟩, ⟨⟨x', ?_⟩, hs'.1.at fun o q => (sb.2 it (Ne.symm hne)).trans q, hne⟩, fun b hb => ?_⟩
    · rw [show ((i + 1 : Nat) : Int) = (i : Int) + 1 by omega]
      exact he2
    · have hb' : b < s.heap.objs.size := by
        have e' : b = e ∨ b = it := by simpa using hb
        rcases e' with z | z <;> rw [z] <;> assumption
      rw [upd_ne (Nat.ne_of_lt hb')]
      exact (hf b hb).1
  done := by
    intro X hP hw hK hc i pins s σ H E I hf st hg
    subst hP hw hK
    obtain ⟨⟨old, he⟩, hit, hne⟩ := st
    obtain ⟨xs, hq, hx⟩ := hg
    obtain ⟨its, rv, p, hz⟩ := I.tuple hq
    obtain ⟨f0, f1, f2, f3, f4, f5⟩ := hf it (by simp)
    have hl := rv.length
    have hT : s.heap.IsTuple a its.toArray := p
    have D : Draws X.prog X.w X.A.in1 it [it, a] i (fun _ _ => False) (fun j h => j = i ∧ h.IsTupleIter it a i ∧ h.IsTuple a its.toArray) := {
      live := fun j h st => (drawsT (A := X.A.in1) (prog := X.prog) (w := X.w) (items := its.toArray) (I.ok.hd hc) hia).live i h st.2
      frame := fun j h h' st k => ⟨st.1, (drawsT (A := X.A.in1) (prog := X.prog) (w := X.w) (items := its.toArray) (I.ok.hd hc) hia).frame i h h' st.2 k⟩
      item := fun j s Q E hj st hQ => absurd hj (by rw [st.1]; omega)
      done := fun s Q E st hE => RZ.nextOf_tuple_end (I.ok.hd hc) st.2.1 st.2.2 (by simp; omega) hE }
    exact wpAny_pyNext_enum_endD D he ⟨rfl, hit, hT⟩ fun h' eb => ⟨rfl, I.turned (t' := s.toks) (fun b o hb q => eb b o hb q) f0 f1 f3 f4 f5⟩
  self := fun A i s Q E st h => by
    obtain ⟨⟨_, he⟩, _⟩ := st
    exact wpAny_pyIter_enum he h
def iEnumT (K : PySem.W.Frag) (ta : TA) : TI := fun σ H R => ta σ H fun vs H1 => ∃ a xs, vs = [.ref a] ∧ SqT K H1 a xs ∧ R (IteT K a) H1
theorem pi_enumT {X : Cx} {e : Expr} {ta : TA} {p pos tpos : Pos} {elts : List Expr} {kk : Nat} (hg : Gl X "enumerate") (hm : X.mg "enumerate" = none) (ha : PA X [e] ta) (hs : starEach [e] X.env = [(false, eval e X.env)] := by rfl) :
    PI X (.Tuple elts kk tpos) (.Call (.Name "enumerate" p) [e] [] pos) (iEnumT X.K ta) := by
  refine ⟨fun pins s σ H R I h => ?_⟩
  refine Call_ (ld_blt I hg hm boot_enumerate (PyProof.Rows.callWith_type1 (thn (ha.run pos pins s σ H _ I h) fun us s1 hh => ?_) hs rfl))
  obtain ⟨vs, H1, I1, r1, a, xs, ex, hq, q⟩ := hh
  subst ex
  cases r1 with
  | cons r rr =>
    cases rr
    cases r
    obtain ⟨its, rv, p1, hz⟩ := I1.tuple hq
    have hT : s1.heap.IsTuple a its.toArray := p1
    have hal : a < s1.heap.objs.size := by
      obtain ⟨o, ho, _⟩ := id hT
      exact Heap.lt_size ho
    refine call_enumT hT fun h' he hit hk => wpAny_pyIter_enum he ?_
    have I2 : Inv X pins σ H1 { s1 with heap := h' } := I1.kept (t' := s1.toks) hk
    refine ⟨s1.heap.objs.size + 1, [s1.heap.objs.size + 1, s1.heap.objs.size], _, _, H1, rfl, I2, turn_enumT a (s1.heap.objs.size + 1) s1.heap.objs.size (Nat.ne_of_gt (Nat.lt_succ_of_lt hal)) (Nat.ne_of_lt hal), ⟨⟨.none, he⟩, hit, Nat.succ_ne_self _⟩, fun b hb => ?_, q⟩
    have e' : b = s1.heap.objs.size + 1 ∨ b = s1.heap.objs.size := by simpa using hb
    have hle : s1.heap.objs.size ≤ b := by
      rcases e' with z | z
      · exact Nat.le_trans (Nat.le_succ _) (Nat.le_of_eq z.symm)
      · exact Nat.le_of_eq z.symm
    exact I1.fpOk hle (I1.hok.fresh hle)
/-- a loop over it -/
theorem for_enumT {K : PySem.W.Frag} {a : Addr} {xs : List V} {g : TG} {tb : TS} {D : Ends} {σ : L2.St} {H : Hp} (Pv : Nat → L2.St → Hp → Prop) (h0 : Pv 0 σ H) (hl : ∀ i σ H, Pv i σ H → SqT K H a xs)
    (hs : ∀ i x T σ H, xs[i]? = some x → Pv i σ H → H T = none → g (.ref T) σ (upd H T (.tup [.int (i : Nat), x])) fun σ2 H2 => tb { D with nx := Pv (i + 1), ct := Pv (i + 1), bk := D.nx } σ2 H2) (hd : ∀ σ H, Pv xs.length σ H → D.nx σ H) :
    ∃ W : Nat → Nat → L2.St → Hp → Prop, (∃ m, W 0 m σ H) ∧ ∀ i m σ H, W i m σ H →
      ((IteT K a).stop i H ∧ D.nx σ H) ∨ ((IteT K a).go i H ∧ ∃ N : L2.St → Hp → Prop, (∀ σ' H', N σ' H' → ∃ m', m' < m ∧ W (i + 1) m' σ' H') ∧ ∀ x H', (IteT K a).yld i H x H' → g x σ H' fun σ2 H2 => tb { D with nx := N, ct := N, bk := D.nx } σ2 H2) := by
  refine ⟨fun i m σ H => m + i = xs.length ∧ Pv i σ H, ⟨xs.length, rfl, h0⟩, ?_⟩
  rintro i m σ H ⟨hm, pv⟩
  have q := hl i σ H pv
  cases m with
  | zero =>
    have e : i = xs.length := by omega
    subst e
    exact .inl ⟨⟨xs, q, Nat.le_refl _⟩, hd σ H pv⟩
  | succ m =>
    have hlt : i < xs.length := by omega
    have hx : xs[i]? = some xs[i] := by simp [hlt]
    refine .inr ⟨⟨xs, xs[i], q, hx⟩, Pv (i + 1), fun σ' H' p' => ⟨m, by omega, by omega, p'⟩, fun v H' y => ?_⟩
    obtain ⟨T, x, ev, hT, eH, hy⟩ := y
    subst ev eH
    have hx2 := hy xs q
    exact hs i x T σ H hx2 pv hT
end Mw

/-! MR2 -/
/-! An own error whose __init__ only passes; is of a flag; == by an own __eq__ with both answers. -/
namespace Mw
open PySem PySem.Spec PyProof.Rows L2
abbrev Sl := L2.St
/-- C(), its own __init__ keeping sp: it takes the new exception and leaves all as it was -/
def tMkP (C : Addr) (sp : Sp) : Sl → Hp → XK → Prop := fun _ H Q => ∀ a, H a = none → sp [.ref a] (upd H a (exo a C none)) (fun v H2 => v = .non ∧ H2 = upd H a (exo a C none)) (fun _ _ _ => False) ∧ Q (.ref C) none H
theorem mkP_end {X : Cx} {pins : List (Addr × Obj)} {σ : Sl} {H : Hp} {Q : XK} {hp hp2 h2 : Heap} {g1 g2 : Array GenState} {d1 d2 : Drawn} {t1 t2 : Nat} {os1 os2 : OsState} {a C : Addr} (T : Raises X (.ref C)) (I : Inv X pins σ H ⟨hp, g1, d1, t1, os1⟩)
    (ha : hp.objs.size ≤ a) (k : ∀ c u, hp.get? c = some u → hp2.get? c = some u) (un : Un (frs X.stack) [] (upd H a (exo a C none)) (upd H a (exo a C none)) hp2 h2) (hok : HOk X.prog X.w (upd H a (exo a C none)) h2) (ho : os2 = os1) (hb : AllBare g2)
    (q : Q (.ref C) none H) : MkP X pins σ Q (.ref a) ⟨h2, g2, d2, t2, os2⟩ := by
  obtain ⟨t0, hoe⟩ := exo_at hok (upd_same (H := H) (a := a) (o := exo a C none))
  have hn : H a = none := I.hok.fresh ha
  obtain ⟨G, y1, y2⟩ := restrict h2 fun c => decide (c ≠ a)
  have gk : ∀ c, c ≠ a → G.get? c = h2.get? c := fun c hc => y1 c (decide_eq_true hc)
  have ge : G.get? a = none := y2 a (by simp)
  have nha : ∀ {c : Addr} {u : Obj}, hp.get? c = some u → c ≠ a := fun {c u} z => Nat.ne_of_lt (Nat.lt_of_lt_of_le (Heap.lt_size z) ha)
  have up : ∀ {c : Addr}, c ≠ a → H c = none → upd H a (exo a C none) c = none := fun {c} hc n => (upd_ne hc).trans n
  have U : Un (frs X.stack) [] H H hp G := {
    keep := fun c u z n hf hx => (gk c (nha z)).trans (un.keep c u (k c u z) (up (nha z) n) hf hx)
    slot := fun c u z n hf hx => by
      obtain ⟨sl, e⟩ := un.slot c u (k c u z) (up (nha z) n) hf hx
      exact ⟨sl, (gk c (nha z)).trans e⟩
    free := fun _ _ _ n _ => n
    there := fun c u z hx => by
      obtain ⟨u', e⟩ := un.there c u (k c u z) hx
      exact ⟨u', (gk c (nha z)).trans e⟩
    tups := fun _ _ z => z
    frzs := fun _ _ _ z => z
    tbls := fun _ ps z => ⟨#[], by rw [z]; simp⟩ }
  have hok3 : HOk X.prog X.w H G := fun c o z => by
    have hca : c ≠ a := ne_of_none z hn
    have z2 : upd H a (exo a C none) c = some o := (upd_ne hca).trans z
    have noa : ∀ {x : Addr} {u : HO}, upd H a (exo a C none) x = some u → u ≠ exo a C none → x ≠ a := fun {x u} hx hu e => hu (by rw [e, upd_same] at hx; exact (Option.some.inj hx).symm)
    refine (hok c o z2).stay (fun x v hx y => ?_) (fun x hx => ?_) (fun x xs hx => ?_)
    · have hxa : x ≠ a := by
        rcases hx with hx | hx
        · rw [hx]
          exact hca
        · exact noa hx (Ne.symm exo_own)
      exact (gk x hxa).trans y
    · exact (upd_ne (noa hx (Ne.symm exo_own))).symm.trans hx
    · exact (upd_ne (noa hx (Ne.symm exo_tup))).symm.trans hx
  have J : Inv X pins σ H ⟨G, g2, d2, t2, os2⟩ := I.call' (ch := []) ho U hok3 hb (fun c z => absurd z (by simp))
  refine ⟨a, _, _, ⟨G, g2, d2, t2, os2⟩, H, .ref C, none, rfl, J, fun c u z => ?_, ge, hoe, ⟨rfl, rfl⟩, rfl, rfl, hn, rfl, hb, T, q⟩
  by_cases hca : c = a
  · rw [hca, ge] at z
    cases z
  · exact (gk c hca).symm.trans z
theorem pmk_pass {X : Cx} {CX : CXT} {x : Str} {C fI : Addr} {k : Nat} {fd : FuncData} {ps : List Str} {sp : Sp} {p pos : Pos} (T : OexC X.K C) (iC : PySem.W.findIn X.K (.ref C) "__init__" = some (some (.ref fI))) (tI : PySem.W.typeIn X.K (.ref fI) = some (.type "function"))
    (F1 : FnOk X.prog X.w X.K X.mg X.base CX k fI fd ps sp) (hr : Room (k + 1) X.A) (hb : Binds X.K fd ps []) (hx : Passes CX X (fun _ _ _ => False)) (hg : Gl X x) (hm : X.mg x = some (.ref C))
    (hdb : (x == ("__debug__" : Str)) = false := by decide) : PMk X (.Call (.Name x p) [] [] pos) (tMkP C sp) := by
  intro pins s σ H Q I h
  obtain ⟨nm, q, N, bs, bm, sn, sub, ab, col, dd, k0, k1, k2, k3, k5, hC, hbm⟩ := T.cls
  refine wpAny_Call_Name_kw (ld_glob I hg hm ?_ hdb)
  refine PySem.W.callWith_K0 I.kIn T.kC ?_
  obtain ⟨hp, g, dr, tk, os⟩ := s
  have hsz : hp.objs.size ≤ hp.objs.size + 1 := Nat.le_succ _
  obtain ⟨hq, hQ⟩ := h (hp.objs.size + 1) (I.hok.fresh hsz)
  have kk : ∀ c u, hp.get? c = some u → ((hp.push (PySem.W.kdv_tup [])).push (PySem.HandSPX.excO C hp.objs.size)).get? c = some u := fun c u e => Heap.get?_push_of_some _ (Heap.get?_push_of_some _ e)
  have hget : ((hp.push (PySem.W.kdv_tup [])).push (PySem.HandSPX.excO C hp.objs.size)).get? (hp.objs.size + 1) = some (PySem.HandSPX.excO C hp.objs.size) := by heap_get
  have I2 : Inv X pins σ (upd H (hp.objs.size + 1) (exo (hp.objs.size + 1) C none)) ⟨(hp.push (PySem.W.kdv_tup [])).push (PySem.HandSPX.excO C hp.objs.size), g, dr, tk, os⟩ :=
    I.laid (t' := tk) (a := hp.objs.size + 1) (o := exo (hp.objs.size + 1) C none) (h' := (hp.push (PySem.W.kdv_tup [])).push (PySem.HandSPX.excO C hp.objs.size)) kk hsz (exo_ok hget)
  have hl : [Value.ref (hp.objs.size + 1)].length = ps.length := (F1.len _ _ _ _ hq)
  refine wpAny_call (PySem.HandSPX.call_own F.excBase_ValueError (fun Y => PySem.HandSPX.refsVE_contains Y bm hbm) (I.kIn _ _ hC) (PySem.W.looks_findIn I.kIn iC) (fun self => PySem.W.bind_fn I.kIn self tI) (by show 0 ≤ sizeLine; exact Nat.zero_le _)
    (codeAny_mono (F1.run _ X.stack _ _ ⟨[Value.ref (hp.objs.size + 1)], []⟩ [Value.ref (hp.objs.size + 1)] [V.ref (hp.objs.size + 1)] _ (fun _ _ _ => False) (hr.make C [] []) (I2.env0.make C [] []) (by
      have b := hb _ [Value.ref (hp.objs.size + 1)] I2.kIn hl
      simpa using b) (show Vals [V.ref _] [Value.ref _] from .cons rfl .nil) hq) fun r s' hq' => ?_))
  cases r with
  | error er => exact hx pins σ _ _ er s' I2 hq'
  | ok fl =>
    cases fl with
    | ret u =>
      obtain ⟨v, H2, os2, bare2, un2, hok2, rv, ev, eH⟩ := hq'
      subst ev eH
      obtain ⟨h2, g2, d2, t2, os'⟩ := s'
      exact ⟨rv, mkP_end (raises_own T.exC T.tyC) I hsz kk un2 hok2 os2 bare2 hQ⟩
    | next => exact False.elim hq'
    | brk => exact False.elim hq'
    | cont => exact False.elim hq'

/-! ### is True, is False -/
theorem is_flag {X : Cx} {b : Bool} : OpR X (compareOp .Is) (fun x y H Q => y = .bl b ∧ Q (.bl (decide (x = .bl b))) H) := by
  intro pins s σ H x y v u Q I rx ry h
  obtain ⟨rfl, q⟩ := h
  cases (show u = Value.bool b from ry)
  by_cases e : x = .bl b
  · subst e
    cases (show v = Value.bool b from rx)
    exact wpAny_is_self rfl ⟨.bl true, H, I, rfl, by simpa using q⟩
  · have q' : Q (.bl false) H := by simpa [e] using q
    cases x with
    | bl c =>
      cases (show v = Value.bool c from rx)
      exact wpAny_is_other rfl (fun z => e (by cases z; rfl)) ⟨.bl false, H, I, rfl, q'⟩
    | int i =>
      obtain ⟨_, z⟩ := (show ∃ t, v = Value.int i t from rx)
      subst z
      exact wpAny_is_other rfl (fun z => nomatch z) ⟨.bl false, H, I, rfl, q'⟩
    | str i =>
      obtain ⟨_, z⟩ := (show ∃ t, v = Value.str i t from rx)
      subst z
      exact wpAny_is_other rfl (fun z => nomatch z) ⟨.bl false, H, I, rfl, q'⟩
    | byt i =>
      obtain ⟨_, z⟩ := (show ∃ t, v = Value.bytes i t from rx)
      subst z
      exact wpAny_is_other rfl (fun z => nomatch z) ⟨.bl false, H, I, rfl, q'⟩
    | flt i =>
      obtain ⟨_, z⟩ := (show ∃ t, v = Value.float i t from rx)
      subst z
      exact wpAny_is_other rfl (fun z => nomatch z) ⟨.bl false, H, I, rfl, q'⟩
    | non =>
      cases (show v = Value.none from rx)
      exact wpAny_is_other rfl (fun z => nomatch z) ⟨.bl false, H, I, rfl, q'⟩
    | ref i =>
      cases (show v = Value.ref i from rx)
      exact wpAny_is_other rfl (fun z => nomatch z) ⟨.bl false, H, I, rfl, q'⟩
    | ty i =>
      cases (show v = Value.type i from rx)
      exact wpAny_is_other rfl (fun z => nomatch z) ⟨.bl false, H, I, rfl, q'⟩

/-! ### == by an own __eq__ of the class at C, whatever it answers -/
/-- what __eq__ promises: of the instance at a and the value y it answers r -/
def spEq2 (R : Addr → V → Hp → Bool → Prop) : Sp := fun vs H Q _ => ∃ a y r, vs = [.ref a, y] ∧ R a y H r ∧ Q (.bl r) H
/-- the left one an instance of C, the right one another such or a tuple -/
def rEqI (C : Addr) (R : Addr → V → Hp → Bool → Prop) : R2 := fun x y H Q => ∃ a b dx fs r, x = .ref a ∧ y = .ref b ∧ H a = some (.ins C dx fs) ∧ ((∃ dy gs, H b = some (.ins C dy gs)) ∨ ∃ ys, H b = some (.tup ys)) ∧ R a y H r ∧ Q (.bl r) H
theorem op_eqI {X : Cx} {CX : CXT} {n : Nat} {C f : Addr} {fd : FuncData} {ps : List Str} {R : Addr → V → Hp → Bool → Prop} {E : XK} (F : FnOk X.prog X.w X.K X.mg X.base CX n f fd ps (spEq2 R)) (hr : Room n X.A)
    (hs : PySem.W.findIn X.K (.ref C) "__eq__" = some (some (.ref f))) (hf : PySem.W.isFn X.K (.ref f) = true) (hb : Binds X.K fd ps []) (hx : Passes CX X E) (hn : PySem.W.notFirst X.K C (.type "tuple") = true) : OpR X (compareOp .Eq) (rEqI C R) := by
  intro pins s σ H x y u v Q I rx ry h
  obtain ⟨a, b, dx, fs, r0, rfl, rfl, ha, hb', hR, q⟩ := h
  cases rx
  cases ry
  have hsp : spEq2 R [.ref a, .ref b] H Q E := ⟨a, _, r0, rfl, hR, q⟩
  have hl := F.len _ _ _ _ hsp
  have r2 : Vals [V.ref a, V.ref b] [Value.ref a, Value.ref b] := .cons rfl (.cons rfl .nil)
  have go : wpAny (model X.prog X.w) X.A (call (.ref f) [.ref a, .ref b]) (PySem.W.CmpBack (EP X pins σ Q)) X.xe s := by
    refine wpAny_call (codeAny_mono (F.run X.A X.stack s H ⟨[.ref a, .ref b], []⟩ [.ref a, .ref b] [.ref a, .ref b] (fun z H' => (∃ c, z = .bl c) ∧ Q z H') E hr I.env0 (by
      have z := hb s [.ref a, .ref b] I.kIn (by simpa using hl)
      simpa using z) r2 ⟨a, _, r0, rfl, hR, ⟨_, rfl⟩, q⟩) fun r s' hq => ?_)
    cases r with
    | error e => exact hx pins σ H s e s' I hq
    | ok fl =>
      cases fl with
      | ret w =>
        obtain ⟨z, H', I', rz, ⟨c, ez⟩, q'⟩ := I.after hq
        subst ez
        cases rz
        exact ⟨V.bl c, H', I', rfl, q'⟩
      | next => exact False.elim hq
      | brk => exact False.elim hq
      | cont => exact False.elim hq
  obtain ⟨mA, J, _⟩ := ins_get I.hok ha
  obtain ⟨od, J, _⟩ := J.look
  obtain ⟨m, hF⟩ := I.fr
  rcases hb' with ⟨dy, gs, hb'⟩ | ⟨ys, hb'⟩
  · obtain ⟨mB, J', _⟩ := ins_get I.hok hb'
    obtain ⟨od', J', _⟩ := J'.look
    exact PySem.W.cmp_K (op := .Eq) (tb := .ref C) hr.units0 hF I.ok.mod.kin J J'.type (by simp [PySem.W.notFirst]) hs hf go
  · obtain ⟨P, Z, p, _⟩ := kit_of I (show L2.RelV (V.ref b) (Value.ref b) from rfl) (TyX.base (TyOf.tup hb'))
    exact PySem.W.cmp_K (op := .Eq) (tb := .type "tuple") hr.units0 hF I.ok.mod.kin J (Z.ty _ _ I.kIn p) hn hs hf go
end Mw

/-! M1 -/
/-! Data: what stands behind a value, apart from one object p (the hand) that may change. -/
namespace Mw
open PySem L2
/-- an object at a, not the one at p -/
def At (p : Addr) (H : Hp) (a : Addr) (o : HO) : Prop := a ≠ p ∧ H a = some o
/-- all but the object at p is as it was -/
def Keep (p : Addr) (H H' : Hp) : Prop := ∀ a o, a ≠ p → H a = some o → H' a = some o
theorem Keep.refl {p : Addr} {H : Hp} : Keep p H H := fun _ _ _ h => h
theorem Keep.trans {p : Addr} {H H1 H2 : Hp} (x : Keep p H H1) (y : Keep p H1 H2) : Keep p H H2 := fun a o n h => y a o n (x a o n h)
theorem Keep.same {p : Addr} {H H1 : Hp} (x : Same H H1) : Keep p H H1 := fun a o _ h => x a o h
theorem Keep.new {p q : Addr} {H : Hp} {o : HO} (h : H q = none) : Keep p H (upd H q o) := fun a u _ e => (upd_ne (ne_of_none e h)).trans e
theorem Keep.put {p q : Addr} {H H1 : Hp} {o : HO} (x : Keep p H H1) (h : H1 q = none) : Keep p H (upd H1 q o) := x.trans (Keep.new h)
theorem Keep.mut {p : Addr} {H : Hp} {o : HO} : Keep p H (upd H p o) := fun a u n e => (upd_ne n).trans e
theorem Same.put {q : Addr} {H H1 : Hp} {o : HO} (x : Same H H1) (h : H1 q = none) : Same H (upd H1 q o) := fun a u e => (upd_ne (ne_of_none (x a u e) h)).trans (x a u e)
theorem same_new {q : Addr} {H : Hp} {o : HO} (h : H q = none) : Same H (upd H q o) := fun _ _ e => (upd_ne (ne_of_none e h)).trans e
theorem At.keep {p a : Addr} {H H' : Hp} {o : HO} (x : At p H a o) (k : Keep p H H') : At p H' a o := ⟨x.1, k a o x.1 x.2⟩
theorem At.new {p a : Addr} {H : Hp} {o u : HO} (hp : H p = some u) (h : H a = none) : At p (upd H a o) a o := ⟨(ne_of_none hp h).symm, upd_same⟩
/-- what isinstance asks of the class at C -/
structure WebTy (K : PySem.W.Frag) (C : Addr) : Prop where
  cl : Cls K C
  ca : PySem.W.findIn K (.ref C) "__class__" = some (some (.builtin "object.__class__"))
  cg : PySem.W.specialIn K (.builtin "object.__class__") "__get__" = some (some (.builtin "getset_descriptor.__get__"))
  ct : PySem.W.takesIn K (.builtin "object.__class__") = some true
  co : PySem.W.mroIn K C (.type "object") = some true
  ki : PySem.W.kitOne K (.ref C) (.type "int") = some false
  kb : PySem.W.kitOne K (.ref C) (.type "bool") = some false
  kt : PySem.W.kitOne K (.ref C) (.type "tuple") = some false
  kl : PySem.W.kitOne K (.ref C) (.type "list") = some false
  ks : PySem.W.kitOne K (.ref C) (.type "str") = some false
/-- a thing that is none of the judged kinds: an empty dict, an instance of the class at C -/
def Oth (C p : Addr) (H : Hp) (v : V) : Prop := ∃ a, v = .ref a ∧ a ≠ p ∧ (H a = some (.dK []) ∨ ∃ dx fs, H a = some (.ins C dx fs))
mutual
def Tp (C p : Addr) (H : Hp) : PyData → V → Prop
  | .none, v => v = .non
  | .bool b, v => v = .bl b
  | .int i, v => v = .int i
  | .str s, v => v = .str s
  | .list ds, v => ∃ a xs, v = .ref a ∧ a ≠ p ∧ H a = some (.lst xs) ∧ TpAll C p H ds xs
  | .tuple ds, v => ∃ a xs, v = .ref a ∧ a ≠ p ∧ H a = some (.tup xs) ∧ TpAll C p H ds xs
  | .dict _, v => Oth C p H v
def TpAll (C p : Addr) (H : Hp) : List PyData → List V → Prop
  | [], xs => xs = []
  | d :: ds, xs => ∃ x r, xs = x :: r ∧ Tp C p H d x ∧ TpAll C p H ds r
end
section
variable {C p : Addr} {H H' : Hp} {K : PySem.W.Frag}
mutual
theorem Tp.keep (k : Keep p H H') : ∀ (d : PyData) (v : V), Tp C p H d v → Tp C p H' d v
  | .none, v, h => by simpa only [Tp] using h
  | .bool b, v, h => by simpa only [Tp] using h
  | .int i, v, h => by simpa only [Tp] using h
  | .str s, v, h => by simpa only [Tp] using h
  | .list ds, v, h => by
    simp only [Tp] at h ⊢
    obtain ⟨a, xs, e, n, ha, r⟩ := h
    exact ⟨a, xs, e, n, k a _ n ha, TpAll.keep k ds xs r⟩
  | .tuple ds, v, h => by
    simp only [Tp] at h ⊢
    obtain ⟨a, xs, e, n, ha, r⟩ := h
    exact ⟨a, xs, e, n, k a _ n ha, TpAll.keep k ds xs r⟩
  | .dict _, v, h => by
    simp only [Tp] at h ⊢
    obtain ⟨a, e, n, ha | ⟨dx, fs, ha⟩⟩ := h
    · exact ⟨a, e, n, .inl (k a _ n ha)⟩
    · exact ⟨a, e, n, .inr ⟨dx, fs, k a _ n ha⟩⟩
theorem TpAll.keep (k : Keep p H H') : ∀ (ds : List PyData) (xs : List V), TpAll C p H ds xs → TpAll C p H' ds xs
  | [], xs, h => by simpa only [TpAll] using h
  | d :: ds, xs, h => by
    simp only [TpAll] at h ⊢
    obtain ⟨x, r, e, h1, h2⟩ := h
    exact ⟨x, r, e, Tp.keep k d x h1, TpAll.keep k ds r h2⟩
end
theorem tpAll_iff : ∀ (ds : List PyData) (xs : List V), TpAll C p H ds xs ↔ ds.length = xs.length ∧ ∀ (i : Nat) d x, ds[i]? = some d → xs[i]? = some x → Tp C p H d x
  | [], xs => by
    simp only [TpAll]
    constructor
    · rintro rfl
      exact ⟨rfl, fun i d x h _ => by simp at h⟩
    · rintro ⟨h, _⟩
      exact List.length_eq_zero_iff.mp h.symm
  | d :: ds, xs => by
    simp only [TpAll]
    constructor
    · rintro ⟨x, r, rfl, h1, h2⟩
      obtain ⟨hl, hi⟩ := (tpAll_iff ds r).mp h2
      refine ⟨by simp [hl], fun i d' x' e1 e2 => ?_⟩
      cases i with
      | zero =>
        simp only [List.getElem?_cons_zero, Option.some.injEq] at e1 e2
        subst e1 e2
        exact h1
      | succ i =>
        simp only [List.getElem?_cons_succ] at e1 e2
        exact hi i d' x' e1 e2
    · rintro ⟨hl, hi⟩
      cases xs with
      | nil => simp at hl
      | cons x r => exact ⟨x, r, rfl, hi 0 d x rfl rfl, (tpAll_iff ds r).mpr ⟨by simpa using hl, fun i d' x' e1 e2 => hi (i + 1) d' x' (by simpa using e1) (by simpa using e2)⟩⟩
theorem TpAll.len {ds : List PyData} {xs : List V} (h : TpAll C p H ds xs) : ds.length = xs.length := ((tpAll_iff ds xs).mp h).1
theorem TpAll.get {ds : List PyData} {xs : List V} (h : TpAll C p H ds xs) {i : Nat} {d : PyData} (e : ds[i]? = some d) : ∃ x, xs[i]? = some x ∧ Tp C p H d x := by
  obtain ⟨hl, hi⟩ := (tpAll_iff ds xs).mp h
  have hlt := (List.getElem?_eq_some_iff.mp e).1
  have hx : xs[i]? = some (xs[i]'(by omega)) := by simp [show i < xs.length by omega]
  exact ⟨_, hx, hi i d _ e hx⟩
theorem TpAll.get' {ds : List PyData} {xs : List V} (h : TpAll C p H ds xs) {i : Nat} {x : V} (e : xs[i]? = some x) : ∃ d, ds[i]? = some d ∧ Tp C p H d x := by
  obtain ⟨hl, hi⟩ := (tpAll_iff ds xs).mp h
  have hlt := (List.getElem?_eq_some_iff.mp e).1
  have hx : ds[i]? = some (ds[i]'(by omega)) := by simp [show i < ds.length by omega]
  exact ⟨_, hx, hi i _ x hx e⟩
theorem TpAll.append {ds es : List PyData} {xs ys : List V} (h1 : TpAll C p H ds xs) (h2 : TpAll C p H es ys) : TpAll C p H (ds ++ es) (xs ++ ys) := by
  induction ds generalizing xs with
  | nil =>
    simp only [TpAll] at h1
    subst h1
    exact h2
  | cons d ds ih =>
    simp only [TpAll] at h1
    obtain ⟨x, r, rfl, a, b⟩ := h1
    show TpAll C p H (d :: (ds ++ es)) _
    simp only [TpAll]
    exact ⟨x, r ++ ys, rfl, a, ih b⟩
theorem TpAll.take {ds : List PyData} {xs : List V} (h : TpAll C p H ds xs) (n : Nat) : TpAll C p H (ds.take n) (xs.take n) := by
  obtain ⟨hl, hi⟩ := (tpAll_iff ds xs).mp h
  refine (tpAll_iff _ _).mpr ⟨by simp [hl], fun i d x e1 e2 => ?_⟩
  rw [List.getElem?_take] at e1 e2
  by_cases q : i < n
  · rw [if_pos q] at e1 e2
    exact hi i d x e1 e2
  · rw [if_neg q] at e1
    cases e1
theorem TpAll.drop {ds : List PyData} {xs : List V} (h : TpAll C p H ds xs) (n : Nat) : TpAll C p H (ds.drop n) (xs.drop n) := by
  obtain ⟨hl, hi⟩ := (tpAll_iff ds xs).mp h
  refine (tpAll_iff _ _).mpr ⟨by simp [hl], fun i d x e1 e2 => ?_⟩
  rw [List.getElem?_drop] at e1 e2
  exact hi _ d x e1 e2
theorem tpAll_nil : TpAll C p H [] [] := by simp only [TpAll]
theorem tpAll_cons {d : PyData} {ds : List PyData} {x : V} {xs : List V} (h1 : Tp C p H d x) (h2 : TpAll C p H ds xs) : TpAll C p H (d :: ds) (x :: xs) := by
  simp only [TpAll]
  exact ⟨x, xs, rfl, h1, h2⟩
theorem tp_int {i : Int} : Tp C p H (.int i) (.int i) := by simp only [Tp]
theorem tp_str {s : Str} : Tp C p H (.str s) (.str s) := by simp only [Tp]
theorem tp_bl {b : Bool} : Tp C p H (.bool b) (.bl b) := by simp only [Tp]
theorem tp_non : Tp C p H .none .non := by simp only [Tp]
theorem tp_tup {a : Addr} {ds : List PyData} {xs : List V} (h : At p H a (.tup xs)) (r : TpAll C p H ds xs) : Tp C p H (.tuple ds) (.ref a) := by
  simp only [Tp]
  exact ⟨a, xs, rfl, h.1, h.2, r⟩
theorem tp_lst {a : Addr} {ds : List PyData} {xs : List V} (h : At p H a (.lst xs)) (r : TpAll C p H ds xs) : Tp C p H (.list ds) (.ref a) := by
  simp only [Tp]
  exact ⟨a, xs, rfl, h.1, h.2, r⟩
theorem tp_tup' {v : V} {ds : List PyData} (h : Tp C p H (.tuple ds) v) : ∃ a xs, v = .ref a ∧ At p H a (.tup xs) ∧ TpAll C p H ds xs := by
  simp only [Tp] at h
  obtain ⟨a, xs, e, n, ha, r⟩ := h
  exact ⟨a, xs, e, ⟨n, ha⟩, r⟩
theorem tp_int' {v : V} {i : Int} (h : Tp C p H (.int i) v) : v = .int i := by simpa only [Tp] using h
theorem tp_str' {v : V} {i : Str} (h : Tp C p H (.str i) v) : v = .str i := by simpa only [Tp] using h

/-! ### kinds -/
def isI : PyData → Bool | .int _ => true | .bool _ => true | _ => false
def isB : PyData → Bool | .bool _ => true | _ => false
def isT : PyData → Bool | .tuple _ => true | _ => false
def isL : PyData → Bool | .list _ => true | _ => false
def isS : PyData → Bool | .str _ => true | _ => false
/-- an integer (no flag) within bounds -/
def inI (lo hi : Int) : PyData → Bool | .int i => decide (lo ≤ i) && decide (i ≤ hi) | _ => false
def isInt : PyData → Bool | .int _ => true | _ => false
theorem Tp.ty (W : WebTy K C) (d : PyData) (v : V) (h : Tp C p H d v) : ∃ t, TyX K H v t ∧ PySem.W.kitOne K t (.type "int") = some (isI d) ∧ PySem.W.kitOne K t (.type "bool") = some (isB d) ∧ PySem.W.kitOne K t (.type "tuple") = some (isT d) ∧
    PySem.W.kitOne K t (.type "list") = some (isL d) ∧ PySem.W.kitOne K t (.type "str") = some (isS d) := by
  cases d with
  | none =>
    simp only [Tp] at h
    subst h
    exact ⟨_, .base .non, kit_ty (show kitB "NoneType" "int" = some false from by decide +kernel), kit_ty (show kitB "NoneType" "bool" = some false from by decide +kernel), kit_ty (show kitB "NoneType" "tuple" = some false from by decide +kernel), kit_ty (show kitB "NoneType" "list" = some false from by decide +kernel), kit_ty (show kitB "NoneType" "str" = some false from by decide +kernel)⟩
  | bool b =>
    simp only [Tp] at h
    subst h
    exact ⟨_, .base (.bl b), kit_ty (show kitB "bool" "int" = some true from by decide +kernel), kit_ty (show kitB "bool" "bool" = some true from by decide +kernel), kit_ty (show kitB "bool" "tuple" = some false from by decide +kernel), kit_ty (show kitB "bool" "list" = some false from by decide +kernel), kit_ty (show kitB "bool" "str" = some false from by decide +kernel)⟩
  | int i =>
    simp only [Tp] at h
    subst h
    exact ⟨_, .base (.int i), kit_ty (show kitB "int" "int" = some true from by decide +kernel), kit_ty (show kitB "int" "bool" = some false from by decide +kernel), kit_ty (show kitB "int" "tuple" = some false from by decide +kernel), kit_ty (show kitB "int" "list" = some false from by decide +kernel), kit_ty (show kitB "int" "str" = some false from by decide +kernel)⟩
  | str s =>
    simp only [Tp] at h
    subst h
    exact ⟨_, .base (.str s), kit_ty (show kitB "str" "int" = some false from by decide +kernel), kit_ty (show kitB "str" "bool" = some false from by decide +kernel), kit_ty (show kitB "str" "tuple" = some false from by decide +kernel), kit_ty (show kitB "str" "list" = some false from by decide +kernel), kit_ty (show kitB "str" "str" = some true from by decide +kernel)⟩
  | list ds =>
    simp only [Tp] at h
    obtain ⟨a, xs, rfl, n, ha, r⟩ := h
    exact ⟨_, .base (.lst ha), kit_ty (show kitB "list" "int" = some false from by decide +kernel), kit_ty (show kitB "list" "bool" = some false from by decide +kernel), kit_ty (show kitB "list" "tuple" = some false from by decide +kernel), kit_ty (show kitB "list" "list" = some true from by decide +kernel), kit_ty (show kitB "list" "str" = some false from by decide +kernel)⟩
  | tuple ds =>
    simp only [Tp] at h
    obtain ⟨a, xs, rfl, n, ha, r⟩ := h
    exact ⟨_, .base (.tup ha), kit_ty (show kitB "tuple" "int" = some false from by decide +kernel), kit_ty (show kitB "tuple" "bool" = some false from by decide +kernel), kit_ty (show kitB "tuple" "tuple" = some true from by decide +kernel), kit_ty (show kitB "tuple" "list" = some false from by decide +kernel), kit_ty (show kitB "tuple" "str" = some false from by decide +kernel)⟩
  | dict kvs =>
    simp only [Tp] at h
    obtain ⟨a, rfl, n, ha | ⟨dx, fs, ha⟩⟩ := h
    · exact ⟨_, .base (.dK ha), kit_ty (show kitB "dict" "int" = some false from by decide +kernel), kit_ty (show kitB "dict" "bool" = some false from by decide +kernel), kit_ty (show kitB "dict" "tuple" = some false from by decide +kernel), kit_ty (show kitB "dict" "list" = some false from by decide +kernel), kit_ty (show kitB "dict" "str" = some false from by decide +kernel)⟩
    · exact ⟨_, .base (.ins ha W.cl W.ca W.cg W.ct W.co), W.ki, W.kb, W.kt, W.kl, W.ks⟩
theorem tp_isI (W : WebTy K C) {d : PyData} {v : V} {Q : VK} (h : Tp C p H d v) (q : Q (.bl (isI d)) H) : rIsi K [v, .ty "int"] H Q := by
  obtain ⟨t, ty, k, _⟩ := h.ty W
  exact ⟨v, _, t, _, _, rfl, .ty _, ty, k, q⟩
theorem tp_isB (W : WebTy K C) {d : PyData} {v : V} {Q : VK} (h : Tp C p H d v) (q : Q (.bl (isB d)) H) : rIsi K [v, .ty "bool"] H Q := by
  obtain ⟨t, ty, _, k, _⟩ := h.ty W
  exact ⟨v, _, t, _, _, rfl, .ty _, ty, k, q⟩
theorem tp_isT (W : WebTy K C) {d : PyData} {v : V} {Q : VK} (h : Tp C p H d v) (q : Q (.bl (isT d)) H) : rIsi K [v, .ty "tuple"] H Q := by
  obtain ⟨t, ty, _, _, k, _⟩ := h.ty W
  exact ⟨v, _, t, _, _, rfl, .ty _, ty, k, q⟩
theorem tp_isL (W : WebTy K C) {d : PyData} {v : V} {Q : VK} (h : Tp C p H d v) (q : Q (.bl (isL d)) H) : rIsi K [v, .ty "list"] H Q := by
  obtain ⟨t, ty, _, _, _, k, _⟩ := h.ty W
  exact ⟨v, _, t, _, _, rfl, .ty _, ty, k, q⟩
theorem tp_isS (W : WebTy K C) {d : PyData} {v : V} {Q : VK} (h : Tp C p H d v) (q : Q (.bl (isS d)) H) : rIsi K [v, .ty "str"] H Q := by
  obtain ⟨t, ty, _, _, _, _, k⟩ := h.ty W
  exact ⟨v, _, t, _, _, rfl, .ty _, ty, k, q⟩
end
theorem rd_mko {C : Addr} {sp : Sp} {dvs : List V} {ta : TA} {σ : L2.St} {H : Hp} {Q : XK} (h : ta σ H fun vs H1 => vs.length ≤ 1000 ∧ ∀ a, H1 a = none → sp (.ref a :: (vs ++ dvs)) (upd H1 a (exo a C none))
  (fun v H2 => v = .non ∧ ∃ (d : Addr) (fs : List (Str × V)), H2 a = some (exo a C (some d)) ∧ H2 d = some (exd d fs) ∧ H1 d = none ∧ Q (.ref C) (some d) (upd (del H2 a) d (.xd fs))) (fun _ _ _ => False)) : tMkO C sp dvs ta σ H Q := h
end Mw

/-! MR5 -/
/-! sorted(d) of a dict with whole numbers as keys. -/
namespace L2
open PySem PySem.Spec PyProof.Rows
def rSortedD : List V → Hp → VK → Prop := fun vs H Q => ∃ (d : Addr) (kvs : List (Key × V)) (ns : List Int), vs = [.ref d] ∧ H d = some (.dK kvs) ∧ kvs.map (·.1) = ns.map Sum.inl ∧
  ∀ (ns' : List Int) (p : Addr), ns'.Perm ns → ns'.Pairwise (· ≤ ·) → H p = none → Q (.ref p) (upd H p (.lst (ns'.map V.int)))
theorem cr_sortedD {X : Cx} (hc : X.calm = true) : CallR X (.builtin "sorted") rSortedD := by
  intro pins s σ H vs us Q I r h
  obtain ⟨d, kvs, ns, rfl, hk, en, q⟩ := h
  rw [Vals.ref1 r]
  obtain ⟨z, lo, ws, rk, hd⟩ := (show ObjOk X.prog X.w H s.heap d (.dK kvs) from I.hok d _ hk)
  obtain ⟨ep, hat⟩ := hd.dictAt
  have hl : kvs.length = ws.length := Paired.length rk
  refine Calls.call_function_entry kind_sorted plain_sorted entry_sorted (args_sorted1 _) ?_
  unfold Builtin.«sorted»
  refine wpAny_bind (m := checkCount "sorted" 1 1 _) (wpAny_pure ?_)
  refine wpAny_bind (PySem.W.kdu_collect (PySem.W.kdl_dict (knd := mixKind X.prog X.w) (kvs := ws) (ep := ep) lo) (I.ok.hd hc) hat (by rw [← hl]; exact z) fun h' tk acc kp hacc => ?_)
  have el : acc.toList.length = kvs.length := by rw [Array.length_toList, hacc.1, hl]
  have hns : ns.length = kvs.length := by
    have e := congrArg List.length en
    rw [List.length_map, List.length_map] at e
    exact e.symm
  have rv : Vals (ns.map V.int) acc.toList := by
    refine vals_of_at (by rw [List.length_map, el, hns]) fun j x w h1 h2 => ?_
    obtain ⟨k, y, hky, hi⟩ := hacc.2 j w (by rw [← Array.getElem?_toList]; exact h2)
    have e1 : (kvs.map (·.1))[j]? = some k := by rw [KV.keys rk, List.getElem?_map, hky] <;> rfl
    rw [en, List.getElem?_map] at e1
    rw [List.getElem?_map] at h1
    cases e2 : ns[j]? with
    | none =>
      rw [e2] at h1
      cases h1
    | some n =>
      rw [e2] at h1 e1
      cases h1
      have e3 : k = Sum.inl n := (Option.some.inj e1).symm
      have e4 : RelV (kV k) w := keyIs_rel hi
      rw [e3] at e4
      exact e4
  have hi := rv.ints
  have hz : acc.toList.length ≤ sizeLine := by rw [el]; exact z
  refine wpAny_bind (wpAny_newList ?_ hz)
  have hoL : (h'.push (seqObj "list" acc.toList.toArray 0)).get? h'.objs.size = some (seqObj "list" acc.toList.toArray 0) := Heap.get?_push_size _ rfl
  show wpAny _ _ _ _ _ { s with heap := h'.push (seqObj "list" acc.toList.toArray 0), toks := tk }
  refine wpAny_bind (wpAny_holding (wpAny_call_entry slot_list_sort ⟨_, hoL, rfl⟩ entry_list_sort (SrtO.list_sort_ord SrtO.swo_int hoL hz (fun h2 => SrtO.ints_sortable hi h2) fun out h1 h2 => ⟨_, rfl, ?_⟩) (args_list_sort _)))
  refine wpAny_pure ⟨_, rfl, ?_⟩
  obtain ⟨k1, k2, k3⟩ := SrtO.ints_out hi h1 h2
  obtain ⟨e, he⟩ := PyProof.Rows.sortedHeap_at (out := out.toArray) hoL
  have up : ∀ b o, h'.get? b = some o → (sortedHeap (h'.push (seqObj "list" acc.toList.toArray 0)) h'.objs.size acc.toList out.toArray).get? b = some o := fun b o hb => by
    have hlt : b < h'.objs.size := Heap.lt_size hb
    rw [PyProof.Rows.sortedHeap_old (Nat.ne_of_lt hlt) (by rw [size_push']; exact Nat.lt_succ_of_lt hlt)]
    exact Heap.get?_push_of_some _ hb
  have I1 : Inv X pins σ H { s with heap := h', toks := tk } := I.kept kp
  refine ⟨.ref h'.objs.size, upd H h'.objs.size (.lst ((out.map SrtO.iv).map V.int)), I1.laid (t' := tk) up (Nat.le_refl _) ⟨?_, out, e, vals_of_ints k1, he⟩, rfl, q _ _ k2 k3 (I1.hok.fresh (Nat.le_refl _))⟩
  rw [List.length_map, k2.length_eq, hns]
  exact z
end L2

/-! MR6 -/
/-! list(d.keys()) of a dict with pairs as keys. -/
namespace L2
open PySem PySem.Spec PyProof.Rows PySem.W
theorem lk_src {prog : Program} {w : World} {r d : Addr} {o : Obj} {es : Array DictEntry} {ep : Nat} (hx : o.ExactDict) (hd : o.data = .dict es ep) :
    KdlSrc prog w "dict_keys" r d es.size (fun i v => ∃ en : DictEntry, es[i]? = some en ∧ v = en.key) (fun h => KdlKeysView h r d ∧ h.get? d = some o) where
  type := fun _ hm => hm.1.typeIs
  there := fun _ hm => ⟨let ⟨_, ho, _⟩ := hm.1; Heap.lt_size ho, Heap.lt_size hm.2⟩
  keep := fun _ _ hm hk => ⟨let ⟨q, hq, x⟩ := hm.1; ⟨q, hk r (.inl rfl) q hq, x⟩, hk d (.inr rfl) _ hm.2⟩
  notList := by decide
  notTuple := by decide
  hint := fun _ _ _ _ hm hq => kdl_hint_keys hm.1.typeIs hq
  iter := fun _ s hh hm => ⟨_, _, (fun _ _ hq => wpAny_pyIter_keys_raw hm.1 ⟨o, hm.2, hx, hd⟩ hq), walks_raw hh _ d (Nat.ne_of_lt (Heap.lt_size hm.2)) hd, ⟨⟨_, Heap.get?_push_size _ rfl, rfl, rfl⟩, Heap.get?_push_of_some _ hm.2⟩⟩
section
variable {X : Cx}
def tListKeysT (te : TE) : TE := fun σ H Q => te σ H fun x H1 => ∃ (d : Addr) (kvs : List (List Key × V)), x = .ref d ∧ H1 d = some (.dT kvs) ∧ ∀ (p : Addr) (bs : List Addr), H1 p = none → IsKeys H1 kvs bs → Q (.ref p) (upd H1 p (.lst (bs.map V.ref)))
theorem pe_listKeysT {e : Expr} {te : TE} {p pos apos cpos : Pos} (hc : X.calm = true) (he : PE X e te) (hg : Gl X "list") (hm : X.mg "list" = none) (hbase : attributeBase e "keys" X.env (eval e X.env) = eval e X.env := by rfl) (hline : (apos.endLine == cpos.line) = true := by rfl)
    (hs : starEach [Expr.Call (.Attribute e "keys" apos) [] [] cpos] X.env = (false, eval (.Call (.Attribute e "keys" apos) [] [] cpos) X.env) :: starEach [] X.env := by rfl) :
    PE X (.Call (.Name "list" p) [.Call (.Attribute e "keys" apos) [] [] cpos] [] pos) (tListKeysT te) := by
  refine ⟨fun pins s σ H Q I hq => ?_⟩
  refine wpAny_Call_Name_kw (ld_blt I hg hm boot_list ?_)
  refine PyProof.Rows.callWith_type1 ?_ hs rfl
  rw [hs]
  show wpAny _ _ (spliced ((false, eval (.Call (.Attribute e "keys" apos) [] [] cpos) X.env) :: backTo pos (starEach [] X.env))) _ _ s
  refine Calls.spliced_cons ?_
  refine wpAny_Call_method (T := "dict") (id := "dict.keys") hbase rfl hline F.plainAttrs_dict F.slot_dict_keys F.type_dict_keys (thn (he.run pins s σ H _ I hq) fun u s1 ⟨x, H1, I1, rx, d, kvs, ex, hd, q⟩ => ?_)
  subst ex
  obtain rfl : u = Value.ref d := rx
  obtain ⟨z, lo, ks, pr, o, es, ep, ho, hx, hdt, hen, hn⟩ := dt_of I1.hok hd
  have l1 : es.size = ks.length := size_of_entries hen
  have l2 : kvs.length = ks.length := Paired.length pr
  have raw : s1.heap.DictRaw d es ep := ⟨o, ho, hx, hdt⟩
  have I2 : Inv X pins σ H1 { s1 with heap := s1.heap.push { cls := .type "dict_keys", data := .fields #[.ref d] } } := I1.kept (t' := s1.toks) fun b ob q => Heap.get?_push_of_some _ q
  refine ⟨raw.typeIs, fun b eb => ⟨o, by cases eb; exact ho, hx.2.1⟩, ?_⟩
  show wpAny _ _ (callWith cpos (.builtin "dict.keys") [.ref d] [] []) _ X.xe s1
  refine method_meetsIn F.slot_dict_keys F.entry_dict_keys rfl (PySem.evalArgs_none ⟨rfl, raw.typeIs, F.args_dict_keys_1 _, _, meets_dict_keys_raw d lo, ⟨es, ep, raw⟩, ?_⟩)
  refine Calls.spliced_nil ?_
  refine kdl_call (lk_src hx hdt) (I1.ok.hd hc) ⟨⟨_, Heap.get?_push_size _ rfl, rfl, rfl⟩, Heap.get?_push_of_some _ ho⟩ (by omega) fun h' tk acc' c' kp e it => ?_
  have ea : acc'.toList = ks.map fun x => Value.ref x.2.1 := by
    have hl : acc'.toList.length = ks.length := by rw [Array.length_toList, it.1]; exact l1
    apply List.ext_getElem?
    intro j
    rw [List.getElem?_map]
    cases hj : acc'.toList[j]? with
    | none =>
      have h1 := List.getElem?_eq_none_iff.mp hj
      rw [List.getElem?_eq_none (by omega)]
      rfl
    | some v =>
      obtain ⟨en, hen2, hv⟩ := it.2 j v (by rw [← Array.getElem?_toList]; exact hj)
      have qe := entry_at hen j
      rw [hen2] at qe
      cases hb : ks[j]? with
      | none =>
        rw [hb] at qe
        exact nomatch (show some en = none from qe)
      | some b =>
        rw [hb] at qe
        have e2 : en = entryOfKey (tupleKind (mixKind X.prog X.w)) b := Option.some.inj qe
        rw [hv, e2]
        rfl
  have eb : acc'.toList = (ks.map fun x => x.2.1).map Value.ref := by
    rw [ea, List.map_map]
    rfl
  have rv : Vals ((ks.map fun x => x.2.1).map V.ref) acc'.toList := by
    rw [eb]
    exact vals_refs _
  have hz : ((ks.map fun x => x.2.1).map V.ref).length ≤ sizeLine := by
    rw [List.length_map, List.length_map]
    omega
  refine ⟨.ref _, _, I2.laid (t' := tk) (o := .lst ((ks.map fun x => x.2.1).map V.ref)) kp (Nat.le_refl _) ⟨hz, acc'.toList, c', rv, by rw [Array.toArray_toList]; exact e⟩, rfl, q _ _ (I2.hok.fresh (Nat.le_refl _)) (isKeys_of pr)⟩
end
end L2

/-! MR8 -/
/-! list(d.keys()) of a dict with whole numbers as keys. -/
namespace L2
open PySem PySem.Spec PyProof.Rows PySem.W
section
variable {X : Cx}
def tListKeysK (te : TE) : TE := fun σ H Q => te σ H fun x H1 => ∃ (d : Addr) (kvs : List (Key × V)) (ns : List Int), x = .ref d ∧ H1 d = some (.dK kvs) ∧ kvs.map (·.1) = ns.map Sum.inl ∧ ∀ (p : Addr), H1 p = none → Q (.ref p) (upd H1 p (.lst (ns.map V.int)))
theorem pe_listKeysK {e : Expr} {te : TE} {p pos apos cpos : Pos} (hc : X.calm = true) (he : PE X e te) (hg : Gl X "list") (hm : X.mg "list" = none) (hbase : attributeBase e "keys" X.env (eval e X.env) = eval e X.env := by rfl) (hline : (apos.endLine == cpos.line) = true := by rfl)
    (hs : starEach [Expr.Call (.Attribute e "keys" apos) [] [] cpos] X.env = (false, eval (.Call (.Attribute e "keys" apos) [] [] cpos) X.env) :: starEach [] X.env := by rfl) :
    PE X (.Call (.Name "list" p) [.Call (.Attribute e "keys" apos) [] [] cpos] [] pos) (tListKeysK te) := by
  refine ⟨fun pins s σ H Q I hq => ?_⟩
  refine wpAny_Call_Name_kw (ld_blt I hg hm boot_list ?_)
  refine PyProof.Rows.callWith_type1 ?_ hs rfl
  rw [hs]
  show wpAny _ _ (spliced ((false, eval (.Call (.Attribute e "keys" apos) [] [] cpos) X.env) :: backTo pos (starEach [] X.env))) _ _ s
  refine Calls.spliced_cons ?_
  refine wpAny_Call_method (T := "dict") (id := "dict.keys") hbase rfl hline F.plainAttrs_dict F.slot_dict_keys F.type_dict_keys (thn (he.run pins s σ H _ I hq) fun u s1 ⟨x, H1, I1, rx, d, kvs, ns, ex, hd, en, q⟩ => ?_)
  subst ex
  obtain rfl : u = Value.ref d := rx
  obtain ⟨z, lo, ws, rk, hd'⟩ := dk_of I1.hok hd
  obtain ⟨es, ep, raw, hsz, hent⟩ := hd'.raw
  obtain ⟨o, ho, hx, hdt⟩ := id raw
  have l2 : kvs.length = ws.length := Paired.length rk
  have hns : ns.length = kvs.length := by
    have e := congrArg List.length en
    rw [List.length_map, List.length_map] at e
    exact e.symm
  have I2 : Inv X pins σ H1 { s1 with heap := s1.heap.push { cls := .type "dict_keys", data := .fields #[.ref d] } } := I1.kept (t' := s1.toks) fun b ob q => Heap.get?_push_of_some _ q
  refine ⟨raw.typeIs, fun b eb => ⟨o, by cases eb; exact ho, hx.2.1⟩, ?_⟩
  show wpAny _ _ (callWith cpos (.builtin "dict.keys") [.ref d] [] []) _ X.xe s1
  refine method_meetsIn F.slot_dict_keys F.entry_dict_keys rfl (PySem.evalArgs_none ⟨rfl, raw.typeIs, F.args_dict_keys_1 _, _, meets_dict_keys_raw d lo, ⟨es, ep, raw⟩, ?_⟩)
  refine Calls.spliced_nil ?_
  refine kdl_call (lk_src hx hdt) (I1.ok.hd hc) ⟨⟨_, Heap.get?_push_size _ rfl, rfl, rfl⟩, Heap.get?_push_of_some _ ho⟩ (by omega) fun h' tk acc' c' kp e it => ?_
  have el : acc'.toList.length = kvs.length := by rw [Array.length_toList, it.1, hsz, l2]
  have rv : Vals (ns.map V.int) acc'.toList := by
    refine vals_of_at (by rw [List.length_map, el, hns]) fun j x w h1 h2 => ?_
    obtain ⟨ent, hen, hv⟩ := it.2 j w (by rw [← Array.getElem?_toList]; exact h2)
    obtain ⟨hj, ej⟩ := Array.getElem?_eq_some_iff.mp hen
    have hjw : j < ws.length := by omega
    have hwj : ws[j]? = some (ws[j].1, ws[j].2) := by simp [hjw]
    obtain ⟨hi, _⟩ := hent j hj ws[j].1 ws[j].2 hwj
    have e1 : (kvs.map (·.1))[j]? = some ws[j].1 := by rw [KV.keys rk, List.getElem?_map, hwj] <;> rfl
    rw [en, List.getElem?_map] at e1
    rw [List.getElem?_map] at h1
    cases e2 : ns[j]? with
    | none =>
      rw [e2] at h1
      cases h1
    | some n =>
      rw [e2] at h1 e1
      cases h1
      have e3 : ws[j].1 = Sum.inl n := (Option.some.inj e1).symm
      rw [ej] at hi
      have e4 : RelV (kV ws[j].1) ent.key := keyIs_rel hi
      rw [e3] at e4
      rw [hv]
      exact e4
  have hz : (ns.map V.int).length ≤ sizeLine := by
    rw [List.length_map]
    omega
  refine ⟨.ref _, _, I2.laid (t' := tk) (o := .lst (ns.map V.int)) kp (Nat.le_refl _) ⟨hz, acc'.toList, c', rv, by rw [Array.toArray_toList]; exact e⟩, rfl, q _ (I2.hok.fresh (Nat.le_refl _))⟩
end
end L2

/-! MR4 -/
/-! list(zip(s, t)) of two tuples: a new list of new pairs. -/
namespace L2
open PySem PySem.Spec PyProof.Rows RZ
theorem lz_len : typeLookup (.type "zip") "__len__" = pure none := am_miss_of_fast (by decide +kernel)
theorem lz_hint : typeLookup (.type "zip") "__length_hint__" = pure none := am_miss_of_fast (by decide +kernel)
section
variable {prog : Program} {w : World} {A : Around} {E : Value → Shared → Prop} {s : Shared}
variable {z TI TO T i1 i2 l1 l2 : Addr} {f : Bool} {oT : Obj} {k1 k2 : Nat} {xs ys : Array Value}
/-- the next pair while the last one is still there -/
theorem lz_item {x y : Value} {Q : Option Value → Shared → Prop} (D : ZipApart z TI TO i1 i2 l1 l2)
    (hz : IsZipHeld s.heap z TI TO T f)
    (hT : s.heap.get? T = some oT)
    (hTI : IsPair s.heap TI (.ref i1) (.ref i2)) (h1 : s.heap.IsTupleIter i1 l1 k1)
    (h2 : s.heap.IsTupleIter i2 l2 k2) (hl1 : s.heap.IsTuple l1 xs)
    (hl2 : s.heap.IsTuple l2 ys) (hx : xs[k1]? = some x)
    (hy : ys[k2]? = some y)
    (q : ∀ h', IsZipHeld h' z TI TO T true → h'.IsTupleIter i1 l1 (k1 + 1) → h'.IsTupleIter i2 l2 (k2 + 1) → IsPair h' s.heap.objs.size x y → h'.objs.size = s.heap.objs.size + 1 → (∀ c o, c ≠ z → c ≠ i1 → c ≠ i2 → s.heap.get? c = some o → h'.get? c = some o) → Q (some (.ref s.heap.objs.size)) { s with heap := h' }) :
    wpAny (model prog w) A (pyNext (.ref z)) Q E s := by
  have ty : s.TypeIs (.ref z) "zip" := ⟨_, hz, rfl⟩
  unfold pyNext
  refine wpAny_bind (wpAny_attempt (wpAny_callSpecial?_slot (name := Str.ofString "__next__") ty F.slot_zip_next (wpAny_call_entry F.slot_zip_next ty F.entry_zip_next ?_ (F.args_zip_next_1 _))))
  show wpAny _ _ (field (.ref z) 2 >>= _) _ _ _
  refine wpAny_bind (wpAny_field hz rfl (x := .bool false) rfl ?_)
  show wpAny _ _ (field (.ref z) 3 >>= _) _ _ _
  refine wpAny_bind (wpAny_field hz rfl (x := .ref TI) rfl (wpAny_bind (wpAny_seqItems hTI rfl ?_)))
  show wpAny _ _ (Builtin.SmallTypes.ownedTupleIsFree (.ref z) >>= _) _ _ _
  refine wpAny_bind (wpAny_tupleHeld_zip hz hT fun g1 z1 b1 => ?_)
  simp only [Bool.false_eq_true, if_false]
  refine wpAny_bind ?_
  rw [← Array.forIn_toList]
  simp only [List.forIn_cons, List.forIn_nil]
  refine wpAny_bind (wpAny_bind (wpAny_holding ?_))
  show wpAny _ _ (Builtin.SmallTypes.nextOf (.ref i1) >>= _) _ _ _
  refine wpAny_bind (nextOf_tuple_item (s := { s with heap := g1 }) (h1.extBut b1.extBut D.i1z) (hl1.extBut b1.extBut D.l1z) hx fun g2 i2' b2 => wpAny_pure (wpAny_pure ?_))
  refine wpAny_bind (wpAny_bind (wpAny_holding ?_))
  show wpAny _ _ (Builtin.SmallTypes.nextOf (.ref i2) >>= _) _ _ _
  refine wpAny_bind (nextOf_tuple_item (s := { s with heap := g2 }) ((h2.extBut b1.extBut D.i2z).extBut b2.extBut D.i12.symm) ((hl2.extBut b1.extBut D.l2z).extBut b2.extBut D.l2i1) hy fun g3 i3' b3 => wpAny_pure ?_)
  refine wpAny_pure (wpAny_pure ?_)
  show wpAny _ _ (newTuple [x, y] >>= _) _ _ _
  refine wpAny_bind (wpAny_newTuple ?_)
  have sz : g3.objs.size = s.heap.objs.size := by rw [b3.1, b2.1, b1.1]
  have z3 : IsZipHeld g3 z TI TO T true := b3.extBut _ _ D.i2z.symm (b2.extBut _ _ D.i1z.symm z1)
  have kp : ∀ c o, c ≠ z → c ≠ i1 → c ≠ i2 → s.heap.get? c = some o → g3.get? c = some o := fun c o c1 c2 c3 e => b3.extBut _ _ c3 (b2.extBut _ _ c2 (b1.extBut _ _ c1 e))
  have j1 : g3.IsTupleIter i1 l1 (k1 + 1) := i2'.extBut b3.extBut D.i12
  refine wpAny_pure ⟨_, rfl, wpAny_pure ?_⟩
  show Q (some (.ref g3.objs.size)) _
  have pr : IsPair (g3.push { cls := .type "tuple", data := .seq #[x, y] }) g3.objs.size x y := Heap.get?_push_size _ rfl
  have sz4 : (g3.push { cls := .type "tuple", data := .seq #[x, y] }).objs.size = g3.objs.size + 1 := Heap.size_push ..
  rw [sz] at pr sz4 ⊢
  exact q _ (Heap.get?_push_of_some _ z3) (j1.at fun o e => Heap.get?_push_of_some _ e) (i3'.at fun o e => Heap.get?_push_of_some _ e) pr sz4 fun c o c1 c2 c3 e => Heap.get?_push_of_some _ (kp c o c1 c2 c3 e)
/-- no next pair while the last one is still there -/
theorem lz_end {Q : Option Value → Shared → Prop} (hh : A.handled = none) (D : ZipApart z TI TO i1 i2 l1 l2)
    (hz : IsZipHeld s.heap z TI TO T f)
    (hT : s.heap.get? T = some oT)
    (hTI : IsPair s.heap TI (.ref i1) (.ref i2)) (h1 : s.heap.IsTupleIter i1 l1 k1)
    (h2 : s.heap.IsTupleIter i2 l2 k2) (hl1 : s.heap.IsTuple l1 xs)
    (hl2 : s.heap.IsTuple l2 ys) (he : xs[k1]? = none ∨ ys[k2]? = none)
    (q : ∀ h', (∀ c o, c ≠ z → c ≠ i1 → c ≠ i2 → s.heap.get? c = some o → h'.get? c = some o) → Q none { s with heap := h' }) :
    wpAny (model prog w) A (pyNext (.ref z)) Q E s := by
  have ty : s.TypeIs (.ref z) "zip" := ⟨_, hz, rfl⟩
  unfold pyNext
  refine wpAny_bind (wpAny_attempt (wpAny_callSpecial?_slot (name := Str.ofString "__next__") ty F.slot_zip_next (wpAny_call_entry F.slot_zip_next ty F.entry_zip_next ?_ (F.args_zip_next_1 _))))
  show wpAny _ _ (field (.ref z) 2 >>= _) _ _ _
  refine wpAny_bind (wpAny_field hz rfl (x := .bool false) rfl ?_)
  show wpAny _ _ (field (.ref z) 3 >>= _) _ _ _
  refine wpAny_bind (wpAny_field hz rfl (x := .ref TI) rfl (wpAny_bind (wpAny_seqItems hTI rfl ?_)))
  show wpAny _ _ (Builtin.SmallTypes.ownedTupleIsFree (.ref z) >>= _) _ _ _
  refine wpAny_bind (wpAny_tupleHeld_zip hz hT fun g1 z1 b1 => ?_)
  simp only [Bool.false_eq_true, if_false]
  refine wpAny_bind ?_
  rw [← Array.forIn_toList]
  simp only [List.forIn_cons, List.forIn_nil]
  refine wpAny_bind (wpAny_bind (wpAny_holding ?_))
  show wpAny _ _ (Builtin.SmallTypes.nextOf (.ref i1) >>= _) _ _ _
  cases hx : xs[k1]? with
  | none =>
    refine wpAny_bind (nextOf_tuple_end (s := { s with heap := g1 }) hh (h1.extBut b1.extBut D.i1z) (hl1.extBut b1.extBut D.l1z) hx fun g2 e b2 ho => ?_)
    obtain ⟨o, ho, hc⟩ := ho
    refine wpAny_bind (wpAny_isInstance (T := "StopIteration") (b := true) ⟨o, ho, hc⟩ isSubtype_stop ?_)
    exact wpAny_pure (q _ fun c o c1 c2 _ x => b2 _ _ c2 (b1.extBut _ _ c1 x))
  | some x =>
    have hy : ys[k2]? = none := by
      rcases he with h | h
      · rw [hx] at h
        cases h
      · exact h
    refine wpAny_bind (nextOf_tuple_item (s := { s with heap := g1 }) (h1.extBut b1.extBut D.i1z) (hl1.extBut b1.extBut D.l1z) hx fun g2 i2' b2 => wpAny_pure (wpAny_pure ?_))
    refine wpAny_bind (wpAny_bind (wpAny_holding ?_))
    show wpAny _ _ (Builtin.SmallTypes.nextOf (.ref i2) >>= _) _ _ _
    refine wpAny_bind (nextOf_tuple_end (s := { s with heap := g2 }) hh ((h2.extBut b1.extBut D.i2z).extBut b2.extBut D.i12.symm) ((hl2.extBut b1.extBut D.l2z).extBut b2.extBut D.l2i1) hy fun g3 e b3 ho => ?_)
    obtain ⟨o, ho, hc⟩ := ho
    refine wpAny_bind (wpAny_isInstance (T := "StopIteration") (b := true) ⟨o, ho, hc⟩ isSubtype_stop ?_)
    exact wpAny_pure (q _ fun c o c1 c2 c3 x => b3 _ _ c3 (b2.extBut _ _ c2 (b1.extBut _ _ c1 x)))
end
/-! ### the loop -/
section
variable {X : Cx} {pins : List (Addr × Obj)} {σ : L2.St} {l1 l2 z TI TO i1 i2 D : Addr} {xs ys : List V} {H1 : Hp}
/-- behind i turns: ts the pairs that stand in the list at D -/
structure LzInv (X : Cx) (pins : List (Addr × Obj)) (σ : L2.St) (l1 l2 z TI TO i1 i2 D : Addr) (xs ys : List V) (H1 : Hp) (ts : List Addr) (s : Shared) (H : Hp) : Prop where
  I : Inv X pins σ H s
  same : Same H1 H
  fp : ∀ c ∈ [z, TI, TO, i1, i2], FpOk X pins H c
  zip : (ts = [] ∧ IsZip s.heap z TI TO .none ∧ ∃ a b, IsPair s.heap TO a b) ∨ ∃ T f oT, IsZipHeld s.heap z TI TO T f ∧ T ≠ z ∧ T ≠ TI ∧ T ≠ TO ∧ T ≠ i1 ∧ T ≠ i2 ∧ T ≠ D ∧ s.heap.get? T = some oT
  pTI : IsPair s.heap TI (.ref i1) (.ref i2)
  t1 : s.heap.IsTupleIter i1 l1 ts.length
  t2 : s.heap.IsTupleIter i2 l2 ts.length
  lst : H D = some (.lst (ts.map V.ref))
  lt : ∀ c ∈ [z, TI, TO, i1, i2], c < s.heap.objs.size
  few : ts.length ≤ xs.length ∧ ts.length ≤ ys.length
  prs : ∀ (j : Nat) (t : Addr) (x y : V), ts[j]? = some t → xs[j]? = some x → ys[j]? = some y → H t = some (.tup [x, y])
theorem lz_loop {A : Around} {R : Result → Shared → Prop} {res : Value} (hh : A.in1.handled = none) (Dz : ZipApart z TI TO i1 i2 l1 l2) (h1 : H1 l1 = some (.tup xs)) (h2 : H1 l2 = some (.tup ys)) (nD : H1 D = none)
    (hR : ∀ (ts : List Addr) (s' : Shared) (H' : Hp), Inv X pins σ H' s' → Same H1 H' → H' D = some (.lst (ts.map V.ref)) → ts.length = min xs.length ys.length → (∀ (j : Nat) (t : Addr) (x y : V), ts[j]? = some t → xs[j]? = some x → ys[j]? = some y → H' t = some (.tup [x, y])) → R (.ok (.ret res)) s') :
    ∀ (k : Nat) (ts : List Addr) (s : Shared) (H : Hp), min xs.length ys.length - ts.length = k → LzInv X pins σ l1 l2 z TI TO i1 i2 D xs ys H1 ts s H → codeAny (model X.prog X.w) A (.builtin "list.extend.loop" ⟨[.ref D, .ref z, res], []⟩) R s := by
  intro k
  induction k with
  | zero =>
    intro ts s H hk J
    refine codeAny_builtin F.entry_extend_loop ?_
    rw [Around.under_plainId F.plain_extend_loop _]
    show wpAny _ A.in1 (pyNext (.ref z) >>= _) _ _ s
    have f := J.few
    have hn : ts.length = min xs.length ys.length := by omega
    obtain ⟨its, rv, p, _⟩ := J.I.tuple (SqT.of (J.same _ _ h1))
    obtain ⟨its2, rv2, p2, _⟩ := J.I.tuple (SqT.of (J.same _ _ h2))
    have e1 := rv.length
    have e2 := rv2.length
    have he : its.toArray[ts.length]? = none ∨ its2.toArray[ts.length]? = none := by
      by_cases c : xs.length ≤ ys.length
      · exact .inl (by simp; omega)
      · exact .inr (by simp; omega)
    have fin : ∀ h', (∀ c o, c ≠ z → c ≠ TO → c ≠ i1 → c ≠ i2 → s.heap.get? c = some o → h'.get? c = some o) → R (.ok (.ret res)) { s with heap := h' } := fun h' kp =>
      hR ts _ H (J.I.turnedL (t' := s.toks) (ch := [z, TI, TO, i1, i2]) (fun c o hb q => kp c o (fun e => hb (by simp [e])) (fun e => hb (by simp [e])) (fun e => hb (by simp [e])) (fun e => hb (by simp [e])) q) J.fp) J.same J.lst hn J.prs
    rcases J.zip with ⟨_, hz, a, b, hTO⟩ | ⟨T, f, oT, hz, _, _, _, _, _, _, hT⟩
    · exact wpAny_bind (pyNext_zipT_end hh Dz hz J.pTI hTO J.t1 J.t2 p p2 he fun h' kp => wpAny_pure (fin h' kp))
    · exact wpAny_bind (lz_end hh Dz hz hT J.pTI J.t1 J.t2 p p2 he fun h' kp => wpAny_pure (fin h' fun c o c1 _ c3 c4 e => kp c o c1 c3 c4 e))
  | succ k ih =>
    intro ts s H hk J
    refine codeAny_builtin F.entry_extend_loop ?_
    rw [Around.under_plainId F.plain_extend_loop _]
    show wpAny _ A.in1 (pyNext (.ref z) >>= _) _ _ s
    obtain ⟨its, rv, p, _⟩ := J.I.tuple (SqT.of (J.same _ _ h1))
    obtain ⟨its2, rv2, p2, _⟩ := J.I.tuple (SqT.of (J.same _ _ h2))
    have hx : xs[ts.length]? = some (xs[ts.length]'(by omega)) := by simp
    have hy : ys[ts.length]? = some (ys[ts.length]'(by omega)) := by simp
    generalize xs[ts.length]'(by omega) = x at hx
    generalize ys[ts.length]'(by omega) = y at hy
    obtain ⟨u, hu, ru⟩ := rv.get hx
    obtain ⟨u2, hu2, ru2⟩ := rv2.get hy
    have push : ∀ h', (IsZipHeld h' z TI TO s.heap.objs.size false ∨ IsZipHeld h' z TI TO s.heap.objs.size true ∨ ∃ T f oT, IsZipHeld h' z TI TO T f ∧ T ≠ z ∧ T ≠ TI ∧ T ≠ TO ∧ T ≠ i1 ∧ T ≠ i2 ∧ T ≠ D ∧ h'.get? T = some oT) → h'.IsTupleIter i1 l1 (ts.length + 1) → h'.IsTupleIter i2 l2 (ts.length + 1) → IsPair h' s.heap.objs.size u u2 →
        (∀ c o, c ≠ z → c ≠ TO → c ≠ i1 → c ≠ i2 → s.heap.get? c = some o → h'.get? c = some o) →
        wpAny (model X.prog X.w) A.in1 (updateSeq D (·.push (.ref s.heap.objs.size)) >>= fun _ => again (.builtin "list.extend.loop" ⟨[.ref D, .ref z, res], []⟩))
          (fun fin s' => match fin with | .done f => R (.ok f) s' | .again c' => c'.quiet = true ∧ codeAny (model X.prog X.w) A c' R s') (fun e s' => R (.error e) s') { s with heap := h' } := by
      intro h' hzip a3 a4 a5 kp
      have nf : H s.heap.objs.size = none := J.I.hok.fresh (Nat.le_refl _)
      have new : ObjOk X.prog X.w (upd H s.heap.objs.size (.tup [x, y])) h' s.heap.objs.size (.tup [x, y]) := ⟨by show 2 ≤ sizeLine; decide, [u, u2], .cons ru (.cons ru2 .nil), ⟨_, a5, rfl, _, rfl⟩⟩
      have I1 : Inv X pins σ (upd H s.heap.objs.size (.tup [x, y])) { s with heap := h' } :=
        J.I.turnedNew (t' := s.toks) (ch := [z, TI, TO, i1, i2]) (fun c o hb q => kp c o (fun e => hb (by simp [e])) (fun e => hb (by simp [e])) (fun e => hb (by simp [e])) (fun e => hb (by simp [e])) q) J.fp (Nat.le_refl _) new
      have nTD : s.heap.objs.size ≠ D := (ne_of_none J.lst nf).symm
      have hD1 : (upd H s.heap.objs.size (.tup [x, y])) D = some (.lst (ts.map V.ref)) := (upd_ne nTD.symm).trans J.lst
      obtain ⟨hz, its3, n3, r3, l3, e3⟩ := I1.lstM hD1
      have len : (ts.map V.ref).length = ts.length := List.length_map _
      have zx : xs.length ≤ sizeLine := by
        obtain ⟨_, _, _, q⟩ := J.I.tuple (SqT.of (J.same _ _ h1))
        exact q
      have small : ts.length + 1 ≤ sizeLine := by omega
      have nc : ∀ c ∈ [z, TI, TO, i1, i2], c ≠ D := fun c hc => (ne_of_none J.lst (J.fp c hc).1).symm
      have oth : ∀ b o, b ≠ D → h'.get? b = some o → (h'.update D (Obj.mapSeq (·.push (.ref s.heap.objs.size)))).get? b = some o := fun b o hb e => (Heap.get?_update_other _ _ hb.symm).trans e
      have szT : s.heap.objs.size < h'.objs.size := Heap.lt_size a5
      refine wpAny_bind (wpAny_updateSeq e3 rfl ?_ (by rw [List.size_toArray, ← l3, len]; omega) (by show (its3.toArray.push _).size ≤ sizeLine + 1; rw [Array.size_push, List.size_toArray, ← l3, len]; omega))
      refine wpAny_pure ⟨plainId_quiet F.plain_extend_loop _, ih (ts ++ [s.heap.objs.size]) _ (upd (upd H s.heap.objs.size (.tup [x, y])) D (.lst ((ts ++ [s.heap.objs.size]).map V.ref))) (by rw [List.length_append]; simp; omega) ?_⟩
      have rT : Vals ((ts ++ [s.heap.objs.size]).map V.ref) (its3 ++ [Value.ref s.heap.objs.size]) := by
        rw [List.map_append]
        exact r3.append (.cons rfl .nil)
      refine {
        I := I1.lset (t' := s.toks) (its' := its3 ++ [Value.ref s.heap.objs.size]) hD1 e3 (by simp) rT (by rw [List.length_map, List.length_append]; simpa using small)
        same := fun b o e => ?_
        fp := fun c hc => ?_
        zip := .inr ?_
        pTI := oth _ _ (nc TI (by simp)) (kp _ _ Dz.TIz Dz.TITO Dz.TIi1 Dz.TIi2 J.pTI)
        t1 := ?_
        t2 := ?_
        lst := upd_same
        lt := fun c hc => ?_
        few := by rw [List.length_append]; simp; omega
        prs := fun j t x' y' ht hx' hy' => ?_ }
      · have e1 := J.same b o e
        rw [upd_ne (ne_of_none e nD), upd_ne (ne_of_none e1 nf)]
        exact e1
      · have q := J.fp c hc
        refine ⟨?_, q.2⟩
        rw [upd_ne (nc c hc), upd_ne (Nat.ne_of_lt (J.lt c hc))]
        exact q.1
      · have ht : (h'.update D (Obj.mapSeq (·.push (.ref s.heap.objs.size)))).get? s.heap.objs.size = some _ := oth _ _ nTD a5
        have ne : ∀ c ∈ [z, TI, TO, i1, i2], s.heap.objs.size ≠ c := fun c hc => (Nat.ne_of_lt (J.lt c hc)).symm
        rcases hzip with q | q | ⟨T, f, oT, q, n1, n2, n3, n4, n5, n6, hT⟩
        · exact ⟨_, _, _, oth _ _ (nc z (by simp)) q, ne z (by simp), ne TI (by simp), ne TO (by simp), ne i1 (by simp), ne i2 (by simp), nTD, ht⟩
        · exact ⟨_, _, _, oth _ _ (nc z (by simp)) q, ne z (by simp), ne TI (by simp), ne TO (by simp), ne i1 (by simp), ne i2 (by simp), nTD, ht⟩
        · exact ⟨T, f, oT, oth _ _ (nc z (by simp)) q, n1, n2, n3, n4, n5, n6, oth _ _ n6 hT⟩
      · rw [List.length_append]
        exact a3.at fun o e => oth _ o (nc i1 (by simp)) e
      · rw [List.length_append]
        exact a4.at fun o e => oth _ o (nc i2 (by simp)) e
      · have q := J.lt c hc
        show c < (h'.update D (Obj.mapSeq (·.push (.ref s.heap.objs.size)))).objs.size
        rw [Heap.size_update]
        exact Nat.lt_trans q szT
      · rw [List.getElem?_append] at ht
        by_cases hj : j < ts.length
        · rw [if_pos hj] at ht
          have q := J.prs j t x' y' ht hx' hy'
          rw [upd_ne (ne_of J.lst q (by intro z; cases z)).symm, upd_ne (ne_of_none q nf)]
          exact q
        · rw [if_neg hj] at ht
          have hj0 : j = ts.length := by
            have := (List.getElem?_eq_some_iff.mp ht).1
            simp at this
            omega
          subst hj0
          rw [hx] at hx'
          rw [hy] at hy'
          cases hx'
          cases hy'
          simp at ht
          subst ht
          rw [upd_ne nTD]
          exact upd_same
    rcases J.zip with ⟨_, hz, a, b, hTO⟩ | ⟨T, f, oT, hz, n1, n2, n3, n4, n5, n6, hT⟩
    · refine wpAny_bind (pyNext_zipT_item Dz hz J.pTI hTO J.t1 J.t2 p p2 (x := u) (y := u2) (by simpa using hu) (by simpa using hu2) fun h' a1 _ a3 a4 a5 _ kp => ?_)
      exact push h' (.inl a1) a3 a4 a5 kp
    · refine wpAny_bind (lz_item Dz hz hT J.pTI J.t1 J.t2 p p2 (x := u) (y := u2) (by simpa using hu) (by simpa using hu2) fun h' a1 a3 a4 a5 _ kp => ?_)
      exact push h' (.inr (.inr ⟨T, true, oT, a1, n1, n2, n3, n4, n5, n6, kp _ _ n1 n4 n5 hT⟩)) a3 a4 a5 fun c o c1 _ c3 c4 e => kp c o c1 c3 c4 e
end
/-! ### the whole expression -/
section
variable {X : Cx} {pins : List (Addr × Obj)} {σ : L2.St}
/-- a zip of the tuples at a and b, not begun -/
structure LzMade (X : Cx) (pins : List (Addr × Obj)) (σ : L2.St) (a b z TI TO i1 i2 : Addr) (H1 : Hp) (s : Shared) : Prop where
  I : Inv X pins σ H1 s
  ap : ZipApart z TI TO i1 i2 a b
  fp : ∀ c ∈ [z, TI, TO, i1, i2], FpOk X pins H1 c
  lt : ∀ c ∈ [z, TI, TO, i1, i2], c < s.heap.objs.size
  zip : IsZip s.heap z TI TO .none
  pTI : IsPair s.heap TI (.ref i1) (.ref i2)
  pTO : IsPair s.heap TO .none .none
  t1 : s.heap.IsTupleIter i1 a 0
  t2 : s.heap.IsTupleIter i2 b 0
def tListZip (ta : TA) : TE := fun σ H Q => ta σ H fun vs H1 => ∃ a b xs ys, vs = [.ref a, .ref b] ∧ H1 a = some (.tup xs) ∧ H1 b = some (.tup ys) ∧ ∀ (D : Addr) (ts : List Addr) (H' : Hp), Same H1 H' → H1 D = none → H' D = some (.lst (ts.map V.ref)) → ts.length = min xs.length ys.length →
  (∀ (j : Nat) (t : Addr) (x y : V), ts[j]? = some t → xs[j]? = some x → ys[j]? = some y → H' t = some (.tup [x, y])) → Q (.ref D) H'
theorem lz_zip {e e2 : Expr} {ta : TA} {p pos : Pos} {s : Shared} {H : Hp} {Q : List V → Hp → Prop} (hg : Gl X "zip") (hm : X.mg "zip" = none) (ha : PA X [e, e2] ta) (I : Inv X pins σ H s)
    (hs : starEach [e, e2] X.env = (false, eval e X.env) :: starEach [e2] X.env) (hpl : (backTo pos (starEach [e2] X.env)).any (·.1) = false)
    (hQ : ∀ vs H1, Q vs H1 → ∃ a b xs ys, vs = [.ref a, .ref b] ∧ H1 a = some (.tup xs) ∧ H1 b = some (.tup ys))
    (h : ta σ H Q) :
    wpAny (model X.prog X.w) X.A (eval (.Call (.Name "zip" p) [e, e2] [] pos) X.env) (fun v s' => ∃ a b z TI TO i1 i2 H1, v = .ref z ∧ LzMade X pins σ a b z TI TO i1 i2 H1 s' ∧ Q [.ref a, .ref b] H1) X.xe s := by
  refine Call_ (ld_blt I hg hm PyProof.Rows.boot_zip (PyProof.Rows.callWith_type1 (thn (ha.run pos pins s σ H _ I h) fun us s1 ⟨vs, H1, I1, r1, q⟩ => ?_) hs hpl))
  obtain ⟨a, b, xs, ys, ev, h1, h2⟩ := hQ vs H1 q
  subst ev
  cases r1 with
  | cons r rr =>
    cases rr with
    | cons r' rr =>
      cases rr
      cases r
      cases r'
      obtain ⟨its, _, p1, _⟩ := I1.tuple (SqT.of h1)
      obtain ⟨its2, _, p2, _⟩ := I1.tuple (SqT.of h2)
      obtain ⟨o1, ho1, _⟩ := id p1
      obtain ⟨o2, ho2, _⟩ := id p2
      refine call_zipT (show s1.heap.IsTuple a its.toArray from p1) (show s1.heap.IsTuple b its2.toArray from p2) fun h' hz hTI hTO t1 t2 hsz hk => ?_
      have ge : ∀ c ∈ [s1.heap.objs.size + 4, s1.heap.objs.size + 2, s1.heap.objs.size + 3, s1.heap.objs.size, s1.heap.objs.size + 1], s1.heap.objs.size ≤ c ∧ c < s1.heap.objs.size + 5 := fun c hc => by
        simp only [List.mem_cons, List.not_mem_nil, or_false] at hc
        rcases hc with q | q | q | q | q <;> rw [q] <;> exact ⟨by simp, by simp⟩
      refine ⟨a, b, s1.heap.objs.size + 4, s1.heap.objs.size + 2, s1.heap.objs.size + 3, s1.heap.objs.size, s1.heap.objs.size + 1, H1, rfl, ⟨I1.kept (t' := s1.toks) hk, PySem.W.ktu_apart s1.heap.objs.size a b (Heap.lt_size ho1) (Heap.lt_size ho2), fun c hc => ?_, fun c hc => ?_, hz, hTI, hTO, t1, t2⟩, q⟩
      · exact I1.fpOk (ge c hc).1 (I1.hok.fresh (ge c hc).1)
      · show c < h'.objs.size
        rw [hsz]
        exact (ge c hc).2
theorem lz_list {A : Around} {E : Value → Shared → Prop} {Q : Value → Shared → Prop} {a b z TI TO i1 i2 : Addr} {xs ys : List V} {H1 : Hp} {s : Shared} (hh : A.handled = none) (M : LzMade X pins σ a b z TI TO i1 i2 H1 s) (h1 : H1 a = some (.tup xs)) (h2 : H1 b = some (.tup ys))
    (hR : ∀ (D : Addr) (ts : List Addr) (s' : Shared) (H' : Hp), Inv X pins σ H' s' → Same H1 H' → H1 D = none → H' D = some (.lst (ts.map V.ref)) → ts.length = min xs.length ys.length → (∀ (j : Nat) (t : Addr) (x y : V), ts[j]? = some t → xs[j]? = some x → ys[j]? = some y → H' t = some (.tup [x, y])) → Q (.ref D) s') :
    wpAny (model X.prog X.w) A (call (.type "list") [.ref z]) Q E s := by
  have nDz : s.heap.objs.size ≠ z := (Nat.ne_of_lt (M.lt z (by simp))).symm
  refine callType_codes (Q₁ := fun obj s₁ => obj = .ref s.heap.objs.size ∧ s₁ = { s with heap := s.heap.push { cls := .type "list", data := .seq #[] } }) F.called_list (F.typeCall_list_1 _) F.entry_list_init (code_list_new _ ⟨rfl, rfl⟩) fun obj s₁ h₁ => ?_
  obtain ⟨rfl, rfl⟩ := h₁
  have d1 : (s.heap.push { cls := .type "list", data := .seq #[] }).get? s.heap.objs.size = some { cls := .type "list", data := .seq #[] } := Heap.get?_push_size _ rfl
  refine ⟨⟨_, d1, rfl⟩, F.args_list_init_2 _ _, ?_⟩
  show wpAny _ A.in1.in1 (Builtin.List.listItems (.ref s.heap.objs.size) >>= _) _ _ _
  refine wpAny_bind ?_
  unfold Builtin.List.listItems
  refine wpAny_bind (wpAny_seqItems d1 rfl (wpAny_pure ?_))
  show wpAny _ A.in1.in1 (updateSeq s.heap.objs.size (fun _ => #[]) >>= _) _ _ _
  refine wpAny_bind (wpAny_updateSeq d1 rfl ?_)
  have d2 := Heap.get?_update_self (Obj.mapSeq (fun _ => (#[] : Array Value))) d1 rfl
  refine wpAny_bind (wpAny_letGo ?_)
  unfold Builtin.List.listExtendWith
  have up : ∀ (g : Heap) (f : Obj → Obj), (∀ c o, s.heap.get? c = some o → g.get? c = some o) → ∀ c o, s.heap.get? c = some o → (g.update s.heap.objs.size f).get? c = some o := fun g f q c o e => (Heap.get?_update_other _ _ (Ne.symm (Nat.ne_of_lt (Heap.lt_size e)))).trans (q c o e)
  have u1 : ∀ c o, s.heap.get? c = some o → (s.heap.push { cls := .type "list", data := .seq #[] }).get? c = some o := fun c o e => Heap.get?_push_of_some _ e
  have u2 := up _ (Obj.mapSeq (fun _ => (#[] : Array Value))) u1
  have zt : ∀ {g : Heap}, (∀ c o, s.heap.get? c = some o → g.get? c = some o) → ({ s with heap := g } : Shared).TypeIs (.ref z) "zip" := fun {g} q => ⟨_, q _ _ M.zip, rfl⟩
  refine wpAny_bind (wpAny_typeOf (zt u2) ?_)
  have c1 : Builtin.List.listSameRef (.ref s.heap.objs.size) (.ref z) = false := by simp [Builtin.List.listSameRef, nDz]
  have c2 : (Value.type "zip" == Value.type "list") = false := by decide
  have c3 : (Value.type "zip" == Value.type "tuple") = false := by decide
  simp only [c1, c2, c3, Bool.or_false, Bool.false_eq_true, if_false]
  refine wpAny_bind (wpAny_pyIter_zip (u2 _ _ M.zip) ?_)
  refine wpAny_bind (wpAny_holding ?_)
  unfold Builtin.List.listLengthHint
  refine wpAny_bind (wpAny_specialOf (zt u2) lz_len ?_)
  show wpAny _ A.in1.in1 (specialOf (Value.ref z) (Str.ofString "__length_hint__") >>= _) _ _ _
  refine wpAny_bind (wpAny_specialOf (zt u2) lz_hint ?_)
  refine wpAny_pure ?_
  show wpAny _ A.in1.in1 (rule "list.extend.makes-room" >>= _) _ _ _
  refine wpAny_bind (wpAny_rule (wpAny_bind ?_))
  show wpAny _ A.in1.in1 (updateSeq s.heap.objs.size (·.push .none) >>= _) _ _ _
  refine wpAny_bind (wpAny_updateSeq d2 rfl ?_)
  have d3 := Heap.get?_update_self (Obj.mapSeq (·.push Value.none)) d2 rfl
  refine wpAny_updateSeq (hz := by seq_fits) d3 rfl ?_
  have d4 := Heap.get?_update_self (Obj.mapSeq (·.pop)) d3 rfl
  have u4 := up _ (Obj.mapSeq (·.pop)) (up _ (Obj.mapSeq (·.push Value.none)) u2)
  refine wpAny_pure ⟨plainId_quiet F.plain_extend_loop _, ?_⟩
  have nf : H1 s.heap.objs.size = none := M.I.hok.fresh (Nat.le_refl _)
  have szz : s.heap.objs.size < (((((s.heap.push { cls := .type "list", data := .seq #[] }).update s.heap.objs.size (Obj.mapSeq (fun _ => (#[] : Array Value)))).update s.heap.objs.size (Obj.mapSeq (·.push Value.none))).update s.heap.objs.size (Obj.mapSeq (·.pop)))).objs.size := Heap.lt_size d4
  refine lz_loop (A := A.in1) (H1 := H1) (xs := xs) (ys := ys) (l1 := a) (l2 := b) (TI := TI) (TO := TO) (i1 := i1) (i2 := i2) hh M.ap h1 h2 nf (fun ts s' H' I' sm hl hn hp => ⟨rfl, hR _ ts s' H' I' sm nf hl hn hp⟩) _ [] _ (upd H1 s.heap.objs.size (.lst [])) rfl {
    I := M.I.laid (t' := s.toks) u4 (Nat.le_refl _) ⟨Nat.zero_le _, [], _, .nil, d4⟩
    same := fun c o e => (upd_ne (ne_of_none e nf)).trans e
    fp := fun c hc => ⟨(upd_ne (Nat.ne_of_lt (M.lt c hc))).trans (M.fp c hc).1, (M.fp c hc).2⟩
    zip := .inl ⟨rfl, u4 _ _ M.zip, _, _, u4 _ _ M.pTO⟩
    pTI := u4 _ _ M.pTI
    t1 := M.t1.at fun o e => u4 _ o e
    t2 := M.t2.at fun o e => u4 _ o e
    lst := upd_same
    lt := fun c hc => Nat.lt_trans (M.lt c hc) szz
    few := ⟨Nat.zero_le _, Nat.zero_le _⟩
    prs := fun j t x y h => by simp at h }
theorem pe_listZip {X : Cx} {e e2 : Expr} {ta : TA} {p pos p2 pos2 : Pos} (hc : X.calm = true) (hg : Gl X "list") (hm : X.mg "list" = none) (hg2 : Gl X "zip") (hm2 : X.mg "zip" = none) (ha : PA X [e, e2] ta)
    (na : starEach [Expr.Call (.Name "zip" p2) [e, e2] [] pos2] X.env = (false, eval (.Call (.Name "zip" p2) [e, e2] [] pos2) X.env) :: starEach [] X.env := by rfl)
    (hs : starEach [e, e2] X.env = (false, eval e X.env) :: starEach [e2] X.env := by rfl) (hpl : (backTo pos2 (starEach [e2] X.env)).any (·.1) = false := by rfl) :
    PE X (.Call (.Name "list" p) [.Call (.Name "zip" p2) [e, e2] [] pos2] [] pos) (tListZip ta) := by
  refine ⟨fun pins s σ H Q I h => ?_⟩
  refine Call_ (ld_blt I hg hm boot_list (PyProof.Rows.callWith_type1 (args_cons (thn (lz_zip hg2 hm2 ha I hs hpl (fun vs H1 ⟨a, b, xs, ys, ev, h1, h2, _⟩ => ⟨a, b, xs, ys, ev, h1, h2⟩) h) fun v s1 ⟨a, b, z, TI, TO, i1, i2, H1, ev, M, q⟩ => args_nil ?_) na) na))
  subst ev
  obtain ⟨a', b', xs, ys, ev, h1, h2, q⟩ := q
  cases ev
  exact lz_list (I.ok.hd hc) M h1 h2 fun D ts s' H' I' sm nD hl hn hp => ⟨.ref D, H', I', rfl, q D ts H' sm nD hl hn hp⟩
end
end L2

/-! MR9 -/
/-! list(enumerate(xs, start=k)) of a list: a new list of new pairs. -/
namespace L2
open PySem PySem.Spec PyProof.Rows
theorem le_len : typeLookup (.type "enumerate") "__len__" = pure none := am_miss_of_fast (by decide +kernel)
theorem le_hint : typeLookup (.type "enumerate") "__length_hint__" = pure none := am_miss_of_fast (by decide +kernel)
section
variable {prog : Program} {w : World} {A : Around} {E : Value → Shared → Prop} {s : Shared}
variable {e it l T : Addr} {n : Nat} {c : Int} {zs : Array Value} {x o : Value} {f : Bool} {oT : Obj}
/-- the next pair while the last one is still there -/
theorem le_item {Q : Option Value → Shared → Prop} (he : IsEnumHeld s.heap e it c o T f) (hT : s.heap.get? T = some oT) (t1 : T ≠ e) (t2 : T ≠ it) (hi : s.heap.IsListIter it l n) (hl : s.heap.IsList l zs) (hx : zs[n]? = some x) (ne : e ≠ it)
    (q : ∀ h', IsEnumHeld h' e it (c + 1) o T true → h'.IsListIter it l (n + 1) → h'.get? s.heap.objs.size = some { cls := .type "tuple", data := .seq #[.int c s.toks, x] } → h'.objs.size = s.heap.objs.size + 1 → (∀ b u, b ≠ e → b ≠ it → s.heap.get? b = some u → h'.get? b = some u) → Q (some (.ref s.heap.objs.size)) { s with heap := h', toks := s.toks + 1 }) :
    wpAny (model prog w) A (pyNext (.ref e)) Q E s := by
  have ty : s.TypeIs (.ref e) "enumerate" := ⟨_, he, rfl⟩
  obtain ⟨h0, gg, dd, tk, os⟩ := s
  unfold pyNext
  refine wpAny_bind (wpAny_attempt (wpAny_callSpecial?_slot (name := Str.ofString "__next__") ty F.slot_enumerate_next (wpAny_call_entry F.slot_enumerate_next ty F.entry_enumerate_next ?_ (F.args_enumerate_next_1 _))))
  show wpAny _ _ (field (.ref e) 2 >>= _) _ _ _
  refine wpAny_bind (wpAny_field he rfl (x := .ref it) rfl ?_)
  refine wpAny_bind (wpAny_nextOf_list_item hi hl hx fun g1 i1 b1 => ?_)
  have b1' : Heap.SameBut it h0 g1 := b1
  have e1 : IsEnumHeld g1 e it c o T f := (b1'.2 e ne).trans he
  show wpAny _ _ (field (.ref e) 3 >>= _) _ _ ⟨g1, gg, dd, tk, os⟩
  refine wpAny_bind (wpAny_field e1 rfl (x := rawInt c) rfl ?_)
  show wpAny _ _ (field (.ref e) 4 >>= _) _ _ ⟨g1, gg, dd, tk, os⟩
  refine wpAny_bind (wpAny_field e1 rfl (x := .none) rfl ?_)
  show wpAny _ _ (mkInt c >>= _) _ _ ⟨g1, gg, dd, tk, os⟩
  refine wpAny_bind (wpAny_mkInt ?_)
  show wpAny _ _ (setField (.ref e) 3 (rawInt (c + 1)) >>= _) _ _ ⟨g1, gg, dd, tk + 1, os⟩
  refine wpAny_bind (wpAny_setField_rec e1 (by simp) fun g2 e2 b2 => ?_)
  have b2' : Heap.SameBut e g1 g2 := b2
  have e2' : IsEnumHeld g2 e it (c + 1) o T f := e2
  show wpAny _ _ (setField (.ref e) 4 .none >>= _) _ _ ⟨g2, gg, dd, tk + 1, os⟩
  refine wpAny_bind (wpAny_setField_rec e2' (by simp) fun g3 e3 b3 => ?_)
  have b3' : Heap.SameBut e g2 g3 := b3
  have e3' : IsEnumHeld g3 e it (c + 1) o T f := e3
  show wpAny _ _ (newTuple [.int c tk, x] >>= _) _ _ ⟨g3, gg, dd, tk + 1, os⟩
  refine wpAny_bind (wpAny_newTuple ?_)
  have sz : g3.objs.size = h0.objs.size := by rw [b3'.1, b2'.1, b1'.1]
  have lt : e < h0.objs.size := Heap.lt_size he
  have kp3 : ∀ b u, b ≠ e → b ≠ it → h0.get? b = some u → g3.get? b = some u := fun b u n1 n2 z => b3'.extBut b u n1 (b2'.extBut b u n1 (b1'.extBut b u n2 z))
  have i3 : g3.IsListIter it l (n + 1) := (i1.extBut b2'.extBut ne.symm).extBut b3'.extBut ne.symm
  obtain ⟨g4, hg4⟩ : ∃ g4, g4 = g3.push { cls := .type "tuple", data := .seq #[.int c tk, x] } := ⟨_, rfl⟩
  have e4 : IsEnumHeld g4 e it (c + 1) o T f := by
    rw [hg4]
    exact Heap.get?_push_of_some _ e3'
  have tu : g4.get? h0.objs.size = some { cls := .type "tuple", data := .seq #[.int c tk, x] } := by
    rw [hg4, ← sz]
    exact Heap.get?_push_size _ rfl
  have sz4 : g4.objs.size = h0.objs.size + 1 := by rw [hg4, Heap.size_push, sz]
  have kp4 : ∀ b u, b ≠ e → b ≠ it → h0.get? b = some u → g4.get? b = some u := fun b u n1 n2 z => by
    rw [hg4]
    exact Heap.get?_push_of_some _ (kp3 b u n1 n2 z)
  have i4 : g4.IsListIter it l (n + 1) := by
    rw [hg4]
    exact i3.at fun u z => Heap.get?_push_of_some _ z
  rw [← hg4, sz]
  clear hg4
  show wpAny _ _ (Builtin.SmallTypes.ownedTupleIsFree (.ref e) >>= _) _ _ ⟨g4, gg, dd, tk + 1, os⟩
  refine wpAny_bind (wpAny_tupleHeld_enum (s := ⟨g4, gg, dd, tk + 1, os⟩) e4 (kp4 T oT t1 t2 hT) fun g5 e5 b5 => ?_)
  have b5' : Heap.SameBut e g4 g5 := b5
  simp only [Bool.false_eq_true, if_false]
  refine wpAny_pure ⟨_, rfl, wpAny_pure ?_⟩
  refine q g5 e5 (i4.extBut b5'.extBut ne.symm) (b5'.extBut _ _ (Nat.ne_of_gt lt) tu) ?_ fun b u n1 n2 z => b5'.extBut b u n1 (kp4 b u n1 n2 z)
  show g5.objs.size = _
  rw [b5'.1, sz4]
theorem le_end {Q : Option Value → Shared → Prop} (hh : A.handled = none) (he : IsEnumHeld s.heap e it c o T f) (hi : s.heap.IsListIter it l n) (hl : s.heap.IsList l zs) (hx : zs[n]? = none) (q : ∀ h', Heap.ExtBut it s.heap h' → Q none { s with heap := h' }) :
    wpAny (model prog w) A (pyNext (.ref e)) Q E s := by
  have ty : s.TypeIs (.ref e) "enumerate" := ⟨_, he, rfl⟩
  unfold pyNext
  refine wpAny_bind (wpAny_attempt (wpAny_callSpecial?_slot (name := Str.ofString "__next__") ty F.slot_enumerate_next (wpAny_call_entry F.slot_enumerate_next ty F.entry_enumerate_next ?_ (F.args_enumerate_next_1 _))))
  show wpAny _ _ (field (.ref e) 2 >>= _) _ _ _
  refine wpAny_bind (wpAny_field he rfl (x := .ref it) rfl ?_)
  refine wpAny_bind (wpAny_nextOf_list_end hh hi hl hx fun g1 y b1 hy => ?_)
  obtain ⟨oy, hoy, hcy⟩ := hy
  refine wpAny_bind (wpAny_isInstance (T := "StopIteration") (b := true) ⟨oy, hoy, hcy⟩ isSubtype_stop ?_)
  exact wpAny_pure (q _ b1)
end
/-! ### the loop -/
section
variable {X : Cx} {pins : List (Addr × Obj)} {σ : L2.St} {l e it D : Addr} {k : Int} {xs : List V} {H1 : Hp}
structure LeInv (X : Cx) (pins : List (Addr × Obj)) (σ : L2.St) (l e it D : Addr) (k : Int) (xs : List V) (H1 : Hp) (ts : List Addr) (s : Shared) (H : Hp) : Prop where
  I : Inv X pins σ H s
  same : Same H1 H
  fp : ∀ c ∈ [e, it], FpOk X pins H c
  en : (ts = [] ∧ ∃ o, IsEnum s.heap e it k o) ∨ ∃ T f oT o, IsEnumHeld s.heap e it (k + (ts.length : Nat)) o T f ∧ T ≠ e ∧ T ≠ it ∧ T ≠ D ∧ s.heap.get? T = some oT
  li : s.heap.IsListIter it l ts.length
  lst : H D = some (.lst (ts.map V.ref))
  lt : ∀ c ∈ [e, it], c < s.heap.objs.size
  few : ts.length ≤ xs.length
  prs : ∀ (j : Nat) (t : Addr) (x : V), ts[j]? = some t → xs[j]? = some x → H t = some (.tup [.int (k + (j : Nat)), x])
theorem le_loop {A : Around} {R : Result → Shared → Prop} {res : Value} (hh : A.in1.handled = none) (ne : e ≠ it) (nl : l ≠ it) (h1 : H1 l = some (.lst xs)) (nD : H1 D = none)
    (hR : ∀ (ts : List Addr) (s' : Shared) (H' : Hp), Inv X pins σ H' s' → Same H1 H' → H' D = some (.lst (ts.map V.ref)) → ts.length = xs.length → (∀ (j : Nat) (t : Addr) (x : V), ts[j]? = some t → xs[j]? = some x → H' t = some (.tup [.int (k + (j : Nat)), x])) → R (.ok (.ret res)) s') :
    ∀ (m : Nat) (ts : List Addr) (s : Shared) (H : Hp), xs.length - ts.length = m → LeInv X pins σ l e it D k xs H1 ts s H → codeAny (model X.prog X.w) A (.builtin "list.extend.loop" ⟨[.ref D, .ref e, res], []⟩) R s := by
  intro m
  induction m with
  | zero =>
    intro ts s H hk J
    refine codeAny_builtin F.entry_extend_loop ?_
    rw [Around.under_plainId F.plain_extend_loop _]
    show wpAny _ A.in1 (pyNext (.ref e) >>= _) _ _ s
    have f := J.few
    have hn : ts.length = xs.length := by omega
    obtain ⟨z, its, n0, r0, len0, e0⟩ := J.I.lstM (J.same _ _ h1)
    have hL : s.heap.IsList l its.toArray := ⟨_, e0, rfl, n0, rfl⟩
    have hx : its.toArray[ts.length]? = none := by simp; omega
    have fin : ∀ h', Heap.ExtBut it s.heap h' → R (.ok (.ret res)) { s with heap := h' } := fun h' kp =>
      hR ts _ H (J.I.turnedL (t' := s.toks) (ch := [e, it]) (fun c u hb q => kp c u (fun z => hb (by simp [z])) q) J.fp) J.same J.lst hn J.prs
    rcases J.en with ⟨_, o, hz⟩ | ⟨T, f, oT, o, hz, _⟩
    · have hz0 : its.toArray.size = ts.length := by simp; omega
      refine wpAny_bind (wpAny_pyNext_enum_endD (Draws.list (A := A.in1.in1) (show A.in1.in1.handled = none from hh) it l nl its.toArray) hz ?_ fun h' kp => wpAny_pure (fin h' kp))
      rw [hz0]
      exact ⟨J.li, hL⟩
    · exact wpAny_bind (le_end hh hz J.li hL hx fun h' kp => wpAny_pure (fin h' kp))
  | succ m ih =>
    intro ts s H hk J
    refine codeAny_builtin F.entry_extend_loop ?_
    rw [Around.under_plainId F.plain_extend_loop _]
    show wpAny _ A.in1 (pyNext (.ref e) >>= _) _ _ s
    obtain ⟨z, its, n0, r0, len0, e0⟩ := J.I.lstM (J.same _ _ h1)
    have hL : s.heap.IsList l its.toArray := ⟨_, e0, rfl, n0, rfl⟩
    have hx : xs[ts.length]? = some (xs[ts.length]'(by omega)) := by simp
    generalize xs[ts.length]'(by omega) = x at hx
    obtain ⟨u, hu, ru⟩ := r0.get hx
    have hu' : its.toArray[ts.length]? = some u := by simpa using hu
    have push : ∀ (h' : Heap) (tk : Nat) (tt : Tok), (∃ T f oT o, IsEnumHeld h' e it (k + (ts.length : Nat) + 1) o T f ∧ T ≠ e ∧ T ≠ it ∧ T ≠ D ∧ (T = s.heap.objs.size ∨ h'.get? T = some oT)) → h'.IsListIter it l (ts.length + 1) → h'.get? s.heap.objs.size = some { cls := .type "tuple", data := .seq #[.int (k + (ts.length : Nat)) tt, u] } →
        (∀ c o, c ≠ e → c ≠ it → s.heap.get? c = some o → h'.get? c = some o) →
        wpAny (model X.prog X.w) A.in1 (updateSeq D (·.push (.ref s.heap.objs.size)) >>= fun _ => again (.builtin "list.extend.loop" ⟨[.ref D, .ref e, res], []⟩))
          (fun fin s' => match fin with | .done f => R (.ok f) s' | .again c' => c'.quiet = true ∧ codeAny (model X.prog X.w) A c' R s') (fun e s' => R (.error e) s') { s with heap := h', toks := tk } := by
      intro h' tk tt hen a3 a5 kp
      have nf : H s.heap.objs.size = none := J.I.hok.fresh (Nat.le_refl _)
      have new : ObjOk X.prog X.w (upd H s.heap.objs.size (.tup [.int (k + (ts.length : Nat)), x])) h' s.heap.objs.size (.tup [.int (k + (ts.length : Nat)), x]) := ⟨by show 2 ≤ sizeLine; decide, [.int (k + (ts.length : Nat)) tt, u], .cons ⟨_, rfl⟩ (.cons ru .nil), ⟨_, a5, rfl, _, rfl⟩⟩
      have I1 : Inv X pins σ (upd H s.heap.objs.size (.tup [.int (k + (ts.length : Nat)), x])) { s with heap := h', toks := tk } :=
        J.I.turnedNew (t' := tk) (ch := [e, it]) (fun c o hb q => kp c o (fun z => hb (by simp [z])) (fun z => hb (by simp [z])) q) J.fp (Nat.le_refl _) new
      have nTD : s.heap.objs.size ≠ D := (ne_of_none J.lst nf).symm
      have hD1 : (upd H s.heap.objs.size (.tup [.int (k + (ts.length : Nat)), x])) D = some (.lst (ts.map V.ref)) := (upd_ne nTD.symm).trans J.lst
      obtain ⟨hz, its3, n3, r3, l3, e3⟩ := I1.lstM hD1
      have len : (ts.map V.ref).length = ts.length := List.length_map _
      have small : ts.length + 1 ≤ sizeLine := by omega
      have nc : ∀ c ∈ [e, it], c ≠ D := fun c hc => (ne_of_none J.lst (J.fp c hc).1).symm
      have oth : ∀ b o, b ≠ D → h'.get? b = some o → (h'.update D (Obj.mapSeq (·.push (.ref s.heap.objs.size)))).get? b = some o := fun b o hb z => (Heap.get?_update_other _ _ hb.symm).trans z
      have szT : s.heap.objs.size < h'.objs.size := Heap.lt_size a5
      refine wpAny_bind (wpAny_updateSeq e3 rfl ?_ (by rw [List.size_toArray, ← l3, len]; omega) (by show (its3.toArray.push _).size ≤ sizeLine + 1; rw [Array.size_push, List.size_toArray, ← l3, len]; omega))
      refine wpAny_pure ⟨plainId_quiet F.plain_extend_loop _, ih (ts ++ [s.heap.objs.size]) _ (upd (upd H s.heap.objs.size (.tup [.int (k + (ts.length : Nat)), x])) D (.lst ((ts ++ [s.heap.objs.size]).map V.ref))) (by rw [List.length_append]; simp; omega) ?_⟩
      have rT : Vals ((ts ++ [s.heap.objs.size]).map V.ref) (its3 ++ [Value.ref s.heap.objs.size]) := by
        rw [List.map_append]
        exact r3.append (.cons rfl .nil)
      refine {
        I := I1.lset (t' := tk) (its' := its3 ++ [Value.ref s.heap.objs.size]) hD1 e3 (by simp) rT (by rw [List.length_map, List.length_append]; simpa using small)
        same := fun b o z => ?_
        fp := fun c hc => ?_
        en := .inr ?_
        li := ?_
        lst := upd_same
        lt := fun c hc => ?_
        few := by rw [List.length_append]; simp; omega
        prs := fun j t x' ht hx' => ?_ }
      · have z1 := J.same b o z
        rw [upd_ne (ne_of_none z nD), upd_ne (ne_of_none z1 nf)]
        exact z1
      · have q := J.fp c hc
        refine ⟨?_, q.2⟩
        rw [upd_ne (nc c hc), upd_ne (Nat.ne_of_lt (J.lt c hc))]
        exact q.1
      · obtain ⟨T, f, oT, o, q, n1, n2, n3', hT⟩ := hen
        have hT' : ∃ oT, (h'.update D (Obj.mapSeq (·.push (.ref s.heap.objs.size)))).get? T = some oT := by
          rcases hT with z | z
          · rw [z]
            exact ⟨_, oth _ _ nTD a5⟩
          · exact ⟨_, oth _ _ n3' z⟩
        obtain ⟨oT2, hT2⟩ := hT'
        refine ⟨T, f, oT2, o, ?_, n1, n2, n3', hT2⟩
        have ec : k + (((ts ++ [s.heap.objs.size]).length : Nat) : Int) = k + (ts.length : Nat) + 1 := by rw [List.length_append]; simp; omega
        rw [ec]
        exact oth _ _ (nc e (by simp)) q
      · rw [List.length_append]
        exact a3.at fun o z => oth _ o (nc it (by simp)) z
      · have q := J.lt c hc
        show c < (h'.update D (Obj.mapSeq (·.push (.ref s.heap.objs.size)))).objs.size
        rw [Heap.size_update]
        exact Nat.lt_trans q szT
      · rw [List.getElem?_append] at ht
        by_cases hj : j < ts.length
        · rw [if_pos hj] at ht
          have q := J.prs j t x' ht hx'
          rw [upd_ne (ne_of J.lst q (by intro z; cases z)).symm, upd_ne (ne_of_none q nf)]
          exact q
        · rw [if_neg hj] at ht
          have hj0 : j = ts.length := by
            have := (List.getElem?_eq_some_iff.mp ht).1
            simp at this
            omega
          subst hj0
          rw [hx] at hx'
          cases hx'
          simp at ht
          subst ht
          rw [upd_ne nTD]
          exact upd_same
    have ltm : ∀ c ∈ [e, it], s.heap.objs.size ≠ c := fun c hc => (Nat.ne_of_lt (J.lt c hc)).symm
    have nsD : s.heap.objs.size ≠ D := (ne_of_none J.lst (J.I.hok.fresh (Nat.le_refl _))).symm
    rcases J.en with ⟨hts, o, hz⟩ | ⟨T, f, oT, o, hz, n1, n2, n3, hT⟩
    · have hz' : IsEnum s.heap e it (k + (ts.length : Nat)) o := by
        rw [hts]
        simpa using hz
      refine wpAny_bind (wpAny_pyNext_enum_itemC (Draws.list (A := A.in1.in1) (show A.in1.in1.handled = none from hh) it l nl its.toArray) hz' ⟨J.li, hL⟩ (by simp; omega) ne (by
        simp only [List.mem_cons, List.not_mem_nil, or_false, not_or]
        refine ⟨ne, fun z => ?_⟩
        have q := (J.fp e (by simp)).1
        rw [z, J.same _ _ h1] at q
        cases q) fun x2 h' tk hP a1 a2 a3 a4 kp => ?_)
      have ex : x2 = u := by
        have q := hu'.symm.trans hP
        exact (Option.some.inj q).symm
      subst ex
      exact push h' (tk + 1) tk ⟨s.heap.objs.size, false, { cls := .type "tuple" }, _, a1, ltm e (by simp), ltm it (by simp), nsD, .inl rfl⟩ a2.1 a3 kp
    · refine wpAny_bind (le_item hz hT n1 n2 J.li hL hu' ne fun h' a1 a2 a3 a4 kp => ?_)
      exact push h' (s.toks + 1) s.toks ⟨T, true, oT, o, a1, n1, n2, n3, .inr (kp T oT n1 n2 hT)⟩ a2 a3 kp
end
/-! ### the whole expression -/
section
variable {M : Model} {A : Around} {E : Value → Shared → Prop} {s : Shared}
/-- a built-in class called with keywords -/
theorem ckt {pos : Pos} {T : String} {as : List (Bool × Sem Value)} {kws : List (Option Str × Sem Value)} {Q : Value → Shared → Prop} (h1 : as.any (·.1) = false) (h2 : kws.any (·.1.isNone) = false)
    (h : wpAny M A (evalArgs (.type T) true as kws) (fun a s1 => wpAny M A (call (.type T) a.pos a.kw) Q E s1) E s) : wpAny M A (callWith pos (.type T) [] as kws) Q E s := by
  unfold callWith
  refine wpAny_bind (wpAny_holding (wpAny_mono h (fun b t1 hb => wpAny_bind (wpAny_standAt ?_)) fun _ _ z => z))
  simp only [h1, h2, Bool.or_false, List.nil_append]
  refine wpAny_bind (wpAny_pure ?_)
  exact wpAny_bind (wpAny_mono hb (fun v t2 hv => wpAny_bind (wpAny_holding (wpAny_point (wpAny_pure hv)))) fun _ _ z => z)
end
section
variable {X : Cx} {pins : List (Addr × Obj)} {σ : L2.St}
structure LeMade (X : Cx) (pins : List (Addr × Obj)) (σ : L2.St) (l e it : Addr) (k : Int) (H1 : Hp) (s : Shared) : Prop where
  I : Inv X pins σ H1 s
  ne : e ≠ it
  fp : ∀ c ∈ [e, it], FpOk X pins H1 c
  lt : ∀ c ∈ [e, it], c < s.heap.objs.size
  en : ∃ o, IsEnum s.heap e it k o
  li : s.heap.IsListIter it l 0
def tListEnum (te tk : TE) : TE := fun σ H Q => te σ H fun x H1 => tk σ H1 fun y H2 => ∃ (l : Addr) (xs : List V) (k : Int), x = .ref l ∧ y = .int k ∧ H2 l = some (.lst xs) ∧ -(2 ^ 63) ≤ k ∧ k < 2 ^ 63 ∧ ∀ (D : Addr) (ts : List Addr) (H' : Hp), Same H2 H' → H2 D = none → H' D = some (.lst (ts.map V.ref)) → ts.length = xs.length →
  (∀ (j : Nat) (t : Addr) (x : V), ts[j]? = some t → xs[j]? = some x → H' t = some (.tup [.int (k + (j : Nat)), x])) → Q (.ref D) H'
theorem le_list {A : Around} {E : Value → Shared → Prop} {Q : Value → Shared → Prop} {l e it : Addr} {k : Int} {xs : List V} {H1 : Hp} {s : Shared} (hh : A.handled = none) (M : LeMade X pins σ l e it k H1 s) (h1 : H1 l = some (.lst xs))
    (hR : ∀ (D : Addr) (ts : List Addr) (s' : Shared) (H' : Hp), Inv X pins σ H' s' → Same H1 H' → H1 D = none → H' D = some (.lst (ts.map V.ref)) → ts.length = xs.length → (∀ (j : Nat) (t : Addr) (x : V), ts[j]? = some t → xs[j]? = some x → H' t = some (.tup [.int (k + (j : Nat)), x])) → Q (.ref D) s') :
    wpAny (model X.prog X.w) A (call (.type "list") [.ref e]) Q E s := by
  have nDe : s.heap.objs.size ≠ e := (Nat.ne_of_lt (M.lt e (by simp))).symm
  obtain ⟨o0, hen⟩ := M.en
  refine callType_codes (Q₁ := fun obj s₁ => obj = .ref s.heap.objs.size ∧ s₁ = { s with heap := s.heap.push { cls := .type "list", data := .seq #[] } }) F.called_list (F.typeCall_list_1 _) F.entry_list_init (code_list_new _ ⟨rfl, rfl⟩) fun obj s₁ h₁ => ?_
  obtain ⟨rfl, rfl⟩ := h₁
  have d1 : (s.heap.push { cls := .type "list", data := .seq #[] }).get? s.heap.objs.size = some { cls := .type "list", data := .seq #[] } := Heap.get?_push_size _ rfl
  refine ⟨⟨_, d1, rfl⟩, F.args_list_init_2 _ _, ?_⟩
  show wpAny _ A.in1.in1 (Builtin.List.listItems (.ref s.heap.objs.size) >>= _) _ _ _
  refine wpAny_bind ?_
  unfold Builtin.List.listItems
  refine wpAny_bind (wpAny_seqItems d1 rfl (wpAny_pure ?_))
  show wpAny _ A.in1.in1 (updateSeq s.heap.objs.size (fun _ => #[]) >>= _) _ _ _
  refine wpAny_bind (wpAny_updateSeq d1 rfl ?_)
  have d2 := Heap.get?_update_self (Obj.mapSeq (fun _ => (#[] : Array Value))) d1 rfl
  refine wpAny_bind (wpAny_letGo ?_)
  unfold Builtin.List.listExtendWith
  have up : ∀ (g : Heap) (f : Obj → Obj), (∀ c o, s.heap.get? c = some o → g.get? c = some o) → ∀ c o, s.heap.get? c = some o → (g.update s.heap.objs.size f).get? c = some o := fun g f q c o z => (Heap.get?_update_other _ _ (Ne.symm (Nat.ne_of_lt (Heap.lt_size z)))).trans (q c o z)
  have u1 : ∀ c o, s.heap.get? c = some o → (s.heap.push { cls := .type "list", data := .seq #[] }).get? c = some o := fun c o z => Heap.get?_push_of_some _ z
  have u2 := up _ (Obj.mapSeq (fun _ => (#[] : Array Value))) u1
  have zt : ∀ {g : Heap}, (∀ c o, s.heap.get? c = some o → g.get? c = some o) → ({ s with heap := g } : Shared).TypeIs (.ref e) "enumerate" := fun {g} q => ⟨_, q _ _ hen, rfl⟩
  refine wpAny_bind (wpAny_typeOf (zt u2) ?_)
  have c1 : Builtin.List.listSameRef (.ref s.heap.objs.size) (.ref e) = false := by simp [Builtin.List.listSameRef, nDe]
  have c2 : (Value.type "enumerate" == Value.type "list") = false := by decide
  have c3 : (Value.type "enumerate" == Value.type "tuple") = false := by decide
  simp only [c1, c2, c3, Bool.or_false, Bool.false_eq_true, if_false]
  refine wpAny_bind (wpAny_pyIter_enum (u2 _ _ hen) ?_)
  refine wpAny_bind (wpAny_holding ?_)
  unfold Builtin.List.listLengthHint
  refine wpAny_bind (wpAny_specialOf (zt u2) le_len ?_)
  show wpAny _ A.in1.in1 (specialOf (Value.ref e) (Str.ofString "__length_hint__") >>= _) _ _ _
  refine wpAny_bind (wpAny_specialOf (zt u2) le_hint ?_)
  refine wpAny_pure ?_
  show wpAny _ A.in1.in1 (rule "list.extend.makes-room" >>= _) _ _ _
  refine wpAny_bind (wpAny_rule (wpAny_bind ?_))
  show wpAny _ A.in1.in1 (updateSeq s.heap.objs.size (·.push .none) >>= _) _ _ _
  refine wpAny_bind (wpAny_updateSeq d2 rfl ?_)
  have d3 := Heap.get?_update_self (Obj.mapSeq (·.push Value.none)) d2 rfl
  refine wpAny_updateSeq (hz := by seq_fits) d3 rfl ?_
  have d4 := Heap.get?_update_self (Obj.mapSeq (·.pop)) d3 rfl
  have u4 := up _ (Obj.mapSeq (·.pop)) (up _ (Obj.mapSeq (·.push Value.none)) u2)
  refine wpAny_pure ⟨plainId_quiet F.plain_extend_loop _, ?_⟩
  have nf : H1 s.heap.objs.size = none := M.I.hok.fresh (Nat.le_refl _)
  have szz : s.heap.objs.size < (((((s.heap.push { cls := .type "list", data := .seq #[] }).update s.heap.objs.size (Obj.mapSeq (fun _ => (#[] : Array Value)))).update s.heap.objs.size (Obj.mapSeq (·.push Value.none))).update s.heap.objs.size (Obj.mapSeq (·.pop)))).objs.size := Heap.lt_size d4
  have nlit : l ≠ it := fun z => by
    have q := (M.fp it (by simp)).1
    rw [← z, h1] at q
    cases q
  refine le_loop (A := A.in1) (H1 := H1) (xs := xs) (l := l) (it := it) hh M.ne nlit h1 nf (fun ts s' H' I' sm hl hn hp => ⟨rfl, hR _ ts s' H' I' sm nf hl hn hp⟩) _ [] _ (upd H1 s.heap.objs.size (.lst [])) rfl {
    I := M.I.laid (t' := s.toks) u4 (Nat.le_refl _) ⟨Nat.zero_le _, [], _, .nil, d4⟩
    same := fun c o z => (upd_ne (ne_of_none z nf)).trans z
    fp := fun c hc => ⟨(upd_ne (Nat.ne_of_lt (M.lt c hc))).trans (M.fp c hc).1, (M.fp c hc).2⟩
    en := .inl ⟨rfl, o0, u4 _ _ hen⟩
    li := M.li.at fun o z => u4 _ o z
    lst := upd_same
    lt := fun c hc => Nat.lt_trans (M.lt c hc) szz
    few := Nat.zero_le _
    prs := fun j t x h => by simp at h }
def leRest (x y : V) (H2 : Hp) (Q : VK) : Prop := ∃ (l : Addr) (xs : List V) (k : Int), x = .ref l ∧ y = .int k ∧ H2 l = some (.lst xs) ∧ -(2 ^ 63) ≤ k ∧ k < 2 ^ 63 ∧ ∀ (D : Addr) (ts : List Addr) (H' : Hp), Same H2 H' → H2 D = none → H' D = some (.lst (ts.map V.ref)) → ts.length = xs.length →
  (∀ (j : Nat) (t : Addr) (x : V), ts[j]? = some t → xs[j]? = some x → H' t = some (.tup [.int (k + (j : Nat)), x])) → Q (.ref D) H'
theorem pe_listEnum {X : Cx} {e ke : Expr} {te tk : TE} {p pos p2 pos2 kp : Pos} (hc : X.calm = true) (hg : Gl X "list") (hm : X.mg "list" = none) (hg2 : Gl X "enumerate") (hm2 : X.mg "enumerate" = none) (ha : PA X [e] (tCons te tNil)) (hk : PK X [⟨some "start", ke, kp⟩] (tCons tk tNil))
    (na : starEach [Expr.Call (.Name "enumerate" p2) [e] [⟨some "start", ke, kp⟩] pos2] X.env = (false, eval (.Call (.Name "enumerate" p2) [e] [⟨some "start", ke, kp⟩] pos2) X.env) :: starEach [] X.env := by rfl)
    (hs : starEach [e] X.env = (false, eval e X.env) :: starEach [] X.env := by rfl) :
    PE X (.Call (.Name "list" p) [.Call (.Name "enumerate" p2) [e] [⟨some "start", ke, kp⟩] pos2] [] pos) (tListEnum te tk) := by
  refine ⟨fun pins s σ H Q I h => ?_⟩
  have h' : te σ H fun x H1 => tk σ H1 fun y H2 => leRest x y H2 Q := h
  refine Call_ (ld_blt I hg hm boot_list (PyProof.Rows.callWith_type1 (args_cons (thn (Q := fun v s1 => ∃ l e it k H1 xs, v = .ref e ∧ LeMade X pins σ l e it k H1 s1 ∧ H1 l = some (.lst xs) ∧ ∀ (D : Addr) (ts : List Addr) (H' : Hp), Same H1 H' → H1 D = none → H' D = some (.lst (ts.map V.ref)) → ts.length = xs.length →
    (∀ (j : Nat) (t : Addr) (x : V), ts[j]? = some t → xs[j]? = some x → H' t = some (.tup [.int (k + (j : Nat)), x])) → Q (.ref D) H') ?_ fun v s1 ⟨l, e0, it, k, H1, xs, ev, M, h1, q⟩ => args_nil ?_) na) na))
  · refine wpAny_Call_Name_kw (ld_blt I hg2 hm2 boot_enumerate ?_)
    refine ckt (by rw [hs]; rfl) rfl ?_
    have run1 := ha.run pos2 pins s σ H (fun vs H1 => match vs with | [x] => tk σ H1 fun y H2 => leRest x y H2 Q | _ => False) I h'
    rw [hs] at run1 ⊢
    refine evalArgs_kwB rfl (thn run1 fun us s1 ⟨vs, H1, I1, r1, q1⟩ => ?_)
    match vs, r1, q1 with
    | [x], r1, q1 =>
      refine thn (hk.run pos2 pins s1 σ H1 (fun ws H2 => match ws with | [y] => leRest x y H2 Q | _ => False) I1 q1) fun ws s2 ⟨zs, H2, I2, r2, q2⟩ => ?_
      match zs, r2, q2 with
      | [y], r2, q2 =>
        obtain ⟨l, xs, k, rfl, rfl, hl, k0, k1, q3⟩ := q2
        cases r1 with
        | cons ra rb =>
          cases rb
          cases ra
          cases r2 with
          | cons rc rd =>
            cases rd
            obtain ⟨tt, rfl⟩ := rc
            obtain ⟨z, its, n0, r0, len0, e0⟩ := I2.lstM hl
            show wpAny _ _ (call (.type "enumerate") [.ref l] [(Str.ofString "start", .int k tt)]) _ _ _
            refine enum_begins_start (begins_list l its.toArray) ⟨_, e0, rfl, n0, rfl⟩ k0 k1 fun h' he hi hsz hk' => ?_
            have ge : ∀ c ∈ [s2.heap.objs.size + 1, s2.heap.objs.size], s2.heap.objs.size ≤ c ∧ c < s2.heap.objs.size + 2 := fun c hc => by
              simp only [List.mem_cons, List.not_mem_nil, or_false] at hc
              rcases hc with q | q <;> rw [q] <;> exact ⟨by simp, by simp⟩
            refine ⟨l, _, s2.heap.objs.size, k, H2, xs, rfl, ⟨I2.kept (t' := s2.toks) hk', Nat.succ_ne_self _, fun c hc => I2.fpOk (ge c hc).1 (I2.hok.fresh (ge c hc).1), fun c hc => ?_, ⟨_, he⟩, ⟨_, hi, rfl, rfl⟩⟩, hl, q3⟩
            show c < h'.objs.size
            rw [hsz]
            exact (ge c hc).2
  · subst ev
    exact le_list (I.ok.hd hc) M h1 fun D ts s' H' I' sm nD hl hn hp => ⟨.ref D, H', I', rfl, q D ts H' sm nD hl hn hp⟩
end
end L2

/-! MR10 -/
/-! t[::-1] of a tuple: a new tuple. -/
namespace HT
open PySem PySem.Spec PyProof.Rows L2
section
variable {prog : Program} {w : World} {A : Around} {E : Value → Shared → Prop} {s : Shared}
theorem adjust_rev (n : Nat) : Builtin.Slice.sliceAdjust none none (-1) (n : Int) = ((n : Int) - 1, -1) := rfl
theorem places_rev (n : Nat) : Builtin.Slice.slicePlaces ((n : Int) - 1) (-1) (-1) = n := by
  unfold Builtin.Slice.slicePlaces
  have h1 : ¬ ((-1 : Int) > 0) := by decide
  rw [if_neg h1]
  split
  · rw [show (-(-1) : Int) = 1 by decide, Int.ediv_one]
    omega
  · omega
theorem sliceApplied_rev {sl : Addr} {vs : Value} {n : Nat} {Q : Int × Int × Nat → Shared → Prop} (hs : s.heap.IsSliceOf sl .none .none vs) (ps : IsPart vs (some (-1)))
    (h : Q ((n : Int) - 1, -1, n) s) : wpAny (model prog w) A (Builtin.Slice.sliceApplied (.ref sl) (pure (n : Int))) Q E s := by
  obtain ⟨os, hos, hcs, hds⟩ := id hs
  unfold Builtin.Slice.sliceApplied Builtin.Slice.sliceFields
  refine wpAny_bind (wpAny_bind (wpAny_field hos hds (x := .none) rfl (wpAny_bind (wpAny_field hos hds (x := .none) rfl (wpAny_bind (wpAny_field hos hds (x := vs) rfl (wpAny_pure ?_)))))))
  refine wpAny_bind (slicePart_ ps ?_)
  show wpAny _ _ (if ((-1 : Int) == 0) = true then _ else _) _ _ s
  rw [if_neg (by decide)]
  refine wpAny_bind (slicePart_ .none (wpAny_bind (slicePart_ .none (wpAny_bind (wpAny_pure ?_)))))
  show wpAny _ _ (match Builtin.Slice.sliceAdjust none none (-1) (n : Int) with | (lo, hi) => pure (lo, (-1 : Int), Builtin.Slice.slicePlaces lo hi (-1))) _ _ s
  rw [adjust_rev n]
  show wpAny _ _ (pure ((n : Int) - 1, (-1 : Int), Builtin.Slice.slicePlaces ((n : Int) - 1) (-1) (-1))) _ _ s
  rw [places_rev]
  exact wpAny_pure h
theorem fm_congr {α β : Type} {f g : α → Option β} : ∀ {l : List α}, (∀ x ∈ l, f x = g x) → l.filterMap f = l.filterMap g
  | [], _ => rfl
  | x :: l, h => by
    rw [List.filterMap_cons, List.filterMap_cons, h x (by simp), fm_congr fun y hy => h y (List.mem_cons_of_mem _ hy)]
theorem pick_rev (xs : Array Value) : ((List.range xs.size).filterMap fun (m : Nat) => xs[((xs.size : Int) - 1 + (m : Int) * -1).toNat]?).toArray = xs.toList.reverse.toArray := by
  have e : (List.range xs.size).filterMap (fun (m : Nat) => xs[((xs.size : Int) - 1 + (m : Int) * -1).toNat]?) = ((List.range xs.size).map (fun k => xs.size - 1 - k)).filterMap (xs[·]?) := by
    rw [List.filterMap_map]
    refine fm_congr fun k hk => ?_
    have := List.mem_range.mp hk
    have e2 : ((xs.size : Int) - 1 + (k : Int) * -1).toNat = xs.size - 1 - k := by omega
    show xs[((xs.size : Int) - 1 + (k : Int) * -1).toNat]? = xs[xs.size - 1 - k]?
    rw [e2]
  rw [e, PySem.W.krv_range, List.filterMap_reverse, PySem.W.krv_all]
theorem getItem_tuple_rev {t sl : Addr} {items : Array Value} {vs : Value} {Q : Value → Shared → Prop} (ht : IsTup s.heap t items) (hs : s.heap.IsSliceOf sl .none .none vs) (ps : IsPart vs (some (-1)))
    (h : Q (.ref s.heap.objs.size) { s with heap := s.heap.push { cls := .type "tuple", data := .seq items.toList.reverse.toArray } })
    (hsz : items.size ≤ sizeLine) : wpAny (model prog w) A (getItem (.ref t) (.ref sl)) Q E s := by
  have htake : sizeOk (.seq items.toList.reverse.toArray) := by
    show items.toList.reverse.toArray.size ≤ sizeLine
    rw [List.size_toArray, List.length_reverse, Array.length_toList]
    exact hsz
  obtain ⟨os, hos, hcs, hds⟩ := id hs
  have hTs : s.TypeIs (.ref sl) "slice" := ⟨os, hos, hcs⟩
  unfold getItem
  try with_reducible refine wpAny_holding ?_
  first | refine wpAny_bind (wpAny_pure ?_) | skip
  refine wpAny_bind (wpAny_sequenceKey ht.typeIs (by decide) ?_)
  refine wpAny_bind (wpAny_callSpecial?_slot (name := Str.ofString "__getitem__") ht.typeIs PyProof.Rows.slot_tuple_getitem
    (wpAny_call_entry PyProof.Rows.slot_tuple_getitem ht.typeIs entry_tuple_getitem ?_ (args_tuple_getitem _ _)))
  show wpAny _ _ (Builtin.Tuple.tupleItemsOf (.ref t) >>= _) _ _ s
  refine wpAny_bind (tupleItemsOf_ ht ?_)
  refine wpAny_bind (wpAny_typeOf hTs ?_)
  rw [if_pos (by decide)]
  refine wpAny_bind (sliceApplied_rev hs ps ?_)
  have hno : ¬ (((items.size : Int) - 1 == 0 && (-1 : Int) == 1 && items.size == items.size) = true) := by
    intro q
    rw [Bool.and_eq_true, Bool.and_eq_true] at q
    exact absurd q.1.2 (by decide)
  show wpAny _ _ (if ((items.size : Int) - 1 == 0 && (-1 : Int) == 1 && items.size == items.size) = true then _ else _) _ _ s
  rw [if_neg hno, pick_rev]
  first
    | exact wpAny_bind (m := Builtin.Tuple.tupleExact _) (wpAny_newObj_type (wpAny_pure ⟨_, rfl, wpAny_pure h⟩) htake)
    | exact wpAny_bind (m := Builtin.Tuple.tupleExact _) (wpAny_newObj_type (wpAny_bind (wpAny_pure (wpAny_pure ⟨_, rfl, wpAny_pure h⟩))) htake)
    | exact wpAny_bind (wpAny_bind (m := Builtin.Tuple.tupleExact _) (wpAny_newObj_type (wpAny_pure (wpAny_pure ⟨_, rfl, wpAny_pure h⟩)) htake))
    | exact wpAny_bind (wpAny_bind (m := Builtin.Tuple.tupleExact _) (wpAny_newObj_type (wpAny_pure ⟨_, rfl, wpAny_pure h⟩) htake))
end
end HT
namespace Mw
open PySem PySem.Spec PyProof.Rows L2
def tRevT (K : PySem.W.Frag) (te : TE) : TE := fun σ H Q => te σ H fun x H1 => ∃ a xs, x = .ref a ∧ SqT K H1 a xs ∧ ∀ p, H1 p = none → Q (.ref p) (upd H1 p (.tup xs.reverse))
theorem pe_revT {X : Cx} {e : Expr} {te : TE} {k : Nat} {p1 p2 p3 pos : Pos} (he : PE X e te) : PE X (.Subscript e (.Slice none none (some (.UnaryOp .USub (.Constant (.int 1) k p1) p2)) p3) pos) (tRevT X.K te) := by
  refine ⟨fun pins s σ H Q I h => ?_⟩
  refine Subscript_ (thn (he.run pins s σ H _ I h) fun v s1 ⟨x, H1, I1, r1, q1⟩ => ?_)
  obtain ⟨a, xs, ex, hx, q⟩ := q1
  subst ex
  cases r1
  have hst : PO X (some (.UnaryOp .USub (.Constant (.int 1) k p1) p2)) (tPart (tUn (rU fun i => .int (-i)) (tC (.int 1)))) := po_some (pe_un un_neg pe_int)
  refine wpAny_Slice (thn (po_none.run pins s1 σ H1 (fun o H2 => o = none ∧ H2 = H1) I1 ⟨rfl, rfl⟩) fun vl s2 ⟨l, H2, I2, pl, el, e2⟩ => ?_)
  subst el e2
  refine thn (po_none.run pins s2 σ H2 (fun o H3 => o = none ∧ H3 = H2) I2 ⟨rfl, rfl⟩) fun vu s3 ⟨u, H3, I3, pu, eu, e3⟩ => ?_
  subst eu e3
  refine thn (hst.run pins s3 σ H3 (fun o H4 => o = some (-1) ∧ H4 = H3) I3 ⟨1, rfl, -1, rfl, rfl, rfl⟩) fun vs s4 ⟨o, H4, I4, ps, eo, e4⟩ => ?_
  subst eo e4
  cases pl
  cases pu
  have I5 : Inv X pins σ H4 { s4 with heap := s4.heap.push { cls := .type "slice", data := .fields #[.none, .none, vs] } } := I4.kept (t' := s4.toks) fun b ob q => Heap.get?_push_of_some _ q
  obtain ⟨its, r, ht, hz⟩ := I5.tuple hx
  have hlen := r.length
  show wpAny (model X.prog X.w) X.A (subscriptTail e (.Slice none none (some (.UnaryOp .USub (.Constant (.int 1) k p1) p2)) p3) (.ref a) (.ref s4.heap.objs.size)) (EP X pins σ Q) X.xe { s4 with heap := s4.heap.push { cls := .type "slice", data := .fields #[.none, .none, vs] } }
  refine tail_any (ops := [.ref a, .ref s4.heap.objs.size]) ht.typeIs PyProof.Rows.slot_tuple_getitem.lookup ?_ (by with_unfolding_all rfl)
  refine HT.getItem_tuple_rev ht (Heap.IsSliceOf.new _ .none .none vs) ps ?_ (by rw [List.size_toArray]; omega)
  refine ⟨.ref _, _, I5.laid (t' := s4.toks) (o := .tup xs.reverse) (fun b ob q => Heap.get?_push_of_some _ q) (Nat.le_refl _) ?_, rfl, q _ (I5.hok.fresh (Nat.le_refl _))⟩
  exact ⟨by rw [List.length_reverse]; exact hz, _, r.reverse, IsTup.new _ _⟩
theorem rd_revT {K : PySem.W.Frag} {te : TE} {σ : L2.St} {H : Hp} {Q : VK} (h : te σ H fun x H1 => ∃ a xs, x = .ref a ∧ SqT K H1 a xs ∧ ∀ p, H1 p = none → Q (.ref p) (upd H1 p (.tup xs.reverse))) : tRevT K te σ H Q := h
end Mw

/-! R1 -/
/-! Readings, frames, data that may hold lists and dicts apart from some objects that change. -/
namespace Mw
open PySem L2
theorem rd_ite {b : Bool} {A B : Prop} (h1 : b = true → A) (h0 : b = false → B) : if b = true then A else B := by
  cases b
  · rw [if_neg Bool.false_ne_true]
    exact h0 rfl
  · rw [if_pos rfl]
    exact h1 rfl
section
variable {K : PySem.W.Frag}
theorem rd_ixT {H : Hp} {Q : VK} {a : Addr} {xs : List V} {i : Int} {v : V} (h : H a = some (.tup xs)) (e : atI xs i = some v) (q : Q v H) : rIxT K (.ref a) (.int i) H Q := ⟨a, xs, i, v, rfl, rfl, SqT.of h, e, q⟩
theorem rd_ixL {H : Hp} {Q : VK} {a : Addr} {xs : List V} {i : Int} {v : V} (h : H a = some (.lst xs)) (e : atI xs i = some v) (q : Q v H) : rIxL K (.ref a) (.int i) H Q := ⟨a, xs, i, v, rfl, rfl, SqL.of h, e, q⟩
end
theorem take_snoc {α : Type} {L : List α} {i : Nat} {q : α} (h : L[i]? = some q) : L.take (i + 1) = L.take i ++ [q] := by
  rw [List.take_add_one, h]
  rfl
theorem rd_gset {Q : L2.St → Hp → Prop} {σ σ' : L2.St} {i : Nat} {v : V} {H : Hp} (h : List.set σ i (some v) = σ') (q : Q σ' H) : L2.gName i v σ H Q := by
  subst h
  exact q
theorem rd_dput {td ty tv : TE} {D : Ends} {σ : L2.St} {H : Hp} (h : tv σ H fun v H1 => td σ H1 fun x H2 => ty σ H2 fun y H3 => ∃ a H4, x = V.ref a ∧ DPut H3 a y v H4 ∧ D.nx σ H4) : sDPut td ty tv D σ H := h
theorem rd_dget {td ty : TE} {σ : L2.St} {H : Hp} {Q : VK} (h : td σ H fun x H1 => ty σ H1 fun y H2 => ∃ a v, x = V.ref a ∧ DGet H2 a y (some v) ∧ Q v H2) : tDGet td ty σ H Q := h
theorem rd_chain {r r' : R2} {ta tb tc : TE} {σ : L2.St} {H : Hp} {Q : VK} (h : ta σ H fun x H1 => tb σ H1 fun y H2 => r x y H2 fun z H3 => ∃ k, z = V.bl k ∧ if k = true then tc σ H3 fun w' H4 => r' y w' H4 Q else Q (V.bl false) H3) : tChain r r' ta tb tc σ H Q := h
theorem rd_gsub {to ti : TE} {t : TSet} {v : V} {σ : L2.St} {H : Hp} {Q : L2.St → Hp → Prop} (h : to σ H fun o H1 => ti σ H1 fun i H2 => t o i v H2 fun H3 => Q σ H3) : gSub to ti t v σ H Q := h
theorem rd_setL {a : Addr} {xs : List V} {i : Int} {j : Nat} {v : V} {H : Hp} {Q : Hp → Prop} (h : H a = some (.lst xs)) (e : ixN xs.length i = some j) (q : Q (upd H a (.lst (xs.set j v)))) : rSetL (.ref a) (.int i) v H Q := ⟨a, xs, i, j, rfl, rfl, h, e, q⟩
section
variable {σ : L2.St} {H : Hp} {Q : VK} {K : PySem.W.Frag}
theorem rd_bm {n : String} {r : V → List V → Hp → VK → Prop} {to : TE} {t : TA} (h : to σ H fun x H1 => tyV K n x H1 ∧ t σ H1 fun xs H2 => r x xs H2 Q) : tBM K n r to t σ H Q := h
theorem rd_bm0 {n : String} {r : V → List V → Hp → VK → Prop} {to : TE} (h : to σ H fun x H1 => tyV K n x H1 ∧ r x [] H1 Q) : tBM0 K n r to σ H Q := h
theorem rd_append {l : Addr} {xs : List V} {y : V} (h : H l = some (.lst xs)) (hl : xs.length < sizeLine) (q : Q .non (upd H l (.lst (xs ++ [y])))) : rAppend (.ref l) [y] H Q := ⟨l, xs, y, rfl, rfl, h, hl, q⟩
end
theorem rd_rng1 {ta : TA} {σ : L2.St} {H : Hp} {R : It → Hp → Prop} (h : ta σ H fun vs H1 => ∃ j : Int, vs = [.int j] ∧ -(2 ^ 62) ≤ j ∧ j < 2 ^ 62 ∧ R (Itr 0 j.toNat) H1) : iRng1 ta σ H R := h
theorem rd_rng2 {ta : TA} {σ : L2.St} {H : Hp} {R : It → Hp → Prop} (h : iRng2 ta σ H R) : iRng2 ta σ H R := h
theorem rd_ilist {K : PySem.W.Frag} {te : TE} {σ : L2.St} {H : Hp} {R : It → Hp → Prop} (h : te σ H fun x H1 => ∃ a, x = .ref a ∧ (∃ xs, SqL K H1 a xs) ∧ R (Itl K a) H1) : iList K te σ H R := h
theorem rd_itup {K : PySem.W.Frag} {te : TE} {σ : L2.St} {H : Hp} {R : It → Hp → Prop} (h : te σ H fun x H1 => ∃ a, x = .ref a ∧ (∃ xs, SqT K H1 a xs) ∧ R (Itt K a) H1) : iTup K te σ H R := h
theorem rd_istr {te : TE} {σ : L2.St} {H : Hp} {R : It → Hp → Prop} (h : te σ H fun v H1 => ∃ x, v = .str x ∧ R (Its x) H1) : iStr te σ H R := h
theorem rd_make {C : Addr} {sp : Sp} {dvs : List V} {E : XK} {t : TA} {σ : L2.St} {H : Hp} {Q : VK} (h : t σ H fun vs H1 => ∀ x dx, H1 x = none → H1 dx = none → dx ≠ x → sp (.ref x :: (vs ++ dvs)) (upd (upd H1 dx (.own x)) x (.ins C dx [])) (fun v H2 => v = .non ∧ Q (.ref x) H2) E) : tMake C sp dvs E t σ H Q := h
theorem rd_no {b : Bool} {A B : Prop} (e : b = false) (h : B) : if b = true then A else B := by
  rw [e]
  exact iteF h
theorem rd_yes {b : Bool} {A B : Prop} (e : b = true) (h : A) : if b = true then A else B := by
  rw [e]
  exact iteT h
theorem mapint_get {U : List Int} {i : Nat} {y : V} (h : (U.map V.int)[i]? = some y) : ∃ u, U[i]? = some u ∧ y = V.int u := by
  rw [List.getElem?_map] at h
  cases e : U[i]? with
  | none =>
    rw [e] at h
    cases h
  | some u =>
    rw [e] at h
    exact ⟨u, rfl, (Option.some.inj h).symm⟩
theorem rd_break {D : Ends} {σ : L2.St} {H : Hp} (h : D.bk σ H) : tBreak D σ H := h
theorem rd_tyes {σ : L2.St} {H : Hp} {Q : Bool → Hp → Prop} (q : Q true H) : tYes σ H Q := q
theorem rd_aug {i : Nat} {te : TE} {ti : TIp} {D : Ends} {σ : L2.St} {H : Hp} {x : V} (h : σ[i]? = some (some x)) (q : te σ H fun y H1 => ti x y H1 fun z H2 => D.nx (σ.set i (some z)) H2) : tAug i te ti D σ H := ⟨x, h, q⟩
theorem rd_callS {sp : Sp} {E : L2.St → XK} {t : TA} {σ : L2.St} {H : Hp} {Q : VK} (h : t σ H fun vs H1 => sp vs H1 Q (E σ)) : tCallS sp E t σ H Q := h
theorem rd_ifx {t : TT} {ta tb : TE} {σ : L2.St} {H : Hp} {Q : VK} (h : t σ H fun c H1 => if c = true then ta σ H1 Q else tb σ H1 Q) : tIf t ta tb σ H Q := h
section
variable {K : PySem.W.Frag}
theorem rd_izip {ta : TA} {σ : L2.St} {H : Hp} {R : It → Hp → Prop} (h : ta σ H fun vs H1 => ∃ a b xs ys, vs = [.ref a, .ref b] ∧ ((SqL K H1 a xs ∧ SqL K H1 b ys ∧ R (Itz K a b) H1) ∨ (SqT K H1 a xs ∧ SqT K H1 b ys ∧ R (RZ.ItzT K a b) H1))) : RZ.iZipA K ta σ H R := h
end
theorem small {n : Nat} (h : n ≤ 1000000) : n ≤ sizeLine := Nat.le_trans h (by decide)
theorem small' {n : Nat} (h : n ≤ 1000000) : n < sizeLine := Nat.lt_of_le_of_lt h (by decide)
/-- what comes next is due for all that S tells: it stands once -/
theorem rd_S {te : TE} {σ : L2.St} {H : Hp} {Q : VK} (S : V → Hp → Prop) (hS : ∀ x H', S x H' → Q x H') (h : ∀ Q' : VK, (∀ x H', S x H' → Q' x H') → te σ H Q') : te σ H Q := h Q hS
theorem fn_no {P : Program} {w : World} {K : PySem.W.Frag} {mg : Str → Option Value} {base : Heap} {CX : CXT} {k : Nat} {f : Addr} {fd : FuncData} {ps : List Str} {sp : Sp} (h : ∀ vs H Q E, ¬ sp vs H Q E) : FnOk P w K mg base CX k f fd ps sp :=
  ⟨fun vs H Q E z => (h _ _ _ _ z).elim, fun A outer s H args us vs Q E hr e0 hb r z => (h _ _ _ _ z).elim⟩
theorem at_of {α : Type} {xs : List α} {i : Int} {j : Nat} {v : α} (e : i = (j : Int)) (h : xs[j]? = some v) : atI xs i = some v := by
  subst e
  exact atI_nat h
theorem at0 {α : Type} {x : α} {xs : List α} : atI (x :: xs) 0 = some x := at_of (j := 0) rfl rfl
theorem at0m {x : Int} {xs : List Int} : atI ((x :: xs).map V.int) 0 = some (V.int x) := at_of (j := 0) rfl rfl
theorem ix_of {n j : Nat} {i : Int} (e : i = (j : Int)) (h : j < n) : ixN n i = some j := by
  subst e
  unfold ixN
  rw [if_pos (by omega), if_pos (by omega), Int.toNat_natCast]
theorem ix0m {x : Int} {xs : List Int} : ixN ((x :: xs).map V.int).length 0 = some 0 := ix_of rfl (by simp)
/-! ### frames -/
/-- all is as it was but what stands at some places -/
def Fr (M : List Addr) (H H' : Hp) : Prop := ∀ b o, b ∉ M → H b = some o → H' b = some o
theorem Fr.refl {M : List Addr} {H : Hp} : Fr M H H := fun _ _ _ e => e
theorem Fr.same {M : List Addr} {H H' : Hp} (s : Same H H') : Fr M H H' := fun b o _ e => s b o e
theorem Fr.trans {M : List Addr} {H H1 H2 : Hp} (x : Fr M H H1) (y : Fr M H1 H2) : Fr M H H2 := fun b o n e => y b o n (x b o n e)
theorem Fr.more {M N : List Addr} {H H' : Hp} (x : Fr M H H') (h : ∀ b ∈ M, b ∈ N) : Fr N H H' := fun b o n e => x b o (fun z => n (h b z)) e
theorem Fr.mut {a : Addr} {H : Hp} {o : HO} : Fr [a] H (upd H a o) := fun b u n e => (upd_ne (by simpa using n)).trans e
theorem Fr.mem {a : Addr} {M : List Addr} {H : Hp} {o : HO} (h : a ∈ M) : Fr M H (upd H a o) := fun b u n e => (upd_ne (fun z => n (by rw [z]; exact h))).trans e
theorem Fr.free {M : List Addr} {H H' : Hp} {q : Addr} (x : Fr M H H') (n : H' q = none) (hq : q ∉ M) : H q = none := by
  cases e : H q with
  | none => rfl
  | some o => rw [x q o hq e] at n; cases n
/-- tuples stay -/
def KT (H H' : Hp) : Prop := ∀ a xs, H a = some (.tup xs) → H' a = some (.tup xs)
theorem KT.refl {H : Hp} : KT H H := fun _ _ e => e
theorem KT.trans {H H1 H2 : Hp} (x : KT H H1) (y : KT H1 H2) : KT H H2 := fun a xs e => y a xs (x a xs e)
theorem KT.same {H H' : Hp} (s : Same H H') : KT H H' := fun a xs e => s _ _ e
theorem KT.fr {M : List Addr} {H H' : Hp} (x : Fr M H H') (h : ∀ b ∈ M, ∀ xs, H b ≠ some (.tup xs)) : KT H H' := fun a xs e => x a _ (fun z => h a z xs e) e
theorem KT.mut {a : Addr} {H : Hp} {o u : HO} (h : H a = some u) (hu : ∀ xs, u ≠ .tup xs) : KT H (upd H a o) := fun b xs e => (upd_ne (ne_of e h (fun z => hu xs z.symm))).trans e
/-- both -/
structure FK (M : List Addr) (H H' : Hp) : Prop where
  fr : Fr M H H'
  kt : KT H H'
theorem FK.refl {M : List Addr} {H : Hp} : FK M H H := ⟨Fr.refl, KT.refl⟩
theorem FK.trans {M : List Addr} {H H1 H2 : Hp} (x : FK M H H1) (y : FK M H1 H2) : FK M H H2 := ⟨x.1.trans y.1, x.2.trans y.2⟩
theorem FK.same {M : List Addr} {H H' : Hp} (s : Same H H') : FK M H H' := ⟨Fr.same s, KT.same s⟩
theorem FK.new {M : List Addr} {H : Hp} {q : Addr} {o : HO} (h : H q = none) : FK M H (upd H q o) := FK.same (same_new h)
theorem FK.put {M : List Addr} {H H' : Hp} {q : Addr} {o : HO} (x : FK M H H') (h : H' q = none) : FK M H (upd H' q o) := x.trans (FK.new h)
theorem FK.mut {M : List Addr} {a : Addr} {H : Hp} {o u : HO} (m : a ∈ M) (h : H a = some u) (hu : ∀ xs, u ≠ .tup xs) : FK M H (upd H a o) := ⟨Fr.mem m, KT.mut h hu⟩
theorem FK.mutL {M : List Addr} {a : Addr} {H : Hp} {o : HO} {us : List V} (m : a ∈ M) (h : H a = some (.lst us)) : FK M H (upd H a o) := FK.mut m h fun _ z => by cases z
theorem FK.more {M N : List Addr} {H H' : Hp} (x : FK M H H') (h : ∀ b ∈ M, b ∈ N) : FK N H H' := ⟨x.1.more h, x.2⟩
theorem FK.at {M : List Addr} {H H' : Hp} {a : Addr} {o : HO} (x : FK M H H') (n : a ∉ M) (h : H a = some o) : H' a = some o := x.1 a o n h
theorem FK.free {M : List Addr} {H H' : Hp} {q : Addr} (x : FK M H H') (n : H' q = none) (hq : q ∉ M) : H q = none := x.1.free n hq
/-- an object that was not there changes as it likes -/
theorem FK.own {M : List Addr} {H0 H : Hp} {D : Addr} {us : List V} {o : HO} (x : FK M H0 H) (n : H0 D = none) (h : H D = some (.lst us)) : FK M H0 (upd H D o) :=
  ⟨fun b u nb e => (upd_ne (ne_of_none e n)).trans (x.1 b u nb e), fun b xs e => (upd_ne (ne_of_none e n)).trans (x.2 b xs e)⟩
/-! ### data -/
mutual
def Dt (CP : Addr → Prop) (M : List Addr) (H : Hp) : PyData → V → Prop
  | .none, v => v = .non
  | .bool b, v => v = .bl b
  | .int i, v => v = .int i
  | .str s, v => v = .str s
  | .list ds, v => ∃ a xs, v = .ref a ∧ a ∉ M ∧ H a = some (.lst xs) ∧ DtAll CP M H ds xs
  | .tuple ds, v => ∃ a xs, v = .ref a ∧ H a = some (.tup xs) ∧ DtAll CP M H ds xs
  | .dict _, v => ∃ a, v = .ref a ∧ a ∉ M ∧ (H a = some (.dK []) ∨ ∃ C dx fs, CP C ∧ H a = some (.ins C dx fs))
def DtAll (CP : Addr → Prop) (M : List Addr) (H : Hp) : List PyData → List V → Prop
  | [], xs => xs = []
  | d :: ds, xs => ∃ x r, xs = x :: r ∧ Dt CP M H d x ∧ DtAll CP M H ds r
end
section
variable {CP : Addr → Prop} {M : List Addr} {H H' : Hp} {K : PySem.W.Frag}
mutual
theorem Dt.keep (k : FK M H H') : ∀ (d : PyData) (v : V), Dt CP M H d v → Dt CP M H' d v
  | .none, v, h => by simpa only [Dt] using h
  | .bool b, v, h => by simpa only [Dt] using h
  | .int i, v, h => by simpa only [Dt] using h
  | .str s, v, h => by simpa only [Dt] using h
  | .list ds, v, h => by
    simp only [Dt] at h ⊢
    obtain ⟨a, xs, e, n, ha, r⟩ := h
    exact ⟨a, xs, e, n, k.1 a _ n ha, DtAll.keep k ds xs r⟩
  | .tuple ds, v, h => by
    simp only [Dt] at h ⊢
    obtain ⟨a, xs, e, ha, r⟩ := h
    exact ⟨a, xs, e, k.2 a _ ha, DtAll.keep k ds xs r⟩
  | .dict _, v, h => by
    simp only [Dt] at h ⊢
    obtain ⟨a, e, n, ha | ⟨C, dx, fs, c, ha⟩⟩ := h
    · exact ⟨a, e, n, .inl (k.1 a _ n ha)⟩
    · exact ⟨a, e, n, .inr ⟨C, dx, fs, c, k.1 a _ n ha⟩⟩
theorem DtAll.keep (k : FK M H H') : ∀ (ds : List PyData) (xs : List V), DtAll CP M H ds xs → DtAll CP M H' ds xs
  | [], xs, h => by simpa only [DtAll] using h
  | d :: ds, xs, h => by
    simp only [DtAll] at h ⊢
    obtain ⟨x, r, e, h1, h2⟩ := h
    exact ⟨x, r, e, Dt.keep k d x h1, DtAll.keep k ds r h2⟩
end
theorem Dt.k {d : PyData} {v : V} (h : Dt CP M H d v) (k : FK M H H') : Dt CP M H' d v := Dt.keep k d v h
theorem DtAll.k {d : List PyData} {v : List V} (h : DtAll CP M H d v) (k : FK M H H') : DtAll CP M H' d v := DtAll.keep k d v h
theorem Dt.s {d : PyData} {v : V} (h : Dt CP M H d v) (k : Same H H') : Dt CP M H' d v := Dt.keep (FK.same k) d v h
theorem DtAll.s {d : List PyData} {v : List V} (h : DtAll CP M H d v) (k : Same H H') : DtAll CP M H' d v := DtAll.keep (FK.same k) d v h
theorem dtAll_iff : ∀ (ds : List PyData) (xs : List V), DtAll CP M H ds xs ↔ ds.length = xs.length ∧ ∀ (i : Nat) d x, ds[i]? = some d → xs[i]? = some x → Dt CP M H d x
  | [], xs => by
    simp only [DtAll]
    constructor
    · rintro rfl
      exact ⟨rfl, fun i d x h _ => by simp at h⟩
    · rintro ⟨h, _⟩
      exact List.length_eq_zero_iff.mp h.symm
  | d :: ds, xs => by
    simp only [DtAll]
    constructor
    · rintro ⟨x, r, rfl, h1, h2⟩
      obtain ⟨hl, hi⟩ := (dtAll_iff ds r).mp h2
      refine ⟨by simp [hl], fun i d' x' e1 e2 => ?_⟩
      cases i with
      | zero =>
        simp only [List.getElem?_cons_zero, Option.some.injEq] at e1 e2
        subst e1 e2
        exact h1
      | succ i =>
        simp only [List.getElem?_cons_succ] at e1 e2
        exact hi i d' x' e1 e2
    · rintro ⟨hl, hi⟩
      cases xs with
      | nil => simp at hl
      | cons x r => exact ⟨x, r, rfl, hi 0 d x rfl rfl, (dtAll_iff ds r).mpr ⟨by simpa using hl, fun i d' x' e1 e2 => hi (i + 1) d' x' (by simpa using e1) (by simpa using e2)⟩⟩
theorem DtAll.len {ds : List PyData} {xs : List V} (h : DtAll CP M H ds xs) : ds.length = xs.length := ((dtAll_iff ds xs).mp h).1
theorem DtAll.get {ds : List PyData} {xs : List V} (h : DtAll CP M H ds xs) {i : Nat} {d : PyData} (e : ds[i]? = some d) : ∃ x, xs[i]? = some x ∧ Dt CP M H d x := by
  obtain ⟨hl, hi⟩ := (dtAll_iff ds xs).mp h
  have hlt := (List.getElem?_eq_some_iff.mp e).1
  have hx : xs[i]? = some (xs[i]'(by omega)) := by simp [show i < xs.length by omega]
  exact ⟨_, hx, hi i d _ e hx⟩
theorem DtAll.get' {ds : List PyData} {xs : List V} (h : DtAll CP M H ds xs) {i : Nat} {x : V} (e : xs[i]? = some x) : ∃ d, ds[i]? = some d ∧ Dt CP M H d x := by
  obtain ⟨hl, hi⟩ := (dtAll_iff ds xs).mp h
  have hlt := (List.getElem?_eq_some_iff.mp e).1
  have hx : ds[i]? = some (ds[i]'(by omega)) := by simp [show i < ds.length by omega]
  exact ⟨_, hx, hi i _ x hx e⟩
theorem DtAll.append {ds es : List PyData} {xs ys : List V} (h1 : DtAll CP M H ds xs) (h2 : DtAll CP M H es ys) : DtAll CP M H (ds ++ es) (xs ++ ys) := by
  induction ds generalizing xs with
  | nil =>
    simp only [DtAll] at h1
    subst h1
    exact h2
  | cons d ds ih =>
    simp only [DtAll] at h1
    obtain ⟨x, r, rfl, a, b⟩ := h1
    show DtAll CP M H (d :: (ds ++ es)) _
    simp only [DtAll]
    exact ⟨x, r ++ ys, rfl, a, ih b⟩
theorem DtAll.take {ds : List PyData} {xs : List V} (h : DtAll CP M H ds xs) (n : Nat) : DtAll CP M H (ds.take n) (xs.take n) := by
  obtain ⟨hl, hi⟩ := (dtAll_iff ds xs).mp h
  refine (dtAll_iff _ _).mpr ⟨by simp [hl], fun i d x e1 e2 => ?_⟩
  rw [List.getElem?_take] at e1 e2
  by_cases q : i < n
  · rw [if_pos q] at e1 e2
    exact hi i d x e1 e2
  · rw [if_neg q] at e1
    cases e1
theorem DtAll.drop {ds : List PyData} {xs : List V} (h : DtAll CP M H ds xs) (n : Nat) : DtAll CP M H (ds.drop n) (xs.drop n) := by
  obtain ⟨hl, hi⟩ := (dtAll_iff ds xs).mp h
  refine (dtAll_iff _ _).mpr ⟨by simp [hl], fun i d x e1 e2 => ?_⟩
  rw [List.getElem?_drop] at e1 e2
  exact hi _ d x e1 e2
theorem dtAll_nil : DtAll CP M H [] [] := by simp only [DtAll]
theorem dtAll_cons {d : PyData} {ds : List PyData} {x : V} {xs : List V} (h1 : Dt CP M H d x) (h2 : DtAll CP M H ds xs) : DtAll CP M H (d :: ds) (x :: xs) := by
  simp only [DtAll]
  exact ⟨x, xs, rfl, h1, h2⟩
theorem DtAll.snoc {d : PyData} {ds : List PyData} {x : V} {xs : List V} (h1 : DtAll CP M H ds xs) (h2 : Dt CP M H d x) : DtAll CP M H (ds ++ [d]) (xs ++ [x]) := h1.append (dtAll_cons h2 dtAll_nil)
theorem dt_int {i : Int} : Dt CP M H (.int i) (.int i) := by simp only [Dt]
theorem dt_str {s : Str} : Dt CP M H (.str s) (.str s) := by simp only [Dt]
theorem dt_bl {b : Bool} : Dt CP M H (.bool b) (.bl b) := by simp only [Dt]
theorem dt_non : Dt CP M H .none .non := by simp only [Dt]
theorem dt_tup {a : Addr} {ds : List PyData} {xs : List V} (h : H a = some (.tup xs)) (r : DtAll CP M H ds xs) : Dt CP M H (.tuple ds) (.ref a) := by
  simp only [Dt]
  exact ⟨a, xs, rfl, h, r⟩
theorem dt_lst {a : Addr} {ds : List PyData} {xs : List V} (n : a ∉ M) (h : H a = some (.lst xs)) (r : DtAll CP M H ds xs) : Dt CP M H (.list ds) (.ref a) := by
  simp only [Dt]
  exact ⟨a, xs, rfl, n, h, r⟩
theorem dt_dic {a : Addr} {kv : List (PyData × PyData)} (n : a ∉ M) (h : H a = some (.dK [])) : Dt CP M H (.dict kv) (.ref a) := by
  simp only [Dt]
  exact ⟨a, rfl, n, .inl h⟩
theorem dt_tup' {v : V} {ds : List PyData} (h : Dt CP M H (.tuple ds) v) : ∃ a xs, v = .ref a ∧ H a = some (.tup xs) ∧ DtAll CP M H ds xs := by
  simpa only [Dt] using h
theorem dt_lst' {v : V} {ds : List PyData} (h : Dt CP M H (.list ds) v) : ∃ a xs, v = .ref a ∧ a ∉ M ∧ H a = some (.lst xs) ∧ DtAll CP M H ds xs := by
  simpa only [Dt] using h
theorem dt_int' {v : V} {i : Int} (h : Dt CP M H (.int i) v) : v = .int i := by simpa only [Dt] using h
theorem dt_str' {v : V} {i : Str} (h : Dt CP M H (.str i) v) : v = .str i := by simpa only [Dt] using h
theorem dt_bl' {v : V} {b : Bool} (h : Dt CP M H (.bool b) v) : v = .bl b := by simpa only [Dt] using h
theorem dt_non' {v : V} (h : Dt CP M H .none v) : v = .non := by simpa only [Dt] using h
theorem dt_dic' {v : V} {kv : List (PyData × PyData)} (h : Dt CP M H (.dict kv) v) : ∃ a, v = .ref a ∧ a ∉ M := by
  simp only [Dt] at h
  obtain ⟨a, e, n, _⟩ := h
  exact ⟨a, e, n⟩
theorem dt_ints : ∀ U : List Int, DtAll CP M H (U.map PyData.int) (U.map V.int)
  | [] => dtAll_nil
  | u :: U => dtAll_cons dt_int (dt_ints U)
theorem dt_ints' : ∀ {U : List Int} {xs : List V}, DtAll CP M H (U.map PyData.int) xs → xs = U.map V.int
  | [], xs, h => by simpa only [List.map_nil, DtAll] using h
  | u :: U, xs, h => by
    rw [List.map_cons] at h
    simp only [DtAll] at h
    obtain ⟨x, r, rfl, h1, h2⟩ := h
    rw [dt_int' h1, dt_ints' h2, List.map_cons]
/-! ### kinds -/
theorem Dt.ty (W : ∀ C, CP C → WebTy K C) (d : PyData) (v : V) (h : Dt CP M H d v) : ∃ t, TyX K H v t ∧ PySem.W.kitOne K t (.type "int") = some (isI d) ∧ PySem.W.kitOne K t (.type "bool") = some (isB d) ∧ PySem.W.kitOne K t (.type "tuple") = some (isT d) ∧
    PySem.W.kitOne K t (.type "list") = some (isL d) ∧ PySem.W.kitOne K t (.type "str") = some (isS d) := by
  have g : ∀ {C p : Addr} {d : PyData} {v : V}, WebTy K C → Tp C p H d v → ∃ t, TyX K H v t ∧ PySem.W.kitOne K t (.type "int") = some (isI d) ∧ PySem.W.kitOne K t (.type "bool") = some (isB d) ∧ PySem.W.kitOne K t (.type "tuple") = some (isT d) ∧
    PySem.W.kitOne K t (.type "list") = some (isL d) ∧ PySem.W.kitOne K t (.type "str") = some (isS d) := fun W h => h.ty W
  cases d with
  | none =>
    rw [dt_non' h]
    exact ⟨_, .base .non, kit_ty (show kitB "NoneType" "int" = some false from by decide +kernel), kit_ty (show kitB "NoneType" "bool" = some false from by decide +kernel), kit_ty (show kitB "NoneType" "tuple" = some false from by decide +kernel), kit_ty (show kitB "NoneType" "list" = some false from by decide +kernel), kit_ty (show kitB "NoneType" "str" = some false from by decide +kernel)⟩
  | bool b =>
    rw [dt_bl' h]
    exact ⟨_, .base (.bl b), kit_ty (show kitB "bool" "int" = some true from by decide +kernel), kit_ty (show kitB "bool" "bool" = some true from by decide +kernel), kit_ty (show kitB "bool" "tuple" = some false from by decide +kernel), kit_ty (show kitB "bool" "list" = some false from by decide +kernel), kit_ty (show kitB "bool" "str" = some false from by decide +kernel)⟩
  | int i =>
    rw [dt_int' h]
    exact ⟨_, .base (.int i), kit_ty (show kitB "int" "int" = some true from by decide +kernel), kit_ty (show kitB "int" "bool" = some false from by decide +kernel), kit_ty (show kitB "int" "tuple" = some false from by decide +kernel), kit_ty (show kitB "int" "list" = some false from by decide +kernel), kit_ty (show kitB "int" "str" = some false from by decide +kernel)⟩
  | str s =>
    rw [dt_str' h]
    exact ⟨_, .base (.str s), kit_ty (show kitB "str" "int" = some false from by decide +kernel), kit_ty (show kitB "str" "bool" = some false from by decide +kernel), kit_ty (show kitB "str" "tuple" = some false from by decide +kernel), kit_ty (show kitB "str" "list" = some false from by decide +kernel), kit_ty (show kitB "str" "str" = some true from by decide +kernel)⟩
  | list ds =>
    obtain ⟨a, xs, rfl, n, ha, r⟩ := dt_lst' h
    exact ⟨_, .base (.lst ha), kit_ty (show kitB "list" "int" = some false from by decide +kernel), kit_ty (show kitB "list" "bool" = some false from by decide +kernel), kit_ty (show kitB "list" "tuple" = some false from by decide +kernel), kit_ty (show kitB "list" "list" = some true from by decide +kernel), kit_ty (show kitB "list" "str" = some false from by decide +kernel)⟩
  | tuple ds =>
    obtain ⟨a, xs, rfl, ha, r⟩ := dt_tup' h
    exact ⟨_, .base (.tup ha), kit_ty (show kitB "tuple" "int" = some false from by decide +kernel), kit_ty (show kitB "tuple" "bool" = some false from by decide +kernel), kit_ty (show kitB "tuple" "tuple" = some true from by decide +kernel), kit_ty (show kitB "tuple" "list" = some false from by decide +kernel), kit_ty (show kitB "tuple" "str" = some false from by decide +kernel)⟩
  | dict kvs =>
    simp only [Dt] at h
    obtain ⟨a, rfl, n, ha | ⟨C, dx, fs, c, ha⟩⟩ := h
    · exact ⟨_, .base (.dK ha), kit_ty (show kitB "dict" "int" = some false from by decide +kernel), kit_ty (show kitB "dict" "bool" = some false from by decide +kernel), kit_ty (show kitB "dict" "tuple" = some false from by decide +kernel), kit_ty (show kitB "dict" "list" = some false from by decide +kernel), kit_ty (show kitB "dict" "str" = some false from by decide +kernel)⟩
    · exact ⟨_, .base (.ins ha (W C c).cl (W C c).ca (W C c).cg (W C c).ct (W C c).co), (W C c).ki, (W C c).kb, (W C c).kt, (W C c).kl, (W C c).ks⟩
theorem dt_isI (W : ∀ C, CP C → WebTy K C) {d : PyData} {v : V} {Q : VK} (h : Dt CP M H d v) (q : Q (.bl (isI d)) H) : rIsi K [v, .ty "int"] H Q := by
  obtain ⟨t, ty, k, _⟩ := h.ty W
  exact ⟨v, _, t, _, _, rfl, .ty _, ty, k, q⟩
theorem dt_isB (W : ∀ C, CP C → WebTy K C) {d : PyData} {v : V} {Q : VK} (h : Dt CP M H d v) (q : Q (.bl (isB d)) H) : rIsi K [v, .ty "bool"] H Q := by
  obtain ⟨t, ty, _, k, _⟩ := h.ty W
  exact ⟨v, _, t, _, _, rfl, .ty _, ty, k, q⟩
theorem dt_isT (W : ∀ C, CP C → WebTy K C) {d : PyData} {v : V} {Q : VK} (h : Dt CP M H d v) (q : Q (.bl (isT d)) H) : rIsi K [v, .ty "tuple"] H Q := by
  obtain ⟨t, ty, _, _, k, _⟩ := h.ty W
  exact ⟨v, _, t, _, _, rfl, .ty _, ty, k, q⟩
theorem dt_isL (W : ∀ C, CP C → WebTy K C) {d : PyData} {v : V} {Q : VK} (h : Dt CP M H d v) (q : Q (.bl (isL d)) H) : rIsi K [v, .ty "list"] H Q := by
  obtain ⟨t, ty, _, _, _, k, _⟩ := h.ty W
  exact ⟨v, _, t, _, _, rfl, .ty _, ty, k, q⟩
theorem dt_isS (W : ∀ C, CP C → WebTy K C) {d : PyData} {v : V} {Q : VK} (h : Dt CP M H d v) (q : Q (.bl (isS d)) H) : rIsi K [v, .ty "str"] H Q := by
  obtain ⟨t, ty, _, _, _, _, k⟩ := h.ty W
  exact ⟨v, _, t, _, _, rfl, .ty _, ty, k, q⟩
/-! ### plain data -/
mutual
def plainD : PyData → Bool
  | .none | .bool _ | .int _ | .str _ => true
  | .tuple ds => plainAll ds
  | .list _ | .dict _ => false
def plainAll : List PyData → Bool
  | [] => true
  | d :: ds => plainD d && plainAll ds
end
theorem plainAll_get : ∀ {ds : List PyData} {i : Nat} {d : PyData}, plainAll ds = true → ds[i]? = some d → plainD d = true
  | [], i, d, _, e => by simp at e
  | c :: ds, 0, d, h, e => by
    simp only [plainAll, Bool.and_eq_true] at h
    cases e
    exact h.1
  | c :: ds, i + 1, d, h, e => by
    simp only [plainAll, Bool.and_eq_true] at h
    exact plainAll_get h.2 (by simpa using e)
theorem plain_app : ∀ a b : List PyData, plainAll (a ++ b) = (plainAll a && plainAll b)
  | [], b => rfl
  | d :: a, b => by
    show (plainD d && plainAll (a ++ b)) = ((plainD d && plainAll a) && plainAll b)
    rw [plain_app a b, Bool.and_assoc]
theorem plainAll_of : ∀ {ds : List PyData}, (∀ d ∈ ds, plainD d = true) → plainAll ds = true
  | [], _ => rfl
  | d :: ds, h => by
    show (plainD d && plainAll ds) = true
    rw [h d (by simp), plainAll_of fun e he => h e (List.mem_cons_of_mem _ he)]
    rfl
mutual
theorem Dt.plain {CP' : Addr → Prop} {M' : List Addr} (k : KT H H') : ∀ (d : PyData) (v : V), plainD d = true → Dt CP M H d v → Dt CP' M' H' d v
  | .none, v, _, h => by simpa only [Dt] using h
  | .bool b, v, _, h => by simpa only [Dt] using h
  | .int i, v, _, h => by simpa only [Dt] using h
  | .str s, v, _, h => by simpa only [Dt] using h
  | .list ds, v, c, _ => by simp only [plainD] at c; cases c
  | .dict _, v, c, _ => by simp only [plainD] at c; cases c
  | .tuple ds, v, c, h => by
    simp only [Dt] at h ⊢
    obtain ⟨a, xs, e, ha, r⟩ := h
    exact ⟨a, xs, e, k a _ ha, DtAll.plain k ds xs (by simpa only [plainD] using c) r⟩
theorem DtAll.plain {CP' : Addr → Prop} {M' : List Addr} (k : KT H H') : ∀ (ds : List PyData) (xs : List V), plainAll ds = true → DtAll CP M H ds xs → DtAll CP' M' H' ds xs
  | [], xs, _, h => by simpa only [DtAll] using h
  | d :: ds, xs, c, h => by
    simp only [DtAll] at h ⊢
    simp only [plainAll, Bool.and_eq_true] at c
    obtain ⟨x, r, e, h1, h2⟩ := h
    exact ⟨x, r, e, Dt.plain k d x c.1 h1, DtAll.plain k ds r c.2 h2⟩
end
theorem depthAll_get : ∀ {ds : List PyData} {i : Nat} {d : PyData}, ds[i]? = some d → d.depth ≤ PyData.depthAll ds
  | [], i, d, e => by simp at e
  | c :: ds, 0, d, e => by
    cases e
    exact Nat.le_max_left _ _
  | c :: ds, i + 1, d, e => Nat.le_trans (depthAll_get (by simpa using e)) (Nat.le_max_right _ _)
theorem depthAll_le {n : Nat} : ∀ {ds : List PyData}, (∀ d ∈ ds, d.depth ≤ n) → PyData.depthAll ds ≤ n
  | [], _ => Nat.zero_le _
  | d :: ds, h => Nat.max_le.mpr ⟨h d (by simp), depthAll_le fun e he => h e (by simp [he])⟩
theorem lay_all : ∀ {ds : List PyData}, (∀ d ∈ ds, d.canLay0 = true) → PyData.canLayAll0 ds = true
  | [], _ => rfl
  | d :: ds, h => by
    show (d.canLay0 && PyData.canLayAll0 ds) = true
    rw [h d (by simp), lay_all fun e he => h e (List.mem_cons_of_mem _ he)]
    rfl
mutual
theorem dt_dp : ∀ (d : PyData) (v : V), d.canLay0 = true → Dt CP M H d v → Dp K H v d
  | .none, v, _, h => by
    rw [dt_non' h]
    exact .non
  | .bool b, v, _, h => by
    rw [dt_bl' h]
    exact .bl b
  | .int i, v, _, h => by
    rw [dt_int' h]
    exact .int i
  | .str s, v, _, h => by
    rw [dt_str' h]
    exact .str s
  | .list ds, v, c, h => by
    obtain ⟨a, xs, rfl, _, ha, r⟩ := dt_lst' h
    exact .lst (SqL.of ha) (dt_dpAll ds xs (by simpa only [PyData.canLay0] using c) r)
  | .tuple ds, v, c, h => by
    obtain ⟨a, xs, rfl, ha, r⟩ := dt_tup' h
    exact .tup (SqT.of ha) (dt_dpAll ds xs (by simpa only [PyData.canLay0] using c) r)
  | .dict _, v, c, _ => by simp only [PyData.canLay0] at c; cases c
theorem dt_dpAll : ∀ (ds : List PyData) (xs : List V), PyData.canLayAll0 ds = true → DtAll CP M H ds xs → DpAll K H xs ds
  | [], xs, _, h => by
    simp only [DtAll] at h
    subst h
    exact .nil
  | d :: ds, xs, c, h => by
    simp only [DtAll] at h
    obtain ⟨x, r, rfl, h1, h2⟩ := h
    simp only [PyData.canLayAll0, Bool.and_eq_true] at c
    exact .cons (dt_dp d x c.1 h1) (dt_dpAll ds r c.2 h2)
end
end
end Mw

/-! MR12 -/
/-! zip of a list and a tuple; a walk over what is a list or a tuple; a list that takes in a tuple; xs[a:] = ys. -/
namespace L2
open PySem PySem.Spec PyProof.Rows
/-- a zip at z over a list's walk at i and a tuple's walk at j; the pair of walks at p, the last pair at o -/
structure Mz (h : Heap) (z p o i j a b : Addr) (n : Nat) (f : Value) : Prop where
  hz : IsZip h z p o f
  hp : IsPair h p (.ref i) (.ref j)
  ho : ∃ u v, IsPair h o u v
  hi : h.IsListIter i a n
  hj : h.IsTupleIter j b n
theorem Mz.at {h h' : Heap} {z p o i j a b : Addr} {n : Nat} {f : Value} (m : Mz h z p o i j a b n f) (k : ∀ c, c ∈ [z, p, o, i, j] → ∀ t, h.get? c = some t → h'.get? c = some t) : Mz h' z p o i j a b n f := by
  obtain ⟨m1, m2, ⟨u, v, m3⟩, m4, m5⟩ := m
  exact ⟨k z (by simp) _ m1, k p (by simp) _ m2, ⟨u, v, k o (by simp) _ m3⟩, m4.at fun t e => k i (by simp) t e, m5.at fun t e => k j (by simp) t e⟩
section
variable {prog : Program} {w : World} {A : Around} {E : Value → Shared → Prop} {s : Shared} {z p o i j a b : Addr} {n : Nat} {xs ys : Array Value}
theorem mz_step {x y : Value} {Q : Value → Shared → Prop} (D : ZipApart z p o i j a b) (m : Mz s.heap z p o i j a b n .none) (ha : s.heap.IsList a xs) (hb : s.heap.IsTuple b ys) (ex : xs[n]? = some x) (ey : ys[n]? = some y)
    (q : ∀ h', Mz h' z p o i j a b (n + 1) (rawInt s.heap.objs.size) → IsPair h' s.heap.objs.size x y → (∀ c t, c ∉ [z, o, i, j] → s.heap.get? c = some t → h'.get? c = some t) → Q (.ref s.heap.objs.size) { s with heap := h' }) :
    wpAny (model prog w) A (Builtin.«zip.__next__» ⟨[.ref z], []⟩) (fun r s1 => ∃ v, r = .done (.ret v) ∧ Q v s1) E s := by
  obtain ⟨mz, mp, ⟨u, v, mo⟩, mi, mj⟩ := m
  show wpAny _ _ (field (.ref z) 2 >>= _) _ _ _
  refine wpAny_bind (wpAny_field mz rfl (x := .bool false) rfl ?_)
  show wpAny _ _ (field (.ref z) 3 >>= _) _ _ _
  refine wpAny_bind (wpAny_field mz rfl (x := .ref p) rfl (wpAny_bind (wpAny_seqItems mp rfl ?_)))
  show wpAny _ _ (Builtin.SmallTypes.ownedTupleIsFree (.ref z) >>= _) _ _ _
  unfold Builtin.SmallTypes.ownedTupleIsFree
  refine wpAny_bind (wpAny_bind (wpAny_field mz rfl (x := .none) rfl (wpAny_pure ?_)))
  simp only [if_true]
  refine wpAny_bind (wpAny_rule (wpAny_bind (wpAny_field mz rfl (x := .ref o) rfl (wpAny_bind (wpAny_setField_rec mz (by simp) fun g1 z1 k1 => ?_)))))
  replace z1 : IsZip g1 z p o .ellipsis := z1
  simp only [List.zipIdx_cons, List.zipIdx_nil, List.forIn_cons, List.forIn_nil]
  refine wpAny_bind (wpAny_bind (wpAny_bind (wpAny_onRaise ?_)))
  show wpAny _ _ (Builtin.SmallTypes.nextOf (.ref i) >>= _) _ _ _
  refine wpAny_bind (wpAny_nextOf_list_item (mi.extBut k1.extBut D.i1z) (ha.extBut k1.extBut D.l1z) ex fun g2 i2 k2 => wpAny_pure ?_)
  have o2 : IsPair g2 o u v := k2.extBut _ _ D.TOi1 (k1.extBut _ _ D.TOz mo)
  refine wpAny_bind (wpAny_seqItems o2 rfl (wpAny_bind (wpAny_updateSeq_pair o2 fun g3 o3 k3 => wpAny_bind (wpAny_letGo (wpAny_pure ?_)))))
  replace o3 : IsPair g3 o x v := o3
  refine wpAny_bind (wpAny_bind (wpAny_onRaise ?_))
  show wpAny _ _ (Builtin.SmallTypes.nextOf (.ref j) >>= _) _ _ _
  refine wpAny_bind (RZ.nextOf_tuple_item (((mj.extBut k1.extBut D.i2z).extBut k2.extBut D.i12.symm).extBut k3.extBut D.TOi2.symm) (((hb.extBut k1.extBut D.l2z).extBut k2.extBut D.l2i1).extBut k3.extBut D.l2TO) ey fun g4 j4 k4 => wpAny_pure ?_)
  have o4 : IsPair g4 o x v := k4.extBut _ _ D.TOi2 o3
  refine wpAny_bind (wpAny_seqItems o4 rfl (wpAny_bind (wpAny_updateSeq_pair o4 fun g5 o5 k5 => wpAny_bind (wpAny_letGo (wpAny_pure (wpAny_pure ?_))))))
  replace o5 : IsPair g5 o x y := o5
  refine wpAny_bind (wpAny_seqItems o5 rfl (wpAny_bind (wpAny_newTuple ?_)))
  have sz : g5.objs.size = s.heap.objs.size := by rw [k5.1, k4.1, k3.1, k2.1, k1.1]
  have z5 : IsZip g5 z p o .ellipsis := k5.extBut _ _ D.TOz.symm (k4.extBut _ _ D.i2z.symm (k3.extBut _ _ D.TOz.symm (k2.extBut _ _ D.i1z.symm z1)))
  have up5 : ∀ c t, c ∉ [z, o, i, j] → s.heap.get? c = some t → g5.get? c = some t := fun c t nc e => by
    simp only [List.mem_cons, List.not_mem_nil, or_false, not_or] at nc
    obtain ⟨n1, n2, n3, n4⟩ := nc
    exact k5.extBut _ _ n2 (k4.extBut _ _ n4 (k3.extBut _ _ n2 (k2.extBut _ _ n3 (k1.extBut _ _ n1 e))))
  have i5 : g5.IsListIter i a (n + 1) := ((i2.extBut k3.extBut D.TOi1.symm).extBut k4.extBut D.i12).extBut k5.extBut D.TOi1.symm
  have j5 : g5.IsTupleIter j b (n + 1) := j4.extBut k5.extBut D.TOi2.symm
  have zl : z < g5.objs.size := Heap.lt_size z5
  show wpAny _ _ (Builtin.SmallTypes.ownedTupleHandOut (.ref z) (.ref g5.objs.size) >>= _) _ _ _
  unfold Builtin.SmallTypes.ownedTupleHandOut
  have z6 : IsZip (g5.push { cls := .type "tuple", data := .seq #[x, y] }) z p o .ellipsis := Heap.get?_push_of_some _ z5
  refine wpAny_bind (wpAny_bind (wpAny_setField_rec z6 (by simp) fun g7 z7 k7 => ?_))
  replace z7 : IsZip g7 z p o (rawInt g5.objs.size) := z7
  refine wpAny_setField_rec z7 (by simp) fun g8 z8 k8 => ?_
  replace z8 : IsZip g8 z p o (rawInt g5.objs.size) := z8
  have up8 : ∀ c t, c ≠ z → g5.get? c = some t → g8.get? c = some t := fun c t nc e => k8.extBut _ _ nc (k7.extBut _ _ nc (Heap.get?_push_of_some _ e))
  have t8 : IsPair g8 g5.objs.size x y := k8.extBut _ _ (Nat.ne_of_gt zl) (k7.extBut _ _ (Nat.ne_of_gt zl) (Heap.get?_push_size _ rfl))
  rw [sz] at z8 t8
  refine wpAny_pure ⟨_, rfl, ?_⟩
  show Q (.ref g5.objs.size) _
  rw [sz]
  have np : p ∉ [z, o, i, j] := by simp [D.TIz, D.TITO, D.TIi1, D.TIi2]
  exact q g8 ⟨z8, up8 _ _ D.TIz (up5 _ _ np mp), ⟨x, y, up8 _ _ D.TOz o5⟩, i5.at fun t e => up8 _ t D.i1z e, j5.at fun t e => up8 _ t D.i2z e⟩ t8 fun c t nc e => up8 c t (fun e => nc (by simp [e])) (up5 c t nc e)
theorem mz_end {Q : Fin → Shared → Prop} (hh : A.handled = none) (D : ZipApart z p o i j a b) (m : Mz s.heap z p o i j a b n .none) (ha : s.heap.IsList a xs) (hb : s.heap.IsTuple b ys) (en : xs[n]? = none ∨ ys[n]? = none)
    (q : ∀ h' e, (∀ c t, c ∉ [z, o, i, j] → s.heap.get? c = some t → h'.get? c = some t) → (∃ t, h'.get? e = some t ∧ t.cls = .type "StopIteration") → E (.ref e) { s with heap := h' }) :
    wpAny (model prog w) A (Builtin.«zip.__next__» ⟨[.ref z], []⟩) Q E s := by
  obtain ⟨mz, mp, ⟨u, v, mo⟩, mi, mj⟩ := m
  show wpAny _ _ (field (.ref z) 2 >>= _) _ _ _
  refine wpAny_bind (wpAny_field mz rfl (x := .bool false) rfl ?_)
  show wpAny _ _ (field (.ref z) 3 >>= _) _ _ _
  refine wpAny_bind (wpAny_field mz rfl (x := .ref p) rfl (wpAny_bind (wpAny_seqItems mp rfl ?_)))
  show wpAny _ _ (Builtin.SmallTypes.ownedTupleIsFree (.ref z) >>= _) _ _ _
  unfold Builtin.SmallTypes.ownedTupleIsFree
  refine wpAny_bind (wpAny_bind (wpAny_field mz rfl (x := .none) rfl (wpAny_pure ?_)))
  simp only [if_true]
  refine wpAny_bind (wpAny_rule (wpAny_bind (wpAny_field mz rfl (x := .ref o) rfl (wpAny_bind (wpAny_setField_rec mz (by simp) fun g1 z1 k1 => ?_)))))
  replace z1 : IsZip g1 z p o .ellipsis := z1
  simp only [List.zipIdx_cons, List.zipIdx_nil, List.forIn_cons, List.forIn_nil]
  refine wpAny_bind (wpAny_bind (wpAny_bind (wpAny_onRaise ?_)))
  show wpAny _ _ (Builtin.SmallTypes.nextOf (.ref i) >>= _) _ _ _
  cases ex : xs[n]? with
  | none =>
    refine wpAny_bind (wpAny_nextOf_list_end hh (mi.extBut k1.extBut D.i1z) (ha.extBut k1.extBut D.l1z) ex fun g2 e k2 ⟨t, et, ct⟩ => ?_)
    have z2 : IsZip g2 z p o .ellipsis := k2 _ _ D.i1z.symm z1
    have ne : e ≠ z := fun x => by
      subst x
      rw [z2] at et
      cases et
      simp at ct
    refine wpAny_setField_rec z2 (by simp) fun g3 _ k3 => q g3 e (fun c t nc x => ?_) ⟨t, k3.extBut _ _ ne et, ct⟩
    simp only [List.mem_cons, List.not_mem_nil, or_false, not_or] at nc
    exact k3.extBut _ _ nc.1 (k2 _ _ nc.2.2.1 (k1.extBut _ _ nc.1 x))
  | some x =>
    have ey : ys[n]? = none := en.resolve_left (by rw [ex]; exact fun z => by cases z)
    refine wpAny_bind (wpAny_nextOf_list_item (mi.extBut k1.extBut D.i1z) (ha.extBut k1.extBut D.l1z) ex fun g2 i2 k2 => wpAny_pure ?_)
    have o2 : IsPair g2 o u v := k2.extBut _ _ D.TOi1 (k1.extBut _ _ D.TOz mo)
    refine wpAny_bind (wpAny_seqItems o2 rfl (wpAny_bind (wpAny_updateSeq_pair o2 fun g3 o3 k3 => wpAny_bind (wpAny_letGo (wpAny_pure ?_)))))
    refine wpAny_bind (wpAny_bind (wpAny_onRaise ?_))
    show wpAny _ _ (Builtin.SmallTypes.nextOf (.ref j) >>= _) _ _ _
    refine wpAny_bind (RZ.nextOf_tuple_end hh (((mj.extBut k1.extBut D.i2z).extBut k2.extBut D.i12.symm).extBut k3.extBut D.TOi2.symm) (((hb.extBut k1.extBut D.l2z).extBut k2.extBut D.l2i1).extBut k3.extBut D.l2TO) ey fun g4 e k4 ⟨t, et, ct⟩ => ?_)
    have z4 : IsZip g4 z p o .ellipsis := k4 _ _ D.i2z.symm (k3.extBut _ _ D.TOz.symm (k2.extBut _ _ D.i1z.symm z1))
    have ne : e ≠ z := fun x => by
      subst x
      rw [z4] at et
      cases et
      simp at ct
    refine wpAny_setField_rec z4 (by simp) fun g5 _ k5 => q g5 e (fun c t nc x => ?_) ⟨t, k5.extBut _ _ ne et, ct⟩
    simp only [List.mem_cons, List.not_mem_nil, or_false, not_or] at nc
    exact k5.extBut _ _ nc.1 (k4 _ _ nc.2.2.2 (k3.extBut _ _ nc.2.1 (k2.extBut _ _ nc.2.2.1 (k1.extBut _ _ nc.1 x))))
theorem mz_next {x y : Value} {Q : Option Value → Shared → Prop} (D : ZipApart z p o i j a b) (m : Mz s.heap z p o i j a b n .none) (ha : s.heap.IsList a xs) (hb : s.heap.IsTuple b ys) (ex : xs[n]? = some x) (ey : ys[n]? = some y)
    (q : ∀ h', Mz h' z p o i j a b (n + 1) (rawInt s.heap.objs.size) → IsPair h' s.heap.objs.size x y → (∀ c t, c ∉ [z, o, i, j] → s.heap.get? c = some t → h'.get? c = some t) → Q (some (.ref s.heap.objs.size)) { s with heap := h' }) : wpAny (model prog w) A (pyNext (.ref z)) Q E s := by
  have ty : s.TypeIs (.ref z) "zip" := ⟨_, m.hz, rfl⟩
  unfold pyNext
  exact wpAny_bind (wpAny_attempt (wpAny_callSpecial?_slot (name := Str.ofString "__next__") ty F.slot_zip_next (wpAny_call_entry F.slot_zip_next ty F.entry_zip_next (mz_step D m ha hb ex ey fun h' c1 c2 c3 => wpAny_pure (q h' c1 c2 c3)) (F.args_zip_next_1 _))))
theorem mz_stop {Q : Option Value → Shared → Prop} (hh : A.handled = none) (D : ZipApart z p o i j a b) (m : Mz s.heap z p o i j a b n .none) (ha : s.heap.IsList a xs) (hb : s.heap.IsTuple b ys) (en : xs[n]? = none ∨ ys[n]? = none)
    (q : ∀ h', (∀ c t, c ∉ [z, o, i, j] → s.heap.get? c = some t → h'.get? c = some t) → Q none { s with heap := h' }) : wpAny (model prog w) A (pyNext (.ref z)) Q E s := by
  have ty : s.TypeIs (.ref z) "zip" := ⟨_, m.hz, rfl⟩
  unfold pyNext
  refine wpAny_bind (wpAny_attempt (wpAny_callSpecial?_slot (name := Str.ofString "__next__") ty F.slot_zip_next (wpAny_call_entry F.slot_zip_next ty F.entry_zip_next (mz_end hh D m ha hb en fun h' e k ⟨t, et, ct⟩ => ?_) (F.args_zip_next_1 _))))
  exact wpAny_bind (wpAny_isInstance (T := "StopIteration") (b := true) ⟨t, et, ct⟩ isSubtype_stop (wpAny_pure (q _ k)))
end
/-! the new zip -/
def mzH (h : Heap) (a b : Addr) : Heap := ((((h.push { cls := .type "list_iterator", data := .fields #[.ref a, .int 0 0] }).push { cls := .type "tuple_iterator", data := .fields #[.ref b, .int 0 0] }).push
  { cls := .type "tuple", data := .seq #[.ref h.objs.size, .ref (h.objs.size + 1)] }).push { cls := .type "tuple", data := .seq #[.none, .none] }).push
  { cls := .type "zip", data := .fields #[.none, .bool false, .bool false, .ref (h.objs.size + 2), .ref (h.objs.size + 3)] }
theorem mz_new (a b : Addr) (xs ys : Array Value) : Meets (Builtin.«zip.__new__» ⟨[.type "zip", .ref a, .ref b], []⟩) (fun _ R s => s.heap.IsList a xs ∧ s.heap.IsTuple b ys ∧ R (.ok (.ret (.ref (s.heap.objs.size + 4)))) { s with heap := mzH s.heap a b }) :=
  .of_wp fun prog w A R s h => by
    obtain ⟨hp, g, d, tk, os⟩ := s
    obtain ⟨ha, hb, h⟩ := h
    have sub := sub_zip
    have La : Heap.IsList (Shared.heap ⟨hp, g, d, tk, os⟩) a xs := ha
    have Lb : Heap.IsTuple (Shared.heap ⟨hp.push { cls := .type "list_iterator", data := .fields #[.ref a, .int 0 0] }, g, d, tk, os⟩) b ys := Heap.IsTuple.push hb _
    have e1 : (hp.push { cls := .type "list_iterator", data := .fields #[.ref a, .int 0 0] }).objs.size = hp.objs.size + 1 := Heap.size_push ..
    unfold mzH at h
    dsimp only at h
    wp_walk using wpAny_pyIter_list La, wpAny_pyIter_tuple Lb
    simp only [Heap.size_push] at *
    exact ⟨_, rfl, h⟩
section
variable {prog : Program} {w : World} {A : Around} {E : Value → Shared → Prop} {s : Shared} {a b : Addr} {xs ys : Array Value}
theorem mz_call {Q : Value → Shared → Prop} (ha : s.heap.IsList a xs) (hb : s.heap.IsTuple b ys)
    (q : ∀ h', Mz h' (s.heap.objs.size + 4) (s.heap.objs.size + 2) (s.heap.objs.size + 3) s.heap.objs.size (s.heap.objs.size + 1) a b 0 .none → (∀ c t, s.heap.get? c = some t → h'.get? c = some t) → Q (.ref (s.heap.objs.size + 4)) { s with heap := h' }) :
    wpAny (model prog w) A (call (.type "zip") [.ref a, .ref b]) Q E s := by
  refine callType_new F.called_zip (by decide) (F.typeCall_zip_2 _ _) (F.newCall_zip_2 _ _) (fun ob => F.args_object_init_3 ob _ _) F.entry_zip_new (mz_new a b xs ys) ⟨ha, hb, ?_⟩
  generalize hn : s.heap.objs.size = N at q ⊢
  have g : ∀ {h : Heap} {ob : Obj} {m : Nat}, h.objs.size = m → ob.isFreed = false → (h.push ob).get? m = some ob := fun e f => by
    rw [← e]
    exact Heap.get?_push_size _ f
  have u : ∀ {h : Heap} {ob t : Obj} {c : Addr}, h.get? c = some t → (h.push ob).get? c = some t := fun e => Heap.get?_push_of_some _ e
  have hz : IsZip (mzH s.heap a b) (N + 4) (N + 2) (N + 3) .none := by
    unfold mzH
    rw [hn]
    exact g (by simp only [Heap.size_push, hn]) rfl
  have hi : (mzH s.heap a b).get? N = some { cls := .type "list_iterator", data := .fields #[.ref a, .int 0 0] } := by
    unfold mzH
    exact u (u (u (u (g hn rfl))))
  have hj : (mzH s.heap a b).get? (N + 1) = some { cls := .type "tuple_iterator", data := .fields #[.ref b, .int 0 0] } := by
    unfold mzH
    exact u (u (u (g (by simp only [Heap.size_push, hn]) rfl)))
  refine ⟨⟨_, hz, rfl⟩, q _ ⟨hz, ?_, ⟨.none, .none, ?_⟩, ⟨_, hi, rfl, rfl⟩, ⟨_, hj, rfl, rfl⟩⟩ fun c t e => ?_⟩
  all_goals unfold mzH
  · rw [hn]
    exact u (u (g (by simp only [Heap.size_push, hn]) rfl))
  · exact u (g (by simp only [Heap.size_push, hn]) rfl)
  · exact u (u (u (u (u e))))
end
/-- the list at a and the tuple at b, the items in new pairs -/
def Imz (K : PySem.W.Frag) (a b : Addr) : It :=
  ⟨fun i H => ∃ (xs ys : List V) (x y : V), SqL K H a xs ∧ SqT K H b ys ∧ xs[i]? = some x ∧ ys[i]? = some y,
   fun i H v H' => ∃ t x y, v = .ref t ∧ H t = none ∧ H' = upd H t (.tup [x, y]) ∧ (∀ xs, SqL K H a xs → xs[i]? = some x) ∧ ∀ ys, SqT K H b ys → ys[i]? = some y,
   fun i H => ∃ xs ys : List V, SqL K H a xs ∧ SqT K H b ys ∧ (xs.length ≤ i ∨ ys.length ≤ i)⟩
theorem turn_mz {P : Program} {w : World} {K : PySem.W.Frag} {elts : List Expr} {kk : Nat} {tpos : Pos} {a b z p o i1 i2 : Addr} (D : ZipApart z p o i1 i2 a b) :
    Turn P w K (.Tuple elts kk tpos) (Imz K a b) [z, p, o, i1, i2] z (fun i h => Mz h z p o i1 i2 a b i .none) where
  mem := by simp
  obj := fun i h st c hc => by
    obtain ⟨m1, m2, ⟨u, v, m3⟩, ⟨o1, e1, _, d1⟩, ⟨o2, e2, _, d2⟩⟩ := st
    simp only [List.mem_cons, List.not_mem_nil, or_false] at hc
    rcases hc with e | e | e | e | e <;> subst e
    · exact ⟨_, m1, fun v e => by cases e⟩
    · exact ⟨_, m2, fun v e => by cases e⟩
    · exact ⟨_, m3, fun v e => by cases e⟩
    · exact ⟨o1, e1, fun v e => by rw [d1] at e; cases e⟩
    · exact ⟨o2, e2, fun v e => by rw [d2] at e; cases e⟩
  keep := fun i h h' st k => st.at k
  item := by
    intro X hP hw hK hc i pins s σ H E I hf st hg
    subst hP hw hK
    obtain ⟨xs, ys, x, y, qx, qy, ex, ey⟩ := hg
    obtain ⟨us, rv, pa, _⟩ := I.list qx
    obtain ⟨ws, rw_, pb, _⟩ := I.tuple qy
    obtain ⟨u, hu, ru⟩ := rv.get ex
    obtain ⟨v, hv, rv2⟩ := rw_.get ey
    have zl : z < s.heap.objs.size := Heap.lt_size st.hz
    refine mz_next D st pa.isList (show s.heap.IsTuple b ws.toArray from pb) (x := u) (y := v) (by simpa using hu) (by simpa using hv) fun g m1 t1 k1 => ⟨_, rfl, ?_⟩
    refine wpAny_letOwnedTupleGo_zip (s := { s with heap := g }) m1.hz fun g2 z2 sb => ?_
    have t2 : g2.get? s.heap.objs.size = some { cls := .type "tuple", data := .seq #[u, v] } := (sb.2 _ (Nat.ne_of_gt zl)).trans t1
    have new : ObjOk X.prog X.w (upd H s.heap.objs.size (.tup [x, y])) g2 s.heap.objs.size (.tup [x, y]) :=
      ⟨by show 2 ≤ sizeLine; decide, [u, v], .cons ru (.cons rv2 .nil), ⟨_, t2, rfl, _, rfl⟩⟩
    have I1 : Inv X pins σ (upd H s.heap.objs.size (.tup [x, y])) { s with heap := g2 } :=
      I.turnedNew (t' := s.toks) (ch := [z, p, o, i1, i2]) (fun c t nb e => (sb.2 c (fun q => nb (by simp [q]))).trans (k1 c t (fun q => nb (by simp at q ⊢; rcases q with q | q | q | q <;> simp [q])) e)) hf (Nat.le_refl _) new
    obtain ⟨_, mp, ⟨r1, r2, mo⟩, mi, mj⟩ := m1
    refine ⟨.ref s.heap.objs.size, _, I1, rfl, ⟨_, x, y, rfl, I.hok.fresh (Nat.le_refl _), rfl, fun l hl => by rw [I.list_inj hl qx]; exact ex, fun l hl => by rw [I.tuple_inj hl qy]; exact ey⟩, ⟨z2, (sb.2 _ D.TIz).trans mp, ⟨r1, r2, (sb.2 _ D.TOz).trans mo⟩, mi.at fun t e => (sb.2 _ D.i1z).trans e, mj.at fun t e => (sb.2 _ D.i2z).trans e⟩, fun c hcm => ?_⟩
    have lt : c < s.heap.objs.size := by
      obtain ⟨ob, e, _⟩ := show ∃ ob, s.heap.get? c = some ob ∧ True from by
        obtain ⟨m1, m2, ⟨u, v, m3⟩, ⟨o1, e1, _, d1⟩, ⟨o2, e2, _, d2⟩⟩ := st
        simp only [List.mem_cons, List.not_mem_nil, or_false] at hcm
        rcases hcm with e | e | e | e | e <;> subst e
        · exact ⟨_, m1, trivial⟩
        · exact ⟨_, m2, trivial⟩
        · exact ⟨_, m3, trivial⟩
        · exact ⟨_, e1, trivial⟩
        · exact ⟨_, e2, trivial⟩
      exact Heap.lt_size e
    rw [upd_ne (Nat.ne_of_lt lt)]
    exact (hf c hcm).1
  done := by
    intro X hP hw hK hc i pins s σ H E I hf st hg
    subst hP hw hK
    obtain ⟨xs, ys, qx, qy, en⟩ := hg
    obtain ⟨us, rv, pa, _⟩ := I.list qx
    obtain ⟨ws, rw_, pb, _⟩ := I.tuple qy
    have l1 := rv.length
    have l2 := rw_.length
    refine mz_stop (I.ok.hd hc) D st pa.isList (show s.heap.IsTuple b ws.toArray from pb) (en.imp (fun q => by simp; omega) fun q => by simp; omega) fun g k => ⟨rfl, ?_⟩
    exact I.turnedL (t' := s.toks) (ch := [z, p, o, i1, i2]) (fun c t nb e => k c t (fun q => nb (by simp at q ⊢; rcases q with q | q | q | q <;> simp [q])) e) hf
  self := fun A i s Q E st h => wpAny_pyIter_zip st.hz h
def iZipLT (K : PySem.W.Frag) (ta : TA) : TI := fun σ H R => ta σ H fun vs H1 => ∃ a b xs ys, vs = [.ref a, .ref b] ∧ SqL K H1 a xs ∧ SqT K H1 b ys ∧ R (Imz K a b) H1
theorem pi_zipLT {X : Cx} {e e2 : Expr} {ta : TA} {p pos tpos : Pos} {elts : List Expr} {kk : Nat} (hg : Gl X "zip") (hm : X.mg "zip" = none) (ha : PA X [e, e2] ta)
    (hs : starEach [e, e2] X.env = (false, eval e X.env) :: starEach [e2] X.env := by rfl) (hpl : (backTo pos (starEach [e2] X.env)).any (·.1) = false := by rfl) :
    PI X (.Tuple elts kk tpos) (.Call (.Name "zip" p) [e, e2] [] pos) (iZipLT X.K ta) := by
  refine ⟨fun pins s σ H R I h => ?_⟩
  refine Call_ (ld_blt I hg hm PyProof.Rows.boot_zip (PyProof.Rows.callWith_type1 (thn (ha.run pos pins s σ H _ I h) fun us s1 ⟨vs, H1, I1, r1, q1⟩ => ?_) hs hpl))
  obtain ⟨a, b, xs, ys, rfl, qx, qy, q⟩ := q1
  cases r1 with
  | cons r rr =>
    cases rr with
    | cons r2 rr =>
      cases rr
      cases r
      cases r2
      obtain ⟨us, rv, pa, _⟩ := I1.list qx
      obtain ⟨ws, rw_, pb, _⟩ := I1.tuple qy
      have tb : s1.heap.IsTuple b ws.toArray := pb
      obtain ⟨ob, hb, _⟩ := id tb
      refine mz_call pa.isList tb fun h' m k => wpAny_pyIter_zip m.hz ?_
      refine ⟨s1.heap.objs.size + 4, [s1.heap.objs.size + 4, s1.heap.objs.size + 2, s1.heap.objs.size + 3, s1.heap.objs.size, s1.heap.objs.size + 1], _, _, H1, rfl, I1.kept (t' := s1.toks) k, turn_mz (PySem.W.ktu_apart s1.heap.objs.size a b pa.lt (Heap.lt_size hb)), m, fun c hc => ?_, q⟩
      have le : s1.heap.objs.size ≤ c := by
        simp only [List.mem_cons, List.not_mem_nil, or_false] at hc
        rcases hc with e | e | e | e | e <;> rw [e]
        all_goals first | exact Nat.le_add_right _ _ | exact Nat.le_refl _
      exact I1.fpOk le (I1.hok.fresh le)
/-- a list or a tuple, walked -/
def iSeq (K : PySem.W.Frag) (tl : TE) : TI := fun σ H R => tl σ H fun x H1 => ∃ a, x = .ref a ∧ ((∃ xs, SqL K H1 a xs) ∧ R (Itl K a) H1 ∨ (∃ xs, SqT K H1 a xs) ∧ R (Itt K a) H1)
theorem pi_seq {X : Cx} {tg l : Expr} {tl : TE} (hl : PE X l tl) : PI X tg l (iSeq X.K tl) := by
  refine ⟨fun pins s σ H R I h => thn (hl.run pins s σ H _ I h) fun v s1 ⟨x, H1, I1, r1, q1⟩ => ?_⟩
  obtain ⟨a, rfl, q⟩ := q1
  cases r1
  have fp : ∀ c ∈ [s1.heap.objs.size], FpOk X pins H1 c := fun c hc => by
    rw [show c = s1.heap.objs.size by simpa using hc]
    exact I1.fpOk (Nat.le_refl _) (I1.hok.fresh (Nat.le_refl _))
  rcases q with ⟨⟨xs, hq⟩, q⟩ | ⟨⟨xs, hq⟩, q⟩
  · obtain ⟨us, _, pa, _⟩ := I1.list hq
    exact wpAny_pyIter_list pa.isList ⟨_, _, _, _, H1, rfl, I1.kept (t' := s1.toks) fun c t e => Heap.get?_push_of_some _ e, turn_list a _, ⟨_, Heap.get?_push_size _ rfl, rfl, rfl⟩, fp, q⟩
  · obtain ⟨us, _, pa, _⟩ := I1.tuple hq
    exact wpAny_pyIter_tuple (show s1.heap.IsTuple a us.toArray from pa) ⟨_, _, _, _, H1, rfl, I1.kept (t' := s1.toks) fun c t e => Heap.get?_push_of_some _ e, turn_tuple a _, ⟨_, Heap.get?_push_size _ rfl, rfl, rfl⟩, fp, q⟩
end L2

/-! MR13 -/
/-! A list that takes in a tuple; xs[a:] = ys. -/
namespace L2
open PySem PySem.Spec PyProof.Rows
/-- list.extend of a tuple -/
theorem xt_tup (l : Addr) (us : Array Value) (n : Nat) (b : Addr) (ws : Array Value) (h0 : ¬(!us.isEmpty && Builtin.List.listTooLong (us.size + ws.size)) = true) (h1 : us.size ≤ sizeLine) (h2 : us.size + ws.size ≤ sizeLine + 1) :
    Meets (Builtin.«list.extend» ⟨[.ref l, .ref b], []⟩) (fun _ R s => s.heap.get? l = some { cls := .type "list", data := .seq us n } ∧ IsTup s.heap b ws ∧ R (.ok (.ret Value.none)) { s with heap := s.heap.update l (Obj.mapSeq fun x => x ++ ws), toks := s.toks }) :=
  .of_wp fun prog w A R s h => by
    obtain ⟨hp, g, d, tk, os⟩ := s
    obtain ⟨hl, ⟨ob, eb, cb, k, db⟩, h⟩ := h
    have ty : Shared.TypeIs ⟨hp, g, d, tk, os⟩ (.ref b) "tuple" := ⟨ob, eb, cb⟩
    have fit : (us ++ ws).size ≤ sizeLine + 1 := by rw [Array.size_append]; exact h2
    have f2 := sub_tuple_tuple
    have f3 := sub_list_list
    have f4 := sub_tuple_list
    have f5 := sub_list_tuple
    wp_walk using (wpAny_typeOf ty), (wpAny_seqItems eb db), (wpAny_updateSeq hl rfl (hz := h1) (_hz' := fit)), wpAny_loadPart' hl
    exact ⟨_, rfl, h⟩
def rExtT : V → List V → Hp → VK → Prop := fun x vs H Q => ∃ l b xs zs, x = .ref l ∧ vs = [.ref b] ∧ H l = some (.lst xs) ∧ H b = some (.tup zs) ∧ xs.length + zs.length ≤ sizeLine ∧ Q .non (upd H l (.lst (xs ++ zs)))
section
variable {X : Cx}
theorem mt_extT : MtM X "list.extend" rExtT := by
  intro pins s σ H x vs v us Q I rx rv h
  obtain ⟨l, b, xs, zs, rfl, rfl, hl, hb, hz, q⟩ := h
  cases rx
  obtain ⟨u, rfl, ru⟩ := rv.one
  cases ru
  obtain ⟨_, its, n, r, hn, e⟩ := I.lstM hl
  obtain ⟨ws, r2, tb, _⟩ := I.tuple (SqT.of hb)
  have l2 := r2.length
  have room : its.toArray.size + ws.toArray.size ≤ sizeLine := by
    rw [List.size_toArray, List.size_toArray]
    omega
  have short : ¬ (!its.toArray.isEmpty && Builtin.List.listTooLong (its.toArray.size + ws.toArray.size)) = true := by
    rw [notLongL room, Bool.and_false]
    exact Bool.false_ne_true
  refine call_meets F.slot_list_extend ⟨_, e, rfl⟩ F.entry_list_extend (F.args_list_extend_2 _ _) (xt_tup l its.toArray n b ws.toArray short (Nat.le_trans (Nat.le_add_right _ _) room) (by omega)) ⟨e, tb, ?_⟩
  exact ⟨.non, _, I.lset (its' := its ++ ws) hl e (by simp) (r.append r2) (by rw [List.length_append]; omega), rfl, q⟩
end
/-! xs[a:] = ys -/
theorem tail_bounds {a n : Nat} (h : a ≤ n) : sliceBounds (some (a : Int)) none none n = ((a : Int), (n : Int), 1) := by
  simp only [sliceBounds, Option.getD_none, show ¬ ((a : Int) < 0) by omega, if_false, show (1 : Int) > 0 by decide, if_true]
  congr 1
  omega
section
variable {prog : Program} {w : World} {A : Around} {E : Value → Shared → Prop} {s : Shared}
theorem tail_set {l b sl : Addr} {us ws : Array Value} {n m : Nat} {vl vu : Value} {a : Nat} {Q : Unit → Shared → Prop}
    (e : s.heap.get? l = some { cls := .type "list", data := .seq us n }) (e2 : s.heap.get? b = some { cls := .type "list", data := .seq ws m }) (ne : l ≠ b)
    (hs : s.heap.IsSliceOf sl vl vu .none) (pl : IsPart vl (some (a : Int))) (pu : IsPart vu none) (ha : a ≤ us.size) (room : us.size + ws.size ≤ sizeLine)
    (q : Q () { s with heap := s.heap.update l (Obj.mapSeq fun xs => xs.extract 0 a ++ ws ++ xs.extract us.size xs.size) }) :
    wpAny (model prog w) A (setItem (.ref l) (.ref sl) (.ref b)) Q E s := by
  have hl : s.heap.IsList l us := PySem.IsL.isList e
  have hb : s.heap.IsList b ws := PySem.IsL.isList e2
  obtain ⟨ob, hob, cob, dob⟩ := id hs
  have ts : s.TypeIs (.ref sl) "slice" := ⟨ob, hob, cob⟩
  have apart : Builtin.List.listSameRef (.ref l) (.ref b) = false := by
    unfold Builtin.List.listSameRef
    exact beq_eq_false_iff_ne.mpr ne
  have top : max (a : Int) (us.size : Int) = ((us.size : Nat) : Int) := by omega
  have fit : (us.extract 0 a ++ ws ++ us.extract us.size us.size).size ≤ sizeLine + 1 := by
    simp only [Array.size_append, Array.size_extract]
    omega
  unfold setItem
  first | with_reducible refine wpAny_holding ?_ | skip
  first | refine wpAny_bind (wpAny_pure ?_) | skip
  refine wpAny_bind (wpAny_sequenceKey hl.typeIs (by decide) ?_)
  refine wpAny_bind (wpAny_callSpecial?_slot (name := Str.ofString "__setitem__") hl.typeIs slot_list_setitem (wpAny_call_entry slot_list_setitem hl.typeIs entry_list_setitem ?_ (args_list_setitem _ _ _)))
  show wpAny _ _ (Builtin.List.listSubscript? (.ref sl) >>= _) _ _ s
  unfold Builtin.List.listSubscript?
  refine wpAny_bind (wpAny_bind (wpAny_specialOf ts slice_no_index ?_))
  simp only [Option.isNone_none, if_true]
  refine wpAny_pure ?_
  show wpAny _ _ (typeOf (.ref sl) >>= _) _ _ s
  refine wpAny_bind (wpAny_typeOf ts ?_)
  first
    | rw [if_neg (by decide)]
    | refine PySem.W.KFB.if_not (by decide) ?_
  rw [listSliceParts_eq]
  refine wpAny_bind (wpAny_bind (wpAny_field hob dob (x := .none) rfl (wpAny_bind (wpAny_listPart .none ?_))))
  rw [if_neg (show ¬ ((rawPart none == rawInt 0) = true) from Bool.false_ne_true)]
  refine wpAny_bind (wpAny_field hob dob (x := vl) rfl (wpAny_bind (wpAny_listPart pl (wpAny_bind (wpAny_field hob dob (x := vu) rfl (wpAny_bind (wpAny_listPart pu (wpAny_pure ?_))))))))
  first
    | simp only [apart, Bool.false_eq_true, if_false]
    | refine PySem.W.KFB.if_not apart ?_
    | (dsimp only
       rw [if_neg (by rw [apart]; exact Bool.false_ne_true)])
  refine wpAny_bind (m := Builtin.List.listAllItems (.ref b) "must assign iterable to extended slice") ?_
  unfold Builtin.List.listAllItems
  refine wpAny_bind (wpAny_typeOf hb.typeIs ?_)
  first
    | refine PySem.W.KFB.if_so (by decide) ?_
    | rw [if_pos (by decide)]
    | simp only [beq_self_eq_true, Bool.true_or, if_true]
  unfold Builtin.List.listItems
  refine wpAny_bind (wpAny_seqItems e2 rfl (wpAny_pure (wpAny_bind (wpAny_bind (wpAny_seqItems e rfl (wpAny_pure ?_))))))
  refine wpAny_bind (wpAny_of_eq ((sliceIndices_raw (some (a : Int)) none none us.size (by simp)).trans (congrArg (pure : Int × Int × Int → Sem (Int × Int × Int)) (tail_bounds ha))) ?_)
  show wpAny _ _ (if ((1 : Int) == 1) = true then _ else _) _ _ s
  rw [if_pos (by decide)]
  refine wpAny_bind (wpAny_rule ?_)
  first
    | simp only [notLongL room, Bool.false_eq_true, if_false]
    | refine PySem.W.KFB.if_not (notLongL room) ?_
  first | refine wpAny_bind (wpAny_pure ?_) | skip
  show wpAny _ _ (updateSeq l (fun xs => xs.extract 0 ((a : Int)).toNat ++ ws ++ xs.extract (max (a : Int) (us.size : Int)).toNat xs.size) >>= _) _ _ s
  rw [top, Int.toNat_natCast]
  refine wpAny_bind (wpAny_updateSeq (hz := Nat.le_trans (Nat.le_add_right _ _) room) (_hz' := fit) e rfl (wpAny_bind (wpAny_letGo ?_)))
  first
    | exact wpAny_bind (wpAny_pure (wpAny_pure ⟨.none, rfl, wpAny_pure q⟩))
    | exact wpAny_pure ⟨.none, rfl, wpAny_pure q⟩
end
section
variable {X : Cx}
/-- xs[a:] = ys -/
def gSlL (to tl : TE) : TG := fun v σ H Q => to σ H fun x H1 => tPart tl σ H1 fun y H2 => ∃ z : Nat, y = some (z : Int) ∧ ∃ l b xs ys, x = .ref l ∧ v = .ref b ∧ H2 l = some (.lst xs) ∧ H2 b = some (.lst ys) ∧ l ≠ b ∧ z ≤ xs.length ∧ xs.length + ys.length ≤ sizeLine ∧ Q σ (upd H2 l (.lst (xs.take z ++ ys)))
theorem rd_slset {to tl : TE} {v : V} {σ : L2.St} {H : Hp} {Q : L2.St → Hp → Prop} (h : to σ H fun x H1 => tl σ H1 fun y H2 => ∃ i : Int, y = .int i ∧ ∃ z : Nat, some i = some (z : Int) ∧ ∃ l b xs ys, x = .ref l ∧ v = .ref b ∧ H2 l = some (.lst xs) ∧ H2 b = some (.lst ys) ∧ l ≠ b ∧ z ≤ xs.length ∧ xs.length + ys.length ≤ sizeLine ∧ Q σ (upd H2 l (.lst (xs.take z ++ ys)))) : gSlL to tl v σ H Q := h
theorem pg_slL {o lo : Expr} {to tl : TE} {p2 pos : Pos} (ho : PE X o to) (hl : PE X lo tl)
    (ha : ∀ v, assign (.Subscript o (.Slice (some lo) none none p2) pos) X.env v = (do
      let ov ← holding [v] (eval o X.env)
      let iv ← holding [v, ov] (eval (.Slice (some lo) none none p2) X.env)
      standAt pos
      holding [v, ov, iv] (setItem ov iv v)
      release [iv, v, ov] []) := by intro _; rfl) : PG X (.Subscript o (.Slice (some lo) none none p2) pos) (gSlL to tl) := by
  refine ⟨fun pins s σ H v u Q I r h => ?_⟩
  rw [ha]
  refine wpAny_bind (wpAny_holding (thn (ho.run pins s σ H _ I h) fun ov s1 ⟨x, H1, I1, r1, q1⟩ => ?_))
  refine wpAny_bind (wpAny_holding (wpAny_Slice (thn ((po_some hl).run pins s1 σ H1 (fun y H2 => ∃ z : Nat, y = some (z : Int) ∧ ∃ l b xs ys, x = .ref l ∧ v = .ref b ∧ H2 l = some (.lst xs) ∧ H2 b = some (.lst ys) ∧ l ≠ b ∧ z ≤ xs.length ∧ xs.length + ys.length ≤ sizeLine ∧ Q σ (upd H2 l (.lst (xs.take z ++ ys)))) I1 q1) fun vl s2 ⟨y, H2, I2, pl, q2⟩ => thn (po_none.run pins s2 σ H2 (fun o H3 => o = none ∧ H3 = H2) I2 ⟨rfl, rfl⟩) fun vu s3 ⟨o, H3, I3, pu, eo, eH⟩ => ?_)))
  subst eo eH
  obtain ⟨z, rfl, m, b, xs, ys, rfl, rfl, em, eb, ne, hz, room, q⟩ := q2
  rw [evalPart_none]
  refine wpAny_pure ?_
  cases r1
  cases r
  have I4 : Inv X pins σ H3 { s3 with heap := s3.heap.push { cls := .type "slice", data := .fields #[vl, vu, .none] } } := I3.kept (t' := s3.toks) fun b ob q => Heap.get?_push_of_some _ q
  obtain ⟨_, us, n, r1, hn, e1⟩ := I4.lstM em
  obtain ⟨_, ws, n2, r2, hn2, e2⟩ := I4.lstM eb
  refine wpAny_bind (wpAny_standAt (wpAny_bind (wpAny_holding ?_)))
  refine tail_set (a := z) e1 e2 ne (Heap.IsSliceOf.new ..) pl pu (by rw [List.size_toArray]; omega) (by rw [List.size_toArray, List.size_toArray]; omega) ?_
  refine wpAny_release ⟨σ, _, I4.lset (its' := us.take z ++ ws) (t' := s3.toks) em e1 ?_ ((r1.take _).append r2) ?_, q⟩
  · have := splice_eq us ws z us.length
    rw [List.drop_length, List.append_nil] at this
    rw [← this]
    simp
  · rw [List.length_append, List.length_take]
    omega
end
end L2

/-! MS -/
/-! The text by places, what the top leaves. -/
namespace Mw
open PySem L2
abbrev SC_SIGNS : Str := " !\"#$ &'()*+,-./0123456789:;<=>?@ABCDEFGHIJKLMNOPQRSTUVWXYZ[\\]^_`abcdefghijklmnopqrstuvwxyz{|}~"
def top (i : Nat) : Stmt := PySem.Challenge.pw_moststream_k30_whole_disks_and_kept_parc.main.body.getD i (.Pass ⟨0, 0, 0, 0⟩)
/-- what the top has left: the names of the built-in things are free, the classes stand -/
structure Tx (K : PySem.W.Frag) (mg : Str → Option Value) where
  c_Disk : Addr
  c_NoNumber : Addr
  c_NoCut : Addr
  c_NoBlocks : Addr
  c_NoRow : Addr
  c_BadRow : Addr
  b_isinstance : mg "isinstance" = none
  b_int : mg "int" = none
  b_bool : mg "bool" = none
  b_tuple : mg "tuple" = none
  b_list : mg "list" = none
  b_str : mg "str" = none
  b_len : mg "len" = none
  b_range : mg "range" = none
  b_zip : mg "zip" = none
  b_min : mg "min" = none
  b_all : mg "all" = none
  b_sum : mg "sum" = none
  b_abs : mg "abs" = none
  b_ord : mg "ord" = none
  b_repr : mg "repr" = none
  g_Disk : mg "Disk" = some (.ref c_Disk)
  g_NoNumber : mg "NoNumber" = some (.ref c_NoNumber)
  g_NoCut : mg "NoCut" = some (.ref c_NoCut)
  g_NoBlocks : mg "NoBlocks" = some (.ref c_NoBlocks)
  g_NoRow : mg "NoRow" = some (.ref c_NoRow)
  g_BadRow : mg "BadRow" = some (.ref c_BadRow)
  k1 : Tok
  k2 : Tok
  k3 : Tok
  k4 : Tok
  k6 : Tok
  k7 : Tok
  k8 : Tok
  k9 : Tok
  k10 : Tok
  k11 : Tok
  k12 : Tok
  k13 : Tok
  k14 : Tok
  k15 : Tok
  k16 : Tok
  k17 : Tok
  g_NONE : mg "NONE" = some (.int 0 k1)
  g_NO : mg "NO" = some (.int 1 k2)
  g_YES : mg "YES" = some (.int 2 k3)
  g_FROM_ZERO : mg "FROM_ZERO" = some (.int 3 k4)
  g_STRING : mg "STRING" = some (.int 5 k6)
  g_TUPLE : mg "TUPLE" = some (.int 6 k7)
  g_MOST_SIGNS : mg "MOST_SIGNS" = some (.int 20 k8)
  g_MOST_DEEP : mg "MOST_DEEP" = some (.int 20 k9)
  g_BYTE_LIMIT : mg "BYTE_LIMIT" = some (.int 256 k10)
  g_FIGURE_LIMIT : mg "FIGURE_LIMIT" = some (.int 128 k11)
  g_MARK_LIMIT : mg "MARK_LIMIT" = some (.int 2305843009213693951 k12)
  g_SEAL_LENGTH : mg "SEAL_LENGTH" = some (.int 4 k13)
  g_LEAST_SIGN : mg "LEAST_SIGN" = some (.int 32 k14)
  g_GREATEST_SIGN : mg "GREATEST_SIGN" = some (.int 126 k15)
  g_NO_SIGN : mg "NO_SIGN" = some (.int 37 k16)
  g_SIGNS : mg "SIGNS" = some (.str SC_SIGNS k17)
  x_NoNumber : OexC K c_NoNumber
  x_NoCut : OexC K c_NoCut
  x_NoBlocks : OexC K c_NoBlocks
  W_Disk : WebTy K c_Disk
  mk_Disk : PySem.W.makesIn K c_Disk = true ∧ PySem.W.keepIn K (.ref c_Disk) = true
  na_rows : NoAttr K c_Disk "rows"
  na_firm : NoAttr K c_Disk "firm"
  x_NoRow : OexC K c_NoRow
  x_BadRow : OexC K c_BadRow
  na_place : PySem.W.findIn K (.ref c_BadRow) "place" = some none
  e_BadRowBadRow : PySem.W.exmOne K (.ref c_BadRow) (.ref c_BadRow) = some true
/-- a def of the top by its name -/
structure Df (K : PySem.W.Frag) (mg : Str → Option Value) (x : Str) (st : Stmt) (ps : List Str) where
  f : Addr
  fd : FuncData
  F : Fun K x x st f fd
  m : mg x = some (.ref f)
  b : Binds K fd ps []
/-- a method of a class -/
structure Dm (K : PySem.W.Frag) (C : Addr) (x q : Str) (st : Stmt) (ps : List Str) where
  f : Addr
  fd : FuncData
  F : Fun K x q st f fd
  a : PySem.W.findIn K (.ref C) x = some (some (.ref f))
  i : PySem.W.isFn K (.ref f) = true
  t : PySem.W.typeIn K (.ref f) = some (.type "function")
  b : Binds K fd ps []
/-- the classes whose objects are met (none) -/
def Tx.CP {K : PySem.W.Frag} {mg : Str → Option Value} (_ : Tx K mg) : Addr → Prop := fun _ => False
theorem Tx.W {K : PySem.W.Frag} {mg : Str → Option Value} (T : Tx K mg) : ∀ C, T.CP C → WebTy K C := fun _ h => h.elim
abbrev s_NoNumber_init : Stmt := inClass (top 2) 0
theorem sc_NoNumber_init : FnScope ["self"] ["self"] (defScope s_NoNumber_init) := ⟨rfl, rfl, rfl, by decide +kernel, rfl, by decide +kernel, by decide +kernel⟩
abbrev s_NoRow_init : Stmt := inClass (top 3) 0
theorem sc_NoRow_init : FnScope ["self"] ["self"] (defScope s_NoRow_init) := ⟨rfl, rfl, rfl, by decide +kernel, rfl, by decide +kernel, by decide +kernel⟩
abbrev s_BadRow_init : Stmt := inClass (top 4) 0
theorem sc_BadRow_init : FnScope ["self", "place"] ["self", "place"] (defScope s_BadRow_init) := ⟨rfl, rfl, rfl, by decide +kernel, rfl, by decide +kernel, by decide +kernel⟩
abbrev s_NoCut_init : Stmt := inClass (top 5) 0
theorem sc_NoCut_init : FnScope ["self"] ["self"] (defScope s_NoCut_init) := ⟨rfl, rfl, rfl, by decide +kernel, rfl, by decide +kernel, by decide +kernel⟩
abbrev s_NoBlocks_init : Stmt := inClass (top 6) 0
theorem sc_NoBlocks_init : FnScope ["self"] ["self"] (defScope s_NoBlocks_init) := ⟨rfl, rfl, rfl, by decide +kernel, rfl, by decide +kernel, by decide +kernel⟩
abbrev s_is_int : Stmt := top 8
theorem sc_is_int : FnScope ["thing"] ["thing"] (defScope s_is_int) := ⟨rfl, rfl, rfl, by decide +kernel, rfl, by decide +kernel, by decide +kernel⟩
abbrev s_is_number : Stmt := top 9
theorem sc_is_number : FnScope ["thing"] ["thing"] (defScope s_is_number) := ⟨rfl, rfl, rfl, by decide +kernel, rfl, by decide +kernel, by decide +kernel⟩
abbrev s_is_number_below : Stmt := top 10
theorem sc_is_number_below : FnScope ["limit", "thing"] ["limit", "thing"] (defScope s_is_number_below) := ⟨rfl, rfl, rfl, by decide +kernel, rfl, by decide +kernel, by decide +kernel⟩
abbrev s_is_tuple_of : Stmt := top 11
theorem sc_is_tuple_of : FnScope ["many", "thing"] ["many", "thing"] (defScope s_is_tuple_of) := ⟨rfl, rfl, rfl, by decide +kernel, rfl, by decide +kernel, by decide +kernel⟩
abbrev s_is_byte : Stmt := top 29
theorem sc_is_byte : FnScope ["thing"] ["thing"] (defScope s_is_byte) := ⟨rfl, rfl, rfl, by decide +kernel, rfl, by decide +kernel, by decide +kernel⟩
abbrev s_is_row : Stmt := top 30
theorem sc_is_row : FnScope ["thing", "item"] ["thing"] (defScope s_is_row) := ⟨rfl, rfl, rfl, by decide +kernel, rfl, by decide +kernel, by decide +kernel⟩
abbrev s_check_row : Stmt := top 31
theorem sc_check_row : FnScope ["row"] ["row"] (defScope s_check_row) := ⟨rfl, rfl, rfl, by decide +kernel, rfl, by decide +kernel, by decide +kernel⟩
abbrev s_is_sign : Stmt := top 32
theorem sc_is_sign : FnScope ["number"] ["number"] (defScope s_is_sign) := ⟨rfl, rfl, rfl, by decide +kernel, rfl, by decide +kernel, by decide +kernel⟩
abbrev s_parcel_of : Stmt := top 33
theorem sc_parcel_of : FnScope ["row", "parcel", "behind"] ["row"] (defScope s_parcel_of) := ⟨rfl, rfl, rfl, by decide +kernel, rfl, by decide +kernel, by decide +kernel⟩
abbrev s_check_there : Stmt := top 34
theorem sc_check_there : FnScope ["row", "place"] ["row", "place"] (defScope s_check_there) := ⟨rfl, rfl, rfl, by decide +kernel, rfl, by decide +kernel, by decide +kernel⟩
abbrev s_parcel_at : Stmt := top 35
theorem sc_parcel_at : FnScope ["row", "place", "deep", "sort", "number", "behind"] ["row", "place", "deep"] (defScope s_parcel_at) := ⟨rfl, rfl, rfl, by decide +kernel, rfl, by decide +kernel, by decide +kernel⟩
abbrev s_whole_at : Stmt := top 36
theorem sc_whole_at : FnScope ["row", "place", "last", "number", "byte"] ["row", "place"] (defScope s_whole_at) := ⟨rfl, rfl, rfl, by decide +kernel, rfl, by decide +kernel, by decide +kernel⟩
abbrev s_string_at : Stmt := top 37
theorem sc_string_at : FnScope ["row", "place", "many", "signs", "at"] ["row", "place", "many"] (defScope s_string_at) := ⟨rfl, rfl, rfl, by decide +kernel, rfl, by decide +kernel, by decide +kernel⟩
abbrev s_tuple_at : Stmt := top 38
theorem sc_tuple_at : FnScope ["row", "place", "many", "deep", "items", "behind", "item"] ["row", "place", "many", "deep"] (defScope s_tuple_at) := ⟨rfl, rfl, rfl, by decide +kernel, rfl, by decide +kernel, by decide +kernel⟩
abbrev s_mark_of : Stmt := top 39
theorem sc_mark_of : FnScope ["row", "found", "byte"] ["row"] (defScope s_mark_of) := ⟨rfl, rfl, rfl, by decide +kernel, rfl, by decide +kernel, by decide +kernel⟩
abbrev s_seal_ : Stmt := top 40
theorem sc_seal_ : FnScope ["row", "left", "seal", "_"] ["row"] (defScope s_seal_) := ⟨rfl, rfl, rfl, by decide +kernel, rfl, by decide +kernel, by decide +kernel⟩
abbrev s_unsealed : Stmt := top 41
theorem sc_unsealed : FnScope ["row"] ["row"] (defScope s_unsealed) := ⟨rfl, rfl, rfl, by decide +kernel, rfl, by decide +kernel, by decide +kernel⟩
abbrev s_Disk_init : Stmt := inClass (top 43) 0
theorem sc_Disk_init : FnScope ["self"] ["self"] (defScope s_Disk_init) := ⟨rfl, rfl, rfl, by decide +kernel, rfl, by decide +kernel, by decide +kernel⟩
abbrev s_Disk_write : Stmt := inClass (top 43) 1
theorem sc_Disk_write : FnScope ["self", "row"] ["self", "row"] (defScope s_Disk_write) := ⟨rfl, rfl, rfl, by decide +kernel, rfl, by decide +kernel, by decide +kernel⟩
abbrev s_Disk_sync : Stmt := inClass (top 43) 2
theorem sc_Disk_sync : FnScope ["self", "newly"] ["self"] (defScope s_Disk_sync) := ⟨rfl, rfl, rfl, by decide +kernel, rfl, by decide +kernel, by decide +kernel⟩
abbrev s_Disk_blocks : Stmt := inClass (top 43) 3
theorem sc_Disk_blocks : FnScope ["self"] ["self"] (defScope s_Disk_blocks) := ⟨rfl, rfl, rfl, by decide +kernel, rfl, by decide +kernel, by decide +kernel⟩
abbrev s_Disk_synced : Stmt := inClass (top 43) 4
theorem sc_Disk_synced : FnScope ["self"] ["self"] (defScope s_Disk_synced) := ⟨rfl, rfl, rfl, by decide +kernel, rfl, by decide +kernel, by decide +kernel⟩
abbrev s_Disk_cut : Stmt := inClass (top 43) 5
theorem sc_Disk_cut : FnScope ["self", "kept", "waiting", "row", "many"] ["self", "kept"] (defScope s_Disk_cut) := ⟨rfl, rfl, rfl, by decide +kernel, rfl, by decide +kernel, by decide +kernel⟩
abbrev s_Disk_drop : Stmt := inClass (top 43) 6
theorem sc_Disk_drop : FnScope ["self", "number"] ["self", "number"] (defScope s_Disk_drop) := ⟨rfl, rfl, rfl, by decide +kernel, rfl, by decide +kernel, by decide +kernel⟩
abbrev s_Disk_copy : Stmt := inClass (top 43) 7
theorem sc_Disk_copy : FnScope ["self", "other"] ["self"] (defScope s_Disk_copy) := ⟨rfl, rfl, rfl, by decide +kernel, rfl, by decide +kernel, by decide +kernel⟩
abbrev s_is_cut : Stmt := top 44
theorem sc_is_cut : FnScope ["waiting", "thing", "row", "many"] ["waiting", "thing"] (defScope s_is_cut) := ⟨rfl, rfl, rfl, by decide +kernel, rfl, by decide +kernel, by decide +kernel⟩
abbrev s_kept_parcels : Stmt := top 45
theorem sc_kept_parcels : FnScope ["blocks", "block", "parcels", "told"] ["blocks"] (defScope s_kept_parcels) := ⟨rfl, rfl, rfl, by decide +kernel, rfl, by decide +kernel, by decide +kernel⟩
abbrev s_law_pool : Stmt := top 47
theorem sc_law_pool : FnScope ["_law_script", "_law_seed", "_law_cell"] ["_law_script"] (defScope s_law_pool) := ⟨rfl, rfl, rfl, by decide +kernel, rfl, by decide +kernel, by decide +kernel⟩
abbrev s_law_draw : Stmt := top 48
theorem sc_law_draw : FnScope ["_law_pool_here", "_law_many", "_law_cells", "_law_digit", "_law_mixed"] ["_law_pool_here", "_law_many"] (defScope s_law_draw) := ⟨rfl, rfl, rfl, by decide +kernel, rfl, by decide +kernel, by decide +kernel⟩
abbrev s_law_is : Stmt := top 49
theorem sc_law_is : FnScope ["_law_told_here", "_law_due"] ["_law_told_here", "_law_due"] (defScope s_law_is) := ⟨rfl, rfl, rfl, by decide +kernel, rfl, by decide +kernel, by decide +kernel⟩
abbrev s_law_whole : Stmt := top 50
theorem sc_law_whole : FnScope ["_law_number_here", "_law_found"] ["_law_number_here"] (defScope s_law_whole) := ⟨rfl, rfl, rfl, by decide +kernel, rfl, by decide +kernel, by decide +kernel⟩
abbrev s_law_bytes : Stmt := top 51
theorem sc_law_bytes : FnScope ["_law_parcel_here", "_law_found", "_law_part", "_law_sign_here"] ["_law_parcel_here"] (defScope s_law_bytes) := ⟨rfl, rfl, rfl, by decide +kernel, rfl, by decide +kernel, by decide +kernel⟩
abbrev s_law_number : Stmt := top 52
theorem sc_law_number : FnScope ["_law_pool_here", "_law_kind", "_law_great", "_law_found", "_law_turn"] ["_law_pool_here"] (defScope s_law_number) := ⟨rfl, rfl, rfl, by decide +kernel, rfl, by decide +kernel, by decide +kernel⟩
abbrev s_law_parcel : Stmt := top 53
theorem sc_law_parcel : FnScope ["_law_pool_here", "_law_deep", "_law_kind", "_law_many", "_law_turn", "_law_at"] ["_law_pool_here", "_law_deep"] (defScope s_law_parcel) := ⟨rfl, rfl, rfl, by decide +kernel, rfl, by decide +kernel, by decide +kernel⟩
abbrev s_law_same : Stmt := top 54
theorem sc_law_same : FnScope ["_law_one", "_law_other", "_law_first", "_law_later"] ["_law_one", "_law_other"] (defScope s_law_same) := ⟨rfl, rfl, rfl, by decide +kernel, rfl, by decide +kernel, by decide +kernel⟩
abbrev s_law_sign : Stmt := top 55
theorem sc_law_sign : FnScope ["_law_byte", "_law_signs"] ["_law_byte"] (defScope s_law_sign) := ⟨rfl, rfl, rfl, by decide +kernel, rfl, by decide +kernel, by decide +kernel⟩
abbrev s_law_read_whole : Stmt := top 56
theorem sc_law_read_whole : FnScope ["_law_row", "_law_at", "_law_behind", "_law_found", "_law_byte"] ["_law_row", "_law_at"] (defScope s_law_read_whole) := ⟨rfl, rfl, rfl, by decide +kernel, rfl, by decide +kernel, by decide +kernel⟩
abbrev s_law_read : Stmt := top 57
theorem sc_law_read : FnScope ["_law_row", "_law_at", "_law_left", "_law_sort", "_law_number_here", "_law_here", "_law_found", "_law_part"] ["_law_row", "_law_at", "_law_left"] (defScope s_law_read) := ⟨rfl, rfl, rfl, by decide +kernel, rfl, by decide +kernel, by decide +kernel⟩
abbrev s_law_read_string : Stmt := top 58
theorem sc_law_read_string : FnScope ["_law_row", "_law_begin", "_law_many", "_law_here", "_law_at", "_law_byte"] ["_law_row", "_law_begin", "_law_many", "_law_here"] (defScope s_law_read_string) := ⟨rfl, rfl, rfl, by decide +kernel, rfl, by decide +kernel, by decide +kernel⟩
abbrev s_law_told : Stmt := top 59
theorem sc_law_told : FnScope ["_law_row", "_law_found", "_law_here"] ["_law_row"] (defScope s_law_told) := ⟨rfl, rfl, rfl, by decide +kernel, rfl, by decide +kernel, by decide +kernel⟩
abbrev s_law_mark : Stmt := top 60
theorem sc_law_mark : FnScope ["_law_row", "_law_found", "_law_byte"] ["_law_row"] (defScope s_law_mark) := ⟨rfl, rfl, rfl, by decide +kernel, rfl, by decide +kernel, by decide +kernel⟩
abbrev s_law_sealed : Stmt := top 61
theorem sc_law_sealed : FnScope ["_law_row", "_law_left", "_law_worth"] ["_law_row"] (defScope s_law_sealed) := ⟨rfl, rfl, rfl, by decide +kernel, rfl, by decide +kernel, by decide +kernel⟩
abbrev s_law_opened : Stmt := top 62
theorem sc_law_opened : FnScope ["_law_row", "_law_found"] ["_law_row"] (defScope s_law_opened) := ⟨rfl, rfl, rfl, by decide +kernel, rfl, by decide +kernel, by decide +kernel⟩
abbrev s_law_kept : Stmt := top 63
theorem sc_law_kept : FnScope ["_law_blocks", "_law_found", "_law_row", "_law_told_here"] ["_law_blocks"] (defScope s_law_kept) := ⟨rfl, rfl, rfl, by decide +kernel, rfl, by decide +kernel, by decide +kernel⟩
abbrev s_law_block : Stmt := top 64
theorem sc_law_block : FnScope ["_law_pool_here", "_law_kind", "_law_row", "_law_at"] ["_law_pool_here"] (defScope s_law_block) := ⟨rfl, rfl, rfl, by decide +kernel, rfl, by decide +kernel, by decide +kernel⟩
abbrev s_law_led : Stmt := top 65
theorem sc_law_led : FnScope ["_law_pool_here", "_law_disk", "_law_blocks", "_law_synced", "_law_many", "_law_turn", "_law_kind", "_law_row", "_law_kept_here", "_law_number_here", "_law_length"] ["_law_pool_here", "_law_disk", "_law_blocks", "_law_synced", "_law_many"] (defScope s_law_led) := ⟨rfl, rfl, rfl, by decide +kernel, rfl, by decide +kernel, by decide +kernel⟩
abbrev s_law_parcels_right : Stmt := top 66
theorem sc_law_parcels_right : FnScope ["_law_blocks", "_law_due", "_law_told_here"] ["_law_blocks"] (defScope s_law_parcels_right) := ⟨rfl, rfl, rfl, by decide +kernel, rfl, by decide +kernel, by decide +kernel⟩
abbrev s_law : Stmt := top 67
theorem sc_law : FnScope ["_law_script", "_law_pool_here", "_law_turn", "_law_disk", "_law_blocks", "_law_synced", "_law_apart", "_law_others"] ["_law_script"] (defScope s_law) := ⟨rfl, rfl, rfl, by decide +kernel, rfl, by decide +kernel, by decide +kernel⟩
structure Bk (K : PySem.W.Frag) (mg : Str → Option Value) (T : Tx K mg) where
  NoNumber_init : Dm K T.c_NoNumber "__init__" "NoNumber.__init__" s_NoNumber_init ["self"]
  NoRow_init : Dm K T.c_NoRow "__init__" "NoRow.__init__" s_NoRow_init ["self"]
  BadRow_init : Dm K T.c_BadRow "__init__" "BadRow.__init__" s_BadRow_init ["self", "place"]
  NoCut_init : Dm K T.c_NoCut "__init__" "NoCut.__init__" s_NoCut_init ["self"]
  NoBlocks_init : Dm K T.c_NoBlocks "__init__" "NoBlocks.__init__" s_NoBlocks_init ["self"]
  is_int : Df K mg "is_int" s_is_int ["thing"]
  is_number : Df K mg "is_number" s_is_number ["thing"]
  is_number_below : Df K mg "is_number_below" s_is_number_below ["limit", "thing"]
  is_tuple_of : Df K mg "is_tuple_of" s_is_tuple_of ["many", "thing"]
  is_byte : Df K mg "is_byte" s_is_byte ["thing"]
  is_row : Df K mg "is_row" s_is_row ["thing"]
  check_row : Df K mg "check_row" s_check_row ["row"]
  is_sign : Df K mg "_is_sign" s_is_sign ["number"]
  parcel_of : Df K mg "parcel_of" s_parcel_of ["row"]
  check_there : Df K mg "_check_there" s_check_there ["row", "place"]
  parcel_at : Df K mg "_parcel_at" s_parcel_at ["row", "place", "deep"]
  whole_at : Df K mg "_whole_at" s_whole_at ["row", "place"]
  string_at : Df K mg "_string_at" s_string_at ["row", "place", "many"]
  tuple_at : Df K mg "_tuple_at" s_tuple_at ["row", "place", "many", "deep"]
  mark_of : Df K mg "_mark_of" s_mark_of ["row"]
  seal_ : Df K mg "_seal" s_seal_ ["row"]
  unsealed : Df K mg "unsealed" s_unsealed ["row"]
  Disk_init : Dm K T.c_Disk "__init__" "Disk.__init__" s_Disk_init ["self"]
  Disk_write : Dm K T.c_Disk "write" "Disk.write" s_Disk_write ["self", "row"]
  Disk_sync : Dm K T.c_Disk "sync" "Disk.sync" s_Disk_sync ["self"]
  Disk_blocks : Dm K T.c_Disk "blocks" "Disk.blocks" s_Disk_blocks ["self"]
  Disk_synced : Dm K T.c_Disk "synced" "Disk.synced" s_Disk_synced ["self"]
  Disk_cut : Dm K T.c_Disk "cut" "Disk.cut" s_Disk_cut ["self", "kept"]
  Disk_drop : Dm K T.c_Disk "drop" "Disk.drop" s_Disk_drop ["self", "number"]
  Disk_copy : Dm K T.c_Disk "copy" "Disk.copy" s_Disk_copy ["self"]
  is_cut : Df K mg "_is_cut" s_is_cut ["waiting", "thing"]
  kept_parcels : Df K mg "kept_parcels" s_kept_parcels ["blocks"]
  law_pool : Df K mg "_law_pool" s_law_pool ["_law_script"]
  law_draw : Df K mg "_law_draw" s_law_draw ["_law_pool_here", "_law_many"]
  law_is : Df K mg "_law_is" s_law_is ["_law_told_here", "_law_due"]
  law_whole : Df K mg "_law_whole" s_law_whole ["_law_number_here"]
  law_bytes : Df K mg "_law_bytes" s_law_bytes ["_law_parcel_here"]
  law_number : Df K mg "_law_number" s_law_number ["_law_pool_here"]
  law_parcel : Df K mg "_law_parcel" s_law_parcel ["_law_pool_here", "_law_deep"]
  law_same : Df K mg "_law_same" s_law_same ["_law_one", "_law_other"]
  law_sign : Df K mg "_law_sign" s_law_sign ["_law_byte"]
  law_read_whole : Df K mg "_law_read_whole" s_law_read_whole ["_law_row", "_law_at"]
  law_read : Df K mg "_law_read" s_law_read ["_law_row", "_law_at", "_law_left"]
  law_read_string : Df K mg "_law_read_string" s_law_read_string ["_law_row", "_law_begin", "_law_many", "_law_here"]
  law_told : Df K mg "_law_told" s_law_told ["_law_row"]
  law_mark : Df K mg "_law_mark" s_law_mark ["_law_row"]
  law_sealed : Df K mg "_law_sealed" s_law_sealed ["_law_row"]
  law_opened : Df K mg "_law_opened" s_law_opened ["_law_row"]
  law_kept : Df K mg "_law_kept" s_law_kept ["_law_blocks"]
  law_block : Df K mg "_law_block" s_law_block ["_law_pool_here"]
  law_led : Df K mg "_law_led" s_law_led ["_law_pool_here", "_law_disk", "_law_blocks", "_law_synced", "_law_many"]
  law_parcels_right : Df K mg "_law_parcels_right" s_law_parcels_right ["_law_blocks"]
  law : Df K mg "law" s_law ["_law_script"]
theorem mk_of_Disk {K : PySem.W.Frag} {mg : Str → Option Value} (T : Tx K mg) {q : Str} {st : Stmt} {ps : List Str} (D : Dm K T.c_Disk "__init__" q st ps) : Mk K T.c_Disk D.f := ⟨T.mk_Disk.1, D.a, D.i, T.mk_Disk.2⟩
end Mw

/-! R2m -/
/-! Rows: the mathematics. -/
namespace Mw
open PySem L2
def wh (n : Nat) : List Int := if n < 128 then [(n : Int)] else ((n % 128 + 128 : Nat) : Int) :: wh (n / 128)
termination_by n
decreasing_by omega
theorem wh_lt {n : Nat} (h : n < 128) : wh n = [(n : Int)] := by
  rw [wh, if_pos h]
theorem wh_ge {n : Nat} (h : ¬ n < 128) : wh n = ((n % 128 + 128 : Nat) : Int) :: wh (n / 128) := by
  rw [wh, if_neg h]
theorem wh_pos (n : Nat) : 1 ≤ (wh n).length := by
  by_cases h : n < 128
  · rw [wh_lt h]
    exact Nat.le_refl _
  · rw [wh_ge h, List.length_cons]
    omega
def sgn (s : Str) : List Int := s.cps.toList.map fun c : Nat => (c : Int)
mutual
def byD : PyData → List Int
  | .none => [0]
  | .bool b => [if b then 2 else 1]
  | .int i => if 0 ≤ i then 3 :: wh i.toNat else 4 :: wh (-1 - i).toNat
  | .str s => 5 :: (wh s.length ++ sgn s)
  | .tuple ds => 6 :: (wh ds.length ++ byAll ds)
  | _ => []
def byAll : List PyData → List Int
  | [] => []
  | d :: ds => byD d ++ byAll ds
end
theorem byAll_app : ∀ a b : List PyData, byAll (a ++ b) = byAll a ++ byAll b
  | [], b => rfl
  | d :: a, b => by
    show byD d ++ byAll (a ++ b) = (byD d ++ byAll a) ++ byAll b
    rw [byAll_app a b, List.append_assoc]
theorem byAll_one (d : PyData) : byAll [d] = byD d := by
  show byD d ++ [] = byD d
  rw [List.append_nil]
theorem byAll_get : ∀ {ds : List PyData} {i : Nat} {d : PyData}, ds[i]? = some d → (byD d).length ≤ (byAll ds).length
  | [], i, d, e => by simp at e
  | c :: ds, 0, d, e => by
    cases e
    show _ ≤ (byD c ++ byAll ds).length
    rw [List.length_append]
    omega
  | c :: ds, i + 1, d, e => by
    have := byAll_get (ds := ds) (i := i) (d := d) (by simpa using e)
    show _ ≤ (byD c ++ byAll ds).length
    rw [List.length_append]
    omega
theorem byAll_take : ∀ (ds : List PyData) (i : Nat), (byAll (ds.take i)).length ≤ (byAll ds).length
  | [], i => by simp
  | c :: ds, 0 => by simp [byAll]
  | c :: ds, i + 1 => by
    have := byAll_take ds i
    show (byD c ++ byAll (ds.take i)).length ≤ (byD c ++ byAll ds).length
    rw [List.length_append, List.length_append]
    omega
end Mw

/-! R2 -/
namespace Mw
open PySem L2
/-- a judge of one thing that changes nothing -/
def spJ (CP : Addr → Prop) (g : PyData → Bool) : Sp := fun vs H Q _ => ∃ M d x, vs = [x] ∧ Dt CP M H d x ∧ Q (.bl (g d)) H
/-- a judge of an integer and a thing -/
def spJ2 (CP : Addr → Prop) (g : Int → PyData → Bool) : Sp := fun vs H Q _ => ∃ M i d x, vs = [.int i, x] ∧ Dt CP M H d x ∧ Q (.bl (g i d)) H
/-- an own error with a place is raised: it stands at a new place, all else as it was -/
def Raised (C : Addr) (part : V) (H : Hp) (E : XK) : Prop := ∀ e H', H e = none → Same H H' → H' e = some (.xd [(("place" : Str), part)]) → E (.ref C) (some e) H'
theorem Raised.of {C : Addr} {part : V} {H H1 : Hp} {E : XK} (h : Raised C part H E) (s : Same H H1) : Raised C part H1 E := fun e H' n s' r => h e H' (s.free n) (s.trans s') r
def spBadInit (C : Addr) : Sp := fun vs H Q _ => ∃ a v, vs = [.ref a, v] ∧ H a = some (exo a C none) ∧ ∀ dx, H dx = none → dx ≠ a → Q .non (upd (upd H dx (exd dx [(("place" : Str), v)])) a (exo a C (some dx)))
def spPass : Sp := fun vs H Q _ => ∃ a, vs = [.ref a] ∧ Q .non H
theorem bad_made {C : Addr} {H : Hp} {part : V} {Q : XK} (h : Raised C part H Q) : [part].length ≤ 1000 ∧ ∀ a, H a = none → spBadInit C (.ref a :: ([part] ++ [])) (upd H a (exo a C none))
    (fun v H2 => v = .non ∧ ∃ (d : Addr) (fs : List (Str × V)), H2 a = some (exo a C (some d)) ∧ H2 d = some (exd d fs) ∧ H d = none ∧ Q (.ref C) (some d) (upd (del H2 a) d (.xd fs))) (fun _ _ _ => False) := by
  refine ⟨Nat.le_of_ble_eq_true rfl, fun a ha => ⟨a, part, rfl, upd_same, fun dx hdx ne => ⟨rfl, dx, [(("place" : Str), part)], upd_same, ?_, ?_, ?_⟩⟩⟩
  · rw [upd_ne ne, upd_same]
  · rw [upd_ne ne] at hdx
    exact hdx
  · have hd0 : H dx = none := by
      rw [upd_ne ne] at hdx
      exact hdx
    refine h dx _ hd0 (fun b o hb => ?_) upd_same
    have n1 : b ≠ dx := ne_of_none hb hd0
    have n2 : b ≠ a := ne_of_none hb ha
    rw [upd_ne n1, del_ne n2, upd_ne n2, upd_ne n1, upd_ne n2]
    exact hb
def isNum : PyData → Bool | .int i => decide (0 ≤ i) | _ => false
def isNb (l : Int) : PyData → Bool | .int i => decide (0 ≤ i) && decide (i < l) | _ => false
def isByte : PyData → Bool := isNb 256
/-- the bytes of a number, in a new list -/
def spWhole : Sp := fun vs H Q _ => ∃ n : Nat, vs = [.int (n : Int)] ∧ (wh n).length ≤ 900000 ∧ ∀ p H', Same H H' → H p = none → H' p = some (.lst ((wh n).map V.int)) → Q (.ref p) H'
section
variable {P : Program} {w : World} {K : PySem.W.Frag} {mg : Str → Option Value} {base : Heap}
local macro_rules | `(tactic| walk_at "rd") => `(tactic| (repeat (first
  | ((with_reducible refine' rd_var ?h0 ?_); (case h0 => rfl))
  | with_reducible refine rd_c ?_
  | with_reducible refine rd_op ?_
  | with_reducible refine rd_nil ?_
  | with_reducible refine rd_cons ?_
  | with_reducible refine rd_tup ?_
  | with_reducible refine rd_lst ?_
  | with_reducible refine rd_ifs ?_
  | with_reducible refine rd_seq ?_
  | with_reducible refine rd_next ?_
  | with_reducible refine rd_ret ?_
  | with_reducible refine rd_asg ?_
  | ((with_reducible refine' rd_gset ?hs ?_); (case hs => ((simp only [L2.start, List.map_cons, List.map_nil, List.length_cons, List.length_nil, List.cons_append, List.nil_append, List.set_cons_zero, List.set_cons_succ, Nat.reduceAdd, Nat.reduceSub, Nat.zero_add, List.reduceReplicate]); rfl)))
  | with_reducible refine rd_drop ?_
  | with_reducible refine rd_test ?_
  | with_reducible refine rd_B ?_
  | with_reducible refine rd_bl ?_
  | with_reducible refine rd_blP ?_
  | with_reducible refine rd_andV ?_
  | with_reducible refine rd_orV ?_
  | with_reducible refine rd_notV ?_
  | with_reducible refine rd_and ?_
  | with_reducible refine rd_or ?_
  | with_reducible refine rd_not ?_
  | with_reducible refine rd_chain ?_
  | with_reducible refine rd_dput ?_
  | with_reducible refine rd_dget ?_
  | with_reducible refine rd_cb ?_
  | with_reducible refine rd_call ?_
  | with_reducible refine rd_un ?_
  | with_reducible refine rd_sl ?_
  | with_reducible refine rd_nopart ?_
  | with_reducible refine rd_part ?_
  | with_reducible refine rd_intP ?_
  | with_reducible refine rd_rU ?_
  | with_reducible refine rd_fld ?_
  | with_reducible refine rd_eqI ?_
  | with_reducible refine rd_neI ?_
  | with_reducible refine rd_mko ?_
  | with_reducible refine rd_bm ?_
  | with_reducible refine rd_gsub ?_
  | with_reducible refine rd_i0 ?_)))
theorem ok_is_int (T : Tx K mg) (B : Bk K mg T) : FnOk P w K mg base CX0 1 B.is_int.f B.is_int.fd ["thing"] (spJ T.CP isInt) := by
  refine B.is_int.F.ok sc_is_int (fun vs H Q E h => ?_) (fun cdv A outer s H vs Q E hr h => ?_)
  · obtain ⟨p, d, x, rfl, _⟩ := h
    rfl
  · obtain ⟨p, d, x, rfl, hd, q⟩ := h
    refine ⟨_, (pss_one (ps_ret (pe_and (pe_callB call_isi (by rfl) T.b_isinstance (by decide +kernel) (pa_cons (pv 0) (pa_cons (pe_bltn (v := .ty "int") (by rfl) T.b_int (by decide +kernel) rfl) pa_nil))) (pe_one (pe_not (pe_callB call_isi (by rfl) T.b_isinstance (by decide +kernel) (pa_cons (pv 0) (pa_cons (pe_bltn (v := .ty "bool") (by rfl) T.b_bool (by decide +kernel) rfl) pa_nil)))))))), ?_⟩
    walk_at "rd"
    refine dt_isI T.W hd ?_
    walk_at "rd"
    refine rd_ite (fun h1 => ?_) (fun h0 => ?_)
    · walk_at "rd"
      refine dt_isB T.W hd ?_
      walk_at "rd"
      have e : isInt d = !isB d := by cases d <;> simp_all [isI, isB, isInt]
      rw [e] at q
      exact q
    · have e : isInt d = false := by cases d <;> simp_all [isI, isB, isInt]
      rw [e] at q
      exact q
theorem ok_is_number (T : Tx K mg) (B : Bk K mg T) : FnOk P w K mg base CX0 2 B.is_number.f B.is_number.fd ["thing"] (spJ T.CP isNum) := by
  have G_is_int := ok_is_int (P := P) (w := w) (base := base) T B
  refine B.is_number.F.ok sc_is_number (fun vs H Q E h => ?_) (fun cdv A outer s H vs Q E hr h => ?_)
  · obtain ⟨p, d, x, rfl, _⟩ := h
    rfl
  · obtain ⟨p, d, x, rfl, hd, q⟩ := h
    refine ⟨_, (pss_one (ps_ret (pe_and (pe_call G_is_int (hr.mono (by decide)) rfl B.is_int.m B.is_int.F.kp B.is_int.b .nil pass0 (pa_cons (pv 0) pa_nil)) (pe_one (pe_cmpR op_ge (pv 0) pe_int (nomark _)))))), ?_⟩
    walk_at "rd"
    refine ⟨p, d, x, rfl, hd, ?_⟩
    walk_at "rd"
    refine rd_ite (fun h1 => ?_) (fun h0 => ?_)
    · cases d with
      | int i =>
        cases dt_int' hd
        walk_at "rd"
        exact q
      | _ => cases h1
    · have e : isNum d = false := by cases d <;> simp_all [isNum, isInt]
      rw [e] at q
      exact q
theorem ok_is_number_below (T : Tx K mg) (B : Bk K mg T) : FnOk P w K mg base CX0 3 B.is_number_below.f B.is_number_below.fd ["limit", "thing"] (spJ2 T.CP isNb) := by
  have G_is_number := ok_is_number (P := P) (w := w) (base := base) T B
  refine B.is_number_below.F.ok sc_is_number_below (fun vs H Q E h => ?_) (fun cdv A outer s H vs Q E hr h => ?_)
  · obtain ⟨p, i, d, x, rfl, _⟩ := h
    rfl
  · obtain ⟨p, i, d, x, rfl, hd, q⟩ := h
    refine ⟨_, (pss_one (ps_ret (pe_and (pe_call G_is_number (hr.mono (by decide)) rfl B.is_number.m B.is_number.F.kp B.is_number.b .nil pass0 (pa_cons (pv 1) pa_nil)) (pe_one (pe_cmpR op_lt (pv 1) (pv 0) (nomark _)))))), ?_⟩
    walk_at "rd"
    refine ⟨p, d, x, rfl, hd, ?_⟩
    walk_at "rd"
    refine rd_ite (fun h1 => ?_) (fun h0 => ?_)
    · cases d with
      | int j =>
        cases dt_int' hd
        walk_at "rd"
        have e : isNb i (.int j) = decide (j < i) := by simp_all [isNb, isNum]
        rw [e] at q
        exact q
      | _ => cases h1
    · have e : isNb i d = false := by
        cases d <;> simp_all [isNum, isNb]
        omega
      rw [e] at q
      exact q
theorem ok_is_byte (T : Tx K mg) (B : Bk K mg T) : FnOk P w K mg base CX0 4 B.is_byte.f B.is_byte.fd ["thing"] (spJ T.CP isByte) := by
  have G_is_number_below := ok_is_number_below (P := P) (w := w) (base := base) T B
  refine B.is_byte.F.ok sc_is_byte (fun vs H Q E h => ?_) (fun cdv A outer s H vs Q E hr h => ?_)
  · obtain ⟨p, d, x, rfl, _⟩ := h
    rfl
  · obtain ⟨p, d, x, rfl, hd, q⟩ := h
    refine ⟨_, (pss_one (ps_ret (pe_call G_is_number_below (hr.mono (by decide)) rfl B.is_number_below.m B.is_number_below.F.kp B.is_number_below.b .nil pass0 (pa_cons (pe_glob (v := .int 256) (by rfl) T.g_BYTE_LIMIT ⟨_, rfl⟩) (pa_cons (pv 0) pa_nil))))), ?_⟩
    walk_at "rd"
    exact ⟨p, _, d, x, rfl, hd, q⟩
theorem ok_bad_init (T : Tx K mg) (B : Bk K mg T) : FnOk P w K mg base CX0 1 B.BadRow_init.f B.BadRow_init.fd ["self", "place"] (spBadInit T.c_BadRow) := by
  refine B.BadRow_init.F.ok sc_BadRow_init (fun vs H Q E h => ?_) (fun cdv A outer s H vs Q E hr h => ?_)
  · obtain ⟨a, v, rfl, _⟩ := h
    rfl
  · obtain ⟨a, v, rfl, ha, q⟩ := h
    refine ⟨_, (pss_one (ps_ost (pv 0) (pv 1))), ?_⟩
    exact ⟨v, rfl, .ref a, rfl, a, T.c_BadRow, rfl, T.x_BadRow, T.na_place, .inl ⟨ha, q⟩⟩
theorem ok_row_init (T : Tx K mg) (B : Bk K mg T) : FnOk P w K mg base CX0 1 B.NoRow_init.f B.NoRow_init.fd ["self"] spPass := by
  refine B.NoRow_init.F.ok sc_NoRow_init (fun vs H Q E h => ?_) (fun cdv A outer s H vs Q E hr h => ?_)
  · obtain ⟨a, rfl, _⟩ := h
    rfl
  · obtain ⟨a, rfl, q⟩ := h
    exact ⟨_, (pss_one ps_pass), q⟩
theorem ok_law_whole (T : Tx K mg) (B : Bk K mg T) : FnOk P w K mg base CX0 1 B.law_whole.f B.law_whole.fd ["_law_number_here"] spWhole := by
  refine B.law_whole.F.ok sc_law_whole (fun vs H Q E h => ?_) (fun cdv A outer s H vs Q E hr h => ?_)
  · obtain ⟨n, rfl, _⟩ := h
    rfl
  · obtain ⟨n, rfl, hn, q⟩ := h
    refine ⟨_, (pss_cons (ps_set (i := 1) sc_law_whole.nd rfl (Or.inl rfl) (pe_lst pa_nil))
      (pss_cons (ps_while PassesOwn.never (pt_cmpR op_gt (pv 0) pe_int (nomark _)) (pss_cons (ps_expr (pe_bm PySem.F.plainAttrs_list PySem.F.slot_list_append PySem.F.type_list_append mt_append (pv 1) (pa_cons (pe_op op_add (pe_op op_mod (pv 0) pe_int) pe_int) pa_nil)))
      (pss_one (ps_set (i := 0) sc_law_whole.nd rfl (Or.inl rfl) (pe_op op_fdiv (pv 0) pe_int)))))
      (pss_one (ps_ret (pe_op op_cat (pv 1) (pe_lst (pa_cons (pv 0) pa_nil))))))), ?_⟩
    walk_at "rd"
    refine rd_disp rfl fun l nl => ?_
    walk_at "rd"
    refine ⟨fun μ σ H1 => ∃ (m : Nat) (pre : List Int), σ = [some (.int (m : Int)), some (.ref l)] ∧ Same H H1 ∧ H1 l = some (.lst (pre.map V.int)) ∧ pre ++ wh m = wh n ∧ μ = m,
      ⟨n, n, [], rfl, same_new nl, upd_same, rfl, rfl⟩, ?_⟩
    rintro μ σ H1 ⟨m, pre, rfl, hs, hl, hw, hμ⟩
    have hlen : pre.length + (wh m).length ≤ 900000 := by
      rw [← hw, List.length_append] at hn
      exact hn
    have hp := wh_pos m
    have s2 : ∀ o, Same H (upd H1 l o) := fun o b u e => (upd_ne (ne_of_none e nl)).trans (hs b u e)
    walk_at "rd"
    refine rd_ite (fun h1 => ?_) (fun h1 => ?_)
    · have hm : ¬ m < 128 := by
        have := of_decide_eq_true h1
        omega
      refine ⟨fun σ' H' => ∃ m', m' < μ ∧ ∃ (m : Nat) (pre : List Int), σ' = [some (.int (m : Int)), some (.ref l)] ∧ Same H H' ∧ H' l = some (.lst (pre.map V.int)) ∧ pre ++ wh m = wh n ∧ m' = m, fun _ _ h => h, ?_⟩
      walk_at "rd"
      refine ⟨.inl ⟨rfl, _, SqL.of hl⟩, ?_⟩
      walk_at "rd"
      refine rd_iC (show (0 : Int) < 128 by decide) ?_
      walk_at "rd"
      refine rd_append hl (small' (by rw [List.length_map]; omega)) ?_
      walk_at "rd"
      refine rd_iC (show (0 : Int) < 128 ∧ (128 : Int) < 1073741824 by decide) ?_
      walk_at "rd"
      refine ⟨m / 128, by omega, m / 128, pre ++ [((m % 128 + 128 : Nat) : Int)], by simp, s2 _, ?_, ?_, rfl⟩
      · rw [upd_same, List.map_append]
        simp
      · rw [List.append_assoc, ← hw, wh_ge hm]
        rfl
    · have hm : m < 128 := by
        have := of_decide_eq_false h1
        omega
      walk_at "rd"
      refine rd_disp rfl fun l2 nl2 => ?_
      have n12 : l ≠ l2 := ne_of_none hl nl2
      walk_at "rd"
      refine ⟨l, l2, _, _, rfl, rfl, (upd_ne n12).trans hl, upd_same, small (by rw [List.length_map]; simp; omega), fun l3 nl3 => ?_⟩
      walk_at "rd"
      have s3 := hs.trans (same_new (o := .lst [V.int (m : Int)]) nl2)
      refine q l3 _ (s3.trans (same_new nl3)) (s3.free nl3) ?_
      rw [upd_same, ← hw, wh_lt hm, List.map_append]
      rfl
end
end Mw

/-! R3 -/
namespace Mw
open PySem L2
/-- the bytes of a thing that is plain, not deeper than told -/
def spTold (CP : Addr → Prop) (n : Nat) : Sp := fun vs H Q _ => ∃ M d x, vs = [x] ∧ Dt CP M H d x ∧ plainD d = true ∧ d.depth < n ∧ (byD d).length ≤ 900000 ∧ ∀ p H', Same H H' → H p = none → H' p = some (.lst ((byD d).map V.int)) → Q (.ref p) H'
theorem ord_one (c : Nat) : (((⟨#[c]⟩ : Str).cps.getD 0 0 : Nat) : Int) = (c : Int) := rfl
section
variable {P : Program} {w : World} {K : PySem.W.Frag} {mg : Str → Option Value} {base : Heap}
local macro_rules | `(tactic| walk_at "rd") => `(tactic| (repeat (first
  | ((with_reducible refine' rd_var ?h0 ?_); (case h0 => rfl))
  | with_reducible refine rd_c ?_
  | with_reducible refine rd_op ?_
  | with_reducible refine rd_nil ?_
  | with_reducible refine rd_cons ?_
  | with_reducible refine rd_tup ?_
  | with_reducible refine rd_lst ?_
  | with_reducible refine rd_ifs ?_
  | with_reducible refine rd_seq ?_
  | with_reducible refine rd_next ?_
  | with_reducible refine rd_ret ?_
  | with_reducible refine rd_asg ?_
  | ((with_reducible refine' rd_gset ?hs ?_); (case hs => ((simp only [L2.start, List.map_cons, List.map_nil, List.length_cons, List.length_nil, List.cons_append, List.nil_append, List.set_cons_zero, List.set_cons_succ, Nat.reduceAdd, Nat.reduceSub, Nat.zero_add, List.reduceReplicate]); rfl)))
  | with_reducible refine rd_drop ?_
  | with_reducible refine rd_test ?_
  | with_reducible refine rd_B ?_
  | with_reducible refine rd_bl ?_
  | with_reducible refine rd_blP ?_
  | with_reducible refine rd_andV ?_
  | with_reducible refine rd_orV ?_
  | with_reducible refine rd_notV ?_
  | with_reducible refine rd_and ?_
  | with_reducible refine rd_or ?_
  | with_reducible refine rd_not ?_
  | with_reducible refine rd_chain ?_
  | with_reducible refine rd_dput ?_
  | with_reducible refine rd_dget ?_
  | with_reducible refine rd_cb ?_
  | with_reducible refine rd_call ?_
  | with_reducible refine rd_un ?_
  | with_reducible refine rd_sl ?_
  | with_reducible refine rd_nopart ?_
  | with_reducible refine rd_part ?_
  | with_reducible refine rd_intP ?_
  | with_reducible refine rd_rU ?_
  | with_reducible refine rd_fld ?_
  | with_reducible refine rd_eqI ?_
  | with_reducible refine rd_neI ?_
  | with_reducible refine rd_mko ?_
  | with_reducible refine rd_bm ?_
  | with_reducible refine rd_gsub ?_
  | with_reducible refine rd_i0 ?_)))
theorem law_bytes_step (T : Tx K mg) (B : Bk K mg T) {n k : Nat} (hk : 1 ≤ k) (G_law_bytes : FnOk P w K mg base CX0 k B.law_bytes.f B.law_bytes.fd ["_law_parcel_here"] (spTold T.CP n)) :
    FnOk P w K mg base CX0 (k + 1) B.law_bytes.f B.law_bytes.fd ["_law_parcel_here"] (spTold T.CP (n + 1)) := by
  have G_law_whole := ok_law_whole (P := P) (w := w) (base := base) T B
  refine B.law_bytes.F.ok sc_law_bytes (fun vs H Q E h => ?_) (fun cdv A outer s H vs Q E hr h => ?_)
  · obtain ⟨M, d, x, rfl, _⟩ := h
    rfl
  · obtain ⟨M, d, x, rfl, hd, hp, hdep, hsz, q⟩ := h
    refine ⟨_, (pss_cons (ps_if (pt_cmpR op_isN (pv 0) pe_non (nomark _)) (pss_one (ps_ret (pe_lst (pa_cons pe_int pa_nil)))) pss_nil)
      (pss_cons (ps_if (pt_val (pe_callB call_isi (by rfl) T.b_isinstance (by decide +kernel) (pa_cons (pv 0) (pa_cons (pe_bltn (v := .ty "bool") (by rfl) T.b_bool (by decide +kernel) rfl) pa_nil)))) (pss_one (ps_ret (pe_lst (pa_cons (pe_op op_add pe_int (pe_callTy call_int1 (by rfl) T.b_int (by decide +kernel) (pa_cons (pv 0) pa_nil))) pa_nil)))) pss_nil)
      (pss_cons (ps_if (pt_val (pe_callB call_isi (by rfl) T.b_isinstance (by decide +kernel) (pa_cons (pv 0) (pa_cons (pe_bltn (v := .ty "int") (by rfl) T.b_int (by decide +kernel) rfl) pa_nil)))) (pss_one (ps_ret (pe_ifExp (pt_cmpR op_ge (pv 0) pe_int (nomark _)) (pe_op op_cat (pe_lst (pa_cons pe_int pa_nil)) (pe_call G_law_whole (hr.mono (by omega)) rfl B.law_whole.m B.law_whole.F.kp B.law_whole.b .nil pass0 (pa_cons (pv 0) pa_nil))) (pe_op op_cat (pe_lst (pa_cons pe_int pa_nil)) (pe_call G_law_whole (hr.mono (by omega)) rfl B.law_whole.m B.law_whole.F.kp B.law_whole.b .nil pass0 (pa_cons (pe_op op_sub (pe_op op_sub pe_int pe_int) (pv 0)) pa_nil)))))) pss_nil)
      (pss_cons (ps_if (pt_val (pe_callB call_isi (by rfl) T.b_isinstance (by decide +kernel) (pa_cons (pv 0) (pa_cons (pe_bltn (v := .ty "str") (by rfl) T.b_str (by decide +kernel) rfl) pa_nil)))) (pss_one (ps_ret (pe_op op_cat (pe_op op_cat (pe_lst (pa_cons pe_int pa_nil)) (pe_call G_law_whole (hr.mono (by omega)) rfl B.law_whole.m B.law_whole.F.kp B.law_whole.b .nil pass0 (pa_cons (pe_callB call_len (by rfl) T.b_len (by decide +kernel) (pa_cons (pv 0) pa_nil)) pa_nil))) (pe_lc (own := [("_law_sign_here", 3)]) (g := gName 3) rfl sc_law_bytes.nd (pi_str (pv 0)) (blkOk_by (own := [("_law_sign_here", 3)]) (N := ["_law_parcel_here", "_law_found", "_law_part", "_law_sign_here"]) (sc := defScope s_law_bytes) (by decide +kernel)) (fun _ _ _ _ _ => pg_name (i := 3) sc_law_bytes.nd rfl (Or.inl rfl)) (fun _ _ _ _ _ => pts_nil) (fun _ _ _ _ _ => (pe_callB call_ord (by rfl) T.b_ord (by decide +kernel) (pa_cons (pv 3) pa_nil))))))) pss_nil)
      (pss_cons (ps_set (i := 1) sc_law_bytes.nd rfl (Or.inl rfl) (pe_op op_cat (pe_lst (pa_cons pe_int pa_nil)) (pe_call G_law_whole (hr.mono (by omega)) rfl B.law_whole.m B.law_whole.F.kp B.law_whole.b .nil pass0 (pa_cons (pe_callB call_len (by rfl) T.b_len (by decide +kernel) (pa_cons (pv 0) pa_nil)) pa_nil))))
      (pss_cons (ps_for PassesOwn.never rfl (pi_tup (pv 0)) (pg_name (i := 2) sc_law_bytes.nd rfl (Or.inl rfl)) (pss_one (ps_expr (pe_bm PySem.F.plainAttrs_list PySem.F.slot_list_extend PySem.F.type_list_extend mt_extend (pv 1) (pa_cons (pe_call G_law_bytes (hr.mono (by omega)) rfl B.law_bytes.m B.law_bytes.F.kp B.law_bytes.b .nil pass0 (pa_cons (pv 2) pa_nil)) pa_nil)))))
      (pss_one (ps_ret (pv 1))))))))), ?_⟩
    have hd' := hd
    cases d with
    | none =>
      cases dt_non' hd'
      walk_at "rd"
      refine ⟨rfl, ?_⟩
      walk_at "rd"
      refine rd_yes rfl ?_
      walk_at "rd"
      refine rd_disp rfl fun l nl => ?_
      exact q l _ (same_new nl) nl upd_same
    | bool b =>
      cases dt_bl' hd'
      walk_at "rd"
      refine ⟨rfl, ?_⟩
      walk_at "rd"
      refine rd_no rfl ?_
      walk_at "rd"
      refine dt_isB T.W hd ?_
      walk_at "rd"
      refine rd_yes rfl ?_
      walk_at "rd"
      refine .inr ⟨_, rfl, ?_⟩
      walk_at "rd"
      refine rd_disp rfl fun l nl => ?_
      cases b with
      | true => exact q l _ (same_new nl) nl upd_same
      | false => exact q l _ (same_new nl) nl upd_same
    | int i =>
      cases dt_int' hd'
      walk_at "rd"
      refine ⟨rfl, ?_⟩
      walk_at "rd"
      refine rd_no rfl ?_
      walk_at "rd"
      refine dt_isB T.W hd ?_
      walk_at "rd"
      refine rd_no rfl ?_
      walk_at "rd"
      refine dt_isI T.W hd ?_
      walk_at "rd"
      refine rd_yes rfl ?_
      walk_at "rd"
      refine rd_ifx ?_
      walk_at "rd"
      refine rd_ite (fun h1 => ?_) (fun h1 => ?_)
      · have hi : 0 ≤ i := of_decide_eq_true h1
        have e : byD (.int i) = 3 :: wh i.toNat := if_pos hi
        rw [e] at q hsz
        rw [List.length_cons] at hsz
        walk_at "rd"
        refine rd_disp rfl fun l nl => ?_
        have s1 := same_new (o := .lst [.int 3]) nl
        walk_at "rd"
        refine ⟨i.toNat, by rw [Int.toNat_of_nonneg hi]; rfl, by omega, fun p H1 s2 np hp1 => ?_⟩
        refine ⟨l, p, _, _, rfl, rfl, s2 _ _ upd_same, hp1, small (by simp; omega), fun l2 n2 => ?_⟩
        have s3 := s1.trans s2
        exact q l2 _ (s3.trans (same_new n2)) (s3.free n2) upd_same
      · have hi : ¬ 0 ≤ i := of_decide_eq_false h1
        have e : byD (.int i) = 4 :: wh (-1 - i).toNat := if_neg hi
        rw [e] at q hsz
        rw [List.length_cons] at hsz
        walk_at "rd"
        refine rd_disp rfl fun l nl => ?_
        have s1 := same_new (o := .lst [.int 4]) nl
        walk_at "rd"
        refine ⟨(-1 - i).toNat, by rw [Int.toNat_of_nonneg (by omega)]; rfl, by omega, fun p H1 s2 np hp1 => ?_⟩
        refine ⟨l, p, _, _, rfl, rfl, s2 _ _ upd_same, hp1, small (by simp; omega), fun l2 n2 => ?_⟩
        have s3 := s1.trans s2
        exact q l2 _ (s3.trans (same_new n2)) (s3.free n2) upd_same
    | str z =>
      cases dt_str' hd'
      have e : byD (.str z) = 5 :: (wh z.length ++ sgn z) := rfl
      rw [e] at q hsz
      have esg : (sgn z).length = z.length := by
        unfold sgn
        rw [List.length_map, Array.length_toList]
        rfl
      rw [List.length_cons, List.length_append, esg] at hsz
      walk_at "rd"
      refine ⟨rfl, ?_⟩
      walk_at "rd"
      refine rd_no rfl ?_
      walk_at "rd"
      refine dt_isB T.W hd ?_
      walk_at "rd"
      refine rd_no rfl ?_
      walk_at "rd"
      refine dt_isI T.W hd ?_
      walk_at "rd"
      refine rd_no rfl ?_
      walk_at "rd"
      refine dt_isS T.W hd ?_
      walk_at "rd"
      refine rd_yes rfl ?_
      walk_at "rd"
      refine rd_disp rfl fun l nl => ?_
      have s1 := same_new (o := .lst [.int 5]) nl
      walk_at "rd"
      refine ⟨_, z.length, rfl, ⟨small (by omega), rfl⟩, ?_⟩
      walk_at "rd"
      refine ⟨z.length, rfl, by omega, fun p H1 s2 np hp1 => ?_⟩
      refine ⟨l, p, _, _, rfl, rfl, s2 _ _ upd_same, hp1, small (by simp; omega), fun l2 n2 => ?_⟩
      have s3 := (s1.trans s2).trans (same_new (o := .lst ([V.int 5] ++ (wh z.length).map V.int)) n2)
      walk_at "rd"
      show iStr _ _ _ _
      refine rd_istr ?_
      walk_at "rd"
      refine ⟨z, rfl, fun D hD => lc_it walk_str (fun i H2 => Same H H2 ∧ H2 l2 = some (.lst ([V.int 5] ++ (wh z.length).map V.int)) ∧ H2 D = some (.lst (((sgn z).take i).map V.int)))
        ⟨s3.trans (same_new hD), (upd_ne (ne_of_none upd_same hD)).trans upd_same, upd_same⟩ (fun _ _ _ _ => trivial) ?_ ?_⟩
      · rintro i y H2 H3 hi ⟨hs, hl2, hacc⟩ ⟨rfl, c, hc, rfl⟩
        refine ⟨rfl, ?_⟩
        refine rd_tyes ?_
        refine rd_yes rfl ?_
        walk_at "rd"
        refine ⟨_, rfl, rfl, ?_⟩
        have nD : H D = none := s3.free hD
        have hz : (sgn z)[i]? = some (c : Int) := by
          unfold sgn
          rw [List.getElem?_map, Array.getElem?_toList, hc]
          rfl
        refine ⟨_, hacc, small' (by rw [List.length_map, List.length_take]; omega), fun b o eb => (upd_ne (ne_of_none eb nD)).trans (hs b o eb), ?_, ?_⟩
        · rw [upd_ne (ne_of_none upd_same hD)]
          exact hl2
        · rw [upd_same, take_snoc hz, List.map_append]
          rfl
      · rintro H2 ⟨hs, hl2, hacc⟩
        rw [List.take_of_length_le (by rw [esg]; exact Nat.le_refl _)] at hacc
        walk_at "rd"
        refine ⟨l2, D, _, _, rfl, rfl, hl2, hacc, small (by simp; omega), fun l3 n3 => ?_⟩
        walk_at "rd"
        refine q l3 _ (hs.trans (same_new n3)) (hs.free n3) ?_
        rw [upd_same, List.map_cons, List.map_append]
        simp
    | tuple ds =>
      obtain ⟨a, xs, rfl, ha, hx⟩ := dt_tup' hd'
      have hlx := hx.len
      have e : byD (.tuple ds) = 6 :: (wh ds.length ++ byAll ds) := rfl
      rw [e] at q hsz
      rw [List.length_cons, List.length_append] at hsz
      have hdep2 : PyData.depthAll ds + 1 < n + 1 := hdep
      walk_at "rd"
      refine ⟨rfl, ?_⟩
      walk_at "rd"
      refine rd_no rfl ?_
      walk_at "rd"
      refine dt_isB T.W hd ?_
      walk_at "rd"
      refine rd_no rfl ?_
      walk_at "rd"
      refine dt_isI T.W hd ?_
      walk_at "rd"
      refine rd_no rfl ?_
      walk_at "rd"
      refine dt_isS T.W hd ?_
      walk_at "rd"
      refine rd_no rfl ?_
      walk_at "rd"
      refine rd_disp rfl fun l nl => ?_
      have s1 := same_new (o := .lst [.int 6]) nl
      walk_at "rd"
      refine ⟨_, xs.length, rfl, .inr ⟨xs, SqT.of (s1 _ _ ha), rfl⟩, ?_⟩
      walk_at "rd"
      refine ⟨xs.length, rfl, by rw [← hlx]; omega, fun p H1 s2 np hp1 => ?_⟩
      refine ⟨l, p, _, _, rfl, rfl, s2 _ _ upd_same, hp1, small (by rw [← hlx]; simp; omega), fun l2 n2 => ?_⟩
      have s12 := s1.trans s2
      have nl2 : H l2 = none := s12.free n2
      have s3 := s12.trans (same_new (o := .lst ([V.int 6] ++ (wh xs.length).map V.int)) n2)
      walk_at "rd"
      refine ⟨_, rfl, a, rfl, ⟨xs, SqT.of (s3 _ _ ha)⟩, for_tup (K := K) (a := a) (xs := xs) (fun i σ H2 => Same H H2 ∧ H2 l2 = some (.lst ((6 :: (wh ds.length ++ byAll (ds.take i))).map V.int)) ∧ ∃ u, σ = [some (.ref a), some (.ref l2), u, none])
        ⟨s3, by rw [upd_same, ← hlx]; simp [byAll], none, rfl⟩ (fun i σ H2 _ hh => SqT.of (hh.1 _ _ ha)) ?_ ?_⟩
      · rintro i y σ H2 hi ⟨hs, hl2, u, rfl⟩
        obtain ⟨d1, hd1, td1⟩ := hx.get' hi
        have dep := depthAll_get hd1
        have sz1 := byAll_get hd1
        have sz2 : (byAll (ds.take (i + 1))).length ≤ (byAll ds).length := byAll_take ds (i + 1)
        have ebt : byAll (ds.take (i + 1)) = byAll (ds.take i) ++ byD d1 := by
          rw [take_snoc hd1, byAll_app, byAll_one]
        rw [ebt, List.length_append] at sz2
        walk_at "rd"
        refine ⟨.inl ⟨rfl, _, SqL.of hl2⟩, ?_⟩
        walk_at "rd"
        refine ⟨M, d1, y, rfl, td1.s hs, plainAll_get hp hd1, by omega, by omega, fun p2 H3 s4 np2 hp2 => ?_⟩
        walk_at "rd"
        refine ⟨l2, p2, _, _, rfl, rfl, s4 _ _ hl2, hp2, small (by simp; omega), ?_⟩
        refine ⟨fun b o eb => (upd_ne (ne_of_none eb nl2)).trans (s4 _ _ (hs b o eb)), ?_, _, rfl⟩
        rw [upd_same, ebt]
        simp
      · rintro σ H2 ⟨hs, hl2, u, rfl⟩
        rw [← hlx, List.take_length] at hl2
        walk_at "rd"
        exact q l2 _ hs nl2 hl2
    | list es => simp only [plainD] at hp; cases hp
    | dict es => simp only [plainD] at hp; cases hp
theorem ok_law_bytes_n (T : Tx K mg) (B : Bk K mg T) : ∀ n, FnOk P w K mg base CX0 (n + 2) B.law_bytes.f B.law_bytes.fd ["_law_parcel_here"] (spTold T.CP n)
  | 0 => fn_no fun vs H Q E h => by
    obtain ⟨M, d, x, _, _, _, hd, _⟩ := h
    omega
  | n + 1 => law_bytes_step T B (by omega) (ok_law_bytes_n T B n)
end
end Mw

/-! R4m -/
/-! What a parcel is; how long its bytes are. -/
namespace Mw
open PySem L2
def isSign (c : Int) : Bool := (decide (32 ≤ c) && decide (c ≤ 126)) && !decide (c = 37)
def okStr (s : Str) : Bool := (decide (0 < s.length) && decide (s.length ≤ 20)) && (sgn s).all isSign
mutual
def isPc : Nat → PyData → Bool
  | n, .tuple ds => decide (0 < n) && isPcAll (n - 1) ds
  | _, .str s => okStr s
  | _, .none | _, .bool _ | _, .int _ => true
  | _, .list _ | _, .dict _ => false
def isPcAll : Nat → List PyData → Bool
  | _, [] => true
  | n, d :: ds => isPc n d && isPcAll n ds
end
theorem isPcAll_iff {n : Nat} : ∀ {ds : List PyData}, isPcAll n ds = true ↔ ∀ d ∈ ds, isPc n d = true
  | [] => by simp [isPcAll]
  | d :: ds => by
    simp only [isPcAll, Bool.and_eq_true, List.mem_cons, forall_eq_or_imp, isPcAll_iff (ds := ds)]
mutual
theorem isPc_mono : ∀ {n m : Nat} (d : PyData), n ≤ m → isPc n d = true → isPc m d = true
  | n, m, .none, _, _ => rfl
  | n, m, .bool _, _, _ => rfl
  | n, m, .int _, _, _ => rfl
  | n, m, .str s, _, h => h
  | n, m, .list _, _, h => h
  | n, m, .dict _, _, h => h
  | n, m, .tuple ds, l, h => by
    simp only [isPc, Bool.and_eq_true, decide_eq_true_eq] at h ⊢
    exact ⟨by omega, isPcAll_mono ds (by omega) h.2⟩
theorem isPcAll_mono : ∀ {n m : Nat} (ds : List PyData), n ≤ m → isPcAll n ds = true → isPcAll m ds = true
  | n, m, [], _, _ => rfl
  | n, m, d :: ds, l, h => by
    simp only [isPcAll, Bool.and_eq_true] at h ⊢
    exact ⟨isPc_mono d l h.1, isPcAll_mono ds l h.2⟩
end
mutual
theorem isPc_plain : ∀ {n : Nat} (d : PyData), isPc n d = true → plainD d = true
  | n, .none, _ => rfl
  | n, .bool _, _ => rfl
  | n, .int _, _ => rfl
  | n, .str s, h => rfl
  | n, .list _, h => by simp [isPc] at h
  | n, .dict _, h => by simp [isPc] at h
  | n, .tuple ds, h => by
    simp only [isPc, Bool.and_eq_true, decide_eq_true_eq] at h
    simp only [plainD]
    exact isPcAll_plain ds h.2
theorem isPcAll_plain : ∀ {n : Nat} (ds : List PyData), isPcAll n ds = true → plainAll ds = true
  | n, [], _ => rfl
  | n, d :: ds, h => by
    simp only [isPcAll, plainAll, Bool.and_eq_true] at h ⊢
    exact ⟨isPc_plain d h.1, isPcAll_plain ds h.2⟩
end
mutual
theorem isPc_depth : ∀ {n : Nat} (d : PyData), isPc n d = true → d.depth ≤ n
  | n, .none, _ => Nat.zero_le _
  | n, .bool _, _ => Nat.zero_le _
  | n, .int _, _ => Nat.zero_le _
  | n, .str s, h => Nat.zero_le _
  | n, .list _, h => by simp [isPc] at h
  | n, .dict _, h => by simp [isPc] at h
  | n, .tuple ds, h => by
    simp only [isPc, Bool.and_eq_true, decide_eq_true_eq] at h
    show PyData.depthAll ds + 1 ≤ n
    have := isPcAll_depth ds h.2
    omega
theorem isPcAll_depth : ∀ {n : Nat} (ds : List PyData), isPcAll n ds = true → PyData.depthAll ds ≤ n
  | n, [], _ => Nat.zero_le _
  | n, d :: ds, h => by
    simp only [isPcAll, Bool.and_eq_true] at h
    exact Nat.max_le.mpr ⟨isPc_depth d h.1, isPcAll_depth ds h.2⟩
end
theorem okStr_lay {s : Str} (h : okStr s = true) : (PyData.str s).canLay0 = true := by
  unfold okStr at h
  simp only [Bool.and_eq_true, decide_eq_true_eq] at h
  have h2 : ∀ c ∈ s.cps.toList, isSign (c : Int) = true := fun c hc => List.all_eq_true.mp h.2 _ (List.mem_map.mpr ⟨c, hc, rfl⟩)
  show s.cps.all (· < 0x110000) = true
  rw [Array.all_eq_true']
  intro c hc
  have h3 := h2 c (by simpa using hc)
  unfold isSign at h3
  simp only [Bool.and_eq_true, decide_eq_true_eq] at h3
  exact decide_eq_true (by omega)
mutual
theorem isPc_lay : ∀ {n : Nat} (d : PyData), isPc n d = true → d.canLay0 = true
  | n, .none, _ => rfl
  | n, .bool _, _ => rfl
  | n, .int _, _ => rfl
  | n, .str s, h => okStr_lay h
  | n, .list _, h => by simp [isPc] at h
  | n, .dict _, h => by simp [isPc] at h
  | n, .tuple ds, h => by
    simp only [isPc, Bool.and_eq_true, decide_eq_true_eq] at h
    simp only [PyData.canLay0]
    exact isPcAll_lay ds h.2
theorem isPcAll_lay : ∀ {n : Nat} (ds : List PyData), isPcAll n ds = true → PyData.canLayAll0 ds = true
  | n, [], _ => rfl
  | n, d :: ds, h => by
    simp only [isPcAll, PyData.canLayAll0, Bool.and_eq_true] at h ⊢
    exact ⟨isPc_lay d h.1, isPcAll_lay ds h.2⟩
end
theorem wh_len : ∀ (k n : Nat), n < 128 ^ (k + 1) → (wh n).length ≤ k + 1
  | 0, n, h => by
    rw [wh_lt (by simpa using h)]
    exact Nat.le_refl _
  | k + 1, n, h => by
    by_cases c : n < 128
    · rw [wh_lt c]
      simp
    · rw [wh_ge c, List.length_cons]
      have : n / 128 < 128 ^ (k + 1) := by
        rw [Nat.div_lt_iff_lt_mul (by decide)]
        rw [Nat.pow_succ] at h
        exact h
      have := wh_len k (n / 128) this
      omega
theorem byAll_le {b : Nat} : ∀ {ds : List PyData}, (∀ d ∈ ds, (byD d).length ≤ b) → (byAll ds).length ≤ ds.length * b
  | [], _ => Nat.zero_le _
  | d :: ds, h => by
    have h1 := h d (by simp)
    have h2 := byAll_le fun e he => h e (List.mem_cons_of_mem _ he)
    show (byD d ++ byAll ds).length ≤ (ds.length + 1) * b
    rw [List.length_append, Nat.add_mul]
    omega
def bB : Nat → Nat
  | 0 => 22
  | n + 1 => 4 * bB n + 910
theorem bB_ge (n : Nat) : 22 ≤ bB n := by
  cases n with
  | zero => exact Nat.le_refl _
  | succ n =>
    show 22 ≤ 4 * bB n + 910
    omega
theorem by_int {i : Int} (h : i.natAbs < 10 ^ 20 + 1) : (byD (.int i)).length ≤ 11 := by
  have e : (128 : Nat) ^ 10 = 1180591620717411303424 := by decide
  show (if 0 ≤ i then (3 : Int) :: wh i.toNat else 4 :: wh (-1 - i).toNat).length ≤ 11
  by_cases c : 0 ≤ i
  · rw [if_pos c, List.length_cons]
    have := wh_len 9 i.toNat (by rw [e]; omega)
    omega
  · rw [if_neg c, List.length_cons]
    have := wh_len 9 (-1 - i).toNat (by rw [e]; omega)
    omega
theorem by_small {i : Int} (h0 : 0 ≤ i) (h : i < 300) : (byD (.int i)).length ≤ 3 := by
  have e : (128 : Nat) ^ 2 = 16384 := by decide
  show (if 0 ≤ i then (3 : Int) :: wh i.toNat else 4 :: wh (-1 - i).toNat).length ≤ 3
  rw [if_pos h0, List.length_cons]
  have := wh_len 1 i.toNat (by rw [e]; omega)
  omega
theorem sgn_len (s : Str) : (sgn s).length = s.length := by
  unfold sgn
  rw [List.length_map, Array.length_toList]
  rfl
theorem by_str {s : Str} (h : okStr s = true) : (byD (.str s)).length ≤ 22 := by
  unfold okStr at h
  simp only [Bool.and_eq_true, decide_eq_true_eq] at h
  show ((5 : Int) :: (wh s.length ++ sgn s)).length ≤ 22
  rw [List.length_cons, List.length_append, sgn_len, wh_lt (by omega)]
  simp
  omega
theorem by_tup {ds : List PyData} {b k : Nat} (h : ∀ d ∈ ds, (byD d).length ≤ b) (hl : ds.length ≤ k) (hk : k < 16384) : (byD (.tuple ds)).length ≤ k * b + 3 := by
  have e : (128 : Nat) ^ 2 = 16384 := by decide
  have h1 := byAll_le h
  have h2 := wh_len 1 ds.length (by rw [e]; omega)
  have h3 := Nat.mul_le_mul_right b hl
  show ((6 : Int) :: (wh ds.length ++ byAll ds)).length ≤ k * b + 3
  rw [List.length_cons, List.length_append]
  omega
end Mw

/-! R4 -/
namespace Mw
open PySem L2
/-- the pool: a list at p, its cells at l -/
def PoolAt (H : Hp) (p l : Addr) : Prop := ∃ (s c : Int) (cs : List Int), H p = some (.lst [.int s, .int c, .ref l]) ∧ H l = some (.lst (cs.map V.int)) ∧ l ≠ p
theorem PoolAt.same {H H' : Hp} {p l : Addr} (h : PoolAt H p l) (s : Same H H') : PoolAt H' p l := by
  obtain ⟨a, b, c, h1, h2, r⟩ := h
  exact ⟨a, b, c, s _ _ h1, s _ _ h2, r⟩
theorem PoolAt.new {H : Hp} {p l q : Addr} {o : HO} (h : PoolAt H p l) (n : H q = none) : PoolAt (upd H q o) p l := h.same (same_new n)
theorem PoolAt.p {H : Hp} {p l : Addr} (h : PoolAt H p l) : ∃ us, H p = some (.lst us) := by
  obtain ⟨a, b, c, h1, h2, r⟩ := h
  exact ⟨_, h1⟩
theorem PoolAt.l {H : Hp} {p l : Addr} (h : PoolAt H p l) : ∃ us, H l = some (.lst us) := by
  obtain ⟨a, b, c, h1, h2, r⟩ := h
  exact ⟨_, h2⟩
theorem PoolAt.out {H : Hp} {p l q : Addr} (h : PoolAt H p l) (n : H q = none) : q ∉ [p, l] := by
  obtain ⟨us, h1⟩ := h.p
  obtain ⟨ws, h2⟩ := h.l
  have n1 := ne_of_none h1 n
  have n2 := ne_of_none h2 n
  simp [n1.symm, n2.symm]
/-- an object of ours that is no part of the pool changes -/
theorem PoolAt.upd {H : Hp} {p l q : Addr} {o : HO} (h : PoolAt H p l) (n : q ∉ [p, l]) : PoolAt (upd H q o) p l := by
  obtain ⟨a, b, c, h1, h2, r⟩ := h
  simp at n
  exact ⟨a, b, c, (upd_ne (fun z => n.1 z.symm)).trans h1, (upd_ne (fun z => n.2 z.symm)).trans h2, r⟩
def spPool (K : PySem.W.Frag) : Sp := fun vs H Q _ => ∃ (a : Addr) (ns : List Int), vs = [.ref a] ∧ SqL K H a (ns.map V.int) ∧ ∀ p l H', H p = none → H l = none → PoolAt H' p l → Same H H' → Q (.ref p) H'
def spDraw : Sp := fun vs H Q _ => ∃ (p l : Addr) (m : Int), vs = [.ref p, .int m] ∧ 1 ≤ m ∧ m < 1073741824 ∧ PoolAt H p l ∧ ∀ r H', 0 ≤ r → r < m → PoolAt H' p l → FK [p, l] H H' → Q (.int r) H'
theorem cut_int (ns : List Int) (lo hi : Option Int) : ∃ ms : List Int, cutV (ns.map V.int) lo hi = ms.map V.int ∧ ms.length ≤ ns.length := by
  refine ⟨(ns.drop (HT.sIx ns.length 0 lo)).take (HT.sIx ns.length ns.length hi - HT.sIx ns.length 0 lo), ?_, ?_⟩
  · unfold cutV
    rw [List.length_map, List.map_take, List.map_drop]
  · rw [List.length_take, List.length_drop]
    omega
theorem cut_len63 (ns : List Int) : (cutV (ns.map V.int) none (some 63)).length ≤ 63 := by
  unfold cutV
  rw [List.length_take]
  have : HT.sIx (ns.map V.int).length (ns.map V.int).length (some 63) ≤ 63 := by
    show (if (63 : Int) < 0 then ((63 : Int) + ((ns.map V.int).length : Int)).toNat else min (63 : Int).toNat (ns.map V.int).length) ≤ 63
    rw [if_neg (by decide)]
    exact Nat.min_le_left _ _
  omega
section
variable {P : Program} {w : World} {K : PySem.W.Frag} {mg : Str → Option Value} {base : Heap}
local macro_rules | `(tactic| walk_at "rd") => `(tactic| (repeat (first
  | ((with_reducible refine' rd_var ?h0 ?_); (case h0 => rfl))
  | with_reducible refine rd_c ?_
  | with_reducible refine rd_op ?_
  | with_reducible refine rd_nil ?_
  | with_reducible refine rd_cons ?_
  | with_reducible refine rd_tup ?_
  | with_reducible refine rd_lst ?_
  | with_reducible refine rd_ifs ?_
  | with_reducible refine rd_seq ?_
  | with_reducible refine rd_next ?_
  | with_reducible refine rd_ret ?_
  | with_reducible refine rd_asg ?_
  | ((with_reducible refine' rd_gset ?hs ?_); (case hs => ((simp only [L2.start, List.map_cons, List.map_nil, List.length_cons, List.length_nil, List.cons_append, List.nil_append, List.set_cons_zero, List.set_cons_succ, Nat.reduceAdd, Nat.reduceSub, Nat.zero_add, List.reduceReplicate]); rfl)))
  | with_reducible refine rd_drop ?_
  | with_reducible refine rd_test ?_
  | with_reducible refine rd_B ?_
  | with_reducible refine rd_bl ?_
  | with_reducible refine rd_blP ?_
  | with_reducible refine rd_andV ?_
  | with_reducible refine rd_orV ?_
  | with_reducible refine rd_notV ?_
  | with_reducible refine rd_and ?_
  | with_reducible refine rd_or ?_
  | with_reducible refine rd_not ?_
  | with_reducible refine rd_chain ?_
  | with_reducible refine rd_dput ?_
  | with_reducible refine rd_dget ?_
  | with_reducible refine rd_cb ?_
  | with_reducible refine rd_call ?_
  | with_reducible refine rd_un ?_
  | with_reducible refine rd_sl ?_
  | with_reducible refine rd_nopart ?_
  | with_reducible refine rd_part ?_
  | with_reducible refine rd_intP ?_
  | with_reducible refine rd_rU ?_
  | with_reducible refine rd_fld ?_
  | with_reducible refine rd_eqI ?_
  | with_reducible refine rd_neI ?_
  | with_reducible refine rd_mko ?_
  | with_reducible refine rd_bm ?_
  | with_reducible refine rd_gsub ?_
  | with_reducible refine rd_i0 ?_)))
theorem ok_law_pool (T : Tx K mg) (B : Bk K mg T) : FnOk P w K mg base CX0 1 B.law_pool.f B.law_pool.fd ["_law_script"] (spPool K) := by
  refine B.law_pool.F.ok sc_law_pool (fun vs H Q E h => ?_) (fun cdv A outer s H vs Q E hr h => ?_)
  · obtain ⟨a, ns, rfl, _⟩ := h
    rfl
  · obtain ⟨a, ns, rfl, ha, q⟩ := h
    refine ⟨_, (pss_cons (ps_set (i := 1) sc_law_pool.nd rfl (Or.inl rfl) (pe_op op_add (pe_op op_add (pe_op op_mod (pe_callTy call_int1 (by rfl) T.b_int (by decide +kernel) (pa_cons (pe_callB (cr_sum rfl) (by rfl) T.b_sum (by decide +kernel) (pa_cons (pe_slice sl_list (pv 0) po_none (po_some pe_int)) pa_nil)) pa_nil)) pe_int) (pe_callB call_len_seq (by rfl) T.b_len (by decide +kernel) (pa_cons (pv 0) pa_nil))) pe_int))
      (pss_cons (ps_for PassesOwn.never rfl (pi_list (pe_slice sl_list (pv 0) po_none (po_some pe_int))) (pg_name (i := 2) sc_law_pool.nd rfl (Or.inl rfl)) (pss_one (ps_set (i := 1) sc_law_pool.nd rfl (Or.inl rfl) (pe_op op_mod (pe_callTy call_int1 (by rfl) T.b_int (by decide +kernel) (pa_cons (pe_op op_add (pe_op op_add (pe_op op_mul (pv 1) pe_int) (pe_op op_mod (pe_callTy call_int1 (by rfl) T.b_int (by decide +kernel) (pa_cons (pv 2) pa_nil)) pe_int)) pe_int) pa_nil)) pe_int))))
      (pss_one (ps_ret (pe_lst (pa_cons (pv 1) (pa_cons pe_int (pa_cons (pe_lc (own := [("_law_cell", 2)]) (g := gName 2) rfl sc_law_pool.nd (pi_list (pe_slice sl_list (pv 0) po_none (po_some pe_int))) (blkOk_by (own := [("_law_cell", 2)]) (N := ["_law_script", "_law_seed", "_law_cell"]) (sc := defScope s_law_pool) (by decide +kernel)) (fun _ _ _ _ _ => pg_name (i := 2) sc_law_pool.nd rfl (Or.inl rfl)) (fun _ _ _ _ _ => (pts_one (pt_cmpR op_ge (pe_callB call_abs (by rfl) T.b_abs (by decide +kernel) (pa_cons (pv 2) pa_nil)) (pe_op op_pow pe_int pe_int) (nomark _)))) (fun _ _ _ _ _ => (pe_callB call_abs (by rfl) T.b_abs (by decide +kernel) (pa_cons (pv 2) pa_nil)))) pa_nil)))))))), ?_⟩
    walk_at "rd"
    refine ⟨a, _, rfl, ha, fun b nb => ?_⟩
    obtain ⟨ms, em, hms⟩ := cut_int ns none (some 1)
    rw [em]
    have s1 := same_new (o := .lst (ms.map V.int)) nb
    refine ⟨b, ms, rfl, SqL.of upd_same, ?_⟩
    refine .inl ⟨_, rfl, ?_⟩
    walk_at "rd"
    refine rd_iC (show (0 : Int) < 1000003 by decide) ?_
    walk_at "rd"
    refine ⟨a, _, rfl, .inl (Same.seq s1 ha), ?_⟩
    walk_at "rd"
    show iList _ _ _ _ _
    refine rd_ilist ?_
    walk_at "rd"
    refine ⟨a, _, rfl, Same.seq s1 ha, fun c nc => ?_⟩
    obtain ⟨cs, ec, hcs⟩ := cut_int ns none (some 63)
    have l63 := cut_len63 ns
    rw [ec] at l63 ⊢
    rw [List.length_map] at l63
    have s2 := s1.trans (same_new (o := .lst (cs.map V.int)) nc)
    refine ⟨c, rfl, ⟨_, SqL.of upd_same⟩, for_list (K := K) (a := c) (xs := cs.map V.int) (fun i σ H1 => Same H H1 ∧ H1 c = some (.lst (cs.map V.int)) ∧ ∃ (z : Int) (u : Option V), σ = [some (.ref a), some (.int z), u])
      ⟨s2, upd_same, _, _, rfl⟩ (fun i σ H1 _ hh => SqL.of hh.2.1) ?_ ?_⟩
    · rintro i y σ H1 hi ⟨hs, hc, z, u, rfl⟩
      obtain ⟨m, _, rfl⟩ := mapint_get hi
      walk_at "rd"
      refine rd_iC (.inr ⟨by decide, by decide⟩) ?_
      walk_at "rd"
      refine .inl ⟨_, rfl, ?_⟩
      walk_at "rd"
      refine rd_iC (show (0 : Int) < 2147483629 by decide) ?_
      walk_at "rd"
      refine .inl ⟨_, rfl, ?_⟩
      walk_at "rd"
      refine rd_iC (show (0 : Int) < 2147483647 by decide) ?_
      exact ⟨hs, hc, _, _, rfl⟩
    · rintro σ H1 ⟨hs, hc, z, u, rfl⟩
      walk_at "rd"
      show iList _ _ _ _ _
      refine rd_ilist ?_
      walk_at "rd"
      refine ⟨a, _, rfl, Same.seq hs ha, fun d nd => ?_⟩
      rw [ec]
      have s3 := hs.trans (same_new (o := .lst (cs.map V.int)) nd)
      refine ⟨d, rfl, ⟨_, SqL.of upd_same⟩, fun D hD => lc_list (K := K) (a := d) (xs := cs.map V.int) (fun i H2 => Same H H2 ∧ H2 d = some (.lst (cs.map V.int)) ∧ ∃ fs : List Int, fs.length ≤ i ∧ H2 D = some (.lst (fs.map V.int)))
        ⟨s3.trans (same_new hD), (upd_ne (ne_of_none upd_same hD)).trans upd_same, [], Nat.le_refl _, upd_same⟩ (fun i H2 _ hh => SqL.of hh.2.1) ?_ ?_⟩
      · rintro i y H2 hi ⟨hs2, hd2, fs, hf, hacc⟩
        obtain ⟨m, hm, rfl⟩ := mapint_get hi
        have il := (List.getElem?_eq_some_iff.mp hm).1
        refine ⟨rfl, ?_⟩
        walk_at "rd"
        refine ⟨_, rfl, ?_⟩
        walk_at "rd"
        refine rd_iC ⟨by decide, by decide, by decide⟩ ?_
        walk_at "rd"
        refine rd_ite (fun h1 => ?_) (fun h1 => ?_)
        · walk_at "rd"
          refine ⟨_, rfl, ?_⟩
          have nD : H D = none := s3.free hD
          have el : (fs ++ [if m < 0 then -m else m]).length ≤ i + 1 := by
            rw [List.length_append, List.length_singleton]
            omega
          have hd3 : H2 D ≠ some (.lst (cs.map V.int)) ∨ d ≠ D := .inr (ne_of_none (upd_same (H := H1) (a := d) (o := .lst (cs.map V.int))) hD)
          refine ⟨_, hacc, small' (by rw [List.length_map]; omega), ?_, (upd_ne (ne_of_none (upd_same (H := H1) (a := d) (o := .lst (cs.map V.int))) hD)).trans hd2, _, el, ?_⟩
          · exact fun b o eb => (upd_ne (ne_of_none eb nD)).trans (hs2 b o eb)
          · rw [upd_same, List.map_append]
            rfl
        · exact ⟨hs2, hd2, fs, by omega, hacc⟩
      · rintro H2 ⟨hs2, hd2, fs, hf, hacc⟩
        walk_at "rd"
        refine rd_disp rfl fun p np => ?_
        refine q p D _ (hs2.free np) (s3.free hD) ⟨_, _, fs, upd_same, (upd_ne (ne_of_none hacc np)).trans hacc, ne_of_none hacc np⟩ (hs2.trans (same_new np))
theorem ok_law_draw (T : Tx K mg) (B : Bk K mg T) : FnOk P w K mg base CX0 1 B.law_draw.f B.law_draw.fd ["_law_pool_here", "_law_many"] spDraw := by
  refine B.law_draw.F.ok sc_law_draw (fun vs H Q E h => ?_) (fun cdv A outer s H vs Q E hr h => ?_)
  · obtain ⟨p, l, m, rfl, _⟩ := h
    rfl
  · obtain ⟨p, l, m, rfl, m1, m2, ⟨s, c, cs, hp, hl, hlp⟩, q⟩ := h
    refine ⟨_, (pss_cons (ps_asg (pe_op op_add (pe_ix ix_list (pv 0) pe_int (fun _ _ => rfl)) pe_int) (pg_sub (pv 0) pe_int set_list))
      (pss_cons (ps_set (i := 2) sc_law_draw.nd rfl (Or.inl rfl) (pe_ix ix_list (pv 0) pe_int (fun _ _ => rfl)))
      (C8.pss_cut (ps_if (pt_cmpR op_gt (pe_callB call_len_seq (by rfl) T.b_len (by decide +kernel) (pa_cons (pv 2) pa_nil)) pe_int (nomark _)) (pss_cons (ps_set (i := 3) sc_law_draw.nd rfl (Or.inl rfl) (pe_op op_modN (pe_callTy call_int1 (by rfl) T.b_int (by decide +kernel) (pa_cons (pe_ix ix_list (pv 2) pe_int (fun _ _ => rfl)) pa_nil)) (pv 1)))
      (pss_cons (ps_asg (pe_op op_fdivN (pe_callTy call_int1 (by rfl) T.b_int (by decide +kernel) (pa_cons (pe_ix ix_list (pv 2) pe_int (fun _ _ => rfl)) pa_nil)) (pv 1)) (pg_sub (pv 2) pe_int set_list))
      (pss_cons (ps_if (pt_cmpR op_eq (pe_ix ix_list (pv 2) pe_int (fun _ _ => rfl)) pe_int (nomark _)) (pss_one (ps_expr (pe_bm PySem.F.plainAttrs_list PySem.F.slot_list_pop PySem.F.type_list_pop mt_popAt (pv 2) (pa_cons pe_int pa_nil)))) pss_nil)
      (pss_one (ps_ret (pv 3)))))) pss_nil)
      (pss_cons (ps_set (i := 4) sc_law_draw.nd rfl (Or.inl rfl) (pe_op op_mod (pe_callTy call_int1 (by rfl) T.b_int (by decide +kernel) (pa_cons (pe_op op_mul (pe_op op_add (pe_ix ix_list (pv 0) pe_int (fun _ _ => rfl)) (pe_op op_mul pe_int (pe_ix ix_list (pv 0) pe_int (fun _ _ => rfl)))) pe_int) pa_nil)) pe_int))
      (pss_cons (ps_set (i := 4) sc_law_draw.nd rfl (Or.inl rfl) (pe_op op_mod (pe_callTy call_int1 (by rfl) T.b_int (by decide +kernel) (pa_cons (pe_op op_mul (pv 4) (pe_op op_add (pe_op op_fdiv (pv 4) pe_int) pe_int)) pa_nil)) pe_int))
      (pss_cons (ps_set (i := 4) sc_law_draw.nd rfl (Or.inl rfl) (pe_op op_mod (pe_callTy call_int1 (by rfl) T.b_int (by decide +kernel) (pa_cons (pe_op op_mul (pv 4) (pe_op op_add (pe_op op_fdiv (pv 4) pe_int) pe_int)) pa_nil)) pe_int))
      (pss_one (ps_ret (pe_op op_modN (pe_callTy call_int1 (by rfl) T.b_int (by decide +kernel) (pa_cons (pe_op op_fdiv (pv 4) pe_int) pa_nil)) (pv 1)))))))))), ?_⟩
    walk_at "rd"
    refine rd_ixL hp rfl ?_
    walk_at "rd"
    refine rd_setL hp rfl ?_
    have l1 : (upd H p (.lst [.int s, .int (c + 1), .ref l])) l = some (.lst (cs.map V.int)) := (upd_ne hlp).trans hl
    have k1 : FK [p, l] H (upd H p (.lst [.int s, .int (c + 1), .ref l])) := FK.mutL (by simp) hp
    walk_at "rd"
    refine rd_ixL upd_same rfl ?_
    walk_at "rd"
    refine ⟨fun σ2 H2 => σ2 = [some (.ref p), some (.int m), some (.ref l), none, none] ∧ H2 = upd H p (.lst [.int s, .int (c + 1), .ref l]), ?_, ?_⟩
    · walk_at "rd"
      refine ⟨l, _, rfl, .inl (SqL.of l1), ?_⟩
      walk_at "rd"
      refine rd_ite (fun h1 => ?_) (fun h1 => ?_)
      · obtain ⟨x, r, rfl⟩ : ∃ x r, cs = x :: r := by
          cases cs with
          | nil => cases h1
          | cons x r => exact ⟨x, r, rfl⟩
        walk_at "rd"
        refine rd_ixL l1 at0m ?_
        refine .inl ⟨_, rfl, ?_⟩
        walk_at "rd"
        refine rd_iC (show m ≠ 0 by omega) ?_
        walk_at "rd"
        refine rd_ixL l1 at0m ?_
        refine .inl ⟨_, rfl, ?_⟩
        walk_at "rd"
        refine rd_iC (show m ≠ 0 ∧ m.natAbs < 1073741824 by omega) ?_
        walk_at "rd"
        refine rd_setL l1 ix0m ?_
        have k2 : FK [p, l] H (upd (upd H p (.lst [.int s, .int (c + 1), .ref l])) l (.lst ((.int (x.fdiv m)) :: r.map V.int))) := k1.trans (FK.mutL (by simp) l1)
        have hp2 : (upd (upd H p (.lst [.int s, .int (c + 1), .ref l])) l (.lst ((.int (x.fdiv m)) :: r.map V.int))) p = some (.lst [.int s, .int (c + 1), .ref l]) := (upd_ne hlp.symm).trans upd_same
        have b0 : 0 ≤ x.fmod m := by
          rw [Int.fmod_eq_emod_of_nonneg _ (by omega)]
          exact Int.emod_nonneg _ (by omega)
        have b1 : x.fmod m < m := by
          rw [Int.fmod_eq_emod_of_nonneg _ (by omega)]
          exact Int.emod_lt_of_pos _ (by omega)
        walk_at "rd"
        refine rd_ixL upd_same at0 ?_
        walk_at "rd"
        refine rd_ite (fun h2 => ?_) (fun h2 => ?_)
        · walk_at "rd"
          refine ⟨.inl ⟨rfl, _, SqL.of upd_same⟩, ?_⟩
          walk_at "rd"
          refine ⟨l, _, 0, 0, _, rfl, rfl, upd_same, by decide, by decide, ?_, rfl, ?_⟩
          · unfold seqIndex?
            simp
          · walk_at "rd"
            exact q _ _ b0 b1 ⟨s, c + 1, r, (upd_ne hlp.symm).trans hp2, upd_same, hlp⟩ (k2.trans (FK.mutL (by simp) upd_same))
        · walk_at "rd"
          exact q _ _ b0 b1 ⟨s, c + 1, x.fdiv m :: r, hp2, upd_same, hlp⟩ k2
      · exact ⟨rfl, rfl⟩
    · rintro σ2 H2 ⟨rfl, rfl⟩
      walk_at "rd"
      refine rd_ixL upd_same rfl ?_
      walk_at "rd"
      refine rd_ixL upd_same rfl ?_
      walk_at "rd"
      refine rd_iC (.inl ⟨by decide, by decide⟩) ?_
      walk_at "rd"
      refine rd_iC (.inr ⟨by decide, by decide⟩) ?_
      refine .inl ⟨_, rfl, ?_⟩
      walk_at "rd"
      refine rd_iC (show (0 : Int) < 2147483647 by decide) ?_
      generalize hz : (s + 7919 * (c + 1)) * 48271 % 2147483647 = z2
      have b1 : 0 ≤ z2 := hz ▸ Int.emod_nonneg _ (by decide)
      have b2 : z2 < 2147483647 := hz ▸ Int.emod_lt_of_pos _ (by decide)
      walk_at "rd"
      refine rd_iC (show (0 : Int) < 1009 ∧ (1009 : Int) < 1073741824 by decide) ?_
      walk_at "rd"
      refine rd_iC (.inl ⟨by omega, by omega⟩) ?_
      refine .inl ⟨_, rfl, ?_⟩
      walk_at "rd"
      refine rd_iC (show (0 : Int) < 2147483647 by decide) ?_
      generalize hn : z2 * (z2 / 1009 + 69621) % 2147483647 = n1
      have b3 : 0 ≤ n1 := hn ▸ Int.emod_nonneg _ (by decide)
      have b4 : n1 < 2147483647 := hn ▸ Int.emod_lt_of_pos _ (by decide)
      walk_at "rd"
      refine rd_iC (show (0 : Int) < 2003 ∧ (2003 : Int) < 1073741824 by decide) ?_
      walk_at "rd"
      refine rd_iC (.inl ⟨by omega, by omega⟩) ?_
      refine .inl ⟨_, rfl, ?_⟩
      walk_at "rd"
      refine rd_iC (show (0 : Int) < 2147483399 by decide) ?_
      walk_at "rd"
      refine rd_iC (show (0 : Int) < 16 ∧ (16 : Int) < 1073741824 by decide) ?_
      refine .inl ⟨_, rfl, ?_⟩
      walk_at "rd"
      refine rd_iC (show m ≠ 0 by omega) ?_
      refine q _ _ ?_ ?_ ⟨s, c + 1, cs, upd_same, l1, hlp⟩ k1
      · rw [Int.fmod_eq_emod_of_nonneg _ (by omega)]
        exact Int.emod_nonneg _ (by omega)
      · rw [Int.fmod_eq_emod_of_nonneg _ (by omega)]
        exact Int.emod_lt_of_pos _ (by omega)
end
end Mw

/-! R5 -/
namespace Mw
open PySem L2
def spNumber : Sp := fun vs H Q _ => ∃ (p l : Addr), vs = [.ref p] ∧ PoolAt H p l ∧ ∀ (r : Int) H', r.natAbs < 10 ^ 20 + 1 → PoolAt H' p l → FK [p, l] H H' → Q (.int r) H'
/-- a drawn parcel, nested less deep than n -/
def spParcel (CP : Addr → Prop) (n : Nat) : Sp := fun vs H Q _ => ∃ (p l : Addr) (m : Nat), m < n ∧ vs = [.ref p, .int (m : Int)] ∧ PoolAt H p l ∧ ∀ d v H', isPc m d = true → (byD d).length ≤ bB m → Dt CP [p, l] H' d v → PoolAt H' p l → FK [p, l] H H' → Q v H'
section
variable {P : Program} {w : World} {K : PySem.W.Frag} {mg : Str → Option Value} {base : Heap}
local macro_rules | `(tactic| walk_at "rd") => `(tactic| (repeat (first
  | ((with_reducible refine' rd_var ?h0 ?_); (case h0 => rfl))
  | with_reducible refine rd_c ?_
  | with_reducible refine rd_op ?_
  | with_reducible refine rd_nil ?_
  | with_reducible refine rd_cons ?_
  | with_reducible refine rd_tup ?_
  | with_reducible refine rd_lst ?_
  | with_reducible refine rd_ifs ?_
  | with_reducible refine rd_seq ?_
  | with_reducible refine rd_next ?_
  | with_reducible refine rd_ret ?_
  | with_reducible refine rd_asg ?_
  | ((with_reducible refine' rd_gset ?hs ?_); (case hs => ((simp only [L2.start, List.map_cons, List.map_nil, List.length_cons, List.length_nil, List.cons_append, List.nil_append, List.set_cons_zero, List.set_cons_succ, Nat.reduceAdd, Nat.reduceSub, Nat.zero_add, List.reduceReplicate]); rfl)))
  | with_reducible refine rd_drop ?_
  | with_reducible refine rd_test ?_
  | with_reducible refine rd_B ?_
  | with_reducible refine rd_bl ?_
  | with_reducible refine rd_blP ?_
  | with_reducible refine rd_andV ?_
  | with_reducible refine rd_orV ?_
  | with_reducible refine rd_notV ?_
  | with_reducible refine rd_and ?_
  | with_reducible refine rd_or ?_
  | with_reducible refine rd_not ?_
  | with_reducible refine rd_chain ?_
  | with_reducible refine rd_dput ?_
  | with_reducible refine rd_dget ?_
  | with_reducible refine rd_cb ?_
  | with_reducible refine rd_call ?_
  | with_reducible refine rd_un ?_
  | with_reducible refine rd_sl ?_
  | with_reducible refine rd_nopart ?_
  | with_reducible refine rd_part ?_
  | with_reducible refine rd_intP ?_
  | with_reducible refine rd_rU ?_
  | with_reducible refine rd_fld ?_
  | with_reducible refine rd_eqI ?_
  | with_reducible refine rd_neI ?_
  | with_reducible refine rd_mko ?_
  | with_reducible refine rd_bm ?_
  | with_reducible refine rd_gsub ?_
  | with_reducible refine rd_i0 ?_)))
theorem ok_law_number (T : Tx K mg) (B : Bk K mg T) : FnOk P w K mg base CX0 2 B.law_number.f B.law_number.fd ["_law_pool_here"] spNumber := by
  have G_law_draw := ok_law_draw (P := P) (w := w) (base := base) T B
  refine B.law_number.F.ok sc_law_number (fun vs H Q E h => ?_) (fun cdv A outer s H vs Q E hr h => ?_)
  · obtain ⟨p, l, rfl, _⟩ := h
    rfl
  · obtain ⟨p, l, rfl, hh, q⟩ := h
    refine ⟨_, (pss_cons (ps_set (i := 1) sc_law_number.nd rfl (Or.inl rfl) (pe_call G_law_draw (hr.mono (by decide)) rfl B.law_draw.m B.law_draw.F.kp B.law_draw.b .nil pass0 (pa_cons (pv 0) (pa_cons pe_int pa_nil))))
      (pss_cons (ps_if (pt_cmpR op_lt (pv 1) pe_int (nomark _)) (pss_cons (ps_set (i := 2) sc_law_number.nd rfl (Or.inl rfl) (pe_op op_sub (pe_op op_pow pe_int pe_int) pe_int))
      (pss_one (ps_ret (pe_ix ix_list (pe_lst (pa_cons pe_int (pa_cons pe_int (pa_cons (pe_un un_neg pe_int) (pa_cons pe_int (pa_cons pe_int (pa_cons (pe_un un_neg pe_int) (pa_cons (pe_un un_neg pe_int) (pa_cons pe_int (pa_cons pe_int (pa_cons pe_int (pa_cons (pe_un un_neg pe_int) (pa_cons (pv 2) (pa_cons (pe_un un_neg (pv 2)) pa_nil)))))))))))))) (pe_call G_law_draw (hr.mono (by decide)) rfl B.law_draw.m B.law_draw.F.kp B.law_draw.b .nil pass0 (pa_cons (pv 0) (pa_cons pe_int pa_nil))) (fun _ _ => rfl))))) pss_nil)
      (pss_cons (ps_set (i := 3) sc_law_number.nd rfl (Or.inl rfl) (pe_call G_law_draw (hr.mono (by decide)) rfl B.law_draw.m B.law_draw.F.kp B.law_draw.b .nil pass0 (pa_cons (pv 0) (pa_cons pe_int pa_nil))))
      (pss_cons (ps_for PassesOwn.never rfl (pi_range1 (by rfl) T.b_range (pa_cons (pe_call G_law_draw (hr.mono (by decide)) rfl B.law_draw.m B.law_draw.F.kp B.law_draw.b .nil pass0 (pa_cons (pv 0) (pa_cons pe_int pa_nil))) pa_nil)) (pg_name (i := 4) sc_law_number.nd rfl (Or.inl rfl)) (pss_one (ps_set (i := 3) sc_law_number.nd rfl (Or.inl rfl) (pe_op op_add (pe_op op_mul (pv 3) pe_int) (pe_call G_law_draw (hr.mono (by decide)) rfl B.law_draw.m B.law_draw.F.kp B.law_draw.b .nil pass0 (pa_cons (pv 0) (pa_cons pe_int pa_nil)))))))
      (pss_one (ps_ret (pe_ifExp (pt_cmpR op_lt (pv 1) pe_int (nomark _)) (pv 3) (pe_op op_sub pe_int (pv 3))))))))), ?_⟩
    walk_at "rd"
    refine ⟨p, l, _, rfl, by decide, by decide, hh, fun r H1 r0 r1 hh1 k1 => ?_⟩
    walk_at "rd"
    refine rd_ite (fun h1 => ?_) (fun h1 => ?_)
    · walk_at "rd"
      refine rd_iC ⟨by decide, by decide, by decide⟩ ?_
      walk_at "rd"
      refine rd_disp rfl fun a na => ?_
      have hA := hh1.out na
      walk_at "rd"
      refine ⟨p, l, _, rfl, by decide, by decide, hh1.new na, fun j H2 j0 j1 hh2 k2 => ?_⟩
      have e20 : ((10 : Int) ^ (20 : Int).toNat) = 100000000000000000000 := by decide
      have key : ∃ y : Int, ([.int 0, .int 1, .int (-1), .int 127, .int 128, .int (-128), .int (-129), .int 300, .int 16383, .int 16384, .int (-16385), .int ((10 : Int) ^ (20 : Int).toNat - 1), .int (-((10 : Int) ^ (20 : Int).toNat - 1))] : List V)[j.toNat]? = some (.int y) ∧ y.natAbs < 10 ^ 20 + 1 := by
        rw [e20]
        have hj : j.toNat < 13 := by omega
        generalize j.toNat = n at hj
        match n, hj with
        | 0, _ => exact ⟨_, rfl, by decide⟩
        | 1, _ => exact ⟨_, rfl, by decide⟩
        | 2, _ => exact ⟨_, rfl, by decide⟩
        | 3, _ => exact ⟨_, rfl, by decide⟩
        | 4, _ => exact ⟨_, rfl, by decide⟩
        | 5, _ => exact ⟨_, rfl, by decide⟩
        | 6, _ => exact ⟨_, rfl, by decide⟩
        | 7, _ => exact ⟨_, rfl, by decide⟩
        | 8, _ => exact ⟨_, rfl, by decide⟩
        | 9, _ => exact ⟨_, rfl, by decide⟩
        | 10, _ => exact ⟨_, rfl, by decide⟩
        | 11, _ => exact ⟨_, rfl, by decide⟩
        | 12, _ => exact ⟨_, rfl, by decide⟩
      obtain ⟨y, hy, hb⟩ := key
      refine rd_ixL (k2.at hA upd_same) (at_of (j := j.toNat) (by omega) hy) ?_
      walk_at "rd"
      exact q _ _ hb hh2 ((k1.trans (FK.new na)).trans k2)
    · walk_at "rd"
      refine ⟨p, l, _, rfl, by decide, by decide, hh1, fun f0 H2 f00 f01 hh2 k2 => ?_⟩
      walk_at "rd"
      show iRng1 _ _ _ _
      refine rd_rng1 ?_
      walk_at "rd"
      refine ⟨p, l, _, rfl, by decide, by decide, hh2, fun c H3 c0 c1 hh3 k3 => ?_⟩
      walk_at "rd"
      have k13 := (k1.trans k2).trans k3
      refine ⟨c, rfl, by omega, by omega, for_range (lo := 0) (n := c.toNat) (fun i σ H4 => ∃ (f : Int) (u : Option V), σ = [some (.ref p), some (.int r), none, some (.int f), u] ∧ 0 ≤ f ∧ f < 1000 ^ (i + 1) ∧ PoolAt H4 p l ∧ FK [p, l] H H4)
        ⟨f0, none, rfl, f00, by omega, hh3, k13⟩ ?_ ?_⟩
      · rintro i σ H4 hi ⟨f, u, rfl, g0, g1, hh4, k4⟩
        walk_at "rd"
        refine rd_iC (.inr ⟨by decide, by decide⟩) ?_
        walk_at "rd"
        refine ⟨p, l, _, rfl, by decide, by decide, hh4, fun e H5 e0 e1 hh5 k5 => ?_⟩
        walk_at "rd"
        refine ⟨_, _, rfl, by omega, ?_, hh5, k4.trans k5⟩
        rw [Int.pow_succ]
        omega
      · rintro σ H4 ⟨f, u, rfl, g0, g1, hh4, k4⟩
        have g2 : f < 1000 ^ 6 := by
          have hc : c.toNat < 6 := by omega
          generalize c.toNat = n at hc g1
          match n, hc with
          | 0, _ => exact Int.lt_of_lt_of_le g1 (by decide)
          | 1, _ => exact Int.lt_of_lt_of_le g1 (by decide)
          | 2, _ => exact Int.lt_of_lt_of_le g1 (by decide)
          | 3, _ => exact Int.lt_of_lt_of_le g1 (by decide)
          | 4, _ => exact Int.lt_of_lt_of_le g1 (by decide)
          | 5, _ => exact g1
        have e6 : (1000 : Int) ^ 6 = 1000000000000000000 := by decide
        walk_at "rd"
        refine rd_ifx ?_
        walk_at "rd"
        refine rd_ite (fun h2 => ?_) (fun h2 => ?_)
        · walk_at "rd"
          exact q _ _ (by omega) hh4 k4
        · walk_at "rd"
          exact q _ _ (by omega) hh4 k4
end
end Mw

/-! R5m -/
/-! Texts of signs. -/
namespace Mw
open PySem L2 TL
def strOf (cs : List Nat) : Str := ⟨cs.toArray⟩
theorem sgn_of (cs : List Nat) : sgn (strOf cs) = cs.map fun c : Nat => (c : Int) := by
  unfold sgn strOf
  simp
theorem len_of (cs : List Nat) : (strOf cs).length = cs.length := by
  show cs.toArray.size = cs.length
  simp
theorem joinL_nil : ∀ ls : List (List Nat), joinL [] ls = ls.flatten
  | [] => rfl
  | [p] => by simp [joinL]
  | p :: q :: r => by
    show p ++ ([] ++ joinL [] (q :: r)) = _
    rw [joinL_nil (q :: r)]
    simp
theorem flat_one : ∀ cs : List Nat, (cs.map fun c => [c]).flatten = cs
  | [] => rfl
  | c :: cs => by
    rw [List.map_cons, List.flatten_cons, flat_one cs]
    rfl
theorem join_one (cs : List Nat) : Txt.join "" (cs.map fun c => (⟨#[c]⟩ : Str)) = strOf cs := by
  rw [join_eq]
  have h := tl_join "" (cs.map fun c => (⟨#[c]⟩ : Str))
  rw [show tl ("" : Str) = [] from rfl, joinL_nil, List.map_map] at h
  rw [show (tl ∘ fun c => (⟨#[c]⟩ : Str)) = fun c : Nat => [c] from rfl, flat_one] at h
  have e := mk_tl (Str.join "" (cs.map fun c => (⟨#[c]⟩ : Str)))
  rw [h] at e
  exact e.symm
theorem join_ok {cs : List Nat} (h : 2 * cs.length ≤ 1000000) : (((cs.map fun c => (⟨#[c]⟩ : Str)).map (·.length)).sum + (cs.map fun c => (⟨#[c]⟩ : Str)).length * ("" : Str).length ≤ 16777216) := by
  have e : (((cs.map fun c => (⟨#[c]⟩ : Str)).map (·.length)).sum = cs.length) := by
    clear h
    induction cs with
    | nil => rfl
    | cons c cs ih =>
      rw [List.map_cons, List.map_cons, List.sum_cons, ih, List.length_cons]
      show 1 + cs.length = cs.length + 1
      omega
  rw [e]
  show cs.length + _ * 0 ≤ _
  omega
end Mw

/-! R6 -/
namespace Mw
open PySem L2
/-- what the comprehensions of parcels gather -/
def RowI (CP : Addr → Prop) (p l : Addr) (m b : Nat) (H0 : Hp) (D : Addr) (i : Nat) (H1 : Hp) : Prop := ∃ ds vs, ds.length = i ∧ H1 D = some (.lst vs) ∧ DtAll CP [p, l] H1 ds vs ∧ (∀ d ∈ ds, isPc m d = true ∧ (byD d).length ≤ b) ∧ PoolAt H1 p l ∧ FK [p, l] H0 H1
theorem RowI.start {CP : Addr → Prop} {p l D : Addr} {m b : Nat} {H0 : Hp} (hh : PoolAt H0 p l) (hD : H0 D = none) : RowI CP p l m b H0 D 0 (upd H0 D (.lst [])) :=
  ⟨[], [], rfl, upd_same, dtAll_nil, fun d hd => absurd hd (by simp), hh.new hD, FK.new hD⟩
theorem RowI.more {CP : Addr → Prop} {p l D : Addr} {m b i : Nat} {H0 H1 H2 : Hp} (hD : H0 D = none) (hout : D ∉ [p, l]) {ds : List PyData} {vs : List V} {d : PyData} {v : V} (e : ds.length = i) (ha : H1 D = some (.lst vs)) (hds : DtAll CP [p, l] H1 ds vs) (hg : ∀ d ∈ ds, isPc m d = true ∧ (byD d).length ≤ b) (k1 : FK [p, l] H0 H1)
    (hd : Dt CP [p, l] H2 d v) (hp : isPc m d = true) (hb : (byD d).length ≤ b) (hh : PoolAt H2 p l) (k : FK [p, l] H1 H2) : RowI CP p l m b H0 D (i + 1) (upd H2 D (.lst (vs ++ [v]))) := by
  have ha2 := k.at hout ha
  have hpl : plainAll (ds ++ [d]) = true := plainAll_of fun c hc => by
    rcases List.mem_append.mp hc with h | h
    · exact isPc_plain c (hg c h).1
    · rw [show c = d by simpa using h]
      exact isPc_plain d hp
  refine ⟨ds ++ [d], vs ++ [v], by simp [e], upd_same, DtAll.plain (M := [p, l]) (KT.mut ha2 fun _ z => by cases z) _ _ hpl ((hds.k k).snoc hd), fun c hc => ?_, hh.upd hout, (k1.trans k).own hD ha2⟩
  rcases List.mem_append.mp hc with h | h
  · exact hg c h
  · rw [show c = d by simpa using h]
    exact ⟨hp, hb⟩
theorem isPc_tup {m : Nat} {ds : List PyData} (h : ∀ d ∈ ds, isPc m d = true) : isPc (m + 1) (.tuple ds) = true := by
  simp only [isPc, Bool.and_eq_true, decide_eq_true_eq]
  exact ⟨by omega, isPcAll_iff.mpr h⟩
theorem sign7 {j : Nat} (h : j < 7) : ∃ c : Nat, (" ~a0Zb'" : Str).cps.toList[j]? = some c ∧ isSign (c : Int) = true := by
  match j, h with
  | 0, _ => exact ⟨32, rfl, rfl⟩
  | 1, _ => exact ⟨126, rfl, rfl⟩
  | 2, _ => exact ⟨97, rfl, rfl⟩
  | 3, _ => exact ⟨48, rfl, rfl⟩
  | 4, _ => exact ⟨90, rfl, rfl⟩
  | 5, _ => exact ⟨98, rfl, rfl⟩
  | 6, _ => exact ⟨39, rfl, rfl⟩
theorem rd_join {r : V → List V → Hp → VK → Prop} {to te : TE} {σ : L2.St} {H : Hp} {Q : VK} (h : to σ H fun x H1 => (∃ a, x = .str a) ∧ te σ H1 fun y H2 => r x [y] H2 Q) : tM1 r to te σ H Q := h
section
variable {P : Program} {w : World} {K : PySem.W.Frag} {mg : Str → Option Value} {base : Heap}
local macro_rules | `(tactic| walk_at "rd") => `(tactic| (repeat (first
  | ((with_reducible refine' rd_var ?h0 ?_); (case h0 => rfl))
  | with_reducible refine rd_c ?_
  | with_reducible refine rd_op ?_
  | with_reducible refine rd_nil ?_
  | with_reducible refine rd_cons ?_
  | with_reducible refine rd_tup ?_
  | with_reducible refine rd_lst ?_
  | with_reducible refine rd_ifs ?_
  | with_reducible refine rd_seq ?_
  | with_reducible refine rd_next ?_
  | with_reducible refine rd_ret ?_
  | with_reducible refine rd_asg ?_
  | ((with_reducible refine' rd_gset ?hs ?_); (case hs => ((simp only [L2.start, List.map_cons, List.map_nil, List.length_cons, List.length_nil, List.cons_append, List.nil_append, List.set_cons_zero, List.set_cons_succ, Nat.reduceAdd, Nat.reduceSub, Nat.zero_add, List.reduceReplicate]); rfl)))
  | with_reducible refine rd_drop ?_
  | with_reducible refine rd_test ?_
  | with_reducible refine rd_B ?_
  | with_reducible refine rd_bl ?_
  | with_reducible refine rd_blP ?_
  | with_reducible refine rd_andV ?_
  | with_reducible refine rd_orV ?_
  | with_reducible refine rd_notV ?_
  | with_reducible refine rd_and ?_
  | with_reducible refine rd_or ?_
  | with_reducible refine rd_not ?_
  | with_reducible refine rd_chain ?_
  | with_reducible refine rd_dput ?_
  | with_reducible refine rd_dget ?_
  | with_reducible refine rd_cb ?_
  | with_reducible refine rd_call ?_
  | with_reducible refine rd_un ?_
  | with_reducible refine rd_sl ?_
  | with_reducible refine rd_nopart ?_
  | with_reducible refine rd_part ?_
  | with_reducible refine rd_intP ?_
  | with_reducible refine rd_rU ?_
  | with_reducible refine rd_fld ?_
  | with_reducible refine rd_eqI ?_
  | with_reducible refine rd_neI ?_
  | with_reducible refine rd_mko ?_
  | with_reducible refine rd_bm ?_
  | with_reducible refine rd_gsub ?_
  | with_reducible refine rd_i0 ?_)))
theorem parcel_step (T : Tx K mg) (B : Bk K mg T) {n k : Nat} (hk : 2 ≤ k) (G_law_parcel : FnOk P w K mg base CX0 k B.law_parcel.f B.law_parcel.fd ["_law_pool_here", "_law_deep"] (spParcel T.CP n)) :
    FnOk P w K mg base CX0 (k + 1) B.law_parcel.f B.law_parcel.fd ["_law_pool_here", "_law_deep"] (spParcel T.CP (n + 1)) := by
  have G_law_draw := ok_law_draw (P := P) (w := w) (base := base) T B
  have G_law_number := ok_law_number (P := P) (w := w) (base := base) T B
  refine B.law_parcel.F.ok sc_law_parcel (fun vs H Q E h => ?_) (fun cdv A outer s H vs Q E hr h => ?_)
  · obtain ⟨p, l, m, _, rfl, _⟩ := h
    rfl
  · obtain ⟨p, l, m, hm, rfl, hh, q⟩ := h
    have hb22 := bB_ge m
    refine ⟨_, (pss_cons (ps_set (i := 2) sc_law_parcel.nd rfl (Or.inl rfl) (pe_call G_law_draw (hr.mono (by omega)) rfl B.law_draw.m B.law_draw.F.kp B.law_draw.b .nil pass0 (pa_cons (pv 0) (pa_cons pe_int pa_nil))))
      (pss_cons (ps_if (pt_cmpR op_lt (pv 2) pe_int (nomark _)) (pss_one (ps_ret (pe_ix ix_list (pe_lst (pa_cons pe_non (pa_cons pe_bl (pa_cons pe_bl pa_nil)))) (pv 2) (fun _ _ => rfl)))) pss_nil)
      (pss_cons (ps_if (pt_cmpR op_lt (pv 2) pe_int (nomark _)) (pss_one (ps_ret (pe_call G_law_number (hr.mono (by omega)) rfl B.law_number.m B.law_number.F.kp B.law_number.b .nil pass0 (pa_cons (pv 0) pa_nil)))) pss_nil)
      (pss_cons (ps_if (pt_cmpR op_lt (pv 2) pe_int (nomark _)) (pss_cons (ps_set (i := 3) sc_law_parcel.nd rfl (Or.inl rfl) (pe_ifExp (pt_cmpR op_eq (pe_call G_law_draw (hr.mono (by omega)) rfl B.law_draw.m B.law_draw.F.kp B.law_draw.b .nil pass0 (pa_cons (pv 0) (pa_cons pe_int pa_nil))) pe_int (nomark _)) pe_int (pe_op op_add pe_int (pe_call G_law_draw (hr.mono (by omega)) rfl B.law_draw.m B.law_draw.F.kp B.law_draw.b .nil pass0 (pa_cons (pv 0) (pa_cons pe_int pa_nil))))))
      (pss_one (ps_ret (pe_join pe_str (pe_lc (own := [("_law_at", 5)]) (g := gName 5) rfl sc_law_parcel.nd (pi_range1 (by rfl) T.b_range (pa_cons (pv 3) pa_nil)) (blkOk_by (own := [("_law_at", 5)]) (N := ["_law_pool_here", "_law_deep", "_law_kind", "_law_many", "_law_turn", "_law_at"]) (sc := defScope s_law_parcel) (by decide +kernel)) (fun _ _ _ _ _ => pg_name (i := 5) sc_law_parcel.nd rfl (Or.inl rfl)) (fun _ _ _ _ _ => pts_nil) (fun _ _ _ _ _ => (pe_ix (r := rIxS) ix_str pe_str (pe_call G_law_draw (hr.mono (by omega)) rfl B.law_draw.m B.law_draw.F.kp B.law_draw.b .nil pass0 (pa_cons (pv 0) (pa_cons pe_int pa_nil))) (fun _ _ => rfl)))))))) pss_nil)
      (pss_cons (ps_if (pt_cmpR op_eq (pv 1) pe_int (nomark _)) (pss_one (ps_ret pe_int)) pss_nil)
      (pss_cons (ps_if (pt_cmpR op_eq (pe_call G_law_draw (hr.mono (by omega)) rfl B.law_draw.m B.law_draw.F.kp B.law_draw.b .nil pass0 (pa_cons (pv 0) (pa_cons pe_int pa_nil))) pe_int (nomark _)) (pss_one (ps_ret (pe_callTy call_tuple_of (by rfl) T.b_tuple (by decide +kernel) (pa_cons (pe_lc (own := [("_law_turn", 4)]) (g := gName 4) rfl sc_law_parcel.nd (pi_range1 (by rfl) T.b_range (pa_cons (pe_op op_add pe_int (pe_call G_law_draw (hr.mono (by omega)) rfl B.law_draw.m B.law_draw.F.kp B.law_draw.b .nil pass0 (pa_cons (pv 0) (pa_cons pe_int pa_nil)))) pa_nil)) (blkOk_by (own := [("_law_turn", 4)]) (N := ["_law_pool_here", "_law_deep", "_law_kind", "_law_many", "_law_turn", "_law_at"]) (sc := defScope s_law_parcel) (by decide +kernel)) (fun _ _ _ _ _ => pg_name (i := 4) sc_law_parcel.nd rfl (Or.inl rfl)) (fun _ _ _ _ _ => pts_nil) (fun _ _ _ _ _ => (pe_call G_law_draw (hr.mono (by omega)) rfl B.law_draw.m B.law_draw.F.kp B.law_draw.b .nil pass0 (pa_cons (pv 0) (pa_cons pe_int pa_nil))))) pa_nil)))) pss_nil)
      (pss_one (ps_ret (pe_callTy call_tuple_of (by rfl) T.b_tuple (by decide +kernel) (pa_cons (pe_lc (own := [("_law_turn", 4)]) (g := gName 4) rfl sc_law_parcel.nd (pi_range1 (by rfl) T.b_range (pa_cons (pe_call G_law_draw (hr.mono (by omega)) rfl B.law_draw.m B.law_draw.F.kp B.law_draw.b .nil pass0 (pa_cons (pv 0) (pa_cons pe_int pa_nil))) pa_nil)) (blkOk_by (own := [("_law_turn", 4)]) (N := ["_law_pool_here", "_law_deep", "_law_kind", "_law_many", "_law_turn", "_law_at"]) (sc := defScope s_law_parcel) (by decide +kernel)) (fun _ _ _ _ _ => pg_name (i := 4) sc_law_parcel.nd rfl (Or.inl rfl)) (fun _ _ _ _ _ => pts_nil) (fun _ _ _ _ _ => (pe_call G_law_parcel (hr.mono (by omega)) rfl B.law_parcel.m B.law_parcel.F.kp B.law_parcel.b .nil pass0 (pa_cons (pv 0) (pa_cons (pe_op op_sub (pv 1) pe_int) pa_nil))))) pa_nil)))))))))), ?_⟩
    walk_at "rd"
    refine ⟨p, l, _, rfl, by decide, by decide, hh, fun r H1 r0 r1 hh1 k1 => ?_⟩
    walk_at "rd"
    refine rd_ite (fun h1 => ?_) (fun h1 => ?_)
    · walk_at "rd"
      refine rd_disp rfl fun a na => ?_
      walk_at "rd"
      have h1' := of_decide_eq_true h1
      have k2 : FK [p, l] H (upd H1 a (.lst [.non, .bl true, .bl false])) := k1.put na
      have hj : r.toNat < 3 := by omega
      have er : r = (r.toNat : Int) := by omega
      generalize r.toNat = j at hj er
      match j, hj with
      | 0, _ => exact rd_ixL upd_same (at_of (j := 0) er rfl) (q .none _ _ rfl (by show 1 ≤ bB m; omega) dt_non (hh1.new na) k2)
      | 1, _ => exact rd_ixL upd_same (at_of (j := 1) er rfl) (q (.bool true) _ _ rfl (by show 1 ≤ bB m; omega) dt_bl (hh1.new na) k2)
      | 2, _ => exact rd_ixL upd_same (at_of (j := 2) er rfl) (q (.bool false) _ _ rfl (by show 1 ≤ bB m; omega) dt_bl (hh1.new na) k2)
    · walk_at "rd"
      refine rd_ite (fun h2 => ?_) (fun h2 => ?_)
      · walk_at "rd"
        refine ⟨p, l, rfl, hh1, fun i H2 hi hh2 k2 => ?_⟩
        exact q (.int i) _ _ rfl (by have := by_int hi; omega) dt_int hh2 (k1.trans k2)
      · walk_at "rd"
        refine rd_ite (fun h3 => ?_) (fun h3 => ?_)
        · walk_at "rd"
          refine rd_S (fun x H2 => ∃ c : Int, x = .int c ∧ 1 ≤ c ∧ c ≤ 20 ∧ PoolAt H2 p l ∧ FK [p, l] H H2) ?_ (fun Q' hQ => ?_)
          · rintro x H2 ⟨c, rfl, c1, c20, hh2, k2⟩
            walk_at "rd"
            refine rd_join ?_
            walk_at "rd"
            refine ⟨⟨_, rfl⟩, ?_⟩
            show iRng1 _ _ _ _
            refine rd_rng1 ?_
            walk_at "rd"
            refine ⟨c, rfl, by omega, by omega, fun D hD => lc_range (lo := 0) (n := c.toNat) (fun i H3 => ∃ cs : List Nat, cs.length = i ∧ H3 D = some (.lst (cs.map fun c => V.str ⟨#[c]⟩)) ∧ (∀ c ∈ cs, isSign (c : Int) = true) ∧ PoolAt H3 p l ∧ FK [p, l] H2 H3)
              ⟨[], rfl, upd_same, fun c hc => absurd hc (by simp), hh2.new hD, FK.new hD⟩ ?_ ?_⟩
            · rintro i H3 hi ⟨cs, hl, hacc, hs, hh3, k3⟩
              have hout := hh2.out hD
              refine ⟨rfl, ?_⟩
              refine rd_tyes ?_
              refine rd_yes rfl ?_
              walk_at "rd"
              refine ⟨p, l, _, rfl, by decide, by decide, hh3, fun j H4 j0 j1 hh4 k4 => ?_⟩
              obtain ⟨ch, e1, e2⟩ := sign7 (j := j.toNat) (by omega)
              refine ⟨_, j, ch, rfl, rfl, by decide, at_of (j := j.toNat) (by omega) e1, ?_⟩
              refine ⟨_, k4.at hout hacc, small' (by rw [List.length_map]; omega), cs ++ [ch], by simp [hl], ?_, fun c hc => ?_, hh4.upd hout, (k3.trans k4).own hD (k4.at hout hacc)⟩
              · rw [upd_same, List.map_append]
                rfl
              · rcases List.mem_append.mp hc with h | h
                · exact hs c h
                · rw [show c = ch by simpa using h]
                  exact e2
            · rintro H3 ⟨cs, hl, hacc, hs, hh3, k3⟩
              refine ⟨"", D, cs.map fun c => (⟨#[c]⟩ : Str), rfl, rfl, .inl (SqL.of (by rw [hacc, List.map_map]; rfl)), join_ok (by omega), ?_⟩
              have ok : okStr (strOf cs) = true := by
                unfold okStr
                rw [len_of, sgn_of, hl, decide_eq_true (show 0 < c.toNat by omega), decide_eq_true (show c.toNat ≤ 20 by omega)]
                simpa using hs
              rw [show (Str.ofString "") = ("" : Str) from rfl, join_one]
              exact q (.str (strOf cs)) _ _ ok (by have := by_str ok; omega) dt_str hh3 (k2.trans k3)
          · refine rd_ifx ?_
            walk_at "rd"
            refine ⟨p, l, _, rfl, by decide, by decide, hh1, fun j H2 j0 j1 hh2 k2 => ?_⟩
            walk_at "rd"
            refine rd_ite (fun h4 => ?_) (fun h4 => ?_)
            · walk_at "rd"
              exact hQ _ _ ⟨20, rfl, by decide, by decide, hh2, k1.trans k2⟩
            · walk_at "rd"
              refine ⟨p, l, _, rfl, by decide, by decide, hh2, fun j2 H3 j20 j21 hh3 k3 => ?_⟩
              walk_at "rd"
              exact hQ _ _ ⟨1 + j2, rfl, by omega, by omega, hh3, (k1.trans k2).trans k3⟩
        · walk_at "rd"
          refine rd_ite (fun h4 => ?_) (fun h4 => ?_)
          · walk_at "rd"
            exact q (.int 7) _ _ rfl (by have := by_int (i := 7) (by decide); omega) dt_int hh1 k1
          · obtain ⟨m', rfl⟩ : ∃ m', m = m' + 1 := ⟨m - 1, by
              have := of_decide_eq_false h4
              omega⟩
            have ebB : bB (m' + 1) = 4 * bB m' + 910 := rfl
            walk_at "rd"
            refine ⟨p, l, _, rfl, by decide, by decide, hh1, fun j H2 j0 j1 hh2 k2 => ?_⟩
            walk_at "rd"
            refine rd_ite (fun h5 => ?_) (fun h5 => ?_)
            · walk_at "rd"
              show iRng1 _ _ _ _
              refine rd_rng1 ?_
              walk_at "rd"
              refine ⟨p, l, _, rfl, by decide, by decide, hh2, fun c H3 c0 c1 hh3 k3 => ?_⟩
              walk_at "rd"
              have k13 := (k1.trans k2).trans k3
              refine ⟨_, rfl, by omega, by omega, fun D hD => lc_range (lo := 0) (n := (100 + c).toNat) (RowI T.CP p l m' 3 H3 D) (RowI.start hh3 hD) ?_ ?_⟩
              · rintro i H4 hi ⟨ds, vs, hl, hacc, hds, hg, hh4, k4⟩
                have := hds.len
                have hout := hh3.out hD
                refine ⟨rfl, ?_⟩
                refine rd_tyes ?_
                refine rd_yes rfl ?_
                walk_at "rd"
                refine ⟨p, l, _, rfl, by decide, by decide, hh4, fun e H5 e0 e1 hh5 k5 => ?_⟩
                exact ⟨vs, k5.at hout hacc, small' (by omega), RowI.more hD hout hl hacc hds hg k4 (dt_int (i := e)) rfl (by_small e0 e1) hh5 k5⟩
              · rintro H4 ⟨ds, vs, hl, hacc, hds, hg, hh4, k4⟩
                refine ⟨D, _, rfl, .inl ⟨SqL.of hacc, fun u nu => ?_⟩⟩
                refine q (.tuple ds) _ _ (isPc_tup fun d hd => (hg d hd).1) ?_ (dt_tup upd_same (hds.s (same_new nu))) (hh4.new nu) ((k13.trans k4).put nu)
                have := by_tup (k := 299) (fun d hd => (hg d hd).2) (by omega) (by decide)
                omega
            · walk_at "rd"
              show iRng1 _ _ _ _
              refine rd_rng1 ?_
              walk_at "rd"
              refine ⟨p, l, _, rfl, by decide, by decide, hh2, fun c H3 c0 c1 hh3 k3 => ?_⟩
              walk_at "rd"
              have k13 := (k1.trans k2).trans k3
              refine ⟨_, rfl, by omega, by omega, fun D hD => lc_range (lo := 0) (n := c.toNat) (RowI T.CP p l m' (bB m') H3 D) (RowI.start hh3 hD) ?_ ?_⟩
              · rintro i H4 hi ⟨ds, vs, hl, hacc, hds, hg, hh4, k4⟩
                have := hds.len
                have hout := hh3.out hD
                refine ⟨rfl, ?_⟩
                refine rd_tyes ?_
                refine rd_yes rfl ?_
                walk_at "rd"
                refine ⟨p, l, m', by omega, ?_, hh4, fun d v H5 hd hb td hh5 k5 => ?_⟩
                · rw [show ((m' + 1 : Nat) : Int) - 1 = (m' : Int) by omega]
                  rfl
                · exact ⟨vs, k5.at hout hacc, small' (by omega), RowI.more hD hout hl hacc hds hg k4 td hd hb hh5 k5⟩
              · rintro H4 ⟨ds, vs, hl, hacc, hds, hg, hh4, k4⟩
                refine ⟨D, _, rfl, .inl ⟨SqL.of hacc, fun u nu => ?_⟩⟩
                refine q (.tuple ds) _ _ (isPc_tup fun d hd => (hg d hd).1) ?_ (dt_tup upd_same (hds.s (same_new nu))) (hh4.new nu) ((k13.trans k4).put nu)
                have := by_tup (k := 4) (fun d hd => (hg d hd).2) (by omega) (by decide)
                omega
theorem ok_parcel_n (T : Tx K mg) (B : Bk K mg T) : ∀ n, FnOk P w K mg base CX0 (n + 3) B.law_parcel.f B.law_parcel.fd ["_law_pool_here", "_law_deep"] (spParcel T.CP n)
  | 0 => fn_no fun vs H Q E h => by
    obtain ⟨p, l, m, hm, _⟩ := h
    omega
  | n + 1 => parcel_step T B (by omega) (ok_parcel_n T B n)
end
end Mw

/-! R7m -/
/-! Rows: what is read. -/
namespace Mw
open PySem L2
/-- how many bytes stand at the front that are not the last of a whole -/
def lead : List Int → Nat
  | [] => 0
  | b :: r => if 128 ≤ b then lead r + 1 else 0
/-- what bytes tell as figures, the lowest first -/
def val : List Int → Int
  | [] => 0
  | b :: r => b % 128 + 128 * val r
def whR (row : List Int) (h : Nat) : Option (Int × Nat) :=
  match row[h + lead (row.drop h)]? with
  | none => none
  | some c => if c = 0 ∧ 0 < lead (row.drop h) then none else some (val ((row.drop h).take (lead (row.drop h) + 1)), h + lead (row.drop h) + 1)
theorem lead_ge {row : List Int} {h : Nat} {b : Int} (e : row[h]? = some b) (g : 128 ≤ b) : lead (row.drop h) = lead (row.drop (h + 1)) + 1 := by
  have hl := (List.getElem?_eq_some_iff.mp e).1
  rw [List.drop_eq_getElem_cons hl, show row[h] = b from (List.getElem?_eq_some_iff.mp e).2]
  show (if 128 ≤ b then _ else _) = _
  rw [if_pos g]
theorem lead_lt {row : List Int} {h : Nat} {b : Int} (e : row[h]? = some b) (g : ¬ 128 ≤ b) : lead (row.drop h) = 0 := by
  have hl := (List.getElem?_eq_some_iff.mp e).1
  rw [List.drop_eq_getElem_cons hl, show row[h] = b from (List.getElem?_eq_some_iff.mp e).2]
  show (if 128 ≤ b then _ else _) = _
  rw [if_neg g]
theorem lead_end {row : List Int} {h : Nat} (e : row.length ≤ h) : lead (row.drop h) = 0 := by
  rw [List.drop_of_length_le e]
  rfl
theorem lead_le : ∀ r : List Int, lead r ≤ r.length
  | [] => Nat.le_refl _
  | b :: r => by
    have := lead_le r
    show (if 128 ≤ b then lead r + 1 else 0) ≤ r.length + 1
    split <;> omega
theorem whR_le {row : List Int} {h e : Nat} {n : Int} (g : whR row h = some (n, e)) : h < e ∧ e ≤ row.length := by
  unfold whR at g
  split at g
  · cases g
  · rename_i c hc
    have := (List.getElem?_eq_some_iff.mp hc).1
    split at g
    · cases g
    · injection g with g
      injection g with g1 g2
      omega
theorem val_nn : ∀ r : List Int, 0 ≤ val r
  | [] => Int.le_refl _
  | b :: r => by
    have := val_nn r
    have := Int.emod_nonneg b (show (128 : Int) ≠ 0 by decide)
    show 0 ≤ b % 128 + 128 * val r
    omega
theorem whR_nn {row : List Int} {h e : Nat} {n : Int} (g : whR row h = some (n, e)) : 0 ≤ n := by
  unfold whR at g
  split at g
  · cases g
  · split at g
    · cases g
    · injection g with g
      injection g with g1 g2
      rw [← g1]
      exact val_nn _
/-- the last of them, one more at the front -/
theorem val_rev (xs : List Int) (i : Nat) (b : Int) (e : xs.reverse[i]? = some b) : val (xs.drop (xs.length - (i + 1))) = val (xs.drop (xs.length - i)) * 128 + b % 128 := by
  have hl : i < xs.length := by
    have := (List.getElem?_eq_some_iff.mp e).1
    simpa using this
  have e2 : xs[xs.length - (i + 1)]? = some b := by
    rw [List.getElem?_reverse hl] at e
    rw [show xs.length - (i + 1) = xs.length - 1 - i by omega]
    exact e
  rw [List.drop_eq_getElem_cons (by omega), show xs[xs.length - (i + 1)] = b from (List.getElem?_eq_some_iff.mp e2).2]
  show b % 128 + 128 * val (xs.drop (xs.length - (i + 1) + 1)) = _
  rw [show xs.length - (i + 1) + 1 = xs.length - i by omega]
  omega
inductive Rs (α : Type) where
  | bad (e : Nat)
  | ok (a : α) (e : Nat)
def consR {α : Type} (a : α) : Rs (List α) → Rs (List α)
  | .bad e => .bad e
  | .ok l e => .ok (a :: l) e
def strR (row : List Int) : Nat → Nat → Rs (List Nat)
  | 0, h => .ok [] h
  | m + 1, h => match row[h]? with
    | none => .bad row.length
    | some b => if isSign b = true then consR b.toNat (strR row m (h + 1)) else .bad h
inductive Its (R : Nat → Rs PyData → Prop) : Nat → Nat → Rs (List PyData) → Prop
  | nil (h : Nat) : Its R 0 h (.ok [] h)
  | bad {m h e : Nat} : R h (.bad e) → Its R (m + 1) h (.bad e)
  | one {m h h2 : Nat} {d : PyData} {r : Rs (List PyData)} : R h (.ok d h2) → Its R m h2 r → Its R (m + 1) h (consR d r)
def strD : Rs (List Nat) → Rs PyData
  | .bad e => .bad e
  | .ok cs e => .ok (.str (strOf cs)) e
def tupD : Rs (List PyData) → Rs PyData
  | .bad e => .bad e
  | .ok ds e => .ok (.tuple ds) e
/-- what is read at a place, R within the tuple (none: no tuple may stand there) -/
def RdB (row : List Int) (R : Option (Nat → Rs PyData → Prop)) (h : Nat) (res : Rs PyData) : Prop :=
  match row[h]? with
  | none => res = .bad row.length
  | some b => if 6 < b ∨ (b = 6 ∧ R.isNone = true) then res = .bad h
    else if b < 3 then res = .ok (if b = 0 then .none else .bool (decide (b = 2))) (h + 1)
    else match whR row (h + 1) with
    | none => res = .bad (h + 1)
    | some (n, e) => if b < 5 then res = .ok (.int (if b = 3 then n else -1 - n)) e
      else if b = 5 then (if n = 0 ∨ 20 < n then res = .bad (h + 1) else res = strD (strR row n.toNat e))
      else ∃ R' r, R = some R' ∧ Its R' n.toNat e r ∧ res = tupD r
def Rd (row : List Int) : Nat → Nat → Rs PyData → Prop
  | 0 => RdB row none
  | n + 1 => RdB row (some (Rd row n))
theorem its_det {R : Nat → Rs PyData → Prop} (hR : ∀ h r1 r2, R h r1 → R h r2 → r1 = r2) : ∀ {m h : Nat} {r1 r2 : Rs (List PyData)}, Its R m h r1 → Its R m h r2 → r1 = r2 := by
  intro m h r1 r2 a
  induction a generalizing r2 with
  | nil h =>
    intro b
    cases b
    rfl
  | bad x =>
    intro b
    cases b with
    | bad y => exact congrArg Rs.bad (Rs.bad.inj (hR _ _ _ x y))
    | one y _ =>
      have := hR _ _ _ x y
      cases this
  | one x _ ih =>
    intro b
    cases b with
    | bad y =>
      have := hR _ _ _ x y
      cases this
    | one y z =>
      have e := hR _ _ _ x y
      injection e with e1 e2
      subst e1 e2
      rw [ih z]
theorem rdB_det {row : List Int} {R : Option (Nat → Rs PyData → Prop)} (hR : ∀ R', R = some R' → ∀ h r1 r2, R' h r1 → R' h r2 → r1 = r2) {h : Nat} {r1 r2 : Rs PyData} (a : RdB row R h r1) (b : RdB row R h r2) : r1 = r2 := by
  unfold RdB at a b
  split at a
  · rename_i e
    simp only [e] at b
    rw [a, b]
  · rename_i c e
    simp only [e] at b
    by_cases c1 : 6 < c ∨ (c = 6 ∧ R.isNone = true)
    · rw [if_pos c1] at a b
      rw [a, b]
    · rw [if_neg c1] at a b
      by_cases c2 : c < 3
      · rw [if_pos c2] at a b
        rw [a, b]
      · rw [if_neg c2] at a b
        split at a
        · rename_i e2
          simp only [e2] at b
          rw [a, b]
        · rename_i n e' e2
          simp only [e2] at b
          by_cases c3 : c < 5
          · rw [if_pos c3] at a b
            rw [a, b]
          · rw [if_neg c3] at a b
            by_cases c4 : c = 5
            · rw [if_pos c4] at a b
              by_cases c5 : n = 0 ∨ 20 < n
              · rw [if_pos c5] at a b
                rw [a, b]
              · rw [if_neg c5] at a b
                rw [a, b]
            · rw [if_neg c4] at a b
              obtain ⟨R1, s1, x1, y1, z1⟩ := a
              obtain ⟨R2, s2, x2, y2, z2⟩ := b
              rw [x1] at x2
              cases x2
              rw [z1, z2, its_det (hR _ x1) y1 y2]
theorem rd_det {row : List Int} : ∀ {n h : Nat} {r1 r2 : Rs PyData}, Rd row n h r1 → Rd row n h r2 → r1 = r2
  | 0, h, r1, r2, a, b => rdB_det (R := none) (fun _ z => by cases z) a b
  | n + 1, h, r1, r2, a, b => rdB_det (R := some (Rd row n)) (fun R' z h r1 r2 x y => by
    cases z
    exact rd_det x y) a b
theorem strR_le {row : List Int} : ∀ {m h e : Nat} {cs : List Nat}, h ≤ row.length → strR row m h = .ok cs e → h ≤ e ∧ e ≤ row.length
  | 0, h, e, cs, l, g => by
    unfold strR at g
    injection g with g1 g2
    omega
  | m + 1, h, e, cs, l, g => by
    unfold strR at g
    split at g
    · cases g
    · rename_i b hb
      have := (List.getElem?_eq_some_iff.mp hb).1
      split at g
      · cases k : strR row m (h + 1) with
        | bad e2 =>
          rw [k] at g
          cases g
        | ok cs2 e2 =>
          rw [k] at g
          injection g with g1 g2
          subst g2
          have := strR_le (by omega) k
          omega
      · cases g
theorem its_le {row : List Int} {R : Nat → Rs PyData → Prop} (hR : ∀ h d e, R h (.ok d e) → h < e ∧ e ≤ row.length) {m h : Nat} {r : Rs (List PyData)} (a : Its R m h r) : ∀ ds e, r = .ok ds e → h ≤ row.length → h ≤ e ∧ e ≤ row.length := by
  induction a with
  | nil h =>
    intro ds e z l
    injection z with z1 z2
    omega
  | bad x =>
    intro ds e z
    cases z
  | @one m h h2 d r x y ih =>
    intro ds e z l
    have h1 := hR _ _ _ x
    cases r with
    | bad e2 => cases z
    | ok l2 e2 =>
      injection z with z1 z2
      subst z2
      have := ih _ _ rfl h1.2
      omega
theorem rdB_le {row : List Int} {R : Option (Nat → Rs PyData → Prop)} (hR : ∀ R', R = some R' → ∀ h d e, R' h (.ok d e) → h < e ∧ e ≤ row.length) {h e : Nat} {d : PyData} (a : RdB row R h (.ok d e)) : h < e ∧ e ≤ row.length := by
  unfold RdB at a
  split at a
  · cases a
  · rename_i c hc
    have hl := (List.getElem?_eq_some_iff.mp hc).1
    split at a
    · cases a
    · split at a
      · injection a with a1 a2
        omega
      · split at a
        · cases a
        · rename_i n e' hw
          have := whR_le hw
          split at a
          · injection a with a1 a2
            omega
          · split at a
            · split at a
              · cases a
              · cases k : strR row n.toNat e' with
                | bad e2 =>
                  rw [k] at a
                  cases a
                | ok cs e2 =>
                  rw [k] at a
                  injection a with a1 a2
                  subst a2
                  have := strR_le (by omega) k
                  omega
            · obtain ⟨R', r, x, y, z⟩ := a
              cases r with
              | bad e2 => cases z
              | ok ds e2 =>
                injection z with z1 z2
                subst z2
                have := its_le (hR _ x) y _ _ rfl (by omega)
                omega
theorem rd_le {row : List Int} : ∀ {n h e : Nat} {d : PyData}, Rd row n h (.ok d e) → h < e ∧ e ≤ row.length
  | 0, h, e, d, a => rdB_le (R := none) (fun _ z => by cases z) a
  | n + 1, h, e, d, a => rdB_le (R := some (Rd row n)) (fun R' z h d e x => by
    cases z
    exact rd_le x) a
/-- so many read one behind the other -/
inductive Run (R : Nat → Rs PyData → Prop) (h0 : Nat) : List PyData → Nat → Prop
  | nil : Run R h0 [] h0
  | snoc {ds : List PyData} {h h2 : Nat} {d : PyData} : Run R h0 ds h → R h (.ok d h2) → Run R h0 (ds ++ [d]) h2
def appR {α : Type} (l : List α) : Rs (List α) → Rs (List α)
  | .bad e => .bad e
  | .ok m e => .ok (l ++ m) e
theorem run_its {R : Nat → Rs PyData → Prop} {h0 : Nat} {ds : List PyData} {h : Nat} (a : Run R h0 ds h) : ∀ {k : Nat} {r : Rs (List PyData)}, Its R k h r → Its R (ds.length + k) h0 (appR ds r) := by
  induction a with
  | nil =>
    intro k r b
    rw [List.length_nil, Nat.zero_add]
    cases r <;> exact b
  | @snoc ds h h2 d x y ih =>
    intro k r b
    have := ih (Its.one y b)
    rw [List.length_append, List.length_singleton, show ds.length + 1 + k = ds.length + (k + 1) by omega]
    cases r with
    | bad e => exact this
    | ok l e =>
      show Its R _ h0 (.ok (ds ++ [d] ++ l) e)
      rw [List.append_assoc]
      exact this
theorem run_end {R : Nat → Rs PyData → Prop} {h0 : Nat} {ds : List PyData} {h : Nat} (a : Run R h0 ds h) : Its R ds.length h0 (.ok ds h) := by
  have := run_its a (Its.nil h)
  rw [Nat.add_zero] at this
  rw [show appR ds (.ok [] h) = .ok (ds ++ []) h from rfl, List.append_nil] at this
  exact this
theorem run_bad {R : Nat → Rs PyData → Prop} {h0 : Nat} {ds : List PyData} {h m e : Nat} (a : Run R h0 ds h) (l : ds.length < m) (b : R h (.bad e)) : Its R m h0 (.bad e) := by
  have := run_its a (Its.bad (m := m - ds.length - 1) b)
  rw [show ds.length + (m - ds.length - 1 + 1) = m by omega] at this
  exact this
end Mw

/-! R7 -/
namespace Mw
open PySem L2
theorem rd_rng2' {ta : TA} {σ : L2.St} {H : Hp} {R : It → Hp → Prop} (h : ta σ H fun vs H1 => ∃ i j : Int, vs = [.int i, .int j] ∧ (-(2 ^ 62) ≤ i ∧ i < 2 ^ 62 ∧ -(2 ^ 62) ≤ j ∧ j < 2 ^ 62) ∧ R (Itr i (j - i).toNat) H1) : iRng2 ta σ H R := h
/-- a row, at a -/
structure RowAt (H : Hp) (a : Addr) (row : List Int) : Prop where
  at_ : H a = some (.tup (row.map V.int))
  by_ : ∀ b ∈ row, 0 ≤ b ∧ b < 256
  le : row.length ≤ 900000
theorem RowAt.same {H H' : Hp} {a : Addr} {row : List Int} (h : RowAt H a row) (s : Same H H') : RowAt H' a row := ⟨s _ _ h.1, h.2, h.3⟩
theorem RowAt.kt {H H' : Hp} {a : Addr} {row : List Int} (h : RowAt H a row) (s : KT H H') : RowAt H' a row := ⟨s _ _ h.1, h.2, h.3⟩
theorem row_get {row : List Int} {h : Nat} (l : h < row.length) : ∃ b, row[h]? = some b ∧ (row.map V.int)[h]? = some (V.int b) := by
  have e : row[h]? = some row[h] := by simp [l]
  exact ⟨_, e, by rw [List.getElem?_map, e]; rfl⟩
theorem cut_all {xs : List V} {lo hi : Option Int} (h : HT.sIx xs.length 0 lo = 0 ∧ HT.sIx xs.length xs.length hi = xs.length) : cutV xs lo hi = xs := by
  unfold cutV
  rw [h.1, h.2, List.drop_zero, Nat.sub_zero, List.take_length]
theorem rd_cutA {K : PySem.W.Frag} {H : Hp} {Q : VK} {a : Addr} {xs : List V} {lo hi : Option Int} (h : H a = some (.tup xs)) (q : ∀ c H', Same H H' → H' c = some (.tup (cutV xs lo hi)) → Q (.ref c) H') : rSlA K (.ref a) lo hi H Q := by
  refine ⟨a, xs, rfl, SqT.of h, fun e => ?_, fun _ c nc => q c _ (same_new nc) upd_same⟩
  exact q a H (Same.refl H) (by rw [cut_all e]; exact h)
theorem cutN {α : Type} (xs : List α) (i j : Nat) (hi : i ≤ xs.length) (hj : j ≤ xs.length) (f : α → V) : cutV (xs.map f) (some (i : Int)) (some (j : Int)) = ((xs.drop i).take (j - i)).map f := by
  unfold cutV
  rw [HT.sIx_nat, HT.sIx_nat, List.length_map, Nat.min_eq_left hi, Nat.min_eq_left hj, ← List.map_drop, ← List.map_take]
theorem sign_at {c : Int} (h : isSign c = true) : SC_SIGNS.cps.toList[(c - 32).toNat]? = some c.toNat := by
  have key : ∀ n : Nat, n < 127 → isSign (n : Int) = true → SC_SIGNS.cps.toList[((n : Int) - 32).toNat]? = some n := by decide +kernel
  have hb : 0 ≤ c ∧ c < 127 := by
    unfold isSign at h
    simp only [Bool.and_eq_true, decide_eq_true_eq] at h
    omega
  have e : c = (c.toNat : Int) := by omega
  rw [e] at h
  have := key c.toNat (by omega) h
  rw [← e] at this
  exact this
mutual
theorem rdB_plain {row : List Int} {R : Option (Nat → Rs PyData → Prop)} (hR : ∀ R', R = some R' → ∀ h d e, R' h (.ok d e) → plainD d = true) {h e : Nat} {d : PyData} (a : RdB row R h (.ok d e)) : plainD d = true := by
  unfold RdB at a
  split at a
  · cases a
  · rename_i c hc
    split at a
    · cases a
    · split at a
      · injection a with a1 a2
        rw [a1]
        split <;> rfl
      · split at a
        · cases a
        · split at a
          · injection a with a1 a2
            rw [a1]
            rfl
          · split at a
            · split at a
              · cases a
              · rename_i n e' _ _ _ _
                cases k : strR row n.toNat e' with
                | bad e2 =>
                  rw [k] at a
                  cases a
                | ok cs e2 =>
                  rw [k] at a
                  injection a with a1 a2
                  rw [a1]
                  rfl
            · obtain ⟨R', r, x, y, z⟩ := a
              cases r with
              | bad e2 => cases z
              | ok ds e2 =>
                injection z with z1 z2
                rw [z1]
                exact plainAll_of fun d hd => its_plain (hR _ x) y ds e2 rfl d hd
theorem its_plain {R : Nat → Rs PyData → Prop} (hR : ∀ h d e, R h (.ok d e) → plainD d = true) {m h : Nat} {r : Rs (List PyData)} (a : Its R m h r) : ∀ ds e, r = .ok ds e → ∀ d ∈ ds, plainD d = true := by
  induction a with
  | nil h =>
    intro ds e z d hd
    injection z with z1 z2
    rw [← z1] at hd
    cases hd
  | bad x =>
    intro ds e z
    cases z
  | @one m h h2 d r x y ih =>
    intro ds e z d1 hd
    cases r with
    | bad e2 => cases z
    | ok l2 e2 =>
      injection z with z1 z2
      rw [← z1] at hd
      rcases List.mem_cons.mp hd with h | h
      · rw [h]
        exact hR _ _ _ x
      · exact ih _ _ rfl d1 h
end
theorem rd_plain {row : List Int} : ∀ {n h e : Nat} {d : PyData}, Rd row n h (.ok d e) → plainD d = true
  | 0, h, e, d, a => rdB_plain (R := none) (fun _ z => by cases z) a
  | n + 1, h, e, d, a => rdB_plain (R := some (Rd row n)) (fun R' z h d e x => by
    cases z
    exact rd_plain x) a
def isRowD : PyData → Bool
  | .tuple ds => (ds.map isByte).all id
  | _ => false
def lenD : PyData → Nat
  | .tuple ds => ds.length
  | _ => 0
def spIsRow (CP : Addr → Prop) : Sp := fun vs H Q _ => ∃ M d x, vs = [x] ∧ Dt CP M H d x ∧ lenD d ≤ 900000 ∧ ∀ H', Same H H' → Q (.bl (isRowD d)) H'
def spCkRow (CP : Addr → Prop) (C : Addr) : Sp := fun vs H Q E => ∃ M d x, vs = [x] ∧ Dt CP M H d x ∧ lenD d ≤ 900000 ∧ ∀ H', Same H H' → (isRowD d = true → Q .non H') ∧ (isRowD d = false → E (.ref C) none H')
def spThere (C : Addr) : Sp := fun vs H Q E => ∃ (a : Addr) (row : List Int) (h : Nat), vs = [.ref a, .int (h : Int)] ∧ RowAt H a row ∧ (h < row.length → Q .non H) ∧ (row.length ≤ h → Raised C (.int (row.length : Nat)) H E)
def spSign : Sp := fun vs H Q _ => ∃ c : Int, vs = [.int c] ∧ Q (.bl (isSign c)) H
def spWholeAt (C : Addr) : Sp := fun vs H Q E => ∃ (a : Addr) (row : List Int) (h : Nat), vs = [.ref a, .int (h : Int)] ∧ RowAt H a row ∧ h ≤ row.length ∧
  (∀ n e, whR row h = some (n, e) → ∀ t H', Same H H' → H' t = some (.tup [.int n, .int (e : Nat)]) → Q (.ref t) H') ∧ (whR row h = none → Raised C (.int (h : Int)) H E)
def spStringAt (C : Addr) : Sp := fun vs H Q E => ∃ (a : Addr) (row : List Int) (h m : Nat), vs = [.ref a, .int (h : Int), .int (m : Int)] ∧ RowAt H a row ∧ h ≤ row.length ∧ m ≤ 20 ∧
  (∀ cs e, strR row m h = .ok cs e → ∀ t H', Same H H' → H' t = some (.tup [.str (strOf cs), .int (e : Nat)]) → Q (.ref t) H') ∧ (∀ e, strR row m h = .bad e → ∀ H', Same H H' → Raised C (.int (e : Nat)) H' E)
section
variable {P : Program} {w : World} {K : PySem.W.Frag} {mg : Str → Option Value} {base : Heap}
local macro_rules | `(tactic| walk_at "rd") => `(tactic| (repeat (first
  | ((with_reducible refine' rd_var ?h0 ?_); (case h0 => rfl))
  | with_reducible refine rd_c ?_
  | with_reducible refine rd_op ?_
  | with_reducible refine rd_nil ?_
  | with_reducible refine rd_cons ?_
  | with_reducible refine rd_tup ?_
  | with_reducible refine rd_lst ?_
  | with_reducible refine rd_ifs ?_
  | with_reducible refine rd_seq ?_
  | with_reducible refine rd_next ?_
  | with_reducible refine rd_ret ?_
  | with_reducible refine rd_asg ?_
  | ((with_reducible refine' rd_gset ?hs ?_); (case hs => ((simp only [L2.start, List.map_cons, List.map_nil, List.length_cons, List.length_nil, List.cons_append, List.nil_append, List.set_cons_zero, List.set_cons_succ, Nat.reduceAdd, Nat.reduceSub, Nat.zero_add, List.reduceReplicate]); rfl)))
  | with_reducible refine rd_drop ?_
  | with_reducible refine rd_test ?_
  | with_reducible refine rd_B ?_
  | with_reducible refine rd_bl ?_
  | with_reducible refine rd_blP ?_
  | with_reducible refine rd_andV ?_
  | with_reducible refine rd_orV ?_
  | with_reducible refine rd_notV ?_
  | with_reducible refine rd_and ?_
  | with_reducible refine rd_or ?_
  | with_reducible refine rd_not ?_
  | with_reducible refine rd_chain ?_
  | with_reducible refine rd_dput ?_
  | with_reducible refine rd_dget ?_
  | with_reducible refine rd_cb ?_
  | with_reducible refine rd_call ?_
  | with_reducible refine rd_un ?_
  | with_reducible refine rd_sl ?_
  | with_reducible refine rd_nopart ?_
  | with_reducible refine rd_part ?_
  | with_reducible refine rd_intP ?_
  | with_reducible refine rd_rU ?_
  | with_reducible refine rd_fld ?_
  | with_reducible refine rd_eqI ?_
  | with_reducible refine rd_neI ?_
  | with_reducible refine rd_mko ?_
  | with_reducible refine rd_bm ?_
  | with_reducible refine rd_gsub ?_
  | with_reducible refine rd_i0 ?_)))
theorem ok_is_row (T : Tx K mg) (B : Bk K mg T) : FnOk P w K mg base CX0 5 B.is_row.f B.is_row.fd ["thing"] (spIsRow T.CP) := by
  have G_is_byte := ok_is_byte (P := P) (w := w) (base := base) T B
  refine B.is_row.F.ok sc_is_row (fun vs H Q E h => ?_) (fun cdv A outer s H vs Q E hr h => ?_)
  · obtain ⟨M, d, x, rfl, _⟩ := h
    rfl
  · obtain ⟨M, d, x, rfl, hd, hl, q⟩ := h
    refine ⟨_, (pss_one (ps_ret (pe_and (pe_callB call_isi (by rfl) T.b_isinstance (by decide +kernel) (pa_cons (pv 0) (pa_cons (pe_bltn (v := .ty "tuple") (by rfl) T.b_tuple (by decide +kernel) rfl) pa_nil))) (pe_one (pe_callB (cr_all rfl) (by rfl) T.b_all (by decide +kernel) (pa_cons (pe_lc (own := [("item", 1)]) (g := gName 1) rfl sc_is_row.nd (pi_tup (pv 0)) (blkOk_by (own := [("item", 1)]) (N := ["thing", "item"]) (sc := defScope s_is_row) (by decide +kernel)) (fun _ _ _ _ _ => pg_name (i := 1) sc_is_row.nd rfl (Or.inl rfl)) (fun _ _ _ _ _ => pts_nil) (fun _ _ _ _ _ => (pe_call G_is_byte (hr.mono (by decide)) rfl B.is_byte.m B.is_byte.F.kp B.is_byte.b .nil pass0 (pa_cons (pv 1) pa_nil)))) pa_nil)))))), ?_⟩
    walk_at "rd"
    refine dt_isT T.W hd ?_
    walk_at "rd"
    cases d with
    | tuple ds =>
      obtain ⟨a, xs, rfl, ha, hx⟩ := dt_tup' hd
      have hlx := hx.len
      have hl' : ds.length ≤ 900000 := hl
      refine rd_yes rfl ?_
      walk_at "rd"
      show iTup _ _ _ _ _
      refine rd_itup ?_
      walk_at "rd"
      refine ⟨a, rfl, ⟨xs, SqT.of ha⟩, fun D hD => lc_tup (K := K) (a := a) (xs := xs) (fun i H1 => Same H H1 ∧ H1 D = some (.lst (((ds.take i).map isByte).map V.bl))) ⟨same_new hD, upd_same⟩ (fun i H1 _ hh => SqT.of (hh.1 _ _ ha)) ?_ ?_⟩
      · rintro i y H1 hi ⟨hs, hacc⟩
        obtain ⟨d1, hd1, td1⟩ := hx.get' hi
        refine ⟨rfl, ?_⟩
        refine rd_tyes ?_
        refine rd_yes rfl ?_
        walk_at "rd"
        refine ⟨M, d1, y, rfl, td1.s hs, ?_⟩
        refine ⟨_, hacc, small' (by rw [List.length_map, List.length_map, List.length_take]; omega), fun b o e => (upd_ne (ne_of_none e hD)).trans (hs b o e), ?_⟩
        rw [upd_same, take_snoc hd1, List.map_append, List.map_append]
        rfl
      · rintro H1 ⟨hs, hacc⟩
        rw [← hlx, List.take_length] at hacc
        refine ⟨D, _, rfl, SqL.of hacc, ?_⟩
        exact q _ hs
    | _ =>
      refine rd_no rfl ?_
      exact q _ (Same.refl H)
theorem ok_check_row (T : Tx K mg) (B : Bk K mg T) : FnOk P w K mg base (L2.CX P w) 6 B.check_row.f B.check_row.fd ["row"] (spCkRow T.CP T.c_NoRow) := by
  have G_is_row := ok_is_row (P := P) (w := w) (base := base) T B
  have G_NoRow_init := ok_row_init (P := P) (w := w) (base := base) T B
  refine B.check_row.F.okX sc_check_row (fun vs H Q E h => ?_) (fun cdv A outer s H vs Q E hr h => ?_)
  · obtain ⟨M, d, x, rfl, _⟩ := h
    rfl
  · obtain ⟨M, d, x, rfl, hd, hl, q⟩ := h
    refine ⟨_, (pss_one (ps_if (pt_not (pt_val (pe_call G_is_row (hr.mono (by decide)) rfl B.is_row.m B.is_row.F.kp B.is_row.b .nil pass0 (pa_cons (pv 0) pa_nil)))) (pss_one (ps_raise rfl (takes_of rfl rfl rfl rfl) (pmk_pass T.x_NoRow B.NoRow_init.a B.NoRow_init.t G_NoRow_init (hr.mono (by decide)) B.NoRow_init.b pass0 rfl T.g_NoRow))) pss_nil)), ?_⟩
    walk_at "rd"
    refine ⟨M, d, x, rfl, hd, hl, fun H1 s1 => ?_⟩
    obtain ⟨q1, q0⟩ := q H1 s1
    walk_at "rd"
    refine rd_ite (fun h1 => ?_) (fun h1 => ?_)
    · intro e he
      exact ⟨⟨e, rfl, rfl, rfl⟩, q0 (by simpa using h1)⟩
    · exact q1 (by simpa using h1)
theorem ok_check_there (T : Tx K mg) (B : Bk K mg T) : FnOk P w K mg base (L2.CX P w) 3 B.check_there.f B.check_there.fd ["row", "place"] (spThere T.c_BadRow) := by
  have G_BadRow_init := ok_bad_init (P := P) (w := w) (base := base) T B
  refine B.check_there.F.okX sc_check_there (fun vs H Q E h => ?_) (fun cdv A outer s H vs Q E hr h => ?_)
  · obtain ⟨a, row, h, rfl, _⟩ := h
    rfl
  · obtain ⟨a, row, h, rfl, ha, q1, q0⟩ := h
    refine ⟨_, (pss_one (ps_if (pt_cmpR op_ge (pv 1) (pe_callB call_len_seq (by rfl) T.b_len (by decide +kernel) (pa_cons (pv 0) pa_nil)) (nomark _)) (pss_one (ps_raise rfl (takes_of rfl rfl rfl rfl) (pmk_oex T.x_BadRow B.BadRow_init.a B.BadRow_init.t G_BadRow_init (hr.mono (by decide)) B.BadRow_init.b .nil pass0 rfl T.g_BadRow (pa_cons (pe_callB call_len_seq (by rfl) T.b_len (by decide +kernel) (pa_cons (pv 0) pa_nil)) pa_nil)))) pss_nil)), ?_⟩
    walk_at "rd"
    refine ⟨a, _, rfl, .inr (SqT.of ha.1), ?_⟩
    walk_at "rd"
    refine rd_ite (fun h1 => ?_) (fun h1 => ?_)
    · have h2 : row.length ≤ h := by
        have := of_decide_eq_true h1
        rw [List.length_map] at this
        omega
      walk_at "rd"
      refine ⟨a, _, rfl, .inr (SqT.of ha.1), ?_⟩
      rw [List.length_map]
      exact bad_made (q0 h2)
    · refine q1 ?_
      have := of_decide_eq_false h1
      rw [List.length_map] at this
      omega
theorem ok_is_sign (T : Tx K mg) (B : Bk K mg T) : FnOk P w K mg base CX0 1 B.is_sign.f B.is_sign.fd ["number"] spSign := by
  refine B.is_sign.F.ok sc_is_sign (fun vs H Q E h => ?_) (fun cdv A outer s H vs Q E hr h => ?_)
  · obtain ⟨c, rfl, _⟩ := h
    rfl
  · obtain ⟨c, rfl, q⟩ := h
    refine ⟨_, (pss_one (ps_ret (pe_and (pe_chain op_le op_le (pe_glob (v := .int 32) (by rfl) T.g_LEAST_SIGN ⟨_, rfl⟩) (pv 0) (pe_glob (v := .int 126) (by rfl) T.g_GREATEST_SIGN ⟨_, rfl⟩)) (pe_one (pe_cmpR op_ne (pv 0) (pe_glob (v := .int 37) (by rfl) T.g_NO_SIGN ⟨_, rfl⟩) (nomark _)))))), ?_⟩
    unfold isSign at q
    walk_at "rd"
    refine rd_ite (fun h1 => ?_) (fun h1 => ?_)
    · rw [h1, Bool.true_and] at q
      walk_at "rd"
      refine rd_ite (fun h2 => ?_) (fun h2 => ?_)
      · rw [h2, Bool.true_and] at q
        walk_at "rd"
        exact q
      · rw [h2, Bool.false_and] at q
        exact q
    · rw [h1, Bool.false_and, Bool.false_and] at q
      walk_at "rd"
      exact q
end
end Mw

/-! R8 -/
namespace Mw
open PySem L2
section
variable {P : Program} {w : World} {K : PySem.W.Frag} {mg : Str → Option Value} {base : Heap}
local macro_rules | `(tactic| walk_at "rd") => `(tactic| (repeat (first
  | ((with_reducible refine' rd_var ?h0 ?_); (case h0 => rfl))
  | with_reducible refine rd_c ?_
  | with_reducible refine rd_op ?_
  | with_reducible refine rd_nil ?_
  | with_reducible refine rd_cons ?_
  | with_reducible refine rd_tup ?_
  | with_reducible refine rd_lst ?_
  | with_reducible refine rd_ifs ?_
  | with_reducible refine rd_seq ?_
  | with_reducible refine rd_next ?_
  | with_reducible refine rd_ret ?_
  | with_reducible refine rd_asg ?_
  | ((with_reducible refine' rd_gset ?hs ?_); (case hs => ((simp only [L2.start, List.map_cons, List.map_nil, List.length_cons, List.length_nil, List.cons_append, List.nil_append, List.set_cons_zero, List.set_cons_succ, Nat.reduceAdd, Nat.reduceSub, Nat.zero_add, List.reduceReplicate]); rfl)))
  | with_reducible refine rd_drop ?_
  | with_reducible refine rd_test ?_
  | with_reducible refine rd_B ?_
  | with_reducible refine rd_bl ?_
  | with_reducible refine rd_blP ?_
  | with_reducible refine rd_andV ?_
  | with_reducible refine rd_orV ?_
  | with_reducible refine rd_notV ?_
  | with_reducible refine rd_and ?_
  | with_reducible refine rd_or ?_
  | with_reducible refine rd_not ?_
  | with_reducible refine rd_chain ?_
  | with_reducible refine rd_dput ?_
  | with_reducible refine rd_dget ?_
  | with_reducible refine rd_cb ?_
  | with_reducible refine rd_call ?_
  | with_reducible refine rd_un ?_
  | with_reducible refine rd_sl ?_
  | with_reducible refine rd_nopart ?_
  | with_reducible refine rd_part ?_
  | with_reducible refine rd_intP ?_
  | with_reducible refine rd_rU ?_
  | with_reducible refine rd_fld ?_
  | with_reducible refine rd_eqI ?_
  | with_reducible refine rd_neI ?_
  | with_reducible refine rd_mko ?_
  | with_reducible refine rd_bm ?_
  | with_reducible refine rd_gsub ?_
  | with_reducible refine rd_i0 ?_)))
theorem ok_whole_at (T : Tx K mg) (B : Bk K mg T) : FnOk P w K mg base (L2.CX P w) 3 B.whole_at.f B.whole_at.fd ["row", "place"] (spWholeAt T.c_BadRow) := by
  have G_BadRow_init := ok_bad_init (P := P) (w := w) (base := base) T B
  refine B.whole_at.F.okX sc_whole_at (fun vs H Q E h => ?_) (fun cdv A outer s H vs Q E hr h => ?_)
  · obtain ⟨a, row, h, rfl, _⟩ := h
    rfl
  · obtain ⟨a, row, h, rfl, ha, hl, q1, q0⟩ := h
    refine ⟨_, (pss_cons (ps_set (i := 2) sc_whole_at.nd rfl (Or.inl rfl) (pv 1))
      (C8.pss_cut (ps_while (passes_of rfl) (PW.pt (pw_and (pt_cmpR op_lt (pv 2) (pe_callB call_len_seq (by rfl) T.b_len (by decide +kernel) (pa_cons (pv 0) pa_nil)) (nomark _)) (pw_and1 (pt_cmpR op_ge (pe_ix ix_tup (pv 0) (pv 2) (fun _ _ => rfl)) (pe_glob (v := .int 128) (by rfl) T.g_FIGURE_LIMIT ⟨_, rfl⟩) (nomark _))))) (pss_one (ps_aug (i := 2) sc_whole_at.nd rfl (Or.inl rfl) pe_int ip_add)))
      (C8.pss_cut (ps_if (PW.pt (pw_or (pt_cmpR op_eq (pv 2) (pe_callB call_len_seq (by rfl) T.b_len (by decide +kernel) (pa_cons (pv 0) pa_nil)) (nomark _)) (pw_or1 (PW.pt (pw_and (pt_cmpR op_eq (pe_ix ix_tup (pv 0) (pv 2) (fun _ _ => rfl)) pe_int (nomark _)) (pw_and1 (pt_cmpR op_gt (pv 2) (pv 1) (nomark _)))))))) (pss_one (ps_raise rfl (takes_of rfl rfl rfl rfl) (pmk_oex T.x_BadRow B.BadRow_init.a B.BadRow_init.t G_BadRow_init (hr.mono (by decide)) B.BadRow_init.b .nil pass0 rfl T.g_BadRow (pa_cons (pv 1) pa_nil)))) pss_nil)
      (pss_cons (ps_set (i := 3) sc_whole_at.nd rfl (Or.inl rfl) pe_int)
      (pss_cons (ps_for (passes_of rfl) rfl (pi_tup (pe_revT (pe_slice sl_tupA (pv 0) (po_some (pv 1)) (po_some (pe_op op_add (pv 2) pe_int))))) (pg_name (i := 4) sc_whole_at.nd rfl (Or.inl rfl)) (pss_one (ps_set (i := 3) sc_whole_at.nd rfl (Or.inl rfl) (pe_op op_add (pe_op op_mul (pv 3) (pe_glob (v := .int 128) (by rfl) T.g_FIGURE_LIMIT ⟨_, rfl⟩)) (pe_op op_mod (pv 4) (pe_glob (v := .int 128) (by rfl) T.g_FIGURE_LIMIT ⟨_, rfl⟩))))))
      (pss_one (ps_ret (pe_tup (pa_cons (pv 3) (pa_cons (pe_op op_add (pv 2) pe_int) pa_nil)))))))))), ?_⟩
    walk_at "rd"
    generalize hL : lead (row.drop h) = L
    refine ⟨fun σ1 H1 => σ1 = [some (.ref a), some (.int (h : Int)), some (.int ((h + L : Nat) : Int)), none, none] ∧ H1 = H, ?_, ?_⟩
    · refine ⟨fun μ σ H1 => ∃ i : Nat, σ = [some (.ref a), some (.int (h : Int)), some (.int ((h + i : Nat) : Int)), none, none] ∧ H1 = H ∧ h + i ≤ row.length ∧ L = i + lead (row.drop (h + i)) ∧ μ = row.length - (h + i),
        ⟨_, 0, rfl, rfl, hl, by simp [hL], rfl⟩, ?_⟩
      rintro μ σ H1 ⟨i, rfl, rfl, hi, hlead, hμ⟩
      walk_at "rd"
      refine ⟨a, _, rfl, .inr (SqT.of ha.1), ?_⟩
      walk_at "rd"
      rw [List.length_map]
      refine rd_ite (fun h1 => ?_) (fun h1 => ?_)
      · have hlt : h + i < row.length := by
          have := of_decide_eq_true h1
          omega
        obtain ⟨b, eb, ebv⟩ := row_get hlt
        walk_at "rd"
        refine rd_ixT ha.1 (atI_nat ebv) ?_
        walk_at "rd"
        refine rd_ite (fun h2 => ?_) (fun h2 => ?_)
        · refine ⟨fun σ' H' => ∃ m', m' < μ ∧ ∃ i : Nat, σ' = [some (.ref a), some (.int (h : Int)), some (.int ((h + i : Nat) : Int)), none, none] ∧ H' = H1 ∧ h + i ≤ row.length ∧ L = i + lead (row.drop (h + i)) ∧ m' = row.length - (h + i), fun _ _ h => h, ?_⟩
          refine rd_aug rfl ?_
          walk_at "rd"
          refine ⟨_, _, rfl, rfl, ?_⟩
          refine ⟨_, by omega, i + 1, ?_, rfl, hlt, ?_, rfl⟩
          · rw [show ((h + (i + 1) : Nat) : Int) = ((h + i : Nat) : Int) + 1 by omega]
            rfl
          · rw [hlead, lead_ge eb (of_decide_eq_true h2)]
            rw [show h + (i + 1) = h + i + 1 by omega]
            omega
        · have e0 := lead_lt eb (of_decide_eq_false h2)
          have : L = i := by omega
          subst this
          exact ⟨rfl, rfl⟩
      · have e0 : lead (row.drop (h + i)) = 0 := lead_end (by
          have := of_decide_eq_false h1
          omega)
        have : L = i := by omega
        subst this
        refine rd_no rfl ?_
        exact ⟨rfl, rfl⟩
    · rintro σ1 H1 ⟨rfl, rfl⟩
      have lle : h + L ≤ row.length := by
        have := lead_le (row.drop h)
        rw [List.length_drop] at this
        omega
      walk_at "rd"
      refine ⟨fun σ2 H2 => σ2 = [some (.ref a), some (.int (h : Int)), some (.int ((h + L : Nat) : Int)), none, none] ∧ H2 = H1 ∧ whR row h = some (val ((row.drop h).take (L + 1)), h + L + 1) ∧ h + L < row.length, ?_, ?_⟩
      · walk_at "rd"
        refine ⟨a, _, rfl, .inr (SqT.of ha.1), ?_⟩
        walk_at "rd"
        rw [List.length_map]
        refine rd_ite (fun h1 => ?_) (fun h1 => ?_)
        · refine rd_yes rfl ?_
          walk_at "rd"
          refine bad_made (q0 ?_)
          unfold whR
          rw [hL, List.getElem?_eq_none (by have := of_decide_eq_true h1; omega)]
        · have hlt : h + L < row.length := by
            have := of_decide_eq_false h1
            omega
          obtain ⟨b, eb, ebv⟩ := row_get hlt
          have eW : whR row h = if b = 0 ∧ 0 < L then none else some (val ((row.drop h).take (L + 1)), h + L + 1) := by
            unfold whR
            rw [hL, eb]
          walk_at "rd"
          refine rd_ixT ha.1 (atI_nat ebv) ?_
          walk_at "rd"
          refine rd_ite (fun h2 => ?_) (fun h2 => ?_)
          · walk_at "rd"
            refine rd_ite (fun h3 => ?_) (fun h3 => ?_)
            · walk_at "rd"
              refine bad_made (q0 ?_)
              rw [eW, if_pos ⟨of_decide_eq_true h2, by have := of_decide_eq_true h3; omega⟩]
            · refine ⟨rfl, rfl, ?_, hlt⟩
              rw [eW, if_neg (fun z => by have := of_decide_eq_false h3; omega)]
          · refine rd_no rfl ?_
            refine ⟨rfl, rfl, ?_, hlt⟩
            rw [eW, if_neg (fun z => of_decide_eq_false h2 z.1)]
      · rintro σ2 H2 ⟨rfl, rfl, hw, hlt⟩
        walk_at "rd"
        show iTup _ _ _ _ _
        refine rd_itup ?_
        refine rd_revT ?_
        walk_at "rd"
        refine rd_cutA ha.1 fun c H3 s3 hc => ?_
        rw [show ((h + L : Nat) : Int) + 1 = ((h + L + 1 : Nat) : Int) by omega, cutN row h (h + L + 1) hl hlt V.int, show h + L + 1 - h = L + 1 by omega] at hc
        generalize hxs : (row.drop h).take (L + 1) = xs at hc hw
        refine ⟨c, _, rfl, SqT.of hc, fun d nd => ?_⟩
        have s4 := s3.trans (same_new (o := .tup (xs.map V.int).reverse) nd)
        refine ⟨d, rfl, ⟨_, SqT.of upd_same⟩, for_tup (K := K) (a := d) (xs := (xs.map V.int).reverse) (fun i σ H4 => H4 = upd H3 d (.tup (xs.map V.int).reverse) ∧ ∃ u : Option V, σ = [some (.ref a), some (.int (h : Int)), some (.int ((h + L : Nat) : Int)), some (.int (val (xs.drop (xs.length - i)))), u])
          ⟨rfl, none, by rw [Nat.sub_zero, List.drop_length]; rfl⟩ (fun i σ H4 _ hh => by rw [hh.1]; exact SqT.of upd_same) ?_ ?_⟩
        · rintro i y σ H4 hi ⟨rfl, u, rfl⟩
          rw [← List.map_reverse] at hi
          obtain ⟨b, hb, rfl⟩ := mapint_get hi
          walk_at "rd"
          refine rd_iC (.inr ⟨by decide, by decide⟩) ?_
          walk_at "rd"
          refine rd_iC (show (0 : Int) < 128 by decide) ?_
          walk_at "rd"
          refine ⟨rfl, some (.int b), ?_⟩
          rw [val_rev xs i b hb]
        · rintro σ H4 ⟨rfl, u, rfl⟩
          rw [List.length_reverse, List.length_map, Nat.sub_self, List.drop_zero]
          walk_at "rd"
          refine rd_disp rfl fun t nt => ?_
          have := q1 _ _ hw t _ (s4.trans (same_new nt)) (by rw [upd_same])
          exact this
end
end Mw

/-! R9m -/
/-! What is read, by cases. -/
namespace Mw
open PySem L2
theorem appR_cons {α : Type} (l : List α) (a : α) (r : Rs (List α)) : appR l (consR a r) = appR (l ++ [a]) r := by
  cases r with
  | bad e => rfl
  | ok m e =>
    show Rs.ok (l ++ (a :: m)) e = Rs.ok (l ++ [a] ++ m) e
    rw [List.append_assoc]
    rfl
def inn (row : List Int) : Nat → Option (Nat → Rs PyData → Prop)
  | 0 => none
  | n + 1 => some (Rd row n)
theorem rdd {row : List Int} {n h : Nat} {r : Rs PyData} : Rd row n h r ↔ RdB row (inn row n) h r := by
  cases n <;> exact Iff.rfl
theorem rdB_none {row : List Int} {R : Option (Nat → Rs PyData → Prop)} {h : Nat} (l : row.length ≤ h) : RdB row R h (.bad row.length) := by
  unfold RdB
  rw [List.getElem?_eq_none l]
theorem rdB_top {row : List Int} {R : Option (Nat → Rs PyData → Prop)} {h : Nat} {b : Int} (e : row[h]? = some b) (c : 6 < b ∨ (b = 6 ∧ R.isNone = true)) : RdB row R h (.bad h) := by
  unfold RdB
  simp only [e, if_pos c]
theorem rdB_low {row : List Int} {R : Option (Nat → Rs PyData → Prop)} {h : Nat} {b : Int} (e : row[h]? = some b) (c : b < 3) : RdB row R h (.ok (if b = 0 then .none else .bool (decide (b = 2))) (h + 1)) := by
  unfold RdB
  simp only [e, if_neg (show ¬ (6 < b ∨ (b = 6 ∧ R.isNone = true)) by omega), if_pos c]
theorem rdB_wh {row : List Int} {R : Option (Nat → Rs PyData → Prop)} {h : Nat} {b : Int} (e : row[h]? = some b) (c : ¬ (6 < b ∨ (b = 6 ∧ R.isNone = true))) (d : ¬ b < 3) (w : whR row (h + 1) = none) : RdB row R h (.bad (h + 1)) := by
  unfold RdB
  simp only [e, if_neg c, if_neg d, w]
theorem rdB_int {row : List Int} {R : Option (Nat → Rs PyData → Prop)} {h f : Nat} {b n : Int} (e : row[h]? = some b) (d : ¬ b < 3) (c : b < 5) (w : whR row (h + 1) = some (n, f)) : RdB row R h (.ok (.int (if b = 3 then n else -1 - n)) f) := by
  unfold RdB
  simp only [e, if_neg (show ¬ (6 < b ∨ (b = 6 ∧ R.isNone = true)) by omega), if_neg d, w, if_pos c]
theorem rdB_s0 {row : List Int} {R : Option (Nat → Rs PyData → Prop)} {h f : Nat} {b n : Int} (e : row[h]? = some b) (c : b = 5) (w : whR row (h + 1) = some (n, f)) (k : n = 0 ∨ 20 < n) : RdB row R h (.bad (h + 1)) := by
  subst c
  unfold RdB
  simp only [e, w, if_pos k]
  simp
theorem rdB_s1 {row : List Int} {R : Option (Nat → Rs PyData → Prop)} {h f : Nat} {b n : Int} (e : row[h]? = some b) (c : b = 5) (w : whR row (h + 1) = some (n, f)) (k : ¬ (n = 0 ∨ 20 < n)) : RdB row R h (strD (strR row n.toNat f)) := by
  subst c
  unfold RdB
  simp only [e, w, if_neg k]
  simp
theorem rdB_tup {row : List Int} {R : Nat → Rs PyData → Prop} {h f : Nat} {b n : Int} {r : Rs (List PyData)} (e : row[h]? = some b) (c : b = 6) (w : whR row (h + 1) = some (n, f)) (k : Its R n.toNat f r) : RdB row (some R) h (tupD r) := by
  subst c
  unfold RdB
  simp only [e, w]
  simp
  exact ⟨r, k, rfl⟩
end Mw

/-! R9 -/
namespace Mw
open PySem L2
def spPA (CP : Addr → Prop) (C : Addr) (n : Nat) : Sp := fun vs H Q E => ∃ (a : Addr) (row : List Int) (h : Nat), vs = [.ref a, .int (h : Int), .int (n : Int)] ∧ RowAt H a row ∧
  (∀ d e, Rd row n h (.ok d e) → ∀ t v H', Same H H' → H' t = some (.tup [v, .int (e : Nat)]) → Dt CP [] H' d v → Q (.ref t) H') ∧ (∀ e, Rd row n h (.bad e) → ∀ H', Same H H' → Raised C (.int (e : Nat)) H' E)
def spTA (CP : Addr → Prop) (C : Addr) (n : Nat) : Sp := fun vs H Q E => ∃ (a : Addr) (row : List Int) (h m n' : Nat), n = n' + 1 ∧ vs = [.ref a, .int (h : Int), .int (m : Int), .int (n : Int)] ∧ RowAt H a row ∧ h ≤ row.length ∧
  (∀ ds e, Its (Rd row n') m h (.ok ds e) → ∀ t v H', Same H H' → H' t = some (.tup [v, .int (e : Nat)]) → Dt CP [] H' (.tuple ds) v → Q (.ref t) H') ∧ (∀ e, Its (Rd row n') m h (.bad e) → ∀ H', Same H H' → Raised C (.int (e : Nat)) H' E)
section
variable {P : Program} {w : World} {K : PySem.W.Frag} {mg : Str → Option Value} {base : Heap}
local macro_rules | `(tactic| walk_at "rd") => `(tactic| (repeat (first
  | ((with_reducible refine' rd_var ?h0 ?_); (case h0 => rfl))
  | with_reducible refine rd_c ?_
  | with_reducible refine rd_op ?_
  | with_reducible refine rd_nil ?_
  | with_reducible refine rd_cons ?_
  | with_reducible refine rd_tup ?_
  | with_reducible refine rd_lst ?_
  | with_reducible refine rd_ifs ?_
  | with_reducible refine rd_seq ?_
  | with_reducible refine rd_next ?_
  | with_reducible refine rd_ret ?_
  | with_reducible refine rd_asg ?_
  | ((with_reducible refine' rd_gset ?hs ?_); (case hs => ((simp only [L2.start, List.map_cons, List.map_nil, List.length_cons, List.length_nil, List.cons_append, List.nil_append, List.set_cons_zero, List.set_cons_succ, Nat.reduceAdd, Nat.reduceSub, Nat.zero_add, List.reduceReplicate]); rfl)))
  | with_reducible refine rd_drop ?_
  | with_reducible refine rd_test ?_
  | with_reducible refine rd_B ?_
  | with_reducible refine rd_bl ?_
  | with_reducible refine rd_blP ?_
  | with_reducible refine rd_andV ?_
  | with_reducible refine rd_orV ?_
  | with_reducible refine rd_notV ?_
  | with_reducible refine rd_and ?_
  | with_reducible refine rd_or ?_
  | with_reducible refine rd_not ?_
  | with_reducible refine rd_chain ?_
  | with_reducible refine rd_dput ?_
  | with_reducible refine rd_dget ?_
  | with_reducible refine rd_cb ?_
  | with_reducible refine rd_call ?_
  | with_reducible refine rd_un ?_
  | with_reducible refine rd_sl ?_
  | with_reducible refine rd_nopart ?_
  | with_reducible refine rd_part ?_
  | with_reducible refine rd_intP ?_
  | with_reducible refine rd_rU ?_
  | with_reducible refine rd_fld ?_
  | with_reducible refine rd_eqI ?_
  | with_reducible refine rd_neI ?_
  | with_reducible refine rd_mko ?_
  | with_reducible refine rd_bm ?_
  | with_reducible refine rd_gsub ?_
  | with_reducible refine rd_i0 ?_)))
theorem ok_string_at (T : Tx K mg) (B : Bk K mg T) : FnOk P w K mg base (L2.CX P w) 4 B.string_at.f B.string_at.fd ["row", "place", "many"] (spStringAt T.c_BadRow) := by
  have G_check_there := ok_check_there (P := P) (w := w) (base := base) T B
  have G_is_sign := ok_is_sign (P := P) (w := w) (base := base) T B
  have G_BadRow_init := ok_bad_init (P := P) (w := w) (base := base) T B
  refine B.string_at.F.okX sc_string_at (fun vs H Q E h => ?_) (fun cdv A outer s H vs Q E hr h => ?_)
  · obtain ⟨a, row, h, m, rfl, _⟩ := h
    rfl
  · obtain ⟨a, row, h, m, rfl, ha, hl, hm, q1, q0⟩ := h
    have hle := ha.le
    refine ⟨_, (pss_cons (ps_set (i := 3) sc_string_at.nd rfl (Or.inl rfl) (pe_lst pa_nil))
      (pss_cons (ps_for (passes_of rfl) rfl (pi_range2 (by rfl) T.b_range (pa_cons (pv 1) (pa_cons (pe_op op_add (pv 1) (pv 2)) pa_nil))) (pg_name (i := 4) sc_string_at.nd rfl (Or.inl rfl)) (pss_cons (ps_expr (pe_call G_check_there (hr.mono (by decide)) rfl B.check_there.m B.check_there.F.kp B.check_there.b .nil (passes_call (takes_of rfl rfl rfl rfl) (fun _ _ _ _ h => h)) (pa_cons (pv 0) (pa_cons (pv 4) pa_nil))))
      (pss_cons (ps_if (pt_not (pt_val (pe_call G_is_sign (hr.mono (by decide)) rfl B.is_sign.m B.is_sign.F.kp B.is_sign.b .nil pass0 (pa_cons (pe_ix ix_tup (pv 0) (pv 4) (fun _ _ => rfl)) pa_nil)))) (pss_one (ps_raise rfl (takes_of rfl rfl rfl rfl) (pmk_oex T.x_BadRow B.BadRow_init.a B.BadRow_init.t G_BadRow_init (hr.mono (by decide)) B.BadRow_init.b .nil pass0 rfl T.g_BadRow (pa_cons (pv 4) pa_nil)))) pss_nil)
      (pss_one (ps_expr (pe_bm PySem.F.plainAttrs_list PySem.F.slot_list_append PySem.F.type_list_append mt_append (pv 3) (pa_cons (pe_ix ix_str (pe_glob (v := .str SC_SIGNS) (by rfl) T.g_SIGNS ⟨_, rfl⟩) (pe_op op_sub (pe_ix ix_tup (pv 0) (pv 4) (fun _ _ => rfl)) (pe_glob (v := .int 32) (by rfl) T.g_LEAST_SIGN ⟨_, rfl⟩)) (fun _ _ => rfl)) pa_nil)))))))
      (pss_one (ps_ret (pe_tup (pa_cons (pe_join pe_str (pv 3)) (pa_cons (pe_op op_add (pv 1) (pv 2)) pa_nil))))))), ?_⟩
    walk_at "rd"
    refine rd_disp rfl fun l nl => ?_
    have s1 := same_new (o := .lst []) nl
    walk_at "rd"
    show iRng2 _ _ _ _
    refine rd_rng2' ?_
    walk_at "rd"
    refine ⟨h, (h : Int) + m, rfl, ⟨by omega, by omega, by omega, by omega⟩, ?_⟩
    rw [show ((h : Int) + m - h).toNat = m by omega]
    refine for_range (lo := (h : Int)) (n := m) (fun i σ H1 => ∃ (cs : List Nat) (u : Option V), σ = [some (.ref a), some (.int (h : Int)), some (.int (m : Int)), some (.ref l), u] ∧ cs.length = i ∧ Same H H1 ∧ H1 l = some (.lst (cs.map fun c => V.str ⟨#[c]⟩)) ∧ strR row m h = appR cs (strR row (m - i) (h + i)))
      ⟨[], none, rfl, rfl, s1, upd_same, by
        rw [Nat.sub_zero, Nat.add_zero]
        cases strR row m h <;> rfl⟩ ?_ ?_
    · rintro i σ H1 hi ⟨cs, u, rfl, hlc, hs, hacc, hst⟩
      obtain ⟨k, hk⟩ : ∃ k, m - i = k + 1 := ⟨m - i - 1, by omega⟩
      rw [hk] at hst
      have eH : ((h : Int) + (i : Nat)) = ((h + i : Nat) : Int) := by omega
      walk_at "rd"
      rw [eH]
      refine ⟨a, row, h + i, rfl, ha.same hs, fun hlt => ?_, fun hge => ?_⟩
      · obtain ⟨b, eb, ebv⟩ := row_get hlt
        have e2 : strR row (k + 1) (h + i) = if isSign b = true then consR b.toNat (strR row k (h + i + 1)) else .bad (h + i) := by
          show (match row[h + i]? with | none => _ | some b => _) = _
          rw [eb]
        rw [e2] at hst
        walk_at "rd"
        refine rd_ixT (hs _ _ ha.1) (atI_nat ebv) ?_
        walk_at "rd"
        refine ⟨b, rfl, ?_⟩
        walk_at "rd"
        refine rd_ite (fun h1 => ?_) (fun h1 => ?_)
        · walk_at "rd"
          refine bad_made (q0 _ ?_ _ hs)
          rw [hst, if_neg (by simpa using h1)]
          rfl
        · have h1' : isSign b = true := by simpa using h1
          walk_at "rd"
          refine ⟨.inl ⟨rfl, _, SqL.of hacc⟩, ?_⟩
          walk_at "rd"
          refine rd_ixT (hs _ _ ha.1) (atI_nat ebv) ?_
          walk_at "rd"
          have b32 : 32 ≤ b := by
            have := h1'
            unfold isSign at this
            simp only [Bool.and_eq_true, decide_eq_true_eq] at this
            omega
          refine ⟨_, b - 32, b.toNat, rfl, rfl, by decide, at_of (j := (b - 32).toNat) (by omega) (sign_at h1'), ?_⟩
          walk_at "rd"
          refine rd_append hacc (small' (by rw [List.length_map]; omega)) ?_
          refine ⟨cs ++ [b.toNat], _, rfl, by simp [hlc], fun x o ex => (upd_ne (ne_of_none ex nl)).trans (hs x o ex), ?_, ?_⟩
          · rw [upd_same, List.map_append]
            rfl
          · rw [hst, if_pos h1', appR_cons, show m - (i + 1) = k by omega, show h + (i + 1) = h + i + 1 by omega]
      · refine Raised.of (q0 _ ?_ _ (Same.refl H)) hs
        rw [hst]
        show appR cs (match row[h + i]? with | none => _ | some b => _) = _
        rw [List.getElem?_eq_none hge]
        rfl
    · rintro σ H1 ⟨cs, u, rfl, hlc, hs, hacc, hst⟩
      walk_at "rd"
      refine rd_join ?_
      walk_at "rd"
      refine ⟨⟨_, rfl⟩, ?_⟩
      walk_at "rd"
      refine ⟨"", l, cs.map fun c => (⟨#[c]⟩ : Str), rfl, rfl, .inl (SqL.of (by rw [hacc, List.map_map]; rfl)), join_ok (by omega), ?_⟩
      rw [show (Str.ofString "") = ("" : Str) from rfl, join_one]
      walk_at "rd"
      refine rd_disp rfl fun t nt => ?_
      refine q1 cs (h + m) ?_ t _ (hs.trans (same_new nt)) ?_
      · rw [hst, Nat.sub_self]
        show appR cs (.ok [] (h + m)) = _
        show Rs.ok (cs ++ []) (h + m) = _
        rw [List.append_nil]
      · rw [upd_same]
        rfl
theorem ta_of (T : Tx K mg) (B : Bk K mg T) {n k : Nat} (hk : 6 ≤ k) (G_parcel_at : FnOk P w K mg base (L2.CX P w) k B.parcel_at.f B.parcel_at.fd ["row", "place", "deep"] (spPA T.CP T.c_BadRow n)) :
    FnOk P w K mg base (L2.CX P w) (k + 1) B.tuple_at.f B.tuple_at.fd ["row", "place", "many", "deep"] (spTA T.CP T.c_BadRow (n + 1)) := by
  refine B.tuple_at.F.okX sc_tuple_at (fun vs H Q E h => ?_) (fun cdv A outer s H vs Q E hr h => ?_)
  · obtain ⟨a, row, h, m, n', _, rfl, _⟩ := h
    rfl
  · obtain ⟨a, row, h, m, n', hn, rfl, ha, hl, q1, q0⟩ := h
    have : n = n' := by omega
    subst this
    have hle := ha.le
    refine ⟨_, (pss_cons (ps_set (i := 4) sc_tuple_at.nd rfl (Or.inl rfl) (pe_lst pa_nil))
      (pss_cons (ps_set (i := 5) sc_tuple_at.nd rfl (Or.inl rfl) (pv 1))
      (pss_cons (ps_while (passes_of rfl) (pt_cmpR op_lt (pe_callB call_len_seq (by rfl) T.b_len (by decide +kernel) (pa_cons (pv 4) pa_nil)) (pv 2) (nomark _)) (pss_cons (ps_asg (pe_call G_parcel_at (hr.mono (by omega)) rfl B.parcel_at.m B.parcel_at.F.kp B.parcel_at.b .nil (passes_call (takes_of rfl rfl rfl rfl) (fun _ _ _ _ h => h)) (pa_cons (pv 0) (pa_cons (pv 5) (pa_cons (pe_op op_sub (pv 3) pe_int) pa_nil)))) (pg_tup (by rfl) (pgs_cons (pg_name (i := 6) sc_tuple_at.nd rfl (Or.inl rfl)) (pgs_cons (pg_name (i := 5) sc_tuple_at.nd rfl (Or.inl rfl)) pgs_nil))))
      (pss_one (ps_expr (pe_bm PySem.F.plainAttrs_list PySem.F.slot_list_append PySem.F.type_list_append mt_append (pv 4) (pa_cons (pv 6) pa_nil))))))
      (pss_one (ps_ret (pe_tup (pa_cons (pe_callTy call_tuple_of (by rfl) T.b_tuple (by decide +kernel) (pa_cons (pv 4) pa_nil)) (pa_cons (pv 5) pa_nil)))))))), ?_⟩
    walk_at "rd"
    refine rd_disp rfl fun l nl => ?_
    have s1 := same_new (o := .lst []) nl
    walk_at "rd"
    refine ⟨fun μ σ H1 => ∃ (ds : List PyData) (vs : List V) (h2 : Nat) (u : Option V), σ = [some (.ref a), some (.int (h : Int)), some (.int (m : Int)), some (.int ((n + 1 : Nat) : Int)), some (.ref l), some (.int (h2 : Int)), u] ∧ Same H H1 ∧ H1 l = some (.lst vs) ∧ DtAll T.CP [] H1 ds vs ∧ plainAll ds = true ∧ Run (Rd row n) h ds h2 ∧ h2 ≤ row.length ∧ ds.length + h ≤ h2 ∧ ds.length ≤ m ∧ μ = row.length - h2,
      ⟨_, [], [], h, none, rfl, s1, upd_same, dtAll_nil, rfl, Run.nil, hl, by simp, Nat.zero_le _, rfl⟩, ?_⟩
    rintro μ σ H1 ⟨ds, vs, h2, u, rfl, hs, hacc, hds, hpl, hrun, hh2, hlen, hdm, hμ⟩
    have hlv := hds.len
    walk_at "rd"
    refine ⟨l, vs, rfl, .inl (SqL.of hacc), ?_⟩
    walk_at "rd"
    rw [← hlv]
    refine rd_ite (fun h1 => ?_) (fun h1 => ?_)
    · have hlt : ds.length < m := by
        have := of_decide_eq_true h1
        omega
      refine ⟨fun σ' H' => ∃ m', m' < μ ∧ ∃ (ds : List PyData) (vs : List V) (h2 : Nat) (u : Option V), σ' = [some (.ref a), some (.int (h : Int)), some (.int (m : Int)), some (.int ((n + 1 : Nat) : Int)), some (.ref l), some (.int (h2 : Int)), u] ∧ Same H H' ∧ H' l = some (.lst vs) ∧ DtAll T.CP [] H' ds vs ∧ plainAll ds = true ∧ Run (Rd row n) h ds h2 ∧ h2 ≤ row.length ∧ ds.length + h ≤ h2 ∧ ds.length ≤ m ∧ m' = row.length - h2, fun _ _ h => h, ?_⟩
      walk_at "rd"
      refine ⟨a, row, h2, ?_, ha.same hs, fun d e hR t v H2 s2 ht hd => ?_, fun e hR H2 s2 => ?_⟩
      · rw [show ((n + 1 : Nat) : Int) - 1 = (n : Int) by omega]
        rfl
      · have hlee := rd_le hR
        have hs2 := hs.trans s2
        have nl2 := s2 _ _ hacc
        walk_at "rd"
        refine ⟨t, _, rfl, SqT.of ht, rfl, _, _, rfl, _, _, rfl, rfl, ?_⟩
        walk_at "rd"
        refine ⟨.inl ⟨rfl, _, SqL.of nl2⟩, ?_⟩
        walk_at "rd"
        refine rd_append nl2 (small' (by omega)) ?_
        have hp2 : plainAll (ds ++ [d]) = true := by
          rw [plain_app, hpl]
          show (true && (plainD d && true)) = true
          rw [rd_plain hR]
          rfl
        refine ⟨_, by omega, ds ++ [d], vs ++ [v], e, _, rfl, fun x o ex => (upd_ne (ne_of_none ex nl)).trans (hs2 x o ex), upd_same, DtAll.plain (M := []) (KT.mut nl2 fun _ z => by cases z) _ _ hp2 ((hds.s s2).snoc hd), hp2, hrun.snoc hR, hlee.2, by simp; omega, by simp; omega, rfl⟩
      · exact q0 e (run_bad hrun hlt hR) H2 (hs.trans s2)
    · have hend : ds.length = m := by
        have := of_decide_eq_false h1
        omega
      walk_at "rd"
      refine ⟨l, vs, rfl, .inl ⟨SqL.of hacc, fun u nu => ?_⟩⟩
      have s2 := hs.trans (same_new (o := .tup vs) nu)
      walk_at "rd"
      refine rd_disp rfl fun t nt => ?_
      have s3 := same_new (o := .tup [.ref u, .int (h2 : Int)]) nt
      have hI := run_end hrun
      rw [hend] at hI
      refine q1 ds h2 hI t (.ref u) _ (s2.trans s3) upd_same (dt_tup (s3 _ _ upd_same) ((hds.s (same_new nu)).s s3))
end
end Mw

/-! R10m -/
/-! Sizes, marks, seals. -/
namespace Mw
open PySem L2
mutual
def szd : PyData → Nat
  | .str s => s.length + 1
  | .tuple ds => szdAll ds + 1
  | .none | .bool _ | .int _ | .list _ | .dict _ => 1
def szdAll : List PyData → Nat
  | [] => 0
  | d :: ds => szd d + szdAll ds
end
theorem szd_pos (d : PyData) : 1 ≤ szd d := by
  cases d <;> simp [szd]
theorem szdAll_len : ∀ ds : List PyData, ds.length ≤ szdAll ds
  | [] => Nat.zero_le _
  | d :: ds => by
    have := szd_pos d
    have := szdAll_len ds
    show ds.length + 1 ≤ szd d + szdAll ds
    omega
theorem szdAll_get : ∀ {ds : List PyData} {i : Nat} {d : PyData}, ds[i]? = some d → szd d ≤ szdAll ds
  | [], i, d, e => by simp at e
  | c :: ds, 0, d, e => by
    cases e
    show szd c ≤ szd c + szdAll ds
    omega
  | c :: ds, i + 1, d, e => by
    have := szdAll_get (ds := ds) (i := i) (d := d) (by simpa using e)
    show szd d ≤ szd c + szdAll ds
    omega
mutual
theorem szd_by : ∀ {n : Nat} (d : PyData), isPc n d = true → szd d ≤ (byD d).length
  | n, .none, _ => Nat.le_refl _
  | n, .bool _, _ => Nat.le_refl _
  | n, .int i, _ => by
    show 1 ≤ (if 0 ≤ i then (3 : Int) :: wh i.toNat else 4 :: wh (-1 - i).toNat).length
    split <;> simp
  | n, .str s, h => by
    show s.length + 1 ≤ ((5 : Int) :: (wh s.length ++ sgn s)).length
    rw [List.length_cons, List.length_append, sgn_len]
    omega
  | n, .list _, h => by simp [isPc] at h
  | n, .dict _, h => by simp [isPc] at h
  | n, .tuple ds, h => by
    simp only [isPc, Bool.and_eq_true, decide_eq_true_eq] at h
    have := szdAll_by ds h.2
    show szdAll ds + 1 ≤ ((6 : Int) :: (wh ds.length ++ byAll ds)).length
    rw [List.length_cons, List.length_append]
    omega
theorem szdAll_by : ∀ {n : Nat} (ds : List PyData), isPcAll n ds = true → szdAll ds ≤ (byAll ds).length
  | n, [], _ => Nat.le_refl _
  | n, d :: ds, h => by
    simp only [isPcAll, Bool.and_eq_true] at h
    have := szd_by d h.1
    have := szdAll_by ds h.2
    show szd d + szdAll ds ≤ (byD d ++ byAll ds).length
    rw [List.length_append]
    omega
end
def inB (b : Int) : Prop := 0 ≤ b ∧ b < 256
theorem wh_by : ∀ (k n : Nat), n ≤ k → ∀ b ∈ wh n, inB b
  | 0, n, h, b, hb => by
    rw [wh_lt (by omega)] at hb
    have : b = (n : Int) := by simpa using hb
    unfold inB
    omega
  | k + 1, n, h, b, hb => by
    by_cases c : n < 128
    · rw [wh_lt c] at hb
      have : b = (n : Int) := by simpa using hb
      unfold inB
      omega
    · rw [wh_ge c] at hb
      rcases List.mem_cons.mp hb with e | e
      · unfold inB
        omega
      · exact wh_by k (n / 128) (by omega) b e
mutual
theorem byD_by : ∀ {n : Nat} (d : PyData), isPc n d = true → ∀ b ∈ byD d, inB b
  | n, .none, _, b, hb => by
    have : b = 0 := by simpa [byD] using hb
    unfold inB
    omega
  | n, .bool c, _, b, hb => by
    have : b = (if c then 2 else 1) := by simpa [byD] using hb
    unfold inB
    split at this <;> omega
  | n, .int i, _, b, hb => by
    have hb' : b ∈ (if 0 ≤ i then (3 : Int) :: wh i.toNat else 4 :: wh (-1 - i).toNat) := hb
    split at hb'
    · rcases List.mem_cons.mp hb' with e | e
      · unfold inB
        omega
      · exact wh_by _ _ (Nat.le_refl _) b e
    · rcases List.mem_cons.mp hb' with e | e
      · unfold inB
        omega
      · exact wh_by _ _ (Nat.le_refl _) b e
  | n, .str s, h, b, hb => by
    have hb' : b ∈ (5 : Int) :: (wh s.length ++ sgn s) := hb
    rcases List.mem_cons.mp hb' with e | e
    · unfold inB
      omega
    · rcases List.mem_append.mp e with e | e
      · exact wh_by _ _ (Nat.le_refl _) b e
      · have h' : okStr s = true := h
        unfold okStr at h'
        simp only [Bool.and_eq_true, decide_eq_true_eq] at h'
        have := List.all_eq_true.mp h'.2 b e
        unfold isSign at this
        simp only [Bool.and_eq_true, decide_eq_true_eq] at this
        unfold inB
        omega
  | n, .list _, h, b, hb => by simp [isPc] at h
  | n, .dict _, h, b, hb => by simp [isPc] at h
  | n, .tuple ds, h, b, hb => by
    simp only [isPc, Bool.and_eq_true, decide_eq_true_eq] at h
    have hb' : b ∈ (6 : Int) :: (wh ds.length ++ byAll ds) := hb
    rcases List.mem_cons.mp hb' with e | e
    · unfold inB
      omega
    · rcases List.mem_append.mp e with e | e
      · exact wh_by _ _ (Nat.le_refl _) b e
      · exact byAll_by ds h.2 b e
theorem byAll_by : ∀ {n : Nat} (ds : List PyData), isPcAll n ds = true → ∀ b ∈ byAll ds, inB b
  | n, [], _, b, hb => by cases hb
  | n, d :: ds, h, b, hb => by
    simp only [isPcAll, Bool.and_eq_true] at h
    have hb' : b ∈ byD d ++ byAll ds := hb
    rcases List.mem_append.mp hb' with e | e
    · exact byD_by d h.1 b e
    · exact byAll_by ds h.2 b e
end
def mkF (f b : Int) : Int := (f * 1000003 + b + 1) % 2305843009213693951
def markL (row : List Int) : Int := row.foldl mkF 1
theorem markL_snoc (r : List Int) (b : Int) : markL (r ++ [b]) = mkF (markL r) b := by
  unfold markL
  rw [List.foldl_append]
  rfl
theorem mkF_b (f b : Int) : 0 ≤ mkF f b ∧ mkF f b < 2305843009213693951 := ⟨Int.emod_nonneg _ (by decide), Int.emod_lt_of_pos _ (by decide)⟩
theorem fold_b : ∀ (row : List Int) (f : Int), 0 ≤ f ∧ f < 2305843009213693951 → 0 ≤ row.foldl mkF f ∧ row.foldl mkF f < 2305843009213693951
  | [], f, h => h
  | b :: row, f, h => fold_b row (mkF f b) (mkF_b f b)
theorem markL_b (row : List Int) : 0 ≤ markL row ∧ markL row < 2305843009213693951 := fold_b row 1 (by decide)
def sk : Nat → Int → List Int
  | 0, _ => []
  | k + 1, m => m % 256 :: sk k (m / 256)
def sealL (row : List Int) : List Int := sk 4 (markL row)
theorem sk_by : ∀ (k : Nat) (m : Int), ∀ b ∈ sk k m, inB b
  | 0, m, b, hb => by cases hb
  | k + 1, m, b, hb => by
    rcases List.mem_cons.mp (show b ∈ m % 256 :: sk k (m / 256) from hb) with e | e
    · unfold inB
      omega
    · exact sk_by k _ b e
theorem sk_len : ∀ (k : Nat) (m : Int), (sk k m).length = k
  | 0, m => rfl
  | k + 1, m => by
    show (sk k (m / 256)).length + 1 = k + 1
    rw [sk_len k]
theorem sealL_len (row : List Int) : (sealL row).length = 4 := sk_len 4 _
def body (row : List Int) : List Int := row.take (row.length - 4)
def tail4 (row : List Int) : List Int := row.drop (row.length - 4)
theorem body_tail (row : List Int) : body row ++ tail4 row = row := List.take_append_drop _ _
def SealOk (row : List Int) : Prop := sealL (body row) = tail4 row
theorem seal_iff (row : List Int) : SealOk row ↔ body row ++ sealL (body row) = row := by
  unfold SealOk
  constructor
  · intro h
    rw [h, body_tail]
  · intro h
    have := body_tail row
    exact List.append_cancel_left (h.trans this.symm)
theorem seal_len {row : List Int} (h : SealOk row) : 4 ≤ row.length := by
  have e := (seal_iff row).mp h
  rw [← e, List.length_append, sealL_len]
  omega
theorem seal_of (row : List Int) : SealOk (row ++ sealL row) ∧ body (row ++ sealL row) = row := by
  have e : body (row ++ sealL row) = row := by
    unfold body
    rw [List.length_append, sealL_len, Nat.add_sub_cancel, List.take_left]
  refine ⟨?_, e⟩
  rw [seal_iff, e]
theorem eqv_ints : ∀ xs ys : List Int, PyData.eqvAll (xs.map PyData.int) (ys.map PyData.int) = decide (xs = ys)
  | [], [] => rfl
  | [], y :: ys => rfl
  | x :: xs, [] => rfl
  | x :: xs, y :: ys => by
    show ((x == y) && PyData.eqvAll (xs.map PyData.int) (ys.map PyData.int)) = _
    rw [eqv_ints xs ys]
    by_cases h : x = y
    · subst h
      simp
    · simp [h]
theorem ints_lay : ∀ xs : List Int, PyData.canLayAll0 (xs.map PyData.int) = true
  | [] => rfl
  | x :: xs => by
    show (true && PyData.canLayAll0 (xs.map PyData.int)) = true
    rw [ints_lay xs]
    rfl
theorem ints_depth : ∀ xs : List Int, PyData.depthAll (xs.map PyData.int) = 0
  | [] => rfl
  | x :: xs => by
    show max 0 (PyData.depthAll (xs.map PyData.int)) = 0
    rw [ints_depth xs]
    rfl
theorem ints_shaped (xs : List Int) : SeqAt.shaped (.tuple (xs.map PyData.int)) = true := by
  unfold SeqAt.shaped
  show (PyData.canLayAll0 (xs.map PyData.int) && decide (PyData.depthAll (xs.map PyData.int) + 1 ≤ 64)) = true
  rw [ints_lay, ints_depth]
  rfl
/-- what a row is sealed of -/
def OpD (row : List Int) (D : PyData) : Prop :=
  (SealOk row ∧ ∃ d, Rd (body row) 20 0 (.ok d (body row).length) ∧ D = .tuple [d]) ∨
  ((¬ SealOk row ∨ (∃ e, Rd (body row) 20 0 (.bad e)) ∨ ∃ d e, Rd (body row) 20 0 (.ok d e) ∧ e ≠ (body row).length) ∧ D = .tuple [])
theorem opD_det {row : List Int} {D1 D2 : PyData} (a : OpD row D1) (b : OpD row D2) : D1 = D2 := by
  rcases a with ⟨a1, d1, r1, e1⟩ | ⟨a1, e1⟩
  · rcases b with ⟨b1, d2, r2, e2⟩ | ⟨b1, e2⟩
    · have := rd_det r1 r2
      injection this with z1 z2
      rw [e1, e2, z1]
    · rcases b1 with b1 | ⟨e, b1⟩ | ⟨d, e, b1, ne⟩
      · exact absurd a1 b1
      · have := rd_det r1 b1
        cases this
      · have := rd_det r1 b1
        injection this with z1 z2
        exact absurd z2.symm ne
  · rcases b with ⟨b1, d2, r2, e2⟩ | ⟨b1, e2⟩
    · rcases a1 with a1 | ⟨e, a1⟩ | ⟨d, e, a1, ne⟩
      · exact absurd b1 a1
      · have := rd_det r2 a1
        cases this
      · have := rd_det r2 a1
        injection this with z1 z2
        exact absurd z2.symm ne
    · rw [e1, e2]
end Mw

/-! R10 -/
namespace Mw
open PySem L2
/-- what a row tells as a whole -/
def spParcelOf (CP : Addr → Prop) (C CR : Addr) : Sp := fun vs H Q E => ∃ (a : Addr) (row : List Int), vs = [.ref a] ∧ RowAt H a row ∧
  (∀ d, Rd row 20 0 (.ok d row.length) → ∀ v H', Same H H' → Dt CP [] H' d v → Q v H') ∧
  (∀ d e, Rd row 20 0 (.ok d e) → e ≠ row.length → ∀ H', Same H H' → Raised C (.int (e : Nat)) H' E) ∧
  (∀ e, Rd row 20 0 (.bad e) → ∀ H', Same H H' → Raised C (.int (e : Nat)) H' E)
def spIpw (CP : Addr → Prop) (n : Nat) : Sp := fun vs H Q _ => ∃ (M : List Addr) (d : PyData) (x : V) (deep : Nat), vs = [.int (deep : Int), x] ∧ Dt CP M H d x ∧ deep < n ∧ szd d ≤ 900000 ∧ ∀ H', Same H H' → Q (.bl (isPc deep d)) H'
def spIsParcel (CP : Addr → Prop) : Sp := fun vs H Q _ => ∃ M d x, vs = [x] ∧ Dt CP M H d x ∧ szd d ≤ 900000 ∧ ∀ H', Same H H' → Q (.bl (isPc 20 d)) H'
def spRowOf (CP : Addr → Prop) (C : Addr) : Sp := fun vs H Q E => ∃ M d x, vs = [x] ∧ Dt CP M H d x ∧ szd d ≤ 900000 ∧ (isPc 20 d = true → (byD d).length ≤ 900000) ∧
  (isPc 20 d = true → ∀ t H', Same H H' → H' t = some (.tup ((byD d).map V.int)) → Q (.ref t) H') ∧ (isPc 20 d = false → ∀ H', Same H H' → E (.ref C) none H')
theorem row_dt {CP : Addr → Prop} {M : List Addr} {H : Hp} {a : Addr} {row : List Int} (h : H a = some (.tup (row.map V.int))) : Dt CP M H (.tuple (row.map PyData.int)) (.ref a) := dt_tup h (dt_ints row)
theorem row_isD {row : List Int} (h : ∀ b ∈ row, 0 ≤ b ∧ b < 256) : isRowD (.tuple (row.map PyData.int)) = true := by
  show ((row.map PyData.int).map isByte).all id = true
  rw [List.all_eq_true]
  intro x hx
  rw [List.map_map] at hx
  obtain ⟨b, hb, rfl⟩ := List.mem_map.mp hx
  have := h b hb
  show (decide (0 ≤ b) && decide (b < 256)) = true
  rw [decide_eq_true this.1, decide_eq_true this.2]
  rfl
section
variable {P : Program} {w : World} {K : PySem.W.Frag} {mg : Str → Option Value} {base : Heap}
local macro_rules | `(tactic| walk_at "rd") => `(tactic| (repeat (first
  | ((with_reducible refine' rd_var ?h0 ?_); (case h0 => rfl))
  | with_reducible refine rd_c ?_
  | with_reducible refine rd_op ?_
  | with_reducible refine rd_nil ?_
  | with_reducible refine rd_cons ?_
  | with_reducible refine rd_tup ?_
  | with_reducible refine rd_lst ?_
  | with_reducible refine rd_ifs ?_
  | with_reducible refine rd_seq ?_
  | with_reducible refine rd_next ?_
  | with_reducible refine rd_ret ?_
  | with_reducible refine rd_asg ?_
  | ((with_reducible refine' rd_gset ?hs ?_); (case hs => ((simp only [L2.start, List.map_cons, List.map_nil, List.length_cons, List.length_nil, List.cons_append, List.nil_append, List.set_cons_zero, List.set_cons_succ, Nat.reduceAdd, Nat.reduceSub, Nat.zero_add, List.reduceReplicate]); rfl)))
  | with_reducible refine rd_drop ?_
  | with_reducible refine rd_test ?_
  | with_reducible refine rd_B ?_
  | with_reducible refine rd_bl ?_
  | with_reducible refine rd_blP ?_
  | with_reducible refine rd_andV ?_
  | with_reducible refine rd_orV ?_
  | with_reducible refine rd_notV ?_
  | with_reducible refine rd_and ?_
  | with_reducible refine rd_or ?_
  | with_reducible refine rd_not ?_
  | with_reducible refine rd_chain ?_
  | with_reducible refine rd_dput ?_
  | with_reducible refine rd_dget ?_
  | with_reducible refine rd_cb ?_
  | with_reducible refine rd_call ?_
  | with_reducible refine rd_un ?_
  | with_reducible refine rd_sl ?_
  | with_reducible refine rd_nopart ?_
  | with_reducible refine rd_part ?_
  | with_reducible refine rd_intP ?_
  | with_reducible refine rd_rU ?_
  | with_reducible refine rd_fld ?_
  | with_reducible refine rd_eqI ?_
  | with_reducible refine rd_neI ?_
  | with_reducible refine rd_mko ?_
  | with_reducible refine rd_bm ?_
  | with_reducible refine rd_gsub ?_
  | with_reducible refine rd_i0 ?_)))
theorem pa_of (T : Tx K mg) (B : Bk K mg T) {n k : Nat} (hk : 5 ≤ k) (G_tuple_at : FnOk P w K mg base (L2.CX P w) k B.tuple_at.f B.tuple_at.fd ["row", "place", "many", "deep"] (spTA T.CP T.c_BadRow n)) :
    FnOk P w K mg base (L2.CX P w) (k + 1) B.parcel_at.f B.parcel_at.fd ["row", "place", "deep"] (spPA T.CP T.c_BadRow n) := by
  have G_check_there := ok_check_there (P := P) (w := w) (base := base) T B
  have G_whole_at := ok_whole_at (P := P) (w := w) (base := base) T B
  have G_string_at := ok_string_at (P := P) (w := w) (base := base) T B
  have G_BadRow_init := ok_bad_init (P := P) (w := w) (base := base) T B
  refine B.parcel_at.F.okX sc_parcel_at (fun vs H Q E h => ?_) (fun cdv A outer s H vs Q E hr h => ?_)
  · obtain ⟨a, row, h, rfl, _⟩ := h
    rfl
  · obtain ⟨a, row, h, rfl, ha, q1, q0⟩ := h
    refine ⟨_, (pss_cons (ps_expr (pe_call G_check_there (hr.mono (by omega)) rfl B.check_there.m B.check_there.F.kp B.check_there.b .nil (passes_call (takes_of rfl rfl rfl rfl) (fun _ _ _ _ h => h)) (pa_cons (pv 0) (pa_cons (pv 1) pa_nil))))
      (pss_cons (ps_set (i := 3) sc_parcel_at.nd rfl (Or.inl rfl) (pe_ix ix_tup (pv 0) (pv 1) (fun _ _ => rfl)))
      (C8.pss_cut (ps_if (PW.pt (pw_or (pt_cmpR op_gt (pv 3) (pe_glob (v := .int 6) (by rfl) T.g_TUPLE ⟨_, rfl⟩) (nomark _)) (pw_or1 (PW.pt (pw_and (pt_cmpR op_eq (pv 3) (pe_glob (v := .int 6) (by rfl) T.g_TUPLE ⟨_, rfl⟩) (nomark _)) (pw_and1 (pt_cmpR op_eq (pv 2) pe_int (nomark _)))))))) (pss_one (ps_raise rfl (takes_of rfl rfl rfl rfl) (pmk_oex T.x_BadRow B.BadRow_init.a B.BadRow_init.t G_BadRow_init (hr.mono (by omega)) B.BadRow_init.b .nil pass0 rfl T.g_BadRow (pa_cons (pv 1) pa_nil)))) pss_nil)
      (pss_cons (ps_if (pt_cmpR op_eq (pv 3) (pe_glob (v := .int 0) (by rfl) T.g_NONE ⟨_, rfl⟩) (nomark _)) (pss_one (ps_ret (pe_tup (pa_cons pe_non (pa_cons (pe_op op_add (pv 1) pe_int) pa_nil))))) pss_nil)
      (pss_cons (ps_if (pt_cmpR op_in_seq (pv 3) (pe_tup (pa_cons (pe_glob (v := .int 1) (by rfl) T.g_NO ⟨_, rfl⟩) (pa_cons (pe_glob (v := .int 2) (by rfl) T.g_YES ⟨_, rfl⟩) pa_nil))) rfl) (pss_one (ps_ret (pe_tup (pa_cons (pe_cmpR op_eq (pv 3) (pe_glob (v := .int 2) (by rfl) T.g_YES ⟨_, rfl⟩) (nomark _)) (pa_cons (pe_op op_add (pv 1) pe_int) pa_nil))))) pss_nil)
      (pss_cons (ps_asg (pe_call G_whole_at (hr.mono (by omega)) rfl B.whole_at.m B.whole_at.F.kp B.whole_at.b .nil (passes_call (takes_of rfl rfl rfl rfl) (fun _ _ _ _ h => h)) (pa_cons (pv 0) (pa_cons (pe_op op_add (pv 1) pe_int) pa_nil))) (pg_tup (by rfl) (pgs_cons (pg_name (i := 4) sc_parcel_at.nd rfl (Or.inl rfl)) (pgs_cons (pg_name (i := 5) sc_parcel_at.nd rfl (Or.inl rfl)) pgs_nil))))
      (pss_cons (ps_if (pt_cmpR op_eq (pv 3) (pe_glob (v := .int 5) (by rfl) T.g_STRING ⟨_, rfl⟩) (nomark _)) (C8.pss_cut (ps_if (PW.pt (pw_or (pt_cmpR op_eq (pv 4) pe_int (nomark _)) (pw_or1 (pt_cmpR op_gt (pv 4) (pe_glob (v := .int 20) (by rfl) T.g_MOST_SIGNS ⟨_, rfl⟩) (nomark _))))) (pss_one (ps_raise rfl (takes_of rfl rfl rfl rfl) (pmk_oex T.x_BadRow B.BadRow_init.a B.BadRow_init.t G_BadRow_init (hr.mono (by omega)) B.BadRow_init.b .nil pass0 rfl T.g_BadRow (pa_cons (pe_op op_add (pv 1) pe_int) pa_nil)))) pss_nil)
      (pss_one (ps_ret (pe_call G_string_at (hr.mono (by omega)) rfl B.string_at.m B.string_at.F.kp B.string_at.b .nil (passes_call (takes_of rfl rfl rfl rfl) (fun _ _ _ _ h => h)) (pa_cons (pv 0) (pa_cons (pv 5) (pa_cons (pv 4) pa_nil))))))) pss_nil)
      (pss_cons (ps_if (pt_cmpR op_eq (pv 3) (pe_glob (v := .int 6) (by rfl) T.g_TUPLE ⟨_, rfl⟩) (nomark _)) (pss_one (ps_ret (pe_call G_tuple_at (hr.mono (by omega)) rfl B.tuple_at.m B.tuple_at.F.kp B.tuple_at.b .nil (passes_call (takes_of rfl rfl rfl rfl) (fun _ _ _ _ h => h)) (pa_cons (pv 0) (pa_cons (pv 5) (pa_cons (pv 4) (pa_cons (pv 2) pa_nil))))))) pss_nil)
      (pss_one (ps_ret (pe_tup (pa_cons (pe_ifExp (pt_cmpR op_eq (pv 3) (pe_glob (v := .int 3) (by rfl) T.g_FROM_ZERO ⟨_, rfl⟩) (nomark _)) (pv 4) (pe_op op_sub (pe_un un_neg pe_int) (pv 4))) (pa_cons (pv 5) pa_nil))))))))))))), ?_⟩
    walk_at "rd"
    refine ⟨a, row, h, rfl, ha, fun hlt => ?_, fun hge => q0 _ (rdd.mpr (rdB_none hge)) _ (Same.refl H)⟩
    obtain ⟨b, eb, ebv⟩ := row_get hlt
    have b0 := (ha.2 b (List.mem_of_getElem? eb)).1
    walk_at "rd"
    refine rd_ixT ha.1 (atI_nat ebv) ?_
    walk_at "rd"
    have hin : (inn row n).isNone = true ↔ n = 0 := by
      cases n with
      | zero => exact ⟨fun _ => rfl, fun _ => rfl⟩
      | succ n => exact ⟨fun z => (by cases z), fun z => (by cases z)⟩
    refine ⟨fun σ1 H1 => σ1 = [some (.ref a), some (.int (h : Int)), some (.int (n : Int)), some (.int b), none, none] ∧ H1 = H ∧ ¬ (6 < b ∨ (b = 6 ∧ (inn row n).isNone = true)), ?_, ?_⟩
    · have bad : (6 < b ∨ (b = 6 ∧ n = 0)) → Raised T.c_BadRow (.int (h : Int)) H E := fun z => q0 h (rdd.mpr (rdB_top eb (by rw [hin]; exact z))) _ (Same.refl H)
      walk_at "rd"
      refine rd_ite (fun h1 => ?_) (fun h1 => ?_)
      · refine rd_yes rfl ?_
        walk_at "rd"
        exact bad_made (bad (.inl (of_decide_eq_true h1)))
      · have h1' := of_decide_eq_false h1
        walk_at "rd"
        refine rd_ite (fun h2 => ?_) (fun h2 => ?_)
        · walk_at "rd"
          refine rd_ite (fun h3 => ?_) (fun h3 => ?_)
          · walk_at "rd"
            exact bad_made (bad (.inr ⟨of_decide_eq_true h2, by have := of_decide_eq_true h3; omega⟩))
          · refine ⟨rfl, rfl, fun z => ?_⟩
            have := of_decide_eq_false h3
            rw [hin] at z
            omega
        · refine rd_no rfl ?_
          refine ⟨rfl, rfl, fun z => ?_⟩
          have := of_decide_eq_false h2
          rw [hin] at z
          omega
    · rintro σ1 H1 ⟨rfl, rfl, hnb⟩
      walk_at "rd"
      refine rd_ite (fun h1 => ?_) (fun h1 => ?_)
      · have e0 : b = 0 := of_decide_eq_true h1
        walk_at "rd"
        refine rd_disp rfl fun t nt => ?_
        refine q1 .none (h + 1) (rdd.mpr ?_) t .non _ (same_new nt) upd_same dt_non
        have := rdB_low (R := inn row n) eb (by omega)
        rw [if_pos e0] at this
        exact this
      · have e0 : b ≠ 0 := of_decide_eq_false h1
        walk_at "rd"
        refine rd_disp rfl fun t nt => ?_
        have s1 := same_new (o := .tup [.int 1, .int 2]) nt
        refine ⟨t, _, rfl, .inr (SqT.of upd_same), rfl, rfl, ?_⟩
        have ein : (if false = true then !inV (V.int b) [.int 1, .int 2] else inV (V.int b) [.int 1, .int 2]) = (decide (b = 1) || decide (b = 2)) := by
          show ((1 == b) || ((2 == b) || false)) = _
          rw [Bool.or_false]
          have g : ∀ x : Int, (x == b) = decide (b = x) := fun x => by
            by_cases c : b = x
            · subst c
              simp
            · rw [decide_eq_false c]
              simpa using fun z => c z.symm
          rw [g, g]
        rw [ein]
        walk_at "rd"
        refine rd_ite (fun h2 => ?_) (fun h2 => ?_)
        · have e12 : b = 1 ∨ b = 2 := by simpa using h2
          walk_at "rd"
          refine rd_disp rfl fun t2 nt2 => ?_
          refine q1 (.bool (decide (b = 2))) (h + 1) (rdd.mpr ?_) t2 (.bl (decide (b = 2))) _ (s1.trans (same_new nt2)) upd_same dt_bl
          have := rdB_low (R := inn row n) eb (by omega)
          rw [if_neg e0] at this
          exact this
        · have e12 : ¬ (b = 1 ∨ b = 2) := by simpa using h2
          have b3 : ¬ b < 3 := by omega
          have ha1 := ha.same s1
          walk_at "rd"
          refine ⟨a, row, h + 1, rfl, ha1, hlt, fun m e hw t2 H2 s2 ht2 => ?_, fun hw => ?_⟩
          · have hm0 := whR_nn hw
            have hle := whR_le hw
            have s12 := s1.trans s2
            refine ⟨t2, _, rfl, SqT.of ht2, rfl, _, _, rfl, _, _, rfl, rfl, ?_⟩
            walk_at "rd"
            refine rd_ite (fun h3 => ?_) (fun h3 => ?_)
            · have e5 : b = 5 := of_decide_eq_true h3
              walk_at "rd"
              refine ⟨fun σ3 H3 => σ3 = [some (.ref a), some (.int (h : Int)), some (.int (n : Int)), some (.int b), some (.int m), some (.int (e : Nat))] ∧ H3 = H2 ∧ ¬ (m = 0 ∨ 20 < m), ?_, ?_⟩
              · have bad : (m = 0 ∨ 20 < m) → Raised T.c_BadRow (.int ((h : Int) + 1)) H2 E := fun z => by
                  have := q0 (h + 1) (rdd.mpr (rdB_s0 eb e5 hw z)) _ s12
                  rw [show ((h + 1 : Nat) : Int) = (h : Int) + 1 by omega] at this
                  exact this
                walk_at "rd"
                refine rd_ite (fun h4 => ?_) (fun h4 => ?_)
                · refine rd_yes rfl ?_
                  walk_at "rd"
                  exact bad_made (bad (.inl (of_decide_eq_true h4)))
                · walk_at "rd"
                  refine rd_ite (fun h5 => ?_) (fun h5 => ?_)
                  · walk_at "rd"
                    exact bad_made (bad (.inr (of_decide_eq_true h5)))
                  · refine ⟨rfl, rfl, fun z => ?_⟩
                    have := of_decide_eq_false h4
                    have := of_decide_eq_false h5
                    omega
              · rintro σ3 H3 ⟨rfl, rfl, hm⟩
                have hS := rdB_s1 (R := inn row n) eb e5 hw hm
                obtain ⟨m', rfl⟩ : ∃ m' : Nat, m = (m' : Int) := ⟨m.toNat, by omega⟩
                rw [Int.toNat_natCast] at hS
                walk_at "rd"
                refine ⟨a, row, e, m', rfl, ha.same s12, hle.2, by omega, fun cs e3 hst t3 H4 s4 ht3 => ?_, fun e3 hst H4 s4 => ?_⟩
                · rw [hst] at hS
                  exact q1 _ _ (rdd.mpr hS) t3 _ _ (s12.trans s4) ht3 dt_str
                · rw [hst] at hS
                  exact q0 _ (rdd.mpr hS) _ (s12.trans s4)
            · have e5 : b ≠ 5 := of_decide_eq_false h3
              walk_at "rd"
              refine rd_ite (fun h4 => ?_) (fun h4 => ?_)
              · have e6 : b = 6 := of_decide_eq_true h4
                obtain ⟨n', rfl⟩ : ∃ n', n = n' + 1 := ⟨n - 1, by
                  have : ¬ n = 0 := fun z => hnb (.inr ⟨e6, hin.mpr z⟩)
                  omega⟩
                obtain ⟨m', rfl⟩ : ∃ m' : Nat, m = (m' : Int) := ⟨m.toNat, by omega⟩
                walk_at "rd"
                refine ⟨a, row, e, m', n', rfl, rfl, ha.same s12, hle.2, fun ds e3 hI t3 v H4 s4 ht3 hv => ?_, fun e3 hI H4 s4 => ?_⟩
                · exact q1 (.tuple ds) _ (rdd.mpr (rdB_tup (r := .ok ds e3) eb e6 hw hI)) t3 _ _ (s12.trans s4) ht3 hv
                · exact q0 _ (rdd.mpr (rdB_tup (r := .bad e3) eb e6 hw hI)) _ (s12.trans s4)
              · have e6 : b ≠ 6 := of_decide_eq_false h4
                have hI := rdB_int (R := inn row n) eb b3 (by omega) hw
                walk_at "rd"
                refine rd_ifx ?_
                walk_at "rd"
                refine rd_ite (fun h5 => ?_) (fun h5 => ?_)
                · rw [if_pos (of_decide_eq_true h5)] at hI
                  walk_at "rd"
                  refine rd_disp rfl fun t3 nt3 => ?_
                  exact q1 (.int m) e (rdd.mpr hI) t3 (.int m) _ (s12.trans (same_new nt3)) upd_same dt_int
                · rw [if_neg (of_decide_eq_false h5)] at hI
                  walk_at "rd"
                  refine rd_disp rfl fun t3 nt3 => ?_
                  exact q1 (.int (-1 - m)) e (rdd.mpr hI) t3 (.int (-1 - m)) _ (s12.trans (same_new nt3)) upd_same dt_int
          · have := q0 (h + 1) (rdd.mpr (rdB_wh eb hnb b3 hw)) _ s1
            exact this
theorem ok_pa_n (T : Tx K mg) (B : Bk K mg T) : ∀ n, FnOk P w K mg base (L2.CX P w) (2 * n + 6) B.parcel_at.f B.parcel_at.fd ["row", "place", "deep"] (spPA T.CP T.c_BadRow n)
  | 0 => pa_of T B (k := 5) (by omega) (fn_no fun vs H Q E h => by
    obtain ⟨a, row, h, m, n', hn, _⟩ := h
    omega)
  | n + 1 => pa_of T B (k := 2 * n + 7) (by omega) (ta_of T B (by omega) (ok_pa_n T B n))
end
end Mw

/-! R11 -/
namespace Mw
open PySem L2
def spMarkOf : Sp := fun vs H Q _ => ∃ (a : Addr) (row : List Int), vs = [.ref a] ∧ H a = some (.tup (row.map V.int)) ∧ Q (.int (markL row)) H
def spSeal : Sp := fun vs H Q _ => ∃ (a : Addr) (row : List Int), vs = [.ref a] ∧ H a = some (.tup (row.map V.int)) ∧ ∀ t H', Same H H' → H' t = some (.tup ((sealL row).map V.int)) → Q (.ref t) H'
def spMark (CP : Addr → Prop) : Sp := fun vs H Q _ => ∃ (a : Addr) (row : List Int), vs = [.ref a] ∧ RowAt H a row ∧ ∀ H', Same H H' → Q (.int (markL row)) H'
def spSealed (CP : Addr → Prop) (C : Addr) : Sp := fun vs H Q E => ∃ M d x, vs = [x] ∧ Dt CP M H d x ∧ szd d ≤ 900000 ∧ (isPc 20 d = true → (byD d).length ≤ 800000) ∧
  (isPc 20 d = true → ∀ t H', Same H H' → H' t = some (.tup ((byD d ++ sealL (byD d)).map V.int)) → Q (.ref t) H') ∧ (isPc 20 d = false → ∀ H', Same H H' → E (.ref C) none H')
section
variable {P : Program} {w : World} {K : PySem.W.Frag} {mg : Str → Option Value} {base : Heap}
local macro_rules | `(tactic| walk_at "rd") => `(tactic| (repeat (first
  | ((with_reducible refine' rd_var ?h0 ?_); (case h0 => rfl))
  | with_reducible refine rd_c ?_
  | with_reducible refine rd_op ?_
  | with_reducible refine rd_nil ?_
  | with_reducible refine rd_cons ?_
  | with_reducible refine rd_tup ?_
  | with_reducible refine rd_lst ?_
  | with_reducible refine rd_ifs ?_
  | with_reducible refine rd_seq ?_
  | with_reducible refine rd_next ?_
  | with_reducible refine rd_ret ?_
  | with_reducible refine rd_asg ?_
  | ((with_reducible refine' rd_gset ?hs ?_); (case hs => ((simp only [L2.start, List.map_cons, List.map_nil, List.length_cons, List.length_nil, List.cons_append, List.nil_append, List.set_cons_zero, List.set_cons_succ, Nat.reduceAdd, Nat.reduceSub, Nat.zero_add, List.reduceReplicate]); rfl)))
  | with_reducible refine rd_drop ?_
  | with_reducible refine rd_test ?_
  | with_reducible refine rd_B ?_
  | with_reducible refine rd_bl ?_
  | with_reducible refine rd_blP ?_
  | with_reducible refine rd_andV ?_
  | with_reducible refine rd_orV ?_
  | with_reducible refine rd_notV ?_
  | with_reducible refine rd_and ?_
  | with_reducible refine rd_or ?_
  | with_reducible refine rd_not ?_
  | with_reducible refine rd_chain ?_
  | with_reducible refine rd_dput ?_
  | with_reducible refine rd_dget ?_
  | with_reducible refine rd_cb ?_
  | with_reducible refine rd_call ?_
  | with_reducible refine rd_un ?_
  | with_reducible refine rd_sl ?_
  | with_reducible refine rd_nopart ?_
  | with_reducible refine rd_part ?_
  | with_reducible refine rd_intP ?_
  | with_reducible refine rd_rU ?_
  | with_reducible refine rd_fld ?_
  | with_reducible refine rd_eqI ?_
  | with_reducible refine rd_neI ?_
  | with_reducible refine rd_mko ?_
  | with_reducible refine rd_bm ?_
  | with_reducible refine rd_gsub ?_
  | with_reducible refine rd_i0 ?_)))
theorem ok_parcel_of (T : Tx K mg) (B : Bk K mg T) : FnOk P w K mg base (L2.CX P w) 47 B.parcel_of.f B.parcel_of.fd ["row"] (spParcelOf T.CP T.c_BadRow T.c_NoRow) := by
  have G_check_row := ok_check_row (P := P) (w := w) (base := base) T B
  have G_parcel_at := ok_pa_n (P := P) (w := w) (base := base) T B 20
  have G_BadRow_init := ok_bad_init (P := P) (w := w) (base := base) T B
  refine B.parcel_of.F.okX sc_parcel_of (fun vs H Q E h => ?_) (fun cdv A outer s H vs Q E hr h => ?_)
  · obtain ⟨a, row, rfl, _⟩ := h
    rfl
  · obtain ⟨a, row, rfl, ha, q1, q2, q3⟩ := h
    refine ⟨_, (pss_cons (ps_expr (pe_call G_check_row (hr.mono (by omega)) rfl B.check_row.m B.check_row.F.kp B.check_row.b .nil (passes_call (takes_of rfl rfl rfl rfl) (fun _ _ _ _ h => h)) (pa_cons (pv 0) pa_nil)))
      (pss_cons (ps_asg (pe_call G_parcel_at (hr.mono (by omega)) rfl B.parcel_at.m B.parcel_at.F.kp B.parcel_at.b .nil (passes_call (takes_of rfl rfl rfl rfl) (fun _ _ _ _ h => h)) (pa_cons (pv 0) (pa_cons pe_int (pa_cons (pe_glob (v := .int 20) (by rfl) T.g_MOST_DEEP ⟨_, rfl⟩) pa_nil)))) (pg_tup (by rfl) (pgs_cons (pg_name (i := 1) sc_parcel_of.nd rfl (Or.inl rfl)) (pgs_cons (pg_name (i := 2) sc_parcel_of.nd rfl (Or.inl rfl)) pgs_nil))))
      (pss_cons (ps_if (pt_cmpR op_lt (pv 2) (pe_callB call_len_seq (by rfl) T.b_len (by decide +kernel) (pa_cons (pv 0) pa_nil)) (nomark _)) (pss_one (ps_raise rfl (takes_of rfl rfl rfl rfl) (pmk_oex T.x_BadRow B.BadRow_init.a B.BadRow_init.t G_BadRow_init (hr.mono (by omega)) B.BadRow_init.b .nil pass0 rfl T.g_BadRow (pa_cons (pv 2) pa_nil)))) pss_nil)
      (pss_one (ps_ret (pv 1)))))), ?_⟩
    walk_at "rd"
    refine ⟨[], _, .ref a, rfl, row_dt ha.1, by show (row.map PyData.int).length ≤ 900000; rw [List.length_map]; exact ha.3, fun H1 s1 => ⟨fun _ => ?_, fun z => ?_⟩⟩
    · walk_at "rd"
      refine ⟨a, row, 0, rfl, ha.same s1, fun d e hR t v H2 s2 ht hv => ?_, fun e hR H2 s2 => ?_⟩
      · have hle := rd_le hR
        have s12 := s1.trans s2
        refine ⟨t, _, rfl, SqT.of ht, rfl, _, _, rfl, _, _, rfl, rfl, ?_⟩
        walk_at "rd"
        refine ⟨a, _, rfl, .inr (SqT.of (s12 _ _ ha.1)), ?_⟩
        walk_at "rd"
        rw [List.length_map]
        refine rd_ite (fun h1 => ?_) (fun h1 => ?_)
        · walk_at "rd"
          exact bad_made (q2 d e hR (by have := of_decide_eq_true h1; omega) _ s12)
        · have e2 : e = row.length := by
            have := of_decide_eq_false h1
            omega
          subst e2
          walk_at "rd"
          exact q1 d hR v _ s12 hv
      · exact q3 e hR _ (s1.trans s2)
    · rw [row_isD ha.2] at z
      cases z
theorem ok_mark_of (T : Tx K mg) (B : Bk K mg T) : FnOk P w K mg base CX0 1 B.mark_of.f B.mark_of.fd ["row"] spMarkOf := by
  refine B.mark_of.F.ok sc_mark_of (fun vs H Q E h => ?_) (fun cdv A outer s H vs Q E hr h => ?_)
  · obtain ⟨a, row, rfl, _⟩ := h
    rfl
  · obtain ⟨a, row, rfl, ha, q⟩ := h
    refine ⟨_, (pss_cons (ps_set (i := 1) sc_mark_of.nd rfl (Or.inl rfl) pe_int)
      (pss_cons (ps_for PassesOwn.never rfl (pi_tup (pv 0)) (pg_name (i := 2) sc_mark_of.nd rfl (Or.inl rfl)) (pss_one (ps_set (i := 1) sc_mark_of.nd rfl (Or.inl rfl) (pe_op op_mod (pe_op op_add (pe_op op_add (pe_op op_mul (pv 1) pe_int) (pv 2)) pe_int) (pe_glob (v := .int 2305843009213693951) (by rfl) T.g_MARK_LIMIT ⟨_, rfl⟩)))))
      (pss_one (ps_ret (pv 1))))), ?_⟩
    walk_at "rd"
    refine ⟨_, rfl, a, rfl, ⟨_, SqT.of ha⟩, for_tup (K := K) (a := a) (xs := row.map V.int) (fun i σ H1 => H1 = H ∧ ∃ u : Option V, σ = [some (.ref a), some (.int (markL (row.take i))), u])
      ⟨rfl, none, rfl⟩ (fun i σ H1 _ hh => by rw [hh.1]; exact SqT.of ha) ?_ ?_⟩
    · rintro i y σ H1 hi ⟨rfl, u, rfl⟩
      obtain ⟨b, hb, rfl⟩ := mapint_get hi
      walk_at "rd"
      refine rd_iC (.inr ⟨by decide, by decide⟩) ?_
      walk_at "rd"
      refine rd_iC (show (0 : Int) < 2305843009213693951 by decide) ?_
      walk_at "rd"
      refine ⟨rfl, some (.int b), ?_⟩
      rw [take_snoc hb, markL_snoc]
      rfl
    · rintro σ H1 ⟨rfl, u, rfl⟩
      rw [List.length_map, List.take_length]
      walk_at "rd"
      exact q
theorem ok_seal (T : Tx K mg) (B : Bk K mg T) : FnOk P w K mg base CX0 2 B.seal_.f B.seal_.fd ["row"] spSeal := by
  have G_mark_of := ok_mark_of (P := P) (w := w) (base := base) T B
  refine B.seal_.F.ok sc_seal_ (fun vs H Q E h => ?_) (fun cdv A outer s H vs Q E hr h => ?_)
  · obtain ⟨a, row, rfl, _⟩ := h
    rfl
  · obtain ⟨a, row, rfl, ha, q⟩ := h
    refine ⟨_, (pss_cons (ps_set (i := 1) sc_seal_.nd rfl (Or.inl rfl) (pe_call G_mark_of (hr.mono (by decide)) rfl B.mark_of.m B.mark_of.F.kp B.mark_of.b .nil pass0 (pa_cons (pv 0) pa_nil)))
      (pss_cons (ps_set (i := 2) sc_seal_.nd rfl (Or.inl rfl) (pe_lst pa_nil))
      (pss_cons (ps_for PassesOwn.never rfl (pi_range1 (by rfl) T.b_range (pa_cons (pe_glob (v := .int 4) (by rfl) T.g_SEAL_LENGTH ⟨_, rfl⟩) pa_nil)) (pg_name (i := 3) sc_seal_.nd rfl (Or.inl rfl)) (pss_cons (ps_expr (pe_bm PySem.F.plainAttrs_list PySem.F.slot_list_append PySem.F.type_list_append mt_append (pv 2) (pa_cons (pe_op op_mod (pv 1) (pe_glob (v := .int 256) (by rfl) T.g_BYTE_LIMIT ⟨_, rfl⟩)) pa_nil)))
      (pss_one (ps_set (i := 1) sc_seal_.nd rfl (Or.inl rfl) (pe_op op_fdiv (pv 1) (pe_glob (v := .int 256) (by rfl) T.g_BYTE_LIMIT ⟨_, rfl⟩))))))
      (pss_one (ps_ret (pe_callTy call_tuple_of (by rfl) T.b_tuple (by decide +kernel) (pa_cons (pv 2) pa_nil))))))), ?_⟩
    walk_at "rd"
    refine ⟨a, row, rfl, ha, ?_⟩
    walk_at "rd"
    refine rd_disp rfl fun l nl => ?_
    walk_at "rd"
    refine ⟨4, rfl, by decide, by decide, for_range (lo := 0) (n := 4) (fun i σ H1 => ∃ (m : Int) (acc : List Int) (u : Option V), σ = [some (.ref a), some (.int m), some (.ref l), u] ∧ Same H H1 ∧ H1 l = some (.lst (acc.map V.int)) ∧ acc.length = i ∧ acc ++ sk (4 - i) m = sealL row)
      ⟨markL row, [], none, rfl, same_new nl, upd_same, rfl, rfl⟩ ?_ ?_⟩
    · rintro i σ H1 hi ⟨m, acc, u, rfl, hs, hacc, hl, he⟩
      obtain ⟨k, hk⟩ : ∃ k, 4 - i = k + 1 := ⟨4 - i - 1, by omega⟩
      rw [hk] at he
      walk_at "rd"
      refine ⟨.inl ⟨rfl, _, SqL.of hacc⟩, ?_⟩
      walk_at "rd"
      refine rd_iC (show (0 : Int) < 256 by decide) ?_
      walk_at "rd"
      refine rd_append hacc (small' (by rw [List.length_map]; omega)) ?_
      walk_at "rd"
      refine rd_iC (show (0 : Int) < 256 ∧ (256 : Int) < 1073741824 by decide) ?_
      walk_at "rd"
      refine ⟨m / 256, acc ++ [m % 256], _, rfl, fun b o e => (upd_ne (ne_of_none e nl)).trans (hs b o e), ?_, by simp [hl], ?_⟩
      · rw [upd_same, List.map_append]
        rfl
      · rw [← he, show 4 - (i + 1) = k by omega, List.append_assoc]
        rfl
    · rintro σ H1 ⟨m, acc, u, rfl, hs, hacc, hl, he⟩
      rw [show 4 - 4 = 0 from rfl, show sk 0 m = [] from rfl, List.append_nil] at he
      walk_at "rd"
      refine ⟨l, _, rfl, .inl ⟨SqL.of hacc, fun t nt => ?_⟩⟩
      exact q t _ (hs.trans (same_new nt)) (by rw [upd_same, he])
end
end Mw

/-! R12 -/
namespace Mw
open PySem L2
theorem isRow_form {d : PyData} (h : isRowD d = true) : ∃ row : List Int, d = .tuple (row.map PyData.int) ∧ ∀ b ∈ row, 0 ≤ b ∧ b < 256 := by
  cases d with
  | tuple ds =>
    have h' : (ds.map isByte).all id = true := h
    rw [List.all_map] at h'
    have h2 : ∀ x ∈ ds, isByte x = true := fun x hx => List.all_eq_true.mp h' x hx
    clear h h'
    induction ds with
    | nil => exact ⟨[], rfl, fun b hb => by cases hb⟩
    | cons x ds ih =>
      obtain ⟨row, e, hb⟩ := ih fun y hy => h2 y (List.mem_cons_of_mem _ hy)
      have hx := h2 x (by simp)
      cases x with
      | int i =>
        have hx' : (decide (0 ≤ i) && decide (i < 256)) = true := hx
        simp only [Bool.and_eq_true, decide_eq_true_eq] at hx'
        injection e with e
        refine ⟨i :: row, by rw [List.map_cons, e], fun b hb' => ?_⟩
        rcases List.mem_cons.mp hb' with z | z
        · rw [z]
          exact hx'
        · exact hb b z
      | _ => cases hx
  | _ => cases h
theorem cut_body (row : List Int) : cutV (row.map V.int) none (some (-4)) = (body row).map V.int := by
  unfold cutV body
  have e : HT.sIx (row.map V.int).length (row.map V.int).length (some (-4)) = row.length - 4 := by
    show (if (-4 : Int) < 0 then ((-4 : Int) + ((row.map V.int).length : Int)).toNat else min (-4 : Int).toNat (row.map V.int).length) = row.length - 4
    rw [if_pos (by decide), List.length_map]
    omega
  rw [e]
  show ((row.map V.int).drop 0).take (row.length - 4 - 0) = _
  rw [List.drop_zero, Nat.sub_zero, List.map_take]
theorem cut_tail (row : List Int) : cutV (row.map V.int) (some (-4)) none = (tail4 row).map V.int := by
  unfold cutV tail4
  have e : HT.sIx (row.map V.int).length 0 (some (-4)) = row.length - 4 := by
    show (if (-4 : Int) < 0 then ((-4 : Int) + ((row.map V.int).length : Int)).toNat else min (-4 : Int).toNat (row.map V.int).length) = row.length - 4
    rw [if_pos (by decide), List.length_map]
    omega
  rw [e]
  show ((row.map V.int).drop (row.length - 4)).take ((row.map V.int).length - (row.length - 4)) = _
  rw [List.take_of_length_le (by rw [List.length_drop]; exact Nat.le_refl _), List.map_drop]
theorem body_by {row : List Int} (h : ∀ b ∈ row, 0 ≤ b ∧ b < 256) : ∀ b ∈ body row, 0 ≤ b ∧ b < 256 := fun b hb => h b (List.mem_of_mem_take hb)
theorem body_len (row : List Int) : (body row).length ≤ row.length := by
  unfold body
  rw [List.length_take]
  omega
def spUnsealed (CP : Addr → Prop) : Sp := fun vs H Q _ => ∃ M d x, vs = [x] ∧ Dt CP M H d x ∧ lenD d ≤ 900000 ∧
  (isRowD d = false → ∀ t H', Same H H' → H' t = some (.tup []) → Q (.ref t) H') ∧
  (∀ row : List Int, d = .tuple (row.map PyData.int) → (∀ b ∈ row, 0 ≤ b ∧ b < 256) → ∀ D v H', OpD row D → Same H H' → Dt CP [] H' D v → Q v H')
section
variable {P : Program} {w : World} {K : PySem.W.Frag} {mg : Str → Option Value} {base : Heap}
local macro_rules | `(tactic| walk_at "rd") => `(tactic| (repeat (first
  | ((with_reducible refine' rd_var ?h0 ?_); (case h0 => rfl))
  | with_reducible refine rd_c ?_
  | with_reducible refine rd_op ?_
  | with_reducible refine rd_nil ?_
  | with_reducible refine rd_cons ?_
  | with_reducible refine rd_tup ?_
  | with_reducible refine rd_lst ?_
  | with_reducible refine rd_ifs ?_
  | with_reducible refine rd_seq ?_
  | with_reducible refine rd_next ?_
  | with_reducible refine rd_ret ?_
  | with_reducible refine rd_asg ?_
  | ((with_reducible refine' rd_gset ?hs ?_); (case hs => ((simp only [L2.start, List.map_cons, List.map_nil, List.length_cons, List.length_nil, List.cons_append, List.nil_append, List.set_cons_zero, List.set_cons_succ, Nat.reduceAdd, Nat.reduceSub, Nat.zero_add, List.reduceReplicate]); rfl)))
  | with_reducible refine rd_drop ?_
  | with_reducible refine rd_test ?_
  | with_reducible refine rd_B ?_
  | with_reducible refine rd_bl ?_
  | with_reducible refine rd_blP ?_
  | with_reducible refine rd_andV ?_
  | with_reducible refine rd_orV ?_
  | with_reducible refine rd_notV ?_
  | with_reducible refine rd_and ?_
  | with_reducible refine rd_or ?_
  | with_reducible refine rd_not ?_
  | with_reducible refine rd_chain ?_
  | with_reducible refine rd_dput ?_
  | with_reducible refine rd_dget ?_
  | with_reducible refine rd_cb ?_
  | with_reducible refine rd_call ?_
  | with_reducible refine rd_un ?_
  | with_reducible refine rd_sl ?_
  | with_reducible refine rd_nopart ?_
  | with_reducible refine rd_part ?_
  | with_reducible refine rd_intP ?_
  | with_reducible refine rd_rU ?_
  | with_reducible refine rd_fld ?_
  | with_reducible refine rd_eqI ?_
  | with_reducible refine rd_neI ?_
  | with_reducible refine rd_mko ?_
  | with_reducible refine rd_bm ?_
  | with_reducible refine rd_gsub ?_
  | with_reducible refine rd_i0 ?_)))
theorem ok_unsealed (T : Tx K mg) (B : Bk K mg T) : FnOk P w K mg base CX0 48 B.unsealed.f B.unsealed.fd ["row"] (spUnsealed T.CP) := by
  have G_is_row := ok_is_row (P := P) (w := w) (base := base) T B
  have G_seal_ := ok_seal (P := P) (w := w) (base := base) T B
  have G_parcel_of := ok_parcel_of (P := P) (w := w) (base := base) T B
  refine B.unsealed.F.ok sc_unsealed (fun vs H Q E h => ?_) (fun cdv A outer s H vs Q E hr h => ?_)
  · obtain ⟨M, d, x, rfl, _⟩ := h
    rfl
  · obtain ⟨M, d, x, rfl, hd, hl, q0, q1⟩ := h
    refine ⟨_, (pss_cons (ps_if (PW.pt (pw_or (pt_not (pt_val (pe_call G_is_row (hr.mono (by omega)) rfl B.is_row.m B.is_row.F.kp B.is_row.b .nil pass0 (pa_cons (pv 0) pa_nil)))) (pw_or1 (pt_cmpR (op_neD hr.units) (pe_call G_seal_ (hr.mono (by omega)) rfl B.seal_.m B.seal_.F.kp B.seal_.b .nil pass0 (pa_cons (pe_slice sl_tupA (pv 0) po_none (po_some (pe_un un_neg (pe_glob (v := .int 4) (by rfl) T.g_SEAL_LENGTH ⟨_, rfl⟩)))) pa_nil)) (pe_slice sl_tupA (pv 0) (po_some (pe_un un_neg (pe_glob (v := .int 4) (by rfl) T.g_SEAL_LENGTH ⟨_, rfl⟩))) po_none) (nomark _))))) (pss_one (ps_ret (pe_tup pa_nil))) pss_nil)
      (pss_one (ps_try_many (Wout := fun _ _ _ _ => False) rfl rfl takes0 (fun W pn xe tk _ => (pss_one (ps_ret (pe_tup (pa_cons (pe_callS G_parcel_of (hr.mono (by omega)) rfl B.parcel_of.m B.parcel_of.F.kp B.parcel_of.b (fun σ => passAt tk σ) (pa_cons (pe_slice (r := rSlA K) sl_tupA (pv 0) po_none (po_some (pe_un un_neg (pe_glob (v := .int 4) (by rfl) T.g_SEAL_LENGTH ⟨_, rfl⟩)))) pa_nil)) pa_nil))))) (HdsOk.cons ⟨by rfl, by decide, Or.inl T.g_BadRow⟩ (fun a oe cls d pn hz hf => (pss_one (ps_ret (pe_tup pa_nil)))) HdsOk.nil)))), ?_⟩
    walk_at "rd"
    refine ⟨M, d, x, rfl, hd, hl, fun H1 s1 => ?_⟩
    walk_at "rd"
    refine rd_ite (fun h1 => ?_) (fun h1 => ?_)
    · refine rd_yes rfl ?_
      walk_at "rd"
      refine rd_disp rfl fun t nt => ?_
      exact q0 (by simpa using h1) t _ (s1.trans (same_new nt)) upd_same
    · have hT : isRowD d = true := by simpa using h1
      obtain ⟨row, rfl, hby⟩ := isRow_form hT
      have q2 := q1 row rfl hby
      obtain ⟨a, xs, rfl, ha, hx⟩ := dt_tup' hd
      have ex := dt_ints' hx
      subst ex
      have hlr : row.length ≤ 900000 := by
        have : (row.map PyData.int).length ≤ 900000 := hl
        rw [List.length_map] at this
        exact this
      walk_at "rd"
      refine rd_cutA (s1 _ _ ha) fun c H2 s2 hc => ?_
      rw [show (-4 : Int) = -4 from rfl] at hc
      rw [cut_body] at hc
      refine ⟨c, body row, rfl, hc, fun t H3 s3 ht => ?_⟩
      walk_at "rd"
      have s13 := (s1.trans s2).trans s3
      refine rd_cutA (s13 _ _ ha) fun c2 H4 s4 hc2 => ?_
      rw [cut_tail] at hc2
      have s14 := s13.trans s4
      refine ⟨.tuple ((sealL (body row)).map PyData.int), .tuple ((tail4 row).map PyData.int), dt_dp (CP := T.CP) (M := []) _ _ (ints_lay _) (row_dt (s4 _ _ ht)), dt_dp (CP := T.CP) (M := []) _ _ (ints_lay _) (row_dt hc2), ints_shaped _, ints_shaped _, ?_⟩
      rw [show PyData.eqv (.tuple ((sealL (body row)).map PyData.int)) (.tuple ((tail4 row).map PyData.int)) = PyData.eqvAll ((sealL (body row)).map PyData.int) ((tail4 row).map PyData.int) from rfl, eqv_ints]
      walk_at "rd"
      refine rd_ite (fun h2 => ?_) (fun h2 => ?_)
      · walk_at "rd"
        refine rd_disp rfl fun t2 nt2 => ?_
        refine q2 (.tuple []) (.ref t2) _ (.inr ⟨.inl ?_, rfl⟩) (s14.trans (same_new nt2)) (dt_tup upd_same dtAll_nil)
        unfold SealOk
        simpa using h2
      · have hS : SealOk row := by
          unfold SealOk
          simpa using h2
        walk_at "rd"
        refine rd_callS ?_
        walk_at "rd"
        refine rd_cutA (s14 _ _ ha) fun c3 H5 s5 hc3 => ?_
        rw [cut_body] at hc3
        have s15 := s14.trans s5
        have hRA : RowAt H5 c3 (body row) := ⟨hc3, body_by hby, by have := body_len row; omega⟩
        have caught : ∀ H6, Same H5 H6 → ((∃ e, Rd (body row) 20 0 (.bad e)) ∨ ∃ d e, Rd (body row) 20 0 (.ok d e) ∧ e ≠ (body row).length) → ∀ t H7, Same H6 H7 → H7 t = some (.tup []) → Q (.ref t) H7 := fun H6 s6 hbad t H7 s7 ht7 =>
          q2 (.tuple []) (.ref t) _ (.inr ⟨.inr hbad, rfl⟩) ((s15.trans s6).trans s7) (dt_tup ht7 dtAll_nil)
        refine ⟨c3, body row, rfl, hRA, fun d hR v H6 s6 hv => ?_, fun d e hR ne H6 s6 e2 H7 n2 s7 hx2 => ?_, fun e hR H6 s6 e2 H7 n2 s7 hx2 => ?_⟩
        · walk_at "rd"
          refine rd_disp rfl fun t2 nt2 => ?_
          have sn := same_new (o := .tup [v]) nt2
          exact q2 (.tuple [d]) (.ref t2) _ (.inl ⟨hS, d, hR, rfl⟩) ((s15.trans s6).trans sn) (dt_tup upd_same (dtAll_cons (hv.s sn) dtAll_nil))
        · refine ⟨true, T.e_BadRowBadRow, fun _ z hnz => ?_, fun z => by cases z⟩
          walk_at "rd"
          refine rd_disp rfl fun t2 nt2 => ?_
          exact caught H6 s6 (.inr ⟨d, e, hR, ne⟩) t2 _ (s7.trans (same_new nt2)) upd_same
        · refine ⟨true, T.e_BadRowBadRow, fun _ z hnz => ?_, fun z => by cases z⟩
          walk_at "rd"
          refine rd_disp rfl fun t2 nt2 => ?_
          exact caught H6 s6 (.inl ⟨e, hR⟩) t2 _ (s7.trans (same_new nt2)) upd_same
end
end Mw

/-! R13 -/
namespace Mw
open PySem L2
theorem lc_zipT {K : PySem.W.Frag} {a b : Addr} {xs ys : List V} {g : TG} {tt : TT} {te : TE} {vs : List Nat} {σ : L2.St} {H1 : Hp} {D : Addr} {Qd : Hp → Prop} (hl : xs.length = ys.length) (Pv : Nat → Hp → Prop) (h0 : Pv 0 (upd H1 D (.lst [])))
    (hq : ∀ i H, Pv i H → SqT K H a xs ∧ SqT K H b ys)
    (hs : ∀ (i : Nat) (x y : V) (t : Addr) (H : Hp), xs[i]? = some x → ys[i]? = some y → Pv i H → H t = none → g (.ref t) (wipe σ vs) (upd H t (.tup [x, y])) fun σ2 H2 => wipe σ2 vs = wipe σ vs ∧
      tt σ2 H2 fun b H3 => if b = true then te σ2 H3 fun y H4 => ∃ acc, H4 D = some (.lst acc) ∧ acc.length < sizeLine ∧ Pv (i + 1) (upd H4 D (.lst (acc ++ [y]))) else Pv (i + 1) H3)
    (hd : ∀ H, Pv xs.length H → Qd H) :
    ∃ W : Nat → Nat → Hp → Prop, (∃ m, W 0 m (upd H1 D (.lst []))) ∧ ∀ i m H, W i m H → (RZ.ItzT K a b).stop i H ∧ Qd H ∨ (RZ.ItzT K a b).go i H ∧ ∃ Nx : Hp → Prop, (∀ H', Nx H' → ∃ m', m' < m ∧ W (i + 1) m' H') ∧
      ∀ x H', (RZ.ItzT K a b).yld i H x H' → g x (wipe σ vs) H' fun σ2 H2 => wipe σ2 vs = wipe σ vs ∧ tt σ2 H2 fun b H3 => if b = true then te σ2 H3 fun y H4 => ∃ acc, H4 D = some (.lst acc) ∧ acc.length < sizeLine ∧ Nx (upd H4 D (.lst (acc ++ [y]))) else Nx H3 := by
  refine ⟨fun i m H => m = xs.length - i ∧ i ≤ xs.length ∧ Pv i H, ⟨_, rfl, Nat.zero_le _, h0⟩, ?_⟩
  rintro i m H ⟨rfl, hi, hP⟩
  obtain ⟨q1, q2⟩ := hq i H hP
  by_cases e : i = xs.length
  · exact .inl ⟨⟨xs, ys, q1, q2, .inl (Nat.le_of_eq e.symm)⟩, hd H (e ▸ hP)⟩
  · have hlt : i < xs.length := by omega
    have hx : xs[i]? = some xs[i] := by simp [hlt]
    have hy : ys[i]? = some (ys[i]'(hl ▸ hlt)) := by simp
    refine .inr ⟨⟨xs, ys, _, _, q1, q2, hx, hy⟩, Pv (i + 1), fun H' h => ⟨xs.length - (i + 1), by omega, rfl, by omega, h⟩, ?_⟩
    rintro v H' ⟨t, x, y, rfl, ht, rfl, ex, ey⟩
    exact hs i x y t H (ex xs q1) (ey ys q2) hP ht
def spIs : Sp := fun vs H Q _ => ∃ i : Int, vs = [.int i, .int i] ∧ 0 ≤ i ∧ i < 2305843009213693951 ∧ Q (.bl true) H
/-- two that tell the same plain thing -/
def spSame (CP : Addr → Prop) (n : Nat) : Sp := fun vs H Q _ => ∃ M1 M2 d v1 v2, vs = [v1, v2] ∧ plainD d = true ∧ d.depth < n ∧ szd d ≤ 900000 ∧ Dt CP M1 H d v1 ∧ Dt CP M2 H d v2 ∧ ∀ H', Same H H' → Q (.bl true) H'
def spLSign : Sp := fun vs H Q _ => ∃ b : Int, vs = [.int b] ∧ isSign b = true ∧ Q (.str ⟨#[b.toNat]⟩) H
theorem lsign_at {c : Int} (h : isSign c = true) : atI ((" !\"#$&'()*+,-./0123456789:;<=>?@ABCDEFGHIJKLMNOPQRSTUVWXYZ[\\]^_" : Str) ++ ("`abcdefghijklmnopqrstuvwxyz{|}~" : Str)).cps.toList (c - 32 - (if decide (37 < c) then 1 else 0)) = some c.toNat := by
  have key : ∀ n : Nat, n < 127 → isSign (n : Int) = true → ((" !\"#$&'()*+,-./0123456789:;<=>?@ABCDEFGHIJKLMNOPQRSTUVWXYZ[\\]^_" : Str) ++ ("`abcdefghijklmnopqrstuvwxyz{|}~" : Str)).cps.toList[((n : Int) - 32 - (if decide (37 < (n : Int)) then 1 else 0)).toNat]? = some n := by decide +kernel
  have hb : 0 ≤ c ∧ c < 127 ∧ 32 ≤ c := by
    unfold isSign at h
    simp only [Bool.and_eq_true, decide_eq_true_eq] at h
    omega
  have e : c = (c.toNat : Int) := by omega
  rw [e] at h
  have := key c.toNat (by omega) h
  rw [← e] at this
  refine at_of (j := (c - 32 - (if decide (37 < c) then 1 else 0)).toNat) ?_ this
  by_cases z : 37 < c
  · rw [decide_eq_true z, if_pos rfl]
    omega
  · rw [decide_eq_false z, if_neg (by decide)]
    omega
def spLWhole : Sp := fun vs H Q _ => ∃ (a : Addr) (row : List Int) (h : Nat), vs = [.ref a, .int (h : Int)] ∧ RowAt H a row ∧ h ≤ row.length ∧
  (∀ n e, whR row h = some (n, e) → ∀ t H', Same H H' → H' t = some (.tup [.int n, .int (e : Nat)]) → Q (.ref t) H') ∧ (whR row h = none → ∀ t H', Same H H' → H' t = some (.tup [.non, .int (h : Int)]) → Q (.ref t) H')
def spLMark : Sp := spMarkOf
section
variable {P : Program} {w : World} {K : PySem.W.Frag} {mg : Str → Option Value} {base : Heap}
local macro_rules | `(tactic| walk_at "rd") => `(tactic| (repeat (first
  | ((with_reducible refine' rd_var ?h0 ?_); (case h0 => rfl))
  | with_reducible refine rd_c ?_
  | with_reducible refine rd_op ?_
  | with_reducible refine rd_nil ?_
  | with_reducible refine rd_cons ?_
  | with_reducible refine rd_tup ?_
  | with_reducible refine rd_lst ?_
  | with_reducible refine rd_ifs ?_
  | with_reducible refine rd_seq ?_
  | with_reducible refine rd_next ?_
  | with_reducible refine rd_ret ?_
  | with_reducible refine rd_asg ?_
  | ((with_reducible refine' rd_gset ?hs ?_); (case hs => ((simp only [L2.start, List.map_cons, List.map_nil, List.length_cons, List.length_nil, List.cons_append, List.nil_append, List.set_cons_zero, List.set_cons_succ, Nat.reduceAdd, Nat.reduceSub, Nat.zero_add, List.reduceReplicate]); rfl)))
  | with_reducible refine rd_drop ?_
  | with_reducible refine rd_test ?_
  | with_reducible refine rd_B ?_
  | with_reducible refine rd_bl ?_
  | with_reducible refine rd_blP ?_
  | with_reducible refine rd_andV ?_
  | with_reducible refine rd_orV ?_
  | with_reducible refine rd_notV ?_
  | with_reducible refine rd_and ?_
  | with_reducible refine rd_or ?_
  | with_reducible refine rd_not ?_
  | with_reducible refine rd_chain ?_
  | with_reducible refine rd_dput ?_
  | with_reducible refine rd_dget ?_
  | with_reducible refine rd_cb ?_
  | with_reducible refine rd_call ?_
  | with_reducible refine rd_un ?_
  | with_reducible refine rd_sl ?_
  | with_reducible refine rd_nopart ?_
  | with_reducible refine rd_part ?_
  | with_reducible refine rd_intP ?_
  | with_reducible refine rd_rU ?_
  | with_reducible refine rd_fld ?_
  | with_reducible refine rd_eqI ?_
  | with_reducible refine rd_neI ?_
  | with_reducible refine rd_mko ?_
  | with_reducible refine rd_bm ?_
  | with_reducible refine rd_gsub ?_
  | with_reducible refine rd_i0 ?_)))
theorem ok_law_is (T : Tx K mg) (B : Bk K mg T) : FnOk P w K mg base CX0 1 B.law_is.f B.law_is.fd ["_law_told_here", "_law_due"] spIs := by
  refine B.law_is.F.ok sc_law_is (fun vs H Q E h => ?_) (fun cdv A outer s H vs Q E hr h => ?_)
  · obtain ⟨i, rfl, _⟩ := h
    rfl
  · obtain ⟨i, rfl, i0, i1, q⟩ := h
    have hlog : i.natAbs.log2 < 1920 := by
      have h1 : i.natAbs < 2 ^ 1920 := Nat.lt_of_lt_of_le (show i.natAbs < 2 ^ 61 by
        have : (2 : Nat) ^ 61 = 2305843009213693952 := by decide
        omega) (Nat.pow_le_pow_right (by decide) (by decide))
      by_cases z : i.natAbs = 0
      · rw [z]
        decide
      · exact (Nat.log2_lt z).mpr h1
    refine ⟨_, (pss_one (ps_ret (pe_cmpR op_eq (pe_callB SkE.call_repr_int (by rfl) T.b_repr (by decide +kernel) (pa_cons (pv 0) pa_nil)) (pe_callB SkE.call_repr_int (by rfl) T.b_repr (by decide +kernel) (pa_cons (pv 1) pa_nil)) (nomark _)))), ?_⟩
    walk_at "rd"
    refine ⟨i, rfl, hlog, ?_⟩
    walk_at "rd"
    refine ⟨i, rfl, hlog, ?_⟩
    refine rd_eq rfl ?_
    rw [decide_eq_true rfl]
    exact q
theorem same_step (T : Tx K mg) (B : Bk K mg T) {n k : Nat} (hk : 1 ≤ k) (G_law_same : FnOk P w K mg base CX0 k B.law_same.f B.law_same.fd ["_law_one", "_law_other"] (spSame T.CP n)) :
    FnOk P w K mg base CX0 (k + 1) B.law_same.f B.law_same.fd ["_law_one", "_law_other"] (spSame T.CP (n + 1)) := by
  refine B.law_same.F.ok sc_law_same (fun vs H Q E h => ?_) (fun cdv A outer s H vs Q E hr h => ?_)
  · obtain ⟨M1, M2, d, v1, v2, rfl, _⟩ := h
    rfl
  · obtain ⟨M1, M2, d, v1, v2, rfl, hp, hdep, hz, t1, t2, q⟩ := h
    refine ⟨_, (pss_cons (ps_if (PW.pt (pw_or (pt_val (pe_callB call_isi (by rfl) T.b_isinstance (by decide +kernel) (pa_cons (pv 0) (pa_cons (pe_bltn (v := .ty "tuple") (by rfl) T.b_tuple (by decide +kernel) rfl) pa_nil)))) (pw_or1 (pt_val (pe_callB call_isi (by rfl) T.b_isinstance (by decide +kernel) (pa_cons (pv 1) (pa_cons (pe_bltn (v := .ty "tuple") (by rfl) T.b_tuple (by decide +kernel) rfl) pa_nil))))))) (pss_cons (ps_if (PW.pt (pw_or (pt_not (pt_val (pe_callB call_isi (by rfl) T.b_isinstance (by decide +kernel) (pa_cons (pv 0) (pa_cons (pe_bltn (v := .ty "tuple") (by rfl) T.b_tuple (by decide +kernel) rfl) pa_nil))))) (pw_or (pt_not (pt_val (pe_callB call_isi (by rfl) T.b_isinstance (by decide +kernel) (pa_cons (pv 1) (pa_cons (pe_bltn (v := .ty "tuple") (by rfl) T.b_tuple (by decide +kernel) rfl) pa_nil))))) (pw_or1 (pt_cmpR op_ne (pe_callB call_len_seq (by rfl) T.b_len (by decide +kernel) (pa_cons (pv 0) pa_nil)) (pe_callB call_len_seq (by rfl) T.b_len (by decide +kernel) (pa_cons (pv 1) pa_nil)) (nomark _)))))) (pss_one (ps_ret pe_bl)) pss_nil)
      (pss_one (ps_ret (pe_callB (cr_all rfl) (by rfl) T.b_all (by decide +kernel) (pa_cons (pe_lc (own := [("_law_first", 2), ("_law_later", 3)]) (g := (gTup K 2 (gCons (gName 2) (gCons (gName 3) gNil)))) rfl sc_law_same.nd (RZ.pi_zipA (by rfl) T.b_zip (pa_cons (pv 0) (pa_cons (pv 1) pa_nil))) (blkOk_by (own := [("_law_first", 2), ("_law_later", 3)]) (N := ["_law_one", "_law_other", "_law_first", "_law_later"]) (sc := defScope s_law_same) (by decide +kernel)) (fun _ _ _ _ _ => (pg_tup (by rfl) (pgs_cons (pg_name (i := 2) sc_law_same.nd rfl (Or.inl rfl)) (pgs_cons (pg_name (i := 3) sc_law_same.nd rfl (Or.inl rfl)) pgs_nil)))) (fun _ _ _ _ _ => pts_nil) (fun _ _ _ _ _ => (pe_call G_law_same (hr.mono (by omega)) rfl B.law_same.m B.law_same.F.kp B.law_same.b .nil pass0 (pa_cons (pv 2) (pa_cons (pv 3) pa_nil))))) pa_nil))))) pss_nil)
      (pss_cons (ps_if (PW.pt (pw_or (pt_cmpR op_ne (pe_callB call_isi (by rfl) T.b_isinstance (by decide +kernel) (pa_cons (pv 0) (pa_cons (pe_bltn (v := .ty "bool") (by rfl) T.b_bool (by decide +kernel) rfl) pa_nil))) (pe_callB call_isi (by rfl) T.b_isinstance (by decide +kernel) (pa_cons (pv 1) (pa_cons (pe_bltn (v := .ty "bool") (by rfl) T.b_bool (by decide +kernel) rfl) pa_nil))) (nomark _)) (pw_or1 (pt_cmpR op_ne (pe_callB call_isi (by rfl) T.b_isinstance (by decide +kernel) (pa_cons (pv 0) (pa_cons (pe_bltn (v := .ty "str") (by rfl) T.b_str (by decide +kernel) rfl) pa_nil))) (pe_callB call_isi (by rfl) T.b_isinstance (by decide +kernel) (pa_cons (pv 1) (pa_cons (pe_bltn (v := .ty "str") (by rfl) T.b_str (by decide +kernel) rfl) pa_nil))) (nomark _))))) (pss_one (ps_ret pe_bl)) pss_nil)
      (pss_one (ps_ret (pe_cmpR op_eq (pv 0) (pv 1) (nomark _)))))), ?_⟩
    have q0 := q H (Same.refl H)
    cases d with
    | none =>
      have t1' := t1
      have t2' := t2
      cases dt_non' t1'
      cases dt_non' t2'
      walk_at "rd"
      refine dt_isT T.W t1 ?_
      walk_at "rd"
      refine rd_no rfl ?_
      walk_at "rd"
      refine dt_isT T.W t2 ?_
      walk_at "rd"
      refine rd_no rfl ?_
      walk_at "rd"
      refine dt_isB T.W t1 ?_
      walk_at "rd"
      refine dt_isB T.W t2 ?_
      refine rd_ne rfl ?_
      walk_at "rd"
      refine rd_no rfl ?_
      walk_at "rd"
      refine dt_isS T.W t1 ?_
      walk_at "rd"
      refine dt_isS T.W t2 ?_
      refine rd_ne rfl ?_
      walk_at "rd"
      refine rd_no rfl ?_
      walk_at "rd"
      refine rd_eq rfl ?_
      rw [decide_eq_true rfl]
      exact q0
    | bool b =>
      have t1' := t1
      have t2' := t2
      cases dt_bl' t1'
      cases dt_bl' t2'
      walk_at "rd"
      refine dt_isT T.W t1 ?_
      walk_at "rd"
      refine rd_no rfl ?_
      walk_at "rd"
      refine dt_isT T.W t2 ?_
      walk_at "rd"
      refine rd_no rfl ?_
      walk_at "rd"
      refine dt_isB T.W t1 ?_
      walk_at "rd"
      refine dt_isB T.W t2 ?_
      refine rd_ne rfl ?_
      walk_at "rd"
      refine rd_no rfl ?_
      walk_at "rd"
      refine dt_isS T.W t1 ?_
      walk_at "rd"
      refine dt_isS T.W t2 ?_
      refine rd_ne rfl ?_
      walk_at "rd"
      refine rd_no rfl ?_
      walk_at "rd"
      refine rd_eq rfl ?_
      rw [decide_eq_true rfl]
      exact q0
    | int b =>
      have t1' := t1
      have t2' := t2
      cases dt_int' t1'
      cases dt_int' t2'
      walk_at "rd"
      refine dt_isT T.W t1 ?_
      walk_at "rd"
      refine rd_no rfl ?_
      walk_at "rd"
      refine dt_isT T.W t2 ?_
      walk_at "rd"
      refine rd_no rfl ?_
      walk_at "rd"
      refine dt_isB T.W t1 ?_
      walk_at "rd"
      refine dt_isB T.W t2 ?_
      refine rd_ne rfl ?_
      walk_at "rd"
      refine rd_no rfl ?_
      walk_at "rd"
      refine dt_isS T.W t1 ?_
      walk_at "rd"
      refine dt_isS T.W t2 ?_
      refine rd_ne rfl ?_
      walk_at "rd"
      refine rd_no rfl ?_
      walk_at "rd"
      rw [decide_eq_true rfl]
      exact q0
    | str b =>
      have t1' := t1
      have t2' := t2
      cases dt_str' t1'
      cases dt_str' t2'
      walk_at "rd"
      refine dt_isT T.W t1 ?_
      walk_at "rd"
      refine rd_no rfl ?_
      walk_at "rd"
      refine dt_isT T.W t2 ?_
      walk_at "rd"
      refine rd_no rfl ?_
      walk_at "rd"
      refine dt_isB T.W t1 ?_
      walk_at "rd"
      refine dt_isB T.W t2 ?_
      refine rd_ne rfl ?_
      walk_at "rd"
      refine rd_no rfl ?_
      walk_at "rd"
      refine dt_isS T.W t1 ?_
      walk_at "rd"
      refine dt_isS T.W t2 ?_
      refine rd_ne rfl ?_
      walk_at "rd"
      refine rd_no rfl ?_
      walk_at "rd"
      refine rd_eq rfl ?_
      rw [decide_eq_true rfl]
      exact q0
    | tuple ds =>
      obtain ⟨a1, xs1, rfl, ha1, hx1⟩ := dt_tup' (id t1)
      obtain ⟨a2, xs2, rfl, ha2, hx2⟩ := dt_tup' (id t2)
      have hl1 := hx1.len
      have hl2 := hx2.len
      have hz' : szdAll ds + 1 ≤ 900000 := hz
      have hlen := szdAll_len ds
      have hdep2 : PyData.depthAll ds + 1 < n + 1 := hdep
      walk_at "rd"
      refine dt_isT T.W t1 ?_
      walk_at "rd"
      refine rd_yes rfl ?_
      refine rd_yes rfl ?_
      walk_at "rd"
      refine dt_isT T.W t1 ?_
      walk_at "rd"
      refine rd_no rfl ?_
      walk_at "rd"
      refine dt_isT T.W t2 ?_
      walk_at "rd"
      refine rd_no rfl ?_
      walk_at "rd"
      refine ⟨a1, xs1, rfl, .inr (SqT.of ha1), ?_⟩
      walk_at "rd"
      refine ⟨a2, xs2, rfl, .inr (SqT.of ha2), ?_⟩
      walk_at "rd"
      refine rd_no (by rw [← hl1, ← hl2]; simp) ?_
      walk_at "rd"
      show RZ.iZipA _ _ _ _ _
      refine rd_izip ?_
      walk_at "rd"
      refine ⟨a1, a2, xs1, xs2, rfl, .inr ⟨SqT.of ha1, SqT.of ha2, fun D hD => lc_zipT (K := K) (by omega) (fun i H1 => Same H H1 ∧ H1 D = some (.lst (((ds.take i).map fun _ => true).map V.bl))) ⟨same_new hD, upd_same⟩
        (fun i H1 hh => ⟨SqT.of (hh.1 _ _ ha1), SqT.of (hh.1 _ _ ha2)⟩) ?_ ?_⟩⟩
      · rintro i x y U H1 hx hy ⟨hs, hacc⟩ hU
        obtain ⟨d1, e1, f1⟩ := hx1.get' hx
        obtain ⟨d2, e2, f2⟩ := hx2.get' hy
        rw [e1] at e2
        cases e2
        have su := same_new (o := .tup [x, y]) hU
        have s1 := hs.trans su
        refine ⟨U, _, rfl, SqT.of upd_same, rfl, _, _, rfl, _, _, rfl, rfl, ?_⟩
        refine ⟨rfl, ?_⟩
        refine rd_tyes ?_
        refine rd_yes rfl ?_
        walk_at "rd"
        have hdd := depthAll_get e1
        have hzz := szdAll_get e1
        refine ⟨M1, M2, d1, x, y, rfl, plainAll_get hp e1, by omega, by omega, f1.s s1, f2.s s1, fun H2 s2 => ?_⟩
        refine ⟨_, s2 _ _ (su _ _ hacc), small' (by rw [List.length_map, List.length_map, List.length_take]; omega), fun b o e => (upd_ne (ne_of_none e hD)).trans (s2 b o (s1 b o e)), ?_⟩
        rw [upd_same, take_snoc e1, List.map_append, List.map_append]
        rfl
      · rintro H1 ⟨hs, hacc⟩
        refine ⟨D, _, rfl, SqL.of hacc, ?_⟩
        have e : (((ds.take xs1.length).map fun _ => true).all id) = true := by
          rw [List.all_map]
          simp
        rw [e]
        exact q _ hs
    | list es => simp only [plainD] at hp; cases hp
    | dict es => simp only [plainD] at hp; cases hp
theorem ok_same_n (T : Tx K mg) (B : Bk K mg T) : ∀ n, FnOk P w K mg base CX0 (n + 1) B.law_same.f B.law_same.fd ["_law_one", "_law_other"] (spSame T.CP n)
  | 0 => fn_no fun vs H Q E h => by
    obtain ⟨M1, M2, d, v1, v2, _, _, hn, _⟩ := h
    omega
  | n + 1 => same_step T B (by omega) (ok_same_n T B n)
theorem ok_law_sign (T : Tx K mg) (B : Bk K mg T) : FnOk P w K mg base CX0 1 B.law_sign.f B.law_sign.fd ["_law_byte"] spLSign := by
  refine B.law_sign.F.ok sc_law_sign (fun vs H Q E h => ?_) (fun cdv A outer s H vs Q E hr h => ?_)
  · obtain ⟨b, rfl, _⟩ := h
    rfl
  · obtain ⟨b, rfl, hb, q⟩ := h
    refine ⟨_, (pss_cons (ps_set (i := 1) sc_law_sign.nd rfl (Or.inl rfl) pe_str)
      (pss_cons (ps_set (i := 1) sc_law_sign.nd rfl (Or.inl rfl) (pe_op op_add_str (pv 1) pe_str))
      (pss_one (ps_ret (pe_ix ix_str (pv 1) (pe_op op_sub (pe_op op_sub (pv 0) pe_int) (pe_callTy call_int1 (by rfl) T.b_int (by decide +kernel) (pa_cons (pe_cmpR op_gt (pv 0) pe_int (nomark _)) pa_nil))) (fun _ _ => rfl)))))), ?_⟩
    walk_at "rd"
    refine ⟨_, _, rfl, rfl, by decide, ?_⟩
    walk_at "rd"
    refine .inr ⟨_, rfl, ?_⟩
    walk_at "rd"
    exact ⟨_, _, _, rfl, rfl, by decide, lsign_at hb, q⟩
theorem ok_law_mark (T : Tx K mg) (B : Bk K mg T) : FnOk P w K mg base CX0 1 B.law_mark.f B.law_mark.fd ["_law_row"] spMarkOf := by
  refine B.law_mark.F.ok sc_law_mark (fun vs H Q E h => ?_) (fun cdv A outer s H vs Q E hr h => ?_)
  · obtain ⟨a, row, rfl, _⟩ := h
    rfl
  · obtain ⟨a, row, rfl, ha, q⟩ := h
    refine ⟨_, (pss_cons (ps_set (i := 1) sc_law_mark.nd rfl (Or.inl rfl) pe_int)
      (pss_cons (ps_for PassesOwn.never rfl (pi_tup (pv 0)) (pg_name (i := 2) sc_law_mark.nd rfl (Or.inl rfl)) (pss_one (ps_set (i := 1) sc_law_mark.nd rfl (Or.inl rfl) (pe_op op_mod (pe_callTy call_int1 (by rfl) T.b_int (by decide +kernel) (pa_cons (pe_op op_add (pe_op op_add (pe_op op_mul (pv 1) pe_int) (pv 2)) pe_int) pa_nil)) (pe_op op_sub (pe_op op_pow pe_int pe_int) pe_int)))))
      (pss_one (ps_ret (pv 1))))), ?_⟩
    walk_at "rd"
    refine ⟨_, rfl, a, rfl, ⟨_, SqT.of ha⟩, for_tup (K := K) (a := a) (xs := row.map V.int) (fun i σ H1 => H1 = H ∧ ∃ u : Option V, σ = [some (.ref a), some (.int (markL (row.take i))), u])
      ⟨rfl, none, rfl⟩ (fun i σ H1 _ hh => by rw [hh.1]; exact SqT.of ha) ?_ ?_⟩
    · rintro i y σ H1 hi ⟨rfl, u, rfl⟩
      obtain ⟨b, hb, rfl⟩ := mapint_get hi
      have e61 : ((2 : Int) ^ (61 : Int).toNat - 1) = 2305843009213693951 := by decide
      walk_at "rd"
      refine rd_iC (.inr ⟨by decide, by decide⟩) ?_
      walk_at "rd"
      refine .inl ⟨_, rfl, ?_⟩
      walk_at "rd"
      refine rd_iC ⟨by decide, by decide, by decide⟩ ?_
      walk_at "rd"
      refine rd_iC (show (0 : Int) < (2 : Int) ^ (61 : Int).toNat - 1 by decide) ?_
      rw [e61]
      walk_at "rd"
      refine ⟨rfl, some (.int b), ?_⟩
      rw [take_snoc hb, markL_snoc]
      rfl
    · rintro σ H1 ⟨rfl, u, rfl⟩
      rw [List.length_map, List.take_length]
      walk_at "rd"
      exact q
end
end Mw

/-! R14 -/
namespace Mw
open PySem L2
def spLString : Sp := fun vs H Q _ => ∃ (a : Addr) (row : List Int) (b h : Nat) (m : Int), vs = [.ref a, .int (b : Int), .int m, .int (h : Int)] ∧ RowAt H a row ∧ h ≤ row.length ∧ 0 ≤ m ∧
  ((m = 0 ∨ 20 < m) → ∀ t H', Same H H' → H' t = some (.tup [.non, .int (b : Int)]) → Q (.ref t) H') ∧
  (¬ (m = 0 ∨ 20 < m) → (∀ cs e, strR row m.toNat h = .ok cs e → ∀ t u H', Same H H' → H' t = some (.tup [.ref u, .int (e : Nat)]) → H' u = some (.tup [.str (strOf cs)]) → Q (.ref t) H') ∧ (∀ e, strR row m.toNat h = .bad e → ∀ t H', Same H H' → H' t = some (.tup [.non, .int (e : Nat)]) → Q (.ref t) H'))
theorem rd_min2 {r : List V → Hp → VK → Prop} {H : Hp} {Q : VK} {vs : List V} (h : r vs H Q) : r vs H Q := h
section
variable {P : Program} {w : World} {K : PySem.W.Frag} {mg : Str → Option Value} {base : Heap}
local macro_rules | `(tactic| walk_at "rd") => `(tactic| (repeat (first
  | ((with_reducible refine' rd_var ?h0 ?_); (case h0 => rfl))
  | with_reducible refine rd_c ?_
  | with_reducible refine rd_op ?_
  | with_reducible refine rd_nil ?_
  | with_reducible refine rd_cons ?_
  | with_reducible refine rd_tup ?_
  | with_reducible refine rd_lst ?_
  | with_reducible refine rd_ifs ?_
  | with_reducible refine rd_seq ?_
  | with_reducible refine rd_next ?_
  | with_reducible refine rd_ret ?_
  | with_reducible refine rd_asg ?_
  | ((with_reducible refine' rd_gset ?hs ?_); (case hs => ((simp only [L2.start, List.map_cons, List.map_nil, List.length_cons, List.length_nil, List.cons_append, List.nil_append, List.set_cons_zero, List.set_cons_succ, Nat.reduceAdd, Nat.reduceSub, Nat.zero_add, List.reduceReplicate]); rfl)))
  | with_reducible refine rd_drop ?_
  | with_reducible refine rd_test ?_
  | with_reducible refine rd_B ?_
  | with_reducible refine rd_bl ?_
  | with_reducible refine rd_blP ?_
  | with_reducible refine rd_andV ?_
  | with_reducible refine rd_orV ?_
  | with_reducible refine rd_notV ?_
  | with_reducible refine rd_and ?_
  | with_reducible refine rd_or ?_
  | with_reducible refine rd_not ?_
  | with_reducible refine rd_chain ?_
  | with_reducible refine rd_dput ?_
  | with_reducible refine rd_dget ?_
  | with_reducible refine rd_cb ?_
  | with_reducible refine rd_call ?_
  | with_reducible refine rd_un ?_
  | with_reducible refine rd_sl ?_
  | with_reducible refine rd_nopart ?_
  | with_reducible refine rd_part ?_
  | with_reducible refine rd_intP ?_
  | with_reducible refine rd_rU ?_
  | with_reducible refine rd_fld ?_
  | with_reducible refine rd_eqI ?_
  | with_reducible refine rd_neI ?_
  | with_reducible refine rd_mko ?_
  | with_reducible refine rd_bm ?_
  | with_reducible refine rd_gsub ?_
  | with_reducible refine rd_i0 ?_)))
theorem ok_law_read_whole (T : Tx K mg) (B : Bk K mg T) : FnOk P w K mg base CX0 1 B.law_read_whole.f B.law_read_whole.fd ["_law_row", "_law_at"] spLWhole := by
  refine B.law_read_whole.F.ok sc_law_read_whole (fun vs H Q E h => ?_) (fun cdv A outer s H vs Q E hr h => ?_)
  · obtain ⟨a, row, h, rfl, _⟩ := h
    rfl
  · obtain ⟨a, row, h, rfl, ha, hl, q1, q0⟩ := h
    have hle := ha.le
    refine ⟨_, (pss_cons (ps_for PassesOwn.never rfl (pi_range2 (by rfl) T.b_range (pa_cons (pe_op op_add (pv 1) pe_int) (pa_cons (pe_op op_add (pe_callB call_len_seq (by rfl) T.b_len (by decide +kernel) (pa_cons (pv 0) pa_nil)) pe_int) pa_nil))) (pg_name (i := 2) sc_law_read_whole.nd rfl (Or.inl rfl)) (pss_one (ps_if (pt_cmpR op_lt (pe_ix ix_tup (pv 0) (pe_op op_sub (pv 2) pe_int) (fun _ _ => rfl)) pe_int (nomark _)) (C8.pss_cut (ps_if (PW.pt (pw_and (pt_cmpR op_eq (pe_ix ix_tup (pv 0) (pe_op op_sub (pv 2) pe_int) (fun _ _ => rfl)) pe_int (nomark _)) (pw_and1 (pt_cmpR op_gt (pe_op op_sub (pv 2) (pv 1)) pe_int (nomark _))))) (pss_one (ps_ret (pe_tup (pa_cons pe_non (pa_cons (pv 1) pa_nil))))) pss_nil)
      (pss_cons (ps_set (i := 3) sc_law_read_whole.nd rfl (Or.inl rfl) pe_int)
      (pss_cons (ps_for PassesOwn.never rfl (pi_tup (pe_revT (pe_slice sl_tupA (pv 0) (po_some (pv 1)) (po_some (pv 2))))) (pg_name (i := 4) sc_law_read_whole.nd rfl (Or.inl rfl)) (pss_one (ps_set (i := 3) sc_law_read_whole.nd rfl (Or.inl rfl) (pe_op op_add (pe_op op_mul (pv 3) pe_int) (pe_op op_mod (pe_callTy call_int1 (by rfl) T.b_int (by decide +kernel) (pa_cons (pv 4) pa_nil)) pe_int)))))
      (pss_one (ps_ret (pe_tup (pa_cons (pv 3) (pa_cons (pv 2) pa_nil)))))))) pss_nil)))
      (pss_one (ps_ret (pe_tup (pa_cons pe_non (pa_cons (pv 1) pa_nil)))))), ?_⟩
    walk_at "rd"
    show iRng2 _ _ _ _
    refine rd_rng2' ?_
    walk_at "rd"
    refine ⟨a, _, rfl, .inr (SqT.of ha.1), ?_⟩
    walk_at "rd"
    rw [List.length_map]
    refine ⟨(h : Int) + 1, (row.length : Int) + 1, rfl, ⟨by omega, by omega, by omega, by omega⟩, ?_⟩
    rw [show ((row.length : Int) + 1 - ((h : Int) + 1)).toNat = row.length - h by omega]
    generalize hL : lead (row.drop h) = L
    refine for_range (lo := (h : Int) + 1) (n := row.length - h) (fun i σ H1 => H1 = H ∧ (∃ u1 : Option V, σ = [some (.ref a), some (.int (h : Int)), u1, none, none]) ∧ L = i + lead (row.drop (h + i)))
      ⟨rfl, ⟨none, rfl⟩, by simp [hL]⟩ ?_ ?_
    · rintro i σ H1 hi ⟨rfl, ⟨u1, rfl⟩, hlead⟩
      have hlt : h + i < row.length := by omega
      obtain ⟨b, eb, ebv⟩ := row_get hlt
      have b0 := (ha.2 b (List.mem_of_getElem? eb)).1
      have eix : ((h : Int) + 1 + (i : Nat) - 1) = ((h + i : Nat) : Int) := by omega
      walk_at "rd"
      rw [eix]
      refine rd_ixT ha.1 (atI_nat ebv) ?_
      walk_at "rd"
      refine rd_ite (fun h1 => ?_) (fun h1 => ?_)
      · have c8 := of_decide_eq_true h1
        have eLi : L = i := by rw [hlead, lead_lt eb (by omega)]; rfl
        have eW : whR row h = if b = 0 ∧ 0 < L then none else some (val ((row.drop h).take (L + 1)), h + L + 1) := by
          unfold whR
          rw [hL, show h + L = h + i by omega, eb]
        walk_at "rd"
        refine ⟨fun σ2 H2 => σ2 = [some (.ref a), some (.int (h : Int)), some (.int ((h : Int) + 1 + (i : Nat))), none, none] ∧ H2 = H1 ∧ whR row h = some (val ((row.drop h).take (L + 1)), h + L + 1), ?_, ?_⟩
        · walk_at "rd"
          rw [eix]
          refine rd_ixT ha.1 (atI_nat ebv) ?_
          walk_at "rd"
          refine rd_ite (fun h2 => ?_) (fun h2 => ?_)
          · walk_at "rd"
            refine rd_ite (fun h3 => ?_) (fun h3 => ?_)
            · walk_at "rd"
              refine rd_disp rfl fun t nt => ?_
              exact q0 (by rw [eW, if_pos ⟨of_decide_eq_true h2, by have := of_decide_eq_true h3; omega⟩]) t _ (same_new nt) upd_same
            · refine ⟨rfl, rfl, ?_⟩
              rw [eW, if_neg (fun z => by have := of_decide_eq_false h3; omega)]
          · refine rd_no rfl ?_
            refine ⟨rfl, rfl, ?_⟩
            rw [eW, if_neg (fun z => of_decide_eq_false h2 z.1)]
        · rintro σ2 H2 ⟨rfl, rfl, hw⟩
          walk_at "rd"
          show iTup _ _ _ _ _
          refine rd_itup ?_
          refine rd_revT ?_
          walk_at "rd"
          refine rd_cutA ha.1 fun c H3 s3 hc => ?_
          rw [show ((h : Int) + 1 + (i : Nat)) = ((h + L + 1 : Nat) : Int) by omega, cutN row h (h + L + 1) hl (by omega) V.int, show h + L + 1 - h = L + 1 by omega] at hc
          generalize hxs : (row.drop h).take (L + 1) = xs at hc hw
          refine ⟨c, _, rfl, SqT.of hc, fun d nd => ?_⟩
          have s4 := s3.trans (same_new (o := .tup (xs.map V.int).reverse) nd)
          refine ⟨d, rfl, ⟨_, SqT.of upd_same⟩, for_tup (K := K) (a := d) (xs := (xs.map V.int).reverse) (fun j σ H4 => H4 = upd H3 d (.tup (xs.map V.int).reverse) ∧ ∃ u : Option V, σ = [some (.ref a), some (.int (h : Int)), some (.int ((h : Int) + 1 + (i : Nat))), some (.int (val (xs.drop (xs.length - j)))), u])
            ⟨rfl, none, by rw [Nat.sub_zero, List.drop_length]; rfl⟩ (fun j σ H4 _ hh => by rw [hh.1]; exact SqT.of upd_same) ?_ ?_⟩
          · rintro j y σ H4 hj ⟨rfl, u, rfl⟩
            rw [← List.map_reverse] at hj
            obtain ⟨b2, hb2, rfl⟩ := mapint_get hj
            walk_at "rd"
            refine rd_iC (.inr ⟨by decide, by decide⟩) ?_
            walk_at "rd"
            refine .inl ⟨_, rfl, ?_⟩
            walk_at "rd"
            refine rd_iC (show (0 : Int) < 128 by decide) ?_
            walk_at "rd"
            refine ⟨rfl, some (.int b2), ?_⟩
            rw [val_rev xs j b2 hb2]
          · rintro σ H4 ⟨rfl, u, rfl⟩
            rw [List.length_reverse, List.length_map, Nat.sub_self, List.drop_zero]
            walk_at "rd"
            refine rd_disp rfl fun t nt => ?_
            refine q1 _ _ hw t _ (s4.trans (same_new nt)) ?_
            rw [upd_same, show ((h : Int) + 1 + (i : Nat)) = ((h + L + 1 : Nat) : Int) by omega]
      · have h8 := of_decide_eq_false h1
        refine ⟨rfl, ⟨_, rfl⟩, ?_⟩
        rw [hlead, lead_ge eb (by omega), show h + (i + 1) = h + i + 1 by omega]
        omega
    · rintro σ H1 ⟨rfl, ⟨u1, rfl⟩, hlead⟩
      have e : h + (row.length - h) = row.length := by omega
      rw [e, lead_end (Nat.le_refl _)] at hlead
      walk_at "rd"
      refine rd_disp rfl fun t nt => ?_
      refine q0 ?_ t _ (same_new nt) upd_same
      unfold whR
      rw [hL, List.getElem?_eq_none (by omega)]
theorem ok_law_read_string (T : Tx K mg) (B : Bk K mg T) : FnOk P w K mg base CX0 2 B.law_read_string.f B.law_read_string.fd ["_law_row", "_law_begin", "_law_many", "_law_here"] spLString := by
  have G_law_sign := ok_law_sign (P := P) (w := w) (base := base) T B
  refine B.law_read_string.F.ok sc_law_read_string (fun vs H Q E h => ?_) (fun cdv A outer s H vs Q E hr h => ?_)
  · obtain ⟨a, row, b, h, m, rfl, _⟩ := h
    rfl
  · obtain ⟨a, row, b, h, m, rfl, ha, hl, hm0, q0, q1⟩ := h
    have hle := ha.le
    refine ⟨_, (C8.pss_cut (ps_if (pt_not (pt_chain op_le op_le pe_int (pv 2) pe_int)) (pss_one (ps_ret (pe_tup (pa_cons pe_non (pa_cons (pv 1) pa_nil))))) pss_nil)
      (pss_cons (ps_for PassesOwn.never rfl (pi_range2 (by rfl) T.b_range (pa_cons (pv 3) (pa_cons (pe_op op_add (pv 3) (pv 2)) pa_nil))) (pg_name (i := 4) sc_law_read_string.nd rfl (Or.inl rfl)) (pss_one (ps_if (PW.pt (pw_or (pt_cmpR op_ge (pv 4) (pe_callB call_len_seq (by rfl) T.b_len (by decide +kernel) (pa_cons (pv 0) pa_nil)) (nomark _)) (pw_or (pt_not (pt_chain op_le op_le pe_int (pe_ix ix_tup (pv 0) (pv 4) (fun _ _ => rfl)) pe_int)) (pw_or1 (pt_cmpR op_eq (pe_ix ix_tup (pv 0) (pv 4) (fun _ _ => rfl)) pe_int (nomark _)))))) (pss_one (ps_ret (pe_tup (pa_cons pe_non (pa_cons (pe_callB (call_min2 rfl) (by rfl) T.b_min (by decide +kernel) (pa_cons (pv 4) (pa_cons (pe_callB call_len_seq (by rfl) T.b_len (by decide +kernel) (pa_cons (pv 0) pa_nil)) pa_nil))) pa_nil))))) pss_nil)))
      (pss_one (ps_ret (pe_tup (pa_cons (pe_tup (pa_cons (pe_join pe_str (pe_lc (own := [("_law_byte", 5)]) (g := gName 5) rfl sc_law_read_string.nd (pi_tup (pe_slice sl_tupA (pv 0) (po_some (pv 3)) (po_some (pe_op op_add (pv 3) (pv 2))))) (blkOk_by (own := [("_law_byte", 5)]) (N := ["_law_row", "_law_begin", "_law_many", "_law_here", "_law_at", "_law_byte"]) (sc := defScope s_law_read_string) (by decide +kernel)) (fun _ _ _ _ _ => pg_name (i := 5) sc_law_read_string.nd rfl (Or.inl rfl)) (fun _ _ _ _ _ => pts_nil) (fun _ _ _ _ _ => (pe_call G_law_sign (hr.mono (by decide)) rfl B.law_sign.m B.law_sign.F.kp B.law_sign.b .nil pass0 (pa_cons (pv 5) pa_nil))))) pa_nil)) (pa_cons (pe_op op_add (pv 3) (pv 2)) pa_nil))))))), ?_⟩
    walk_at "rd"
    refine ⟨fun σ1 H1 => σ1 = [some (.ref a), some (.int (b : Int)), some (.int m), some (.int (h : Int)), none, none] ∧ H1 = H ∧ ¬ (m = 0 ∨ 20 < m), ?_, ?_⟩
    · have bad : (m = 0 ∨ 20 < m) → ∀ t, H t = none → Q (.ref t) (upd H t (.tup [.non, .int (b : Int)])) := fun z t nt => q0 z t _ (same_new nt) upd_same
      walk_at "rd"
      refine rd_ite (fun h1 => ?_) (fun h1 => ?_)
      · walk_at "rd"
        refine rd_ite (fun h2 => ?_) (fun h2 => ?_)
        · walk_at "rd"
          refine rd_disp rfl fun t nt => ?_
          have : ¬ m ≤ 20 := by simpa using h2
          exact bad (.inr (by omega)) t nt
        · have : m ≤ 20 := by simpa using h2
          have := of_decide_eq_true h1
          exact ⟨rfl, rfl, by omega⟩
      · walk_at "rd"
        refine rd_yes rfl ?_
        walk_at "rd"
        refine rd_disp rfl fun t nt => ?_
        exact bad (.inl (by have := of_decide_eq_false h1; omega)) t nt
    · rintro σ1 H1 ⟨rfl, rfl, hm⟩
      obtain ⟨q2, q3⟩ := q1 hm
      obtain ⟨m', rfl⟩ : ∃ m' : Nat, m = (m' : Int) := ⟨m.toNat, by omega⟩
      rw [Int.toNat_natCast] at q2 q3
      walk_at "rd"
      show iRng2 _ _ _ _
      refine rd_rng2' ?_
      walk_at "rd"
      refine ⟨h, (h : Int) + m', rfl, ⟨by omega, by omega, by omega, by omega⟩, ?_⟩
      rw [show ((h : Int) + m' - h).toNat = m' by omega]
      refine for_range (lo := (h : Int)) (n := m') (fun i σ H2 => H2 = H1 ∧ (∃ u : Option V, σ = [some (.ref a), some (.int (b : Int)), some (.int (m' : Int)), some (.int (h : Int)), u, none]) ∧ h + i ≤ row.length ∧ (∀ c ∈ (row.drop h).take i, isSign c = true) ∧ strR row m' h = appR (((row.drop h).take i).map Int.toNat) (strR row (m' - i) (h + i)))
        ⟨rfl, ⟨none, rfl⟩, hl, fun c hc => by simp at hc, by
          rw [Nat.sub_zero, Nat.add_zero]
          cases strR row m' h <;> rfl⟩ ?_ ?_
      · rintro i σ H2 hi ⟨rfl, ⟨u, rfl⟩, hil, hsg, hst⟩
        obtain ⟨k, hk⟩ : ∃ k, m' - i = k + 1 := ⟨m' - i - 1, by omega⟩
        rw [hk] at hst
        have eH : ((h : Int) + (i : Nat)) = ((h + i : Nat) : Int) := by omega
        walk_at "rd"
        rw [eH]
        refine ⟨a, _, rfl, .inr (SqT.of ha.1), ?_⟩
        rw [List.length_map]
        have badEnd : ∀ e, strR row m' h = .bad e → ∀ t, H2 t = none → Q (.ref t) (upd H2 t (.tup [.non, .int (e : Nat)])) := fun e z t nt => q3 e z t _ (same_new nt) upd_same
        walk_at "rd"
        refine rd_ite (fun h1 => ?_) (fun h1 => ?_)
        · have hge : row.length ≤ h + i := by
            have := of_decide_eq_true h1
            omega
          have e0 : h + i = row.length := by omega
          have eb : strR row m' h = .bad row.length := by
            rw [hst]
            show appR _ (match row[h + i]? with | none => _ | some b => _) = _
            rw [List.getElem?_eq_none hge]
            rfl
          refine rd_yes rfl ?_
          walk_at "rd"
          refine ⟨a, _, rfl, .inr (SqT.of ha.1), ?_⟩
          rw [List.length_map]
          refine ⟨_, _, rfl, ?_⟩
          walk_at "rd"
          refine rd_disp rfl fun t nt => ?_
          rw [if_neg (by omega), e0]
          exact badEnd _ eb t nt
        · have hlt : h + i < row.length := by
            have := of_decide_eq_false h1
            omega
          obtain ⟨c, ec, ecv⟩ := row_get hlt
          have c0 := (ha.2 c (List.mem_of_getElem? ec)).1
          have e2 : strR row (k + 1) (h + i) = if isSign c = true then consR c.toNat (strR row k (h + i + 1)) else .bad (h + i) := by
            show (match row[h + i]? with | none => _ | some b => _) = _
            rw [ec]
          rw [e2] at hst
          have bad : isSign c = false → strR row m' h = .bad (h + i) := fun z => by
            rw [hst, if_neg (by rw [z]; decide)]
            rfl
          have edr : (row.drop h)[i]? = some c := by
            rw [List.getElem?_drop]
            exact ec
          have good : isSign c = true → H2 = H2 ∧ (∃ u : Option V, [some (V.ref a), some (.int (b : Int)), some (.int (m' : Int)), some (.int (h : Int)), some (.int ((h + i : Nat) : Int)), none] = [some (.ref a), some (.int (b : Int)), some (.int (m' : Int)), some (.int (h : Int)), u, none]) ∧ h + (i + 1) ≤ row.length ∧ (∀ c ∈ (row.drop h).take (i + 1), isSign c = true) ∧ strR row m' h = appR (((row.drop h).take (i + 1)).map Int.toNat) (strR row (m' - (i + 1)) (h + (i + 1))) := fun z => by
            refine ⟨rfl, ⟨_, rfl⟩, by omega, fun x hx => ?_, ?_⟩
            · rw [take_snoc edr] at hx
              rcases List.mem_append.mp hx with y | y
              · exact hsg x y
              · rw [show x = c by simpa using y]
                exact z
            · rw [hst, if_pos z, appR_cons, take_snoc edr, List.map_append, show m' - (i + 1) = k by omega, show h + (i + 1) = h + i + 1 by omega]
              rfl
          walk_at "rd"
          refine rd_ixT ha.1 (atI_nat ecv) ?_
          walk_at "rd"
          refine rd_ite (fun h2 => ?_) (fun h2 => ?_)
          · have c32 : 32 ≤ c := of_decide_eq_true h2
            walk_at "rd"
            refine rd_ite (fun h3 => ?_) (fun h3 => ?_)
            · have c126 : ¬ c ≤ 126 := by simpa using h3
              refine rd_yes rfl ?_
              walk_at "rd"
              refine ⟨a, _, rfl, .inr (SqT.of ha.1), ?_⟩
              rw [List.length_map]
              refine ⟨_, _, rfl, ?_⟩
              walk_at "rd"
              refine rd_disp rfl fun t nt => ?_
              rw [if_neg (by omega)]
              exact badEnd _ (bad (by unfold isSign; rw [decide_eq_false c126]; simp)) t nt
            · have c126 : c ≤ 126 := by simpa using h3
              walk_at "rd"
              refine rd_ixT ha.1 (atI_nat ecv) ?_
              walk_at "rd"
              refine rd_ite (fun h4 => ?_) (fun h4 => ?_)
              · walk_at "rd"
                refine ⟨a, _, rfl, .inr (SqT.of ha.1), ?_⟩
                rw [List.length_map]
                refine ⟨_, _, rfl, ?_⟩
                walk_at "rd"
                refine rd_disp rfl fun t nt => ?_
                rw [if_neg (by omega)]
                exact badEnd _ (bad (by unfold isSign; rw [h4]; simp)) t nt
              · exact good (by unfold isSign; rw [decide_eq_true c32, decide_eq_true c126, h4]; rfl)
          · have c32 : ¬ 32 ≤ c := of_decide_eq_false h2
            walk_at "rd"
            refine rd_yes rfl ?_
            refine rd_yes rfl ?_
            walk_at "rd"
            refine ⟨a, _, rfl, .inr (SqT.of ha.1), ?_⟩
            rw [List.length_map]
            refine ⟨_, _, rfl, ?_⟩
            walk_at "rd"
            refine rd_disp rfl fun t nt => ?_
            rw [if_neg (by omega)]
            exact badEnd _ (bad (by unfold isSign; rw [decide_eq_false c32]; simp)) t nt
      · rintro σ H2 ⟨rfl, ⟨u, rfl⟩, hil, hsg, hst⟩
        walk_at "rd"
        refine rd_join ?_
        walk_at "rd"
        refine ⟨⟨_, rfl⟩, ?_⟩
        show iTup _ _ _ _ _
        refine rd_itup ?_
        walk_at "rd"
        refine rd_cutA ha.1 fun c H3 s3 hc => ?_
        rw [show ((h : Int) + (m' : Int)) = ((h + m' : Nat) : Int) by omega, cutN row h (h + m') hl hil V.int, show h + m' - h = m' by omega] at hc
        generalize hxs : (row.drop h).take m' = xs at hc hsg hst
        have hxl : xs.length ≤ 20 := by
          rw [← hxs, List.length_take]
          omega
        refine ⟨c, rfl, ⟨_, SqT.of hc⟩, fun D hD => lc_tup (K := K) (a := c) (xs := xs.map V.int) (fun i H4 => Same H2 H4 ∧ H4 c = some (.tup (xs.map V.int)) ∧ H4 D = some (.lst (((xs.take i).map Int.toNat).map fun c => V.str ⟨#[c]⟩)))
          ⟨s3.trans (same_new hD), (same_new hD) _ _ hc, upd_same⟩ (fun i H4 _ hh => SqT.of hh.2.1) ?_ ?_⟩
        · rintro i y H4 hi ⟨hs, hc4, hacc⟩
          obtain ⟨b2, hb2, rfl⟩ := mapint_get hi
          refine ⟨rfl, ?_⟩
          refine rd_tyes ?_
          refine rd_yes rfl ?_
          walk_at "rd"
          refine ⟨b2, rfl, hsg b2 (List.mem_of_getElem? hb2), ?_⟩
          refine ⟨_, hacc, small' (by rw [List.length_map, List.length_map, List.length_take]; omega), fun x o ex => (upd_ne (ne_of_none (s3 _ _ ex) hD)).trans (hs x o ex), (upd_ne (ne_of_none hc hD)).trans hc4, ?_⟩
          rw [upd_same, take_snoc hb2, List.map_append, List.map_append]
          rfl
        · rintro H4 ⟨hs, hc4, hacc⟩
          rw [List.length_map, List.take_length] at hacc
          refine ⟨"", D, (xs.map Int.toNat).map fun c => (⟨#[c]⟩ : Str), rfl, rfl, .inl (SqL.of (by rw [hacc, List.map_map (g := V.str)]; rfl)), join_ok (by rw [List.length_map]; omega), ?_⟩
          rw [show (Str.ofString "") = ("" : Str) from rfl, join_one]
          walk_at "rd"
          refine rd_disp rfl fun u2 nu2 => ?_
          walk_at "rd"
          refine rd_disp rfl fun t nt => ?_
          have sA := same_new (o := .tup [.str (strOf (xs.map Int.toNat))]) nu2
          have sB := same_new (o := .tup [.ref u2, .int ((h : Int) + (m' : Int))]) nt
          refine q2 (xs.map Int.toNat) (h + m') ?_ t u2 _ ((hs.trans sA).trans sB) ?_ (sB _ _ upd_same)
          · rw [hst, Nat.sub_self]
            show Rs.ok (xs.map Int.toNat ++ []) (h + m') = _
            rw [List.append_nil]
          · rw [upd_same, show ((h + m' : Nat) : Int) = (h : Int) + m' by omega]
end
end Mw

/-! R15 -/
namespace Mw
open PySem L2
def spLRead (CP : Addr → Prop) (n : Nat) : Sp := fun vs H Q _ => ∃ (a : Addr) (row : List Int) (h m : Nat), m < n ∧ vs = [.ref a, .int (h : Int), .int (m : Int)] ∧ RowAt H a row ∧ h ≤ row.length ∧
  (∀ d e, Rd row m h (.ok d e) → ∀ t u v H', Same H H' → H' t = some (.tup [.ref u, .int (e : Nat)]) → H' u = some (.tup [v]) → Dt CP [] H' d v → Q (.ref t) H') ∧
  (∀ e, Rd row m h (.bad e) → ∀ t H', Same H H' → H' t = some (.tup [.non, .int (e : Nat)]) → Q (.ref t) H')
def spLTold (CP : Addr → Prop) : Sp := fun vs H Q _ => ∃ (a : Addr) (row : List Int), vs = [.ref a] ∧ RowAt H a row ∧
  (∀ d, Rd row 20 0 (.ok d row.length) → ∀ u v H', Same H H' → H' u = some (.tup [v]) → Dt CP [] H' d v → Q (.ref u) H') ∧
  (∀ d e, Rd row 20 0 (.ok d e) → e ≠ row.length → ∀ H', Same H H' → Q (.int (e : Nat)) H') ∧
  (∀ e, Rd row 20 0 (.bad e) → ∀ H', Same H H' → Q (.int (e : Nat)) H')
def spLSealed : Sp := fun vs H Q _ => ∃ (a : Addr) (row : List Int), vs = [.ref a] ∧ H a = some (.tup (row.map V.int)) ∧ row.length ≤ 900000 ∧ ∀ t H', Same H H' → H' t = some (.tup ((row ++ sealL row).map V.int)) → Q (.ref t) H'
def spLOpened (CP : Addr → Prop) : Sp := fun vs H Q _ => ∃ (a : Addr) (row : List Int), vs = [.ref a] ∧ RowAt H a row ∧ ∀ D v H', OpD row D → Same H H' → Dt CP [] H' D v → Q v H'
theorem sk_law {m : Int} (h : 0 ≤ m) : sk 4 m = [(1 : Int), 256, 65536, 16777216].map fun x => (m % 4294967296) / x % 256 := by
  show [m % 256, m / 256 % 256, m / 256 / 256 % 256, m / 256 / 256 / 256 % 256] = [(m % 4294967296) / 1 % 256, (m % 4294967296) / 256 % 256, (m % 4294967296) / 65536 % 256, (m % 4294967296) / 16777216 % 256]
  rw [show m % 256 = (m % 4294967296) / 1 % 256 by omega, show m / 256 % 256 = (m % 4294967296) / 256 % 256 by omega, show m / 256 / 256 % 256 = (m % 4294967296) / 65536 % 256 by omega, show m / 256 / 256 / 256 % 256 = (m % 4294967296) / 16777216 % 256 by omega]
section
variable {P : Program} {w : World} {K : PySem.W.Frag} {mg : Str → Option Value} {base : Heap}
local macro_rules | `(tactic| walk_at "rd") => `(tactic| (repeat (first
  | ((with_reducible refine' rd_var ?h0 ?_); (case h0 => rfl))
  | with_reducible refine rd_c ?_
  | with_reducible refine rd_op ?_
  | with_reducible refine rd_nil ?_
  | with_reducible refine rd_cons ?_
  | with_reducible refine rd_tup ?_
  | with_reducible refine rd_lst ?_
  | with_reducible refine rd_ifs ?_
  | with_reducible refine rd_seq ?_
  | with_reducible refine rd_next ?_
  | with_reducible refine rd_ret ?_
  | with_reducible refine rd_asg ?_
  | ((with_reducible refine' rd_gset ?hs ?_); (case hs => ((simp only [L2.start, List.map_cons, List.map_nil, List.length_cons, List.length_nil, List.cons_append, List.nil_append, List.set_cons_zero, List.set_cons_succ, Nat.reduceAdd, Nat.reduceSub, Nat.zero_add, List.reduceReplicate]); rfl)))
  | with_reducible refine rd_drop ?_
  | with_reducible refine rd_test ?_
  | with_reducible refine rd_B ?_
  | with_reducible refine rd_bl ?_
  | with_reducible refine rd_blP ?_
  | with_reducible refine rd_andV ?_
  | with_reducible refine rd_orV ?_
  | with_reducible refine rd_notV ?_
  | with_reducible refine rd_and ?_
  | with_reducible refine rd_or ?_
  | with_reducible refine rd_not ?_
  | with_reducible refine rd_chain ?_
  | with_reducible refine rd_dput ?_
  | with_reducible refine rd_dget ?_
  | with_reducible refine rd_cb ?_
  | with_reducible refine rd_call ?_
  | with_reducible refine rd_un ?_
  | with_reducible refine rd_sl ?_
  | with_reducible refine rd_nopart ?_
  | with_reducible refine rd_part ?_
  | with_reducible refine rd_intP ?_
  | with_reducible refine rd_rU ?_
  | with_reducible refine rd_fld ?_
  | with_reducible refine rd_eqI ?_
  | with_reducible refine rd_neI ?_
  | with_reducible refine rd_mko ?_
  | with_reducible refine rd_bm ?_
  | with_reducible refine rd_gsub ?_
  | with_reducible refine rd_i0 ?_)))
theorem lread_step (T : Tx K mg) (B : Bk K mg T) {n k : Nat} (hk : 2 ≤ k) (G_law_read : FnOk P w K mg base CX0 k B.law_read.f B.law_read.fd ["_law_row", "_law_at", "_law_left"] (spLRead T.CP n)) :
    FnOk P w K mg base CX0 (k + 1) B.law_read.f B.law_read.fd ["_law_row", "_law_at", "_law_left"] (spLRead T.CP (n + 1)) := by
  have G_law_read_whole := ok_law_read_whole (P := P) (w := w) (base := base) T B
  have G_law_read_string := ok_law_read_string (P := P) (w := w) (base := base) T B
  refine B.law_read.F.ok sc_law_read (fun vs H Q E h => ?_) (fun cdv A outer s H vs Q E hr h => ?_)
  · obtain ⟨a, row, h, m, _, rfl, _⟩ := h
    rfl
  · obtain ⟨a, row, h, m, hmn, rfl, ha, hl, q1, q0⟩ := h
    have hle := ha.le
    refine ⟨_, (pss_cons (ps_if (pt_cmpR op_ge (pv 1) (pe_callB call_len_seq (by rfl) T.b_len (by decide +kernel) (pa_cons (pv 0) pa_nil)) (nomark _)) (pss_one (ps_ret (pe_tup (pa_cons pe_non (pa_cons (pe_callB call_len_seq (by rfl) T.b_len (by decide +kernel) (pa_cons (pv 0) pa_nil)) pa_nil))))) pss_nil)
      (pss_cons (ps_set (i := 3) sc_law_read.nd rfl (Or.inl rfl) (pe_ix ix_tup (pv 0) (pv 1) (fun _ _ => rfl)))
      (C8.pss_cut (ps_if (PW.pt (pw_or (pt_cmpR op_gt (pv 3) pe_int (nomark _)) (pw_or1 (PW.pt (pw_and (pt_cmpR op_eq (pv 3) pe_int (nomark _)) (pw_and1 (pt_cmpR op_eq (pv 2) pe_int (nomark _)))))))) (pss_one (ps_ret (pe_tup (pa_cons pe_non (pa_cons (pv 1) pa_nil))))) pss_nil)
      (pss_cons (ps_if (pt_cmpR op_lt (pv 3) pe_int (nomark _)) (pss_one (ps_ret (pe_tup (pa_cons (pe_tup (pa_cons (pe_ix ix_list (pe_lst (pa_cons pe_non (pa_cons pe_bl (pa_cons pe_bl pa_nil)))) (pv 3) (fun _ _ => rfl)) pa_nil)) (pa_cons (pe_op op_add (pv 1) pe_int) pa_nil))))) pss_nil)
      (pss_cons (ps_asg (pe_call G_law_read_whole (hr.mono (by omega)) rfl B.law_read_whole.m B.law_read_whole.F.kp B.law_read_whole.b .nil pass0 (pa_cons (pv 0) (pa_cons (pe_op op_add (pv 1) pe_int) pa_nil))) (pg_tup (by rfl) (pgs_cons (pg_name (i := 4) sc_law_read.nd rfl (Or.inl rfl)) (pgs_cons (pg_name (i := 5) sc_law_read.nd rfl (Or.inl rfl)) pgs_nil))))
      (pss_cons (ps_if (pt_cmpR op_isN (pv 4) pe_non (nomark _)) (pss_one (ps_ret (pe_tup (pa_cons pe_non (pa_cons (pv 5) pa_nil))))) pss_nil)
      (pss_cons (ps_if (pt_cmpR op_lt (pv 3) pe_int (nomark _)) (pss_one (ps_ret (pe_tup (pa_cons (pe_tup (pa_cons (pe_ifExp (pt_cmpR op_eq (pv 3) pe_int (nomark _)) (pv 4) (pe_op op_sub (pe_op op_sub pe_int pe_int) (pv 4))) pa_nil)) (pa_cons (pv 5) pa_nil))))) pss_nil)
      (pss_cons (ps_if (pt_cmpR op_eq (pv 3) pe_int (nomark _)) (pss_one (ps_ret (pe_call G_law_read_string (hr.mono (by omega)) rfl B.law_read_string.m B.law_read_string.F.kp B.law_read_string.b .nil pass0 (pa_cons (pv 0) (pa_cons (pe_op op_add (pv 1) pe_int) (pa_cons (pv 4) (pa_cons (pv 5) pa_nil))))))) pss_nil)
      (pss_cons (ps_set (i := 6) sc_law_read.nd rfl (Or.inl rfl) (pe_lst pa_nil))
      (pss_cons (ps_while PassesOwn.never (pt_cmpR op_lt (pe_callB call_len_seq (by rfl) T.b_len (by decide +kernel) (pa_cons (pv 6) pa_nil)) (pv 4) (nomark _)) (pss_cons (ps_asg (pe_call G_law_read (hr.mono (by omega)) rfl B.law_read.m B.law_read.F.kp B.law_read.b .nil pass0 (pa_cons (pv 0) (pa_cons (pv 5) (pa_cons (pe_op op_sub (pv 2) pe_int) pa_nil)))) (pg_tup (by rfl) (pgs_cons (pg_name (i := 7) sc_law_read.nd rfl (Or.inl rfl)) (pgs_cons (pg_name (i := 5) sc_law_read.nd rfl (Or.inl rfl)) pgs_nil))))
      (pss_cons (ps_if (pt_cmpR op_isN (pv 7) pe_non (nomark _)) (pss_one (ps_ret (pe_tup (pa_cons pe_non (pa_cons (pv 5) pa_nil))))) pss_nil)
      (pss_one (ps_expr (pe_bm PySem.F.plainAttrs_list PySem.F.slot_list_append PySem.F.type_list_append mt_append (pv 6) (pa_cons (pe_ix ix_tup (pv 7) pe_int (fun _ _ => rfl)) pa_nil)))))))
      (pss_one (ps_ret (pe_tup (pa_cons (pe_tup (pa_cons (pe_callTy call_tuple_of (by rfl) T.b_tuple (by decide +kernel) (pa_cons (pv 6) pa_nil)) pa_nil)) (pa_cons (pv 5) pa_nil))))))))))))))), ?_⟩
    walk_at "rd"
    refine ⟨a, _, rfl, .inr (SqT.of ha.1), ?_⟩
    walk_at "rd"
    rw [List.length_map]
    refine rd_ite (fun h1 => ?_) (fun h1 => ?_)
    · have hge : row.length ≤ h := by
        have := of_decide_eq_true h1
        omega
      walk_at "rd"
      refine ⟨a, _, rfl, .inr (SqT.of ha.1), ?_⟩
      walk_at "rd"
      rw [List.length_map]
      refine rd_disp rfl fun t nt => ?_
      exact q0 _ (rdd.mpr (rdB_none hge)) t _ (same_new nt) upd_same
    · have hlt : h < row.length := by
        have := of_decide_eq_false h1
        omega
      obtain ⟨b, eb, ebv⟩ := row_get hlt
      have b0 := (ha.2 b (List.mem_of_getElem? eb)).1
      have hin : (inn row m).isNone = true ↔ m = 0 := by
        cases m with
        | zero => exact ⟨fun _ => rfl, fun _ => rfl⟩
        | succ m => exact ⟨fun z => (by cases z), fun z => (by cases z)⟩
      walk_at "rd"
      refine rd_ixT ha.1 (atI_nat ebv) ?_
      walk_at "rd"
      refine ⟨fun σ1 H1 => σ1 = [some (.ref a), some (.int (h : Int)), some (.int (m : Int)), some (.int b), none, none, none, none] ∧ H1 = H ∧ ¬ (6 < b ∨ (b = 6 ∧ (inn row m).isNone = true)), ?_, ?_⟩
      · have bad : (6 < b ∨ (b = 6 ∧ m = 0)) → ∀ t, H t = none → Q (.ref t) (upd H t (.tup [.non, .int (h : Int)])) := fun z t nt => q0 h (rdd.mpr (rdB_top eb (by rw [hin]; exact z))) t _ (same_new nt) upd_same
        walk_at "rd"
        refine rd_ite (fun h1 => ?_) (fun h1 => ?_)
        · refine rd_yes rfl ?_
          walk_at "rd"
          refine rd_disp rfl fun t nt => ?_
          exact bad (.inl (of_decide_eq_true h1)) t nt
        · have h1' := of_decide_eq_false h1
          walk_at "rd"
          refine rd_ite (fun h2 => ?_) (fun h2 => ?_)
          · walk_at "rd"
            refine rd_ite (fun h3 => ?_) (fun h3 => ?_)
            · walk_at "rd"
              refine rd_disp rfl fun t nt => ?_
              exact bad (.inr ⟨of_decide_eq_true h2, by have := of_decide_eq_true h3; omega⟩) t nt
            · refine ⟨rfl, rfl, fun z => ?_⟩
              have := of_decide_eq_false h3
              rw [hin] at z
              omega
          · refine rd_no rfl ?_
            refine ⟨rfl, rfl, fun z => ?_⟩
            have := of_decide_eq_false h2
            rw [hin] at z
            omega
      · rintro σ1 H1 ⟨rfl, rfl, hnb⟩
        walk_at "rd"
        refine rd_ite (fun h1 => ?_) (fun h1 => ?_)
        · have b3 : b < 3 := of_decide_eq_true h1
          have hR := rdB_low (R := inn row m) eb b3
          walk_at "rd"
          refine rd_disp rfl fun l nl => ?_
          have s1 := same_new (o := .lst [.non, .bl false, .bl true]) nl
          walk_at "rd"
          have fin : ∀ (v : V) (d : PyData), (∀ H', Dt T.CP [] H' d v) → d = (if b = 0 then .none else .bool (decide (b = 2))) → ∀ u, (upd H1 l (.lst [.non, .bl false, .bl true])) u = none → ∀ t, (upd (upd H1 l (.lst [.non, .bl false, .bl true])) u (.tup [v])) t = none →
              Q (.ref t) (upd (upd (upd H1 l (.lst [.non, .bl false, .bl true])) u (.tup [v])) t (.tup [.ref u, .int ((h : Int) + 1)])) := fun v d hd ed u nu t nt => by
            have s2 := s1.trans (same_new (o := .tup [v]) nu)
            have s3 := same_new (o := .tup [.ref u, .int ((h : Int) + 1)]) nt
            refine q1 d (h + 1) (rdd.mpr (by rw [ed]; exact hR)) t u v _ (s2.trans s3) ?_ (s3 _ _ upd_same) (hd _)
            rw [upd_same, show ((h + 1 : Nat) : Int) = (h : Int) + 1 by omega]
          have hj : b.toNat < 3 := by omega
          have er : b = (b.toNat : Int) := by omega
          generalize b.toNat = j at hj er
          match j, hj with
          | 0, _ =>
            refine rd_ixL upd_same (at_of (j := 0) er rfl) ?_
            walk_at "rd"
            refine rd_disp rfl fun u nu => ?_
            walk_at "rd"
            refine rd_disp rfl fun t nt => ?_
            exact fin .non .none (fun _ => dt_non) (by rw [if_pos (show b = 0 from er)]) u nu t nt
          | 1, _ =>
            refine rd_ixL upd_same (at_of (j := 1) er rfl) ?_
            walk_at "rd"
            refine rd_disp rfl fun u nu => ?_
            walk_at "rd"
            refine rd_disp rfl fun t nt => ?_
            refine fin (.bl false) (.bool false) (fun _ => dt_bl) ?_ u nu t nt
            rw [show b = 1 from er]
            rfl
          | 2, _ =>
            refine rd_ixL upd_same (at_of (j := 2) er rfl) ?_
            walk_at "rd"
            refine rd_disp rfl fun u nu => ?_
            walk_at "rd"
            refine rd_disp rfl fun t nt => ?_
            refine fin (.bl true) (.bool true) (fun _ => dt_bl) ?_ u nu t nt
            rw [show b = 2 from er]
            rfl
        · have b3 : ¬ b < 3 := of_decide_eq_false h1
          walk_at "rd"
          refine ⟨a, row, h + 1, rfl, ha, hlt, fun m2 e hw t H2 s2 ht => ?_, fun hw t H2 s2 ht => ?_⟩
          · have hm0 := whR_nn hw
            have hle2 := whR_le hw
            refine ⟨t, _, rfl, SqT.of ht, rfl, _, _, rfl, _, _, rfl, rfl, ?_⟩
            walk_at "rd"
            refine ⟨rfl, ?_⟩
            walk_at "rd"
            refine rd_no rfl ?_
            walk_at "rd"
            refine rd_ite (fun h2 => ?_) (fun h2 => ?_)
            · have b5 : b < 5 := of_decide_eq_true h2
              have hI := rdB_int (R := inn row m) eb b3 b5 hw
              walk_at "rd"
              refine rd_S (fun x H3 => x = .int (if b = 3 then m2 else -1 - m2) ∧ H3 = H2) ?_ (fun Q' hQ => ?_)
              · rintro x H3 ⟨rfl, rfl⟩
                walk_at "rd"
                refine rd_disp rfl fun u nu => ?_
                have sA := same_new (o := .tup [.int (if b = 3 then m2 else -1 - m2)]) nu
                walk_at "rd"
                refine rd_disp rfl fun t2 nt2 => ?_
                have sB := same_new (o := .tup [.ref u, .int (e : Int)]) nt2
                exact q1 _ e (rdd.mpr hI) t2 u _ _ ((s2.trans sA).trans sB) upd_same (sB _ _ upd_same) dt_int
              · refine rd_ifx ?_
                walk_at "rd"
                refine rd_ite (fun h3 => ?_) (fun h3 => ?_)
                · walk_at "rd"
                  exact hQ _ _ ⟨by rw [if_pos (of_decide_eq_true h3)], rfl⟩
                · walk_at "rd"
                  exact hQ _ _ ⟨by rw [if_neg (of_decide_eq_false h3)]; rfl, rfl⟩
            · have b5 : ¬ b < 5 := of_decide_eq_false h2
              walk_at "rd"
              refine rd_ite (fun h3 => ?_) (fun h3 => ?_)
              · have e5 : b = 5 := of_decide_eq_true h3
                walk_at "rd"
                refine ⟨a, row, h + 1, e, m2, rfl, ha.same s2, hle2.2, hm0, fun z t2 H3 s3 ht2 => ?_, fun z => ⟨fun cs e3 hst t2 u H3 s3 ht2 hu => ?_, fun e3 hst t2 H3 s3 ht2 => ?_⟩⟩
                · exact q0 _ (rdd.mpr (rdB_s0 eb e5 hw z)) t2 _ (s2.trans s3) ht2
                · have hS := rdB_s1 (R := inn row m) eb e5 hw z
                  rw [hst] at hS
                  exact q1 _ _ (rdd.mpr hS) t2 u _ _ (s2.trans s3) ht2 hu dt_str
                · have hS := rdB_s1 (R := inn row m) eb e5 hw z
                  rw [hst] at hS
                  exact q0 _ (rdd.mpr hS) t2 _ (s2.trans s3) ht2
              · have e5 : b ≠ 5 := of_decide_eq_false h3
                have e6 : b = 6 := by
                  have : ¬ 6 < b := fun z => hnb (.inl z)
                  omega
                obtain ⟨m', rfl⟩ : ∃ m', m = m' + 1 := ⟨m - 1, by
                  have : ¬ m = 0 := fun z => hnb (.inr ⟨e6, hin.mpr z⟩)
                  omega⟩
                obtain ⟨k2, rfl⟩ : ∃ k2 : Nat, m2 = (k2 : Int) := ⟨m2.toNat, by omega⟩
                have hT := fun (r : Rs (List PyData)) (hI : Its (Rd row m') (k2 : Int).toNat e r) => (rdd (row := row) (n := m' + 1)).mpr (rdB_tup (R := Rd row m') eb e6 hw hI)
                rw [Int.toNat_natCast] at hT
                walk_at "rd"
                refine rd_disp rfl fun l nl => ?_
                have s3 := s2.trans (same_new (o := .lst []) nl)
                have nl0 : H1 l = none := s2.free nl
                walk_at "rd"
                refine ⟨fun μ σ H4 => ∃ (ds : List PyData) (vs : List V) (h2 : Nat) (u : Option V), σ = [some (.ref a), some (.int (h : Int)), some (.int ((m' + 1 : Nat) : Int)), some (.int b), some (.int (k2 : Int)), some (.int (h2 : Int)), some (.ref l), u] ∧ Same H1 H4 ∧ H4 l = some (.lst vs) ∧ DtAll T.CP [] H4 ds vs ∧ plainAll ds = true ∧ Run (Rd row m') e ds h2 ∧ h2 ≤ row.length ∧ ds.length + e ≤ h2 ∧ ds.length ≤ k2 ∧ μ = row.length - h2,
                  ⟨_, [], [], e, none, rfl, s3, upd_same, dtAll_nil, rfl, Run.nil, hle2.2, by simp, Nat.zero_le _, rfl⟩, ?_⟩
                rintro μ σ H4 ⟨ds, vs, h2, u, rfl, hs, hacc, hds, hpl, hrun, hh2, hlen, hdm, hμ⟩
                have hlv := hds.len
                walk_at "rd"
                refine ⟨l, vs, rfl, .inl (SqL.of hacc), ?_⟩
                walk_at "rd"
                rw [← hlv]
                refine rd_ite (fun h4 => ?_) (fun h4 => ?_)
                · have hlt2 : ds.length < k2 := by
                    have := of_decide_eq_true h4
                    omega
                  refine ⟨fun σ' H' => ∃ mm, mm < μ ∧ ∃ (ds : List PyData) (vs : List V) (h2 : Nat) (u : Option V), σ' = [some (.ref a), some (.int (h : Int)), some (.int ((m' + 1 : Nat) : Int)), some (.int b), some (.int (k2 : Int)), some (.int (h2 : Int)), some (.ref l), u] ∧ Same H1 H' ∧ H' l = some (.lst vs) ∧ DtAll T.CP [] H' ds vs ∧ plainAll ds = true ∧ Run (Rd row m') e ds h2 ∧ h2 ≤ row.length ∧ ds.length + e ≤ h2 ∧ ds.length ≤ k2 ∧ mm = row.length - h2, fun _ _ h => h, ?_⟩
                  walk_at "rd"
                  refine ⟨a, row, h2, m', by omega, ?_, ha.same hs, hh2, fun d e3 hR t2 u2 v H5 s5 ht2 hu2 hd => ?_, fun e3 hR t2 H5 s5 ht2 => ?_⟩
                  · rw [show ((m' + 1 : Nat) : Int) - 1 = (m' : Int) by omega]
                    rfl
                  · have hlee := rd_le hR
                    have hs5 := hs.trans s5
                    have nl2 := s5 _ _ hacc
                    walk_at "rd"
                    refine ⟨t2, _, rfl, SqT.of ht2, rfl, _, _, rfl, _, _, rfl, rfl, ?_⟩
                    walk_at "rd"
                    refine ⟨rfl, ?_⟩
                    walk_at "rd"
                    refine rd_no rfl ?_
                    walk_at "rd"
                    refine ⟨.inl ⟨rfl, _, SqL.of nl2⟩, ?_⟩
                    walk_at "rd"
                    refine rd_ixT hu2 rfl ?_
                    walk_at "rd"
                    refine rd_append nl2 (small' (by omega)) ?_
                    have hp2 : plainAll (ds ++ [d]) = true := by
                      rw [plain_app, hpl]
                      show (true && (plainD d && true)) = true
                      rw [rd_plain hR]
                      rfl
                    refine ⟨_, by omega, ds ++ [d], vs ++ [v], e3, _, rfl, fun x o ex => (upd_ne (ne_of_none ex nl0)).trans (hs5 x o ex), upd_same, DtAll.plain (M := []) (KT.mut nl2 fun _ z => by cases z) _ _ hp2 ((hds.s s5).snoc hd), hp2, hrun.snoc hR, hlee.2, by simp; omega, by simp; omega, rfl⟩
                  · walk_at "rd"
                    refine ⟨t2, _, rfl, SqT.of ht2, rfl, _, _, rfl, _, _, rfl, rfl, ?_⟩
                    walk_at "rd"
                    refine ⟨rfl, ?_⟩
                    walk_at "rd"
                    refine rd_yes rfl ?_
                    walk_at "rd"
                    refine rd_disp rfl fun t3 nt3 => ?_
                    exact q0 e3 (hT (.bad e3) (run_bad hrun hlt2 hR)) t3 _ ((hs.trans s5).trans (same_new nt3)) upd_same
                · have hend : ds.length = k2 := by
                    have := of_decide_eq_false h4
                    omega
                  walk_at "rd"
                  refine ⟨l, vs, rfl, .inl ⟨SqL.of hacc, fun u2 nu2 => ?_⟩⟩
                  have sA := same_new (o := .tup vs) nu2
                  walk_at "rd"
                  refine rd_disp rfl fun u3 nu3 => ?_
                  have sB := same_new (o := .tup [.ref u2]) nu3
                  walk_at "rd"
                  refine rd_disp rfl fun t2 nt2 => ?_
                  have sC := same_new (o := .tup [.ref u3, .int (h2 : Int)]) nt2
                  have hI := run_end hrun
                  rw [hend] at hI
                  exact q1 (.tuple ds) h2 (hT (.ok ds h2) hI) t2 u3 (.ref u2) _ (((hs.trans sA).trans sB).trans sC) upd_same (sC _ _ upd_same) (dt_tup (sC _ _ (sB _ _ upd_same)) (((hds.s sA).s sB).s sC))
          · refine ⟨t, _, rfl, SqT.of ht, rfl, _, _, rfl, _, _, rfl, rfl, ?_⟩
            walk_at "rd"
            refine ⟨rfl, ?_⟩
            walk_at "rd"
            refine rd_yes rfl ?_
            walk_at "rd"
            refine rd_disp rfl fun t2 nt2 => ?_
            exact q0 _ (rdd.mpr (rdB_wh eb hnb b3 hw)) t2 _ (s2.trans (same_new nt2)) upd_same
theorem ok_lread_n (T : Tx K mg) (B : Bk K mg T) : ∀ n, FnOk P w K mg base CX0 (n + 3) B.law_read.f B.law_read.fd ["_law_row", "_law_at", "_law_left"] (spLRead T.CP n)
  | 0 => fn_no fun vs H Q E h => by
    obtain ⟨a, row, h, m, hm, _⟩ := h
    omega
  | n + 1 => lread_step T B (by omega) (ok_lread_n T B n)
end
end Mw

/-! R16 -/
namespace Mw
open PySem L2
section
variable {P : Program} {w : World} {K : PySem.W.Frag} {mg : Str → Option Value} {base : Heap}
local macro_rules | `(tactic| walk_at "rd") => `(tactic| (repeat (first
  | ((with_reducible refine' rd_var ?h0 ?_); (case h0 => rfl))
  | with_reducible refine rd_c ?_
  | with_reducible refine rd_op ?_
  | with_reducible refine rd_nil ?_
  | with_reducible refine rd_cons ?_
  | with_reducible refine rd_tup ?_
  | with_reducible refine rd_lst ?_
  | with_reducible refine rd_ifs ?_
  | with_reducible refine rd_seq ?_
  | with_reducible refine rd_next ?_
  | with_reducible refine rd_ret ?_
  | with_reducible refine rd_asg ?_
  | ((with_reducible refine' rd_gset ?hs ?_); (case hs => ((simp only [L2.start, List.map_cons, List.map_nil, List.length_cons, List.length_nil, List.cons_append, List.nil_append, List.set_cons_zero, List.set_cons_succ, Nat.reduceAdd, Nat.reduceSub, Nat.zero_add, List.reduceReplicate]); rfl)))
  | with_reducible refine rd_drop ?_
  | with_reducible refine rd_test ?_
  | with_reducible refine rd_B ?_
  | with_reducible refine rd_bl ?_
  | with_reducible refine rd_blP ?_
  | with_reducible refine rd_andV ?_
  | with_reducible refine rd_orV ?_
  | with_reducible refine rd_notV ?_
  | with_reducible refine rd_and ?_
  | with_reducible refine rd_or ?_
  | with_reducible refine rd_not ?_
  | with_reducible refine rd_chain ?_
  | with_reducible refine rd_dput ?_
  | with_reducible refine rd_dget ?_
  | with_reducible refine rd_cb ?_
  | with_reducible refine rd_call ?_
  | with_reducible refine rd_un ?_
  | with_reducible refine rd_sl ?_
  | with_reducible refine rd_nopart ?_
  | with_reducible refine rd_part ?_
  | with_reducible refine rd_intP ?_
  | with_reducible refine rd_rU ?_
  | with_reducible refine rd_fld ?_
  | with_reducible refine rd_eqI ?_
  | with_reducible refine rd_neI ?_
  | with_reducible refine rd_mko ?_
  | with_reducible refine rd_bm ?_
  | with_reducible refine rd_gsub ?_
  | with_reducible refine rd_i0 ?_)))
theorem ok_law_told (T : Tx K mg) (B : Bk K mg T) : FnOk P w K mg base CX0 25 B.law_told.f B.law_told.fd ["_law_row"] (spLTold T.CP) := by
  have G_law_read := ok_lread_n (P := P) (w := w) (base := base) T B 21
  refine B.law_told.F.ok sc_law_told (fun vs H Q E h => ?_) (fun cdv A outer s H vs Q E hr h => ?_)
  · obtain ⟨a, row, rfl, _⟩ := h
    rfl
  · obtain ⟨a, row, rfl, ha, q1, q2, q3⟩ := h
    refine ⟨_, (pss_cons (ps_asg (pe_call G_law_read (hr.mono (by omega)) rfl B.law_read.m B.law_read.F.kp B.law_read.b .nil pass0 (pa_cons (pv 0) (pa_cons pe_int (pa_cons pe_int pa_nil)))) (pg_tup (by rfl) (pgs_cons (pg_name (i := 1) sc_law_told.nd rfl (Or.inl rfl)) (pgs_cons (pg_name (i := 2) sc_law_told.nd rfl (Or.inl rfl)) pgs_nil))))
      (pss_cons (ps_if (pt_cmpR op_isN (pv 1) pe_non (nomark _)) (pss_one (ps_ret (pv 2))) pss_nil)
      (pss_one (ps_ret (pe_ifExp (pt_cmpR op_eq (pv 2) (pe_callB call_len_seq (by rfl) T.b_len (by decide +kernel) (pa_cons (pv 0) pa_nil)) (nomark _)) (pv 1) (pv 2)))))), ?_⟩
    walk_at "rd"
    refine ⟨a, row, 0, 20, by omega, rfl, ha, Nat.zero_le _, fun d e hR t u v H1 s1 ht hu hd => ?_, fun e hR t H1 s1 ht => ?_⟩
    · refine ⟨t, _, rfl, SqT.of ht, rfl, _, _, rfl, _, _, rfl, rfl, ?_⟩
      walk_at "rd"
      refine ⟨rfl, ?_⟩
      walk_at "rd"
      refine rd_no rfl ?_
      walk_at "rd"
      refine rd_ifx ?_
      walk_at "rd"
      refine ⟨a, _, rfl, .inr (SqT.of (s1 _ _ ha.1)), ?_⟩
      walk_at "rd"
      rw [List.length_map]
      refine rd_ite (fun h1 => ?_) (fun h1 => ?_)
      · have e2 : e = row.length := by
          have := of_decide_eq_true h1
          omega
        subst e2
        walk_at "rd"
        exact q1 d hR u v _ s1 hu hd
      · walk_at "rd"
        exact q2 d e hR (by have := of_decide_eq_false h1; omega) _ s1
    · refine ⟨t, _, rfl, SqT.of ht, rfl, _, _, rfl, _, _, rfl, rfl, ?_⟩
      walk_at "rd"
      refine ⟨rfl, ?_⟩
      walk_at "rd"
      refine rd_yes rfl ?_
      walk_at "rd"
      exact q3 e hR _ s1
theorem ok_law_sealed (T : Tx K mg) (B : Bk K mg T) : FnOk P w K mg base CX0 2 B.law_sealed.f B.law_sealed.fd ["_law_row"] spLSealed := by
  have G_law_mark := ok_law_mark (P := P) (w := w) (base := base) T B
  refine B.law_sealed.F.ok sc_law_sealed (fun vs H Q E h => ?_) (fun cdv A outer s H vs Q E hr h => ?_)
  · obtain ⟨a, row, rfl, _⟩ := h
    rfl
  · obtain ⟨a, row, rfl, ha, hl, q⟩ := h
    have e32 : ((2 : Int) ^ (32 : Int).toNat) = 4294967296 := by decide
    have hm := markL_b row
    refine ⟨_, (pss_cons (ps_set (i := 1) sc_law_sealed.nd rfl (Or.inr rfl) (pe_op op_mod (pe_call G_law_mark (hr.mono (by decide)) rfl B.law_mark.m B.law_mark.F.kp B.law_mark.b .nil pass0 (pa_cons (pv 0) pa_nil)) (pe_op op_pow pe_int pe_int)))
      (pss_one (ps_ret (pe_op op_catA (pe_callTy call_tuple_of (by rfl) T.b_tuple (by decide +kernel) (pa_cons (pv 0) pa_nil)) (pe_callTy call_tuple_of (by rfl) T.b_tuple (by decide +kernel) (pa_cons (pe_lc (own := [("_law_worth", 2)]) (g := gName 2) rfl sc_law_sealed.nd (pi_tup (pe_tup (pa_cons pe_int (pa_cons pe_int (pa_cons pe_int (pa_cons pe_int pa_nil)))))) (blkOk_by (own := [("_law_worth", 2)]) (N := ["_law_row", "_law_left", "_law_worth"]) (sc := defScope s_law_sealed) (by decide +kernel)) (fun _ _ _ _ _ => pg_name (i := 2) sc_law_sealed.nd rfl (Or.inl rfl)) (fun _ _ _ _ _ => pts_nil) (fun _ _ _ _ _ => (pe_op op_mod (pe_callTy call_int1 (by rfl) T.b_int (by decide +kernel) (pa_cons (pe_op op_fdivN (pv 1) (pv 2)) pa_nil)) pe_int))) pa_nil)))))), ?_⟩
    walk_at "rd"
    refine ⟨a, row, rfl, ha, ?_⟩
    walk_at "rd"
    refine rd_iC ⟨by decide, by decide, by decide⟩ ?_
    walk_at "rd"
    refine rd_iC (show (0 : Int) < (2 : Int) ^ (32 : Int).toNat by decide) ?_
    rw [e32]
    walk_at "rd"
    refine ⟨a, _, rfl, .inr ⟨SqT.of ha, ?_⟩⟩
    walk_at "rd"
    show iTup _ _ _ _ _
    refine rd_itup ?_
    walk_at "rd"
    refine rd_disp rfl fun c nc => ?_
    have s1 := same_new (o := .tup [.int 1, .int 256, .int 65536, .int 16777216]) nc
    refine ⟨c, rfl, ⟨_, SqT.of upd_same⟩, fun D hD => lc_tup (K := K) (a := c) (xs := [(1 : Int), 256, 65536, 16777216].map V.int) (fun i H2 => Same H H2 ∧ H2 c = some (.tup ([(1 : Int), 256, 65536, 16777216].map V.int)) ∧ H2 D = some (.lst ((([(1 : Int), 256, 65536, 16777216].take i).map fun x => (markL row % 4294967296) / x % 256).map V.int)))
      ⟨s1.trans (same_new hD), (upd_ne (ne_of_none upd_same hD)).trans upd_same, upd_same⟩ (fun i H2 _ hh => SqT.of hh.2.1) ?_ ?_⟩
    · rintro i y H2 hi ⟨hs, hc, hacc⟩
      obtain ⟨x, hx, rfl⟩ := mapint_get hi
      have hx2 : 0 < x ∧ x < 1073741824 := by
        have := List.mem_of_getElem? hx
        simp at this
        omega
      refine ⟨rfl, ?_⟩
      refine rd_tyes ?_
      refine rd_yes rfl ?_
      walk_at "rd"
      refine rd_iC (show x ≠ 0 ∧ x.natAbs < 1073741824 by omega) ?_
      refine .inl ⟨_, rfl, ?_⟩
      walk_at "rd"
      refine rd_iC (show (0 : Int) < 256 by decide) ?_
      refine ⟨_, hacc, small' (by rw [List.length_map, List.length_map, List.length_take]; simp; omega), fun b o eb => (upd_ne (ne_of_none (s1 _ _ eb) hD)).trans (hs b o eb), (upd_ne (ne_of_none upd_same hD)).trans hc, ?_⟩
      rw [upd_same, take_snoc hx, List.map_append, List.map_append, Int.fdiv_eq_ediv_of_nonneg _ (by omega)]
      rfl
    · rintro H2 ⟨hs, hc, hacc⟩
      rw [List.length_map, List.take_length, ← sk_law hm.1] at hacc
      walk_at "rd"
      refine ⟨D, _, rfl, .inl ⟨SqL.of hacc, fun t nt => ?_⟩⟩
      have s2 := hs.trans (same_new (o := .tup ((sk 4 (markL row)).map V.int)) nt)
      have hsl := sealL_len row
      unfold sealL at hsl
      refine ⟨a, t, _, _, rfl, rfl, SqT.of (s2 _ _ ha), SqT.of upd_same, small (by rw [List.length_map, List.length_map]; omega), fun z => ?_, fun _ z => ?_, fun _ _ c2 nc2 => ?_⟩
      · rw [List.map_eq_nil_iff] at z
        refine q t _ s2 ?_
        rw [upd_same, z]
        rfl
      · rw [List.map_eq_nil_iff] at z
        rw [z] at hsl
        simp at hsl
      · refine q c2 _ (s2.trans (same_new nc2)) ?_
        rw [upd_same, List.map_append]
        rfl
theorem ok_law_opened (T : Tx K mg) (B : Bk K mg T) : FnOk P w K mg base CX0 26 B.law_opened.f B.law_opened.fd ["_law_row"] (spLOpened T.CP) := by
  have G_law_told := ok_law_told (P := P) (w := w) (base := base) T B
  have G_law_sealed := ok_law_sealed (P := P) (w := w) (base := base) T B
  refine B.law_opened.F.ok sc_law_opened (fun vs H Q E h => ?_) (fun cdv A outer s H vs Q E hr h => ?_)
  · obtain ⟨a, row, rfl, _⟩ := h
    rfl
  · obtain ⟨a, row, rfl, ha, q⟩ := h
    have hle := ha.le
    have hbl := body_len row
    refine ⟨_, (pss_cons (ps_if (PW.pt (pw_or (pt_cmpR op_lt (pe_callB call_len_seq (by rfl) T.b_len (by decide +kernel) (pa_cons (pv 0) pa_nil)) pe_int (nomark _)) (pw_or1 (pt_cmpR (op_neD hr.units) (pe_call G_law_sealed (hr.mono (by omega)) rfl B.law_sealed.m B.law_sealed.F.kp B.law_sealed.b .nil pass0 (pa_cons (pe_slice sl_tupA (pv 0) po_none (po_some (pe_un un_neg pe_int))) pa_nil)) (pv 0) (nomark _))))) (pss_one (ps_ret (pe_tup pa_nil))) pss_nil)
      (pss_cons (ps_set (i := 1) sc_law_opened.nd rfl (Or.inl rfl) (pe_call G_law_told (hr.mono (by omega)) rfl B.law_told.m B.law_told.F.kp B.law_told.b .nil pass0 (pa_cons (pe_slice sl_tupA (pv 0) po_none (po_some (pe_un un_neg pe_int))) pa_nil)))
      (pss_one (ps_ret (pe_ifExp (pt_val (pe_callB call_isi (by rfl) T.b_isinstance (by decide +kernel) (pa_cons (pv 1) (pa_cons (pe_bltn (v := .ty "tuple") (by rfl) T.b_tuple (by decide +kernel) rfl) pa_nil)))) (pv 1) (pe_tup pa_nil)))))), ?_⟩
    walk_at "rd"
    refine ⟨a, _, rfl, .inr (SqT.of ha.1), ?_⟩
    walk_at "rd"
    rw [List.length_map]
    refine rd_ite (fun h1 => ?_) (fun h1 => ?_)
    · have hlt : row.length < 4 := by
        have := of_decide_eq_true h1
        omega
      refine rd_yes rfl ?_
      walk_at "rd"
      refine rd_disp rfl fun t nt => ?_
      refine q (.tuple []) (.ref t) _ (.inr ⟨.inl fun z => ?_, rfl⟩) (same_new nt) (dt_tup upd_same dtAll_nil)
      have := seal_len z
      omega
    · walk_at "rd"
      refine rd_cutA ha.1 fun c H1 s1 hc => ?_
      rw [cut_body] at hc
      refine ⟨c, body row, rfl, hc, by omega, fun t H2 s2 ht => ?_⟩
      walk_at "rd"
      have s12 := s1.trans s2
      refine ⟨.tuple ((body row ++ sealL (body row)).map PyData.int), .tuple (row.map PyData.int), dt_dp (CP := T.CP) (M := []) _ _ (ints_lay _) (row_dt ht), dt_dp (CP := T.CP) (M := []) _ _ (ints_lay _) (row_dt (s12 _ _ ha.1)), ints_shaped _, ints_shaped _, ?_⟩
      rw [show PyData.eqv (.tuple ((body row ++ sealL (body row)).map PyData.int)) (.tuple (row.map PyData.int)) = PyData.eqvAll ((body row ++ sealL (body row)).map PyData.int) (row.map PyData.int) from rfl, eqv_ints]
      walk_at "rd"
      refine rd_ite (fun h2 => ?_) (fun h2 => ?_)
      · walk_at "rd"
        refine rd_disp rfl fun t2 nt2 => ?_
        refine q (.tuple []) (.ref t2) _ (.inr ⟨.inl fun z => ?_, rfl⟩) (s12.trans (same_new nt2)) (dt_tup upd_same dtAll_nil)
        rw [seal_iff] at z
        rw [decide_eq_true z] at h2
        cases h2
      · have hS : SealOk row := by
          rw [seal_iff]
          simpa using h2
        walk_at "rd"
        refine rd_cutA (s12 _ _ ha.1) fun c3 H3 s3 hc3 => ?_
        rw [cut_body] at hc3
        have s13 := s12.trans s3
        have none_ : ∀ (e : Int) (H4 : Hp), Same H3 H4 → ((∃ e, Rd (body row) 20 0 (.bad e)) ∨ ∃ d e, Rd (body row) 20 0 (.ok d e) ∧ e ≠ (body row).length) → ∀ t, H4 t = none → Q (.ref t) (upd H4 t (.tup [])) := fun e H4 s4 z t nt =>
          q (.tuple []) (.ref t) _ (.inr ⟨.inr z, rfl⟩) ((s13.trans s4).trans (same_new nt)) (dt_tup upd_same dtAll_nil)
        refine ⟨c3, body row, rfl, ⟨hc3, body_by ha.2, by omega⟩, fun d hR u v H4 s4 hu hd => ?_, fun d e hR ne H4 s4 => ?_, fun e hR H4 s4 => ?_⟩
        · walk_at "rd"
          refine rd_ifx ?_
          walk_at "rd"
          have hD : Dt T.CP [] H4 (.tuple [d]) (.ref u) := dt_tup hu (dtAll_cons hd dtAll_nil)
          refine dt_isT T.W hD ?_
          walk_at "rd"
          refine rd_yes rfl ?_
          walk_at "rd"
          exact q (.tuple [d]) (.ref u) _ (.inl ⟨hS, d, hR, rfl⟩) (s13.trans s4) hD
        · walk_at "rd"
          refine rd_ifx ?_
          walk_at "rd"
          refine dt_isT (CP := T.CP) (M := []) T.W (dt_int (i := ((e : Nat) : Int))) ?_
          walk_at "rd"
          refine rd_no rfl ?_
          walk_at "rd"
          refine rd_disp rfl fun t nt => ?_
          exact none_ e H4 s4 (.inr ⟨d, e, hR, ne⟩) t nt
        · walk_at "rd"
          refine rd_ifx ?_
          walk_at "rd"
          refine dt_isT (CP := T.CP) (M := []) T.W (dt_int (i := ((e : Nat) : Int))) ?_
          walk_at "rd"
          refine rd_no rfl ?_
          walk_at "rd"
          refine rd_disp rfl fun t nt => ?_
          exact none_ e H4 s4 (.inl ⟨e, hR⟩) t nt
end
end Mw

/-! R17m -/
/-! THE FACT OF ROWS, there. -/
namespace Mw
open PySem L2
theorem wh_facts : ∀ (k n : Nat), n ≤ k → ∀ post : List Int, lead (wh n ++ post) + 1 = (wh n).length ∧ ∃ c, (wh n ++ post)[lead (wh n ++ post)]? = some c ∧ (c = 0 → n = 0) ∧ val ((wh n ++ post).take (lead (wh n ++ post) + 1)) = (n : Int)
  | 0, n, h, post => by
    have : n = 0 := by omega
    subst this
    rw [wh_lt (by decide)]
    refine ⟨rfl, 0, rfl, fun _ => rfl, rfl⟩
  | k + 1, n, h, post => by
    by_cases c : n < 128
    · rw [wh_lt c]
      have e : lead ([(n : Int)] ++ post) = 0 := by
        show (if 128 ≤ (n : Int) then _ else _) = _
        rw [if_neg (by omega)]
      rw [e]
      refine ⟨rfl, (n : Int), rfl, fun z => by omega, ?_⟩
      show (n : Int) % 128 + 128 * 0 = n
      omega
    · obtain ⟨h1, x, h2, h3, h4⟩ := wh_facts k (n / 128) (by omega) post
      rw [wh_ge c]
      have e : lead (((n % 128 + 128 : Nat) : Int) :: wh (n / 128) ++ post) = lead (wh (n / 128) ++ post) + 1 := by
        show (if 128 ≤ ((n % 128 + 128 : Nat) : Int) then _ else _) = _
        rw [if_pos (by omega)]
        rfl
      rw [e]
      refine ⟨by rw [List.length_cons, h1], x, ?_, fun z => ?_, ?_⟩
      · show (((n % 128 + 128 : Nat) : Int) :: (wh (n / 128) ++ post))[lead (wh (n / 128) ++ post) + 1]? = some x
        rw [List.getElem?_cons_succ]
        exact h2
      · have := h3 z
        omega
      · show val ((((n % 128 + 128 : Nat) : Int) :: (wh (n / 128) ++ post)).take (lead (wh (n / 128) ++ post) + 1 + 1)) = n
        rw [List.take_succ_cons]
        show ((n % 128 + 128 : Nat) : Int) % 128 + 128 * val _ = n
        rw [h4]
        omega
theorem whR_wh {row post : List Int} {h n : Nat} (e : row.drop h = wh n ++ post) : whR row h = some ((n : Int), h + (wh n).length) := by
  obtain ⟨h1, c, h2, h3, h4⟩ := wh_facts n n (Nat.le_refl _) post
  unfold whR
  have e2 : row[h + lead (row.drop h)]? = some c := by
    rw [← List.getElem?_drop, e]
    exact h2
  rw [e2, e]
  have : ¬ (c = 0 ∧ 0 < lead (wh n ++ post)) := fun z => by
    have := h3 z.1
    subst this
    have l1 : (wh 0).length = 1 := by
      rw [wh_lt (by decide)]
      rfl
    have := z.2
    omega
  show (if c = 0 ∧ 0 < lead (wh n ++ post) then _ else _) = _
  rw [if_neg this, h4, show h + lead (wh n ++ post) + 1 = h + (wh n).length by omega]
theorem drop_cons {row r : List Int} {h : Nat} {b : Int} (e : row.drop h = b :: r) : row[h]? = some b ∧ row.drop (h + 1) = r := by
  constructor
  · have := List.getElem?_drop (xs := row) (i := h) (j := 0)
    rw [e, Nat.add_zero] at this
    exact this.symm
  · rw [← List.drop_drop, e]
    rfl
theorem drop_app {row a b : List Int} {h : Nat} (e : row.drop h = a ++ b) : row.drop (h + a.length) = b := by
  rw [← List.drop_drop, e, List.drop_left]
theorem strR_of {row post : List Int} : ∀ {cs : List Int} {h : Nat}, row.drop h = cs ++ post → cs.all isSign = true → strR row cs.length h = .ok (cs.map Int.toNat) (h + cs.length)
  | [], h, _, _ => rfl
  | c :: cs, h, e, a => by
    obtain ⟨e1, e2⟩ := drop_cons (r := cs ++ post) e
    rw [List.all_cons, Bool.and_eq_true] at a
    show (match row[h]? with | none => _ | some b => _) = _
    rw [e1]
    show (if isSign c = true then consR c.toNat (strR row cs.length (h + 1)) else _) = _
    rw [if_pos a.1, strR_of e2 a.2]
    show Rs.ok _ (h + 1 + cs.length) = Rs.ok _ (h + (cs.length + 1))
    rw [show h + 1 + cs.length = h + (cs.length + 1) by omega]
    rfl
theorem strOf_sgn (s : Str) : strOf ((sgn s).map Int.toNat) = s := by
  unfold strOf sgn
  rw [List.map_map]
  have : (Int.toNat ∘ fun c : Nat => (c : Int)) = id := by
    funext c
    exact Int.toNat_natCast c
  rw [this, List.map_id]
mutual
theorem rd_by {row : List Int} : ∀ {n h : Nat} {post : List Int} (d : PyData), isPc n d = true → row.drop h = byD d ++ post → Rd row n h (.ok d (h + (byD d).length))
  | n, h, post, .none, _, e => by
    obtain ⟨e1, e2⟩ := drop_cons (r := post) e
    rw [rdd]
    have := rdB_low (R := inn row n) e1 (by decide)
    rw [if_pos rfl] at this
    exact this
  | n, h, post, .bool b, _, e => by
    obtain ⟨e1, e2⟩ := drop_cons (r := post) e
    rw [rdd]
    cases b with
    | true =>
      have := rdB_low (R := inn row n) e1 (by decide)
      rw [if_neg (by decide)] at this
      exact this
    | false =>
      have := rdB_low (R := inn row n) e1 (by decide)
      rw [if_neg (by decide)] at this
      exact this
  | n, h, post, .int i, _, e => by
    rw [rdd]
    by_cases c : 0 ≤ i
    · have eb : byD (.int i) = 3 :: wh i.toNat := if_pos c
      rw [eb] at e ⊢
      obtain ⟨e1, e2⟩ := drop_cons (r := wh i.toNat ++ post) e
      have := rdB_int (R := inn row n) e1 (by decide) (by decide) (whR_wh e2)
      rw [if_pos rfl, Int.toNat_of_nonneg c] at this
      rw [List.length_cons, show h + ((wh i.toNat).length + 1) = h + 1 + (wh i.toNat).length by omega]
      exact this
    · have eb : byD (.int i) = 4 :: wh (-1 - i).toNat := if_neg c
      rw [eb] at e ⊢
      obtain ⟨e1, e2⟩ := drop_cons (r := wh (-1 - i).toNat ++ post) e
      have := rdB_int (R := inn row n) e1 (by decide) (by decide) (whR_wh e2)
      rw [if_neg (by decide), Int.toNat_of_nonneg (by omega), show -1 - (-1 - i) = i by omega] at this
      rw [List.length_cons, show h + ((wh (-1 - i).toNat).length + 1) = h + 1 + (wh (-1 - i).toNat).length by omega]
      exact this
  | n, h, post, .str s, hp, e => by
    rw [rdd]
    have hp' : okStr s = true := hp
    unfold okStr at hp'
    simp only [Bool.and_eq_true, decide_eq_true_eq] at hp'
    have e' : row.drop h = 5 :: (wh s.length ++ (sgn s ++ post)) := by
      rw [e]
      show 5 :: (wh s.length ++ sgn s) ++ post = _
      rw [List.cons_append, List.append_assoc]
    obtain ⟨e1, e2⟩ := drop_cons e'
    have e3 := drop_app e2
    have := rdB_s1 (R := inn row n) e1 rfl (whR_wh e2) (by omega)
    rw [Int.toNat_natCast] at this
    have hS := strR_of (cs := sgn s) e3 hp'.2
    rw [sgn_len] at hS
    rw [hS] at this
    have g : strD (.ok ((sgn s).map Int.toNat) (h + 1 + (wh s.length).length + s.length)) = .ok (.str s) (h + (byD (.str s)).length) := by
      show Rs.ok (PyData.str (strOf ((sgn s).map Int.toNat))) _ = _
      rw [strOf_sgn]
      show Rs.ok _ _ = Rs.ok _ (h + ((5 : Int) :: (wh s.length ++ sgn s)).length)
      rw [List.length_cons, List.length_append, sgn_len, show h + 1 + (wh s.length).length + s.length = h + ((wh s.length).length + s.length + 1) by omega]
    rw [g] at this
    exact this
  | n, h, post, .list _, hp, e => by simp [isPc] at hp
  | n, h, post, .dict _, hp, e => by simp [isPc] at hp
  | n, h, post, .tuple ds, hp, e => by
    have hp' := hp
    simp only [isPc, Bool.and_eq_true, decide_eq_true_eq] at hp'
    obtain ⟨n', rfl⟩ : ∃ n', n = n' + 1 := ⟨n - 1, by omega⟩
    have e' : row.drop h = 6 :: (wh ds.length ++ (byAll ds ++ post)) := by
      rw [e]
      show 6 :: (wh ds.length ++ byAll ds) ++ post = _
      rw [List.cons_append, List.append_assoc]
    obtain ⟨e1, e2⟩ := drop_cons e'
    have e3 := drop_app e2
    have hI := its_by ds hp'.2 e3
    have := rdB_tup (R := Rd row n') (r := .ok ds (h + 1 + (wh ds.length).length + (byAll ds).length)) e1 rfl (whR_wh e2) (by rw [Int.toNat_natCast]; exact hI)
    show RdB row (some (Rd row n')) h _
    have g : tupD (.ok ds (h + 1 + (wh ds.length).length + (byAll ds).length)) = .ok (.tuple ds) (h + (byD (.tuple ds)).length) := by
      show Rs.ok _ _ = Rs.ok _ (h + ((6 : Int) :: (wh ds.length ++ byAll ds)).length)
      rw [List.length_cons, List.length_append, show h + 1 + (wh ds.length).length + (byAll ds).length = h + ((wh ds.length).length + (byAll ds).length + 1) by omega]
    rw [g] at this
    exact this
theorem its_by {row : List Int} : ∀ {n h : Nat} {post : List Int} (ds : List PyData), isPcAll n ds = true → row.drop h = byAll ds ++ post → Its (Rd row n) ds.length h (.ok ds (h + (byAll ds).length))
  | n, h, post, [], _, e => Its.nil h
  | n, h, post, d :: ds, hp, e => by
    simp only [isPcAll, Bool.and_eq_true] at hp
    have e' : row.drop h = byD d ++ (byAll ds ++ post) := by
      rw [e]
      show byD d ++ byAll ds ++ post = _
      rw [List.append_assoc]
    have h1 := rd_by d hp.1 e'
    have h2 := its_by ds hp.2 (drop_app e')
    have := Its.one h1 h2
    show Its (Rd row n) (ds.length + 1) h (.ok (d :: ds) (h + (byD d ++ byAll ds).length))
    rw [List.length_append, ← Nat.add_assoc]
    exact this
end
theorem opD_seal {d : PyData} (h : isPc 20 d = true) : OpD (byD d ++ sealL (byD d)) (.tuple [d]) := by
  obtain ⟨h1, h2⟩ := seal_of (byD d)
  refine .inl ⟨h1, d, ?_, rfl⟩
  rw [h2]
  have := rd_by (row := byD d) (n := 20) (h := 0) (post := []) d h (by rw [List.append_nil]; rfl)
  rw [Nat.zero_add] at this
  exact this
end Mw

/-! R17 -/
namespace Mw
open PySem L2
def spLaw (K : PySem.W.Frag) : Sp := fun vs H Q _ => ∃ (a : Addr) (ns : List Int), vs = [.ref a] ∧ SqL K H a (ns.map V.int) ∧ ∀ H', Q (.bl true) H'
/-- a row that is not too long stands at a -/
def RwA (H : Hp) (a : Addr) : Prop := ∃ row, RowAt H a row ∧ row.length ≤ 50000
theorem RwA.kt {H H' : Hp} {a : Addr} (h : RwA H a) (k : KT H H') : RwA H' a := by
  obtain ⟨row, h1, h2⟩ := h
  exact ⟨row, h1.kt k, h2⟩
def RwAll (H : Hp) (as : List Addr) : Prop := ∀ a ∈ as, RwA H a
theorem RwAll.kt {H H' : Hp} {as : List Addr} (h : RwAll H as) (k : KT H H') : RwAll H' as := fun a ha => (h a ha).kt k
theorem RwAll.one {H : Hp} {a : Addr} (h : RwA H a) : RwAll H [a] := fun b hb => by
  rw [show b = a by simpa using hb]
  exact h
theorem RwAll.app {H : Hp} {as bs : List Addr} (h : RwAll H as) (k : RwAll H bs) : RwAll H (as ++ bs) := fun b hb => by
  rcases List.mem_append.mp hb with z | z
  · exact h b z
  · exact k b z
theorem RwAll.snoc {H H' : Hp} {as : List Addr} {a : Addr} (h : RwAll H as) (k : KT H H') (n : RwA H' a) : RwAll H' (as ++ [a]) := (h.kt k).app (.one n)
theorem cut_row (row : List Int) (lo hi : Option Int) : ∃ sub : List Int, cutV (row.map V.int) lo hi = sub.map V.int ∧ (∀ b ∈ sub, b ∈ row) ∧ sub.length ≤ row.length := by
  refine ⟨(row.drop (HT.sIx row.length 0 lo)).take (HT.sIx row.length row.length hi - HT.sIx row.length 0 lo), ?_, fun b hb => List.mem_of_mem_drop (List.mem_of_mem_take hb), ?_⟩
  · unfold cutV
    rw [List.length_map, List.map_take, List.map_drop]
  · rw [List.length_take, List.length_drop]
    omega
theorem rd_cutR {K : PySem.W.Frag} {H : Hp} {Q : VK} {a : Addr} {row : List Int} {lo hi : Option Int} (h : RowAt H a row) (q : ∀ c sub H', Same H H' → RowAt H' c sub → sub.length ≤ row.length → Q (.ref c) H') : rSlA K (.ref a) lo hi H Q := by
  refine rd_cutA h.1 fun c H' s hc => ?_
  obtain ⟨sub, e, hm, hl⟩ := cut_row row lo hi
  rw [e] at hc
  exact q c sub H' s ⟨hc, fun b hb => h.2 b (hm b hb), Nat.le_trans hl h.3⟩ hl
theorem rd_catR {K : PySem.W.Frag} {H : Hp} {Q : VK} {a b : Addr} {r1 r2 : List Int} (h1 : RowAt H a r1) (h2 : RowAt H b r2) (hl : r1.length + r2.length ≤ 900000) (q : ∀ c H', Same H H' → RowAt H' c (r1 ++ r2) → Q (.ref c) H') : rCatA K (.ref a) (.ref b) H Q := by
  have hb : ∀ x ∈ r1 ++ r2, 0 ≤ x ∧ x < 256 := fun x hx => by
    rcases List.mem_append.mp hx with z | z
    · exact h1.2 x z
    · exact h2.2 x z
  refine ⟨a, b, _, _, rfl, rfl, SqT.of h1.1, SqT.of h2.1, small (by rw [List.length_map, List.length_map]; omega), fun e => ?_, fun _ e => ?_, fun _ _ c nc => ?_⟩
  · have e0 : r1 = [] := by simpa using e
    subst e0
    exact q _ _ (Same.refl H) h2
  · have e0 : r2 = [] := by simpa using e
    subst e0
    refine q _ _ (Same.refl H) ?_
    rw [List.append_nil]
    exact h1
  · exact q _ _ (same_new nc) ⟨by rw [upd_same, List.map_append], hb, by rw [List.length_append]; exact hl⟩
theorem rd_catD {K : PySem.W.Frag} {CP : Addr → Prop} {M : List Addr} {H : Hp} {Q : VK} {v u : V} {ds es : List PyData} (h1 : Dt CP M H (.tuple ds) v) (h2 : Dt CP M H (.tuple es) u) (hl : ds.length + es.length ≤ 900000) (q : ∀ r H', Same H H' → Dt CP M H' (.tuple (ds ++ es)) r → Q r H') : rCatA K v u H Q := by
  obtain ⟨a, xs, rfl, a1, a2⟩ := dt_tup' (id h1)
  obtain ⟨b, ys, rfl, b1, b2⟩ := dt_tup' (id h2)
  have l1 := a2.len
  have l2 := b2.len
  refine ⟨a, b, xs, ys, rfl, rfl, SqT.of a1, SqT.of b1, small (by omega), fun e => ?_, fun _ e => ?_, fun _ _ c hc => ?_⟩
  · have e0 : ds = [] := List.eq_nil_of_length_eq_zero (by rw [l1, e]; rfl)
    rw [e0] at q
    exact q _ _ (Same.refl H) h2
  · have e0 : es = [] := List.eq_nil_of_length_eq_zero (by rw [l2, e]; rfl)
    rw [e0, List.append_nil] at q
    exact q _ _ (Same.refl H) h1
  · exact q _ _ (same_new hc) (dt_tup upd_same ((a2.append b2).s (same_new hc)))
/-- a thing that is sealed of nothing -/
def Odd (d : PyData) : Prop := (isRowD d = false ∨ d = .tuple []) ∧ lenD d ≤ 900000
theorem odd_last {ds : List PyData} {x : PyData} (h : isByte x = false) (hl : ds.length ≤ 800000) : Odd (.tuple (ds ++ [x])) := by
  refine ⟨.inl ?_, by show (ds ++ [x]).length ≤ 900000; simp; omega⟩
  show ((ds ++ [x]).map isByte).all id = false
  rw [List.map_append, List.all_append]
  show (_ && (isByte x && true)) = false
  rw [h]
  simp
theorem opD_nil : OpD [] (.tuple []) := .inr ⟨.inl fun z => by
  have := seal_len z
  simp at this, rfl⟩
theorem isPc_same {n : Nat} {d : PyData} (h : isPc n d = true) : plainD d = true := isPc_plain d h
/-- what is opened tells plain things, not deep -/
theorem opD_plain {row : List Int} {D : PyData} (h : OpD row D) : plainD D = true := by
  rcases h with ⟨_, d, hR, rfl⟩ | ⟨_, rfl⟩
  · show (plainD d && true) = true
    rw [rd_plain hR]
    rfl
  · rfl
theorem ints_inj : ∀ {xs ys : List Int}, xs.map PyData.int = ys.map PyData.int → xs = ys
  | [], [], _ => rfl
  | [], y :: ys, h => by cases h
  | x :: xs, [], h => by cases h
  | x :: xs, y :: ys, h => by
    rw [List.map_cons, List.map_cons] at h
    injection h with h1 h2
    injection h1 with h1
    rw [h1, ints_inj h2]
theorem tup_inj {xs ys : List Int} (h : PyData.tuple (xs.map PyData.int) = .tuple (ys.map PyData.int)) : xs = ys := by
  injection h with h
  exact ints_inj h
theorem RowAt.disp {H : Hp} {t : Addr} {b : Int} (h : 0 ≤ b ∧ b < 256) : RowAt (upd H t (.tup [.int b])) t [b] := ⟨upd_same, fun x hx => by
  rw [show x = b by simpa using hx]
  exact h, by simp⟩
theorem lenD_row {row : List Int} (h : row.length ≤ 900000) : lenD (.tuple (row.map PyData.int)) ≤ 900000 := by
  show (row.map PyData.int).length ≤ 900000
  rw [List.length_map]
  exact h
/-- the pool, a sealed row at c, a row at r -/
structure K3 (H : Hp) (p l c r : Addr) (S R : List Int) : Prop where
  hh : PoolAt H p l
  hc : RowAt H c S
  hr : RowAt H r R
theorem K3.s {H H' : Hp} {p l c r : Addr} {S R : List Int} (h : K3 H p l c r S R) (s : Same H H') : K3 H' p l c r S R := ⟨h.1.same s, h.2.same s, h.3.same s⟩
theorem K3.k {H H' : Hp} {p l c r : Addr} {S R : List Int} (h : K3 H p l c r S R) (k : KT H H') (hh : PoolAt H' p l) : K3 H' p l c r S R := ⟨hh, h.2.kt k, h.3.kt k⟩
theorem RwA.of {H : Hp} {a : Addr} {row : List Int} (h : RowAt H a row) (l : row.length ≤ 50000) : RwA H a := ⟨row, h, l⟩
theorem RwAll.add {H H' : Hp} {as : List Addr} {a : Addr} (h : RwAll H as) (s : Same H H') (n : RwA H' a) : RwAll H' (as ++ [a]) := h.snoc (KT.same s) n
/-- opened twice the same -/
theorem rd_eqD {K : PySem.W.Frag} {CP : Addr → Prop} {M1 M2 : List Addr} {H : Hp} {Q : VK} {v u : V} {d e : PyData} (h1 : Dt CP M1 H d v) (h2 : Dt CP M2 H e u) (l1 : SeqAt.shaped d = true) (l2 : SeqAt.shaped e = true) (q : Q (.bl (!PyData.eqv d e)) H) : rNeD K v u H Q :=
  ⟨d, e, dt_dp _ _ (SeqAt.canLay_of_shaped l1) h1, dt_dp _ _ (SeqAt.canLay_of_shaped l2) h2, l1, l2, q⟩
theorem RowAt.sealed {H : Hp} {t : Addr} {r : List Int} (h : H t = some (.tup ((r ++ sealL r).map V.int))) (hb : ∀ b ∈ r, 0 ≤ b ∧ b < 256) (hl : r.length ≤ 40000) : RowAt H t (r ++ sealL r) ∧ RwA H t := by
  have e : (r ++ sealL r).length = r.length + 4 := by rw [List.length_append, sealL_len]
  have h1 : RowAt H t (r ++ sealL r) := ⟨h, fun b hb' => by
    rcases List.mem_append.mp hb' with z | z
    · exact hb b z
    · exact sk_by 4 _ b z, by omega⟩
  exact ⟨h1, ⟨_, h1, by omega⟩⟩
end Mw

/-! R18m -/
/-! THE FACT OF ROWS, and back. -/
namespace Mw
open PySem L2
theorem val_one : ∀ (L : List Int) (c : Int), (∀ b ∈ L, 0 ≤ b ∧ b < 256) → L[lead L]? = some c → c ≠ 0 → 1 ≤ val (L.take (lead L + 1))
  | [], c, _, e, _ => by simp [lead] at e
  | b :: r, c, hb, e, hc => by
    have b1 := hb b (by simp)
    by_cases g : 128 ≤ b
    · have el : lead (b :: r) = lead r + 1 := if_pos g
      rw [el] at e ⊢
      rw [List.getElem?_cons_succ] at e
      have := val_one r c (fun x hx => hb x (by simp [hx])) e hc
      rw [List.take_succ_cons]
      show 1 ≤ b % 128 + 128 * val (r.take (lead r + 1))
      omega
    · have el : lead (b :: r) = 0 := if_neg g
      rw [el] at e ⊢
      have : b = c := by simpa using e
      show 1 ≤ b % 128 + 128 * 0
      omega
theorem wh_inv : ∀ (L : List Int) (c : Int), (∀ b ∈ L, 0 ≤ b ∧ b < 256) → L[lead L]? = some c → (c ≠ 0 ∨ lead L = 0) → L.take (lead L + 1) = wh (val (L.take (lead L + 1))).toNat
  | [], c, _, e, _ => by simp [lead] at e
  | b :: r, c, hb, e, hc => by
    have b1 := hb b (by simp)
    by_cases g : 128 ≤ b
    · have el : lead (b :: r) = lead r + 1 := if_pos g
      rw [el] at e hc ⊢
      rw [List.getElem?_cons_succ] at e
      have c0 : c ≠ 0 := by
        rcases hc with z | z
        · exact z
        · omega
      have hr : ∀ x ∈ r, 0 ≤ x ∧ x < 256 := fun x hx => hb x (by simp [hx])
      have v1 := val_one r c hr e c0
      have ih := wh_inv r c hr e (.inl c0)
      rw [List.take_succ_cons]
      have ev : val (b :: r.take (lead r + 1)) = b % 128 + 128 * val (r.take (lead r + 1)) := rfl
      rw [ev]
      generalize hv : val (r.take (lead r + 1)) = v at v1 ih
      rw [wh_ge (show ¬ (b % 128 + 128 * v).toNat < 128 by omega), ih]
      have e1 : (((b % 128 + 128 * v).toNat % 128 + 128 : Nat) : Int) = b := by omega
      have e2 : (b % 128 + 128 * v).toNat / 128 = v.toNat := by omega
      rw [e1, e2]
    · have el : lead (b :: r) = 0 := if_neg g
      rw [el]
      show [b] = wh (b % 128 + 128 * 0).toNat
      rw [wh_lt (by omega)]
      have : ((b % 128 + 128 * 0).toNat : Int) = b := by omega
      rw [this]
theorem whR_inv {row : List Int} (hb : ∀ b ∈ row, 0 ≤ b ∧ b < 256) {h e : Nat} {n : Int} (g : whR row h = some (n, e)) : row.drop h = wh n.toNat ++ row.drop e := by
  unfold whR at g
  split at g
  · cases g
  · rename_i c hc
    split at g
    · cases g
    · rename_i hn
      injection g with g
      injection g with g1 g2
      have e2 : (row.drop h)[lead (row.drop h)]? = some c := by
        rw [List.getElem?_drop]
        exact hc
      have hk : c ≠ 0 ∨ lead (row.drop h) = 0 := by omega
      have := wh_inv (row.drop h) c (fun b hb' => hb b (List.mem_of_mem_drop hb')) e2 hk
      rw [g1] at this
      rw [← this, ← g2, Nat.add_assoc, ← List.drop_drop, List.take_append_drop]
theorem strR_inv {row : List Int} (hb : ∀ b ∈ row, 0 ≤ b ∧ b < 256) : ∀ {m h e : Nat} {cs : List Nat}, strR row m h = .ok cs e → cs.length = m ∧ row.drop h = (cs.map fun c : Nat => (c : Int)) ++ row.drop e ∧ (cs.map fun c : Nat => (c : Int)).all isSign = true
  | 0, h, e, cs, g => by
    unfold strR at g
    injection g with g1 g2
    subst g1 g2
    exact ⟨rfl, rfl, rfl⟩
  | m + 1, h, e, cs, g => by
    unfold strR at g
    split at g
    · cases g
    · rename_i b hb'
      split at g
      · rename_i hs
        cases k : strR row m (h + 1) with
        | bad e2 =>
          rw [k] at g
          cases g
        | ok cs2 e2 =>
          rw [k] at g
          injection g with g1 g2
          subst g1 g2
          obtain ⟨i1, i2, i3⟩ := strR_inv hb k
          have hl := (List.getElem?_eq_some_iff.mp hb').1
          have b0 := hb b (List.mem_of_getElem? hb')
          have ebb : ((b.toNat : Nat) : Int) = b := by omega
          refine ⟨by simp [i1], ?_, ?_⟩
          · rw [List.drop_eq_getElem_cons hl, show row[h] = b from (List.getElem?_eq_some_iff.mp hb').2, i2, List.map_cons, ebb]
            rfl
          · rw [List.map_cons, List.all_cons, ebb, hs, i3]
            rfl
      · cases g
theorem its_inv {row : List Int} {n : Nat} (hR : ∀ h d e, Rd row n h (.ok d e) → isPc n d = true ∧ row.drop h = byD d ++ row.drop e) {m h : Nat} {r : Rs (List PyData)} (a : Its (Rd row n) m h r) : ∀ ds e, r = .ok ds e → ds.length = m ∧ isPcAll n ds = true ∧ row.drop h = byAll ds ++ row.drop e := by
  induction a with
  | nil h =>
    intro ds e z
    injection z with z1 z2
    subst z1 z2
    exact ⟨rfl, rfl, rfl⟩
  | bad x =>
    intro ds e z
    cases z
  | @one m h h2 d r x y ih =>
    intro ds e z
    cases r with
    | bad e2 => cases z
    | ok l2 e2 =>
      injection z with z1 z2
      subst z1 z2
      obtain ⟨i1, i2, i3⟩ := ih _ _ rfl
      obtain ⟨j1, j2⟩ := hR _ _ _ x
      refine ⟨by simp [i1], ?_, ?_⟩
      · simp only [isPcAll, Bool.and_eq_true]
        exact ⟨j1, i2⟩
      · rw [j2, i3]
        show _ = byD d ++ byAll l2 ++ _
        rw [List.append_assoc]
theorem rdB_inv {row : List Int} (hb : ∀ b ∈ row, 0 ≤ b ∧ b < 256) {n : Nat} (hR : ∀ n', n = n' + 1 → ∀ h d e, Rd row n' h (.ok d e) → isPc n' d = true ∧ row.drop h = byD d ++ row.drop e) {h e : Nat} {d : PyData} (a : RdB row (inn row n) h (.ok d e)) : isPc n d = true ∧ row.drop h = byD d ++ row.drop e := by
  unfold RdB at a
  split at a
  · cases a
  · rename_i c hc
    have hl := (List.getElem?_eq_some_iff.mp hc).1
    have ec : row.drop h = c :: row.drop (h + 1) := by
      rw [List.drop_eq_getElem_cons hl, show row[h] = c from (List.getElem?_eq_some_iff.mp hc).2]
    have c0 := hb c (List.mem_of_getElem? hc)
    split at a
    · cases a
    · rename_i hn
      split at a
      · rename_i c3
        injection a with a1 a2
        subst a1 a2
        rw [ec]
        by_cases z : c = 0
        · rw [if_pos z, z]
          exact ⟨rfl, rfl⟩
        · rw [if_neg z]
          refine ⟨rfl, ?_⟩
          by_cases z2 : c = 2
          · rw [decide_eq_true z2, z2]
            rfl
          · rw [decide_eq_false z2, show c = 1 by omega]
            rfl
      · rename_i c3
        split at a
        · cases a
        · rename_i k e' hw
          have hwi := whR_inv hb hw
          have hk := whR_nn hw
          split at a
          · rename_i c5
            injection a with a1 a2
            subst a1 a2
            refine ⟨rfl, ?_⟩
            rw [ec, hwi]
            by_cases z : c = 3
            · rw [if_pos z, z]
              have : byD (.int k) = 3 :: wh k.toNat := if_pos hk
              rw [this]
              rfl
            · rw [if_neg z, show c = 4 by omega]
              have : byD (.int (-1 - k)) = 4 :: wh (-1 - (-1 - k)).toNat := if_neg (by omega)
              rw [this, show -1 - (-1 - k) = k by omega]
              rfl
          · rename_i c5
            split at a
            · rename_i z5
              split at a
              · cases a
              · rename_i hk20
                cases q : strR row k.toNat e' with
                | bad e2 =>
                  rw [q] at a
                  cases a
                | ok cs e2 =>
                  rw [q] at a
                  injection a with a1 a2
                  subst a1 a2
                  obtain ⟨i1, i2, i3⟩ := strR_inv hb q
                  refine ⟨?_, ?_⟩
                  · show okStr (strOf cs) = true
                    unfold okStr
                    rw [len_of, sgn_of, i3, i1, decide_eq_true (show 0 < k.toNat by omega), decide_eq_true (show k.toNat ≤ 20 by omega)]
                    rfl
                  · rw [ec, hwi, i2, z5]
                    show _ = (5 : Int) :: (wh (strOf cs).length ++ sgn (strOf cs)) ++ _
                    rw [len_of, sgn_of, i1, List.cons_append, List.append_assoc]
            · rename_i z5
              have z6 : c = 6 := by omega
              obtain ⟨R', r, x, y, z⟩ := a
              cases n with
              | zero => cases x
              | succ n =>
                cases x
                cases r with
                | bad e2 => cases z
                | ok ds e2 =>
                  injection z with z1 z2
                  subst z1 z2
                  obtain ⟨i1, i2, i3⟩ := its_inv (hR n rfl) y _ _ rfl
                  refine ⟨?_, ?_⟩
                  · simp only [isPc, Bool.and_eq_true, decide_eq_true_eq]
                    exact ⟨by omega, i2⟩
                  · rw [ec, hwi, i3, z6]
                    show _ = (6 : Int) :: (wh ds.length ++ byAll ds) ++ _
                    rw [i1, List.cons_append, List.append_assoc]
theorem rd_inv {row : List Int} (hb : ∀ b ∈ row, 0 ≤ b ∧ b < 256) : ∀ {n h e : Nat} {d : PyData}, Rd row n h (.ok d e) → isPc n d = true ∧ row.drop h = byD d ++ row.drop e
  | 0, h, e, d, a => rdB_inv hb (n := 0) (fun n' z => by omega) a
  | n + 1, h, e, d, a => rdB_inv hb (n := n + 1) (fun n' z h d e x => by
    have : n' = n := by omega
    subst this
    exact rd_inv hb x) a
theorem rd_inv_all {row : List Int} (hb : ∀ b ∈ row, 0 ≤ b ∧ b < 256) {d : PyData} (a : Rd row 20 0 (.ok d row.length)) : isPc 20 d = true ∧ row = byD d := by
  obtain ⟨h1, h2⟩ := rd_inv hb a
  refine ⟨h1, ?_⟩
  rw [List.drop_length, List.append_nil] at h2
  exact h2
theorem opD_size {row : List Int} (hb : ∀ b ∈ row, 0 ≤ b ∧ b < 256) {D : PyData} (h : OpD row D) : plainD D = true ∧ D.depth < 22 ∧ szd D ≤ row.length + 2 := by
  rcases h with ⟨_, d, hR, rfl⟩ | ⟨_, rfl⟩
  · have hbb : ∀ b ∈ body row, 0 ≤ b ∧ b < 256 := fun b hb' => hb b (List.mem_of_mem_take hb')
    obtain ⟨h1, h2⟩ := rd_inv_all hbb hR
    have h3 := isPc_depth d h1
    have h4 := szd_by d h1
    have h5 : (body row).length ≤ row.length := by
      unfold body
      rw [List.length_take]
      omega
    rw [← h2] at h4
    refine ⟨?_, ?_, ?_⟩
    · show (plainD d && true) = true
      rw [isPc_plain d h1]
      rfl
    · show max d.depth 0 + 1 < 22
      omega
    · show szd d + 0 + 1 ≤ row.length + 2
      omega
  · refine ⟨rfl, by decide, ?_⟩
    show 0 + 1 ≤ row.length + 2
    omega
end Mw

/-! V1 -/
namespace Mw
open PySem L2
/-! disks -/
abbrev dF (l : Addr) (n : Nat) : List (Str × V) := [(("rows" : Str), .ref l), (("firm" : Str), .int (n : Int))]
theorem dF_rows (l : Addr) (n : Nat) : (dF l n).lookup ("rows" : Str) = some (.ref l) := rfl
theorem dF_firm (l : Addr) (n : Nat) : (dF l n).lookup ("firm" : Str) = some (.int (n : Int)) := rfl
theorem dF_put (l l' : Addr) (n : Nat) : putF ("rows" : Str) (.ref l') (dF l n) = dF l' n := rfl
theorem dF_set (l : Addr) (n m : Nat) : putF ("firm" : Str) (.int (m : Int)) (dF l n) = dF l m := rfl
/-- rows stand at as -/
def RAll (H : Hp) (as : List Addr) (rs : List (List Int)) : Prop := as.length = rs.length ∧ ∀ (i : Nat) a r, as[i]? = some a → rs[i]? = some r → RowAt H a r
theorem RAll.kt {H H' : Hp} {as : List Addr} {rs : List (List Int)} (h : RAll H as rs) (k : KT H H') : RAll H' as rs := ⟨h.1, fun i a r e f => (h.2 i a r e f).kt k⟩
theorem RAll.nil {H : Hp} : RAll H [] [] := ⟨rfl, fun i a r e _ => by simp at e⟩
theorem RAll.app {H : Hp} {as bs : List Addr} {rs qs : List (List Int)} (h : RAll H as rs) (k : RAll H bs qs) : RAll H (as ++ bs) (rs ++ qs) := ⟨by rw [List.length_append, List.length_append, h.1, k.1], fun i a r e f => by
  rw [List.getElem?_append] at e f
  rw [h.1] at e
  split at e
  · rename_i g
    rw [if_pos g] at f
    exact h.2 i a r e f
  · rename_i g
    rw [if_neg g] at f
    exact k.2 _ a r e f⟩
theorem RAll.one {H : Hp} {a : Addr} {r : List Int} (h : RowAt H a r) : RAll H [a] [r] := ⟨rfl, fun i b q e f => by
  match i, e, f with
  | 0, e, f =>
    injection e with e
    injection f with f
    subst e f
    exact h⟩
theorem RAll.take {H : Hp} {as : List Addr} {rs : List (List Int)} (h : RAll H as rs) (n : Nat) : RAll H (as.take n) (rs.take n) := ⟨by rw [List.length_take, List.length_take, h.1], fun i a r e f => by
  rw [List.getElem?_take] at e f
  split at e
  · rename_i g
    rw [if_pos g] at f
    exact h.2 i a r e f
  · cases e⟩
theorem RAll.drop {H : Hp} {as : List Addr} {rs : List (List Int)} (h : RAll H as rs) (n : Nat) : RAll H (as.drop n) (rs.drop n) := ⟨by rw [List.length_drop, List.length_drop, h.1], fun i a r e f => by
  rw [List.getElem?_drop] at e f
  exact h.2 _ a r e f⟩
theorem RAll.get {H : Hp} {as : List Addr} {rs : List (List Int)} (h : RAll H as rs) {i : Nat} {v : V} (e : (as.map V.ref)[i]? = some v) : ∃ a r, v = .ref a ∧ as[i]? = some a ∧ rs[i]? = some r ∧ RowAt H a r := by
  rw [List.getElem?_map] at e
  cases g : as[i]? with
  | none =>
    rw [g] at e
    cases e
  | some a =>
    rw [g] at e
    injection e with e
    have hl := (List.getElem?_eq_some_iff.mp g).1
    rw [h.1] at hl
    exact ⟨a, rs[i], e.symm, rfl, List.getElem?_eq_getElem hl, h.2 i a _ g (List.getElem?_eq_getElem hl)⟩
/-- a list of rows at l -/
def LsAt (H : Hp) (l : Addr) (rs : List (List Int)) : Prop := ∃ as : List Addr, H l = some (.lst (as.map V.ref)) ∧ RAll H as rs
theorem LsAt.fk {M : List Addr} {H H' : Hp} {l : Addr} {rs : List (List Int)} (h : LsAt H l rs) (k : FK M H H') (n : l ∉ M) : LsAt H' l rs := by
  obtain ⟨as, h1, h2⟩ := h
  exact ⟨as, k.at n h1, h2.kt k.2⟩
theorem LsAt.s {H H' : Hp} {l : Addr} {rs : List (List Int)} (h : LsAt H l rs) (s : Same H H') : LsAt H' l rs := h.fk (M := []) (FK.same s) (by simp)
theorem LsAt.l {H : Hp} {l : Addr} {rs : List (List Int)} (h : LsAt H l rs) : ∃ us, H l = some (.lst us) := by
  obtain ⟨as, h1, _⟩ := h
  exact ⟨_, h1⟩
/-- a disk at a, its blocks in the list at l, n of them firm -/
def DiskAt (C : Addr) (H : Hp) (a l : Addr) (n : Nat) (rs : List (List Int)) : Prop := (∃ dx, H a = some (.ins C dx (dF l n))) ∧ LsAt H l rs
theorem DiskAt.ne {C a l : Addr} {H : Hp} {n : Nat} {rs : List (List Int)} (h : DiskAt C H a l n rs) : a ≠ l := by
  obtain ⟨⟨dx, h1⟩, h2⟩ := h
  obtain ⟨us, h3⟩ := h2.l
  exact ne_of h1 h3 (by intro z; cases z)
theorem DiskAt.fk {C a l : Addr} {M : List Addr} {H H' : Hp} {n : Nat} {rs : List (List Int)} (h : DiskAt C H a l n rs) (k : FK M H H') (n1 : a ∉ M) (n2 : l ∉ M) : DiskAt C H' a l n rs := by
  obtain ⟨⟨dx, h1⟩, h2⟩ := h
  exact ⟨⟨dx, k.at n1 h1⟩, h2.fk k n2⟩
theorem DiskAt.s {C a l : Addr} {H H' : Hp} {n : Nat} {rs : List (List Int)} (h : DiskAt C H a l n rs) (s : Same H H') : DiskAt C H' a l n rs := h.fk (M := []) (FK.same s) (by simp) (by simp)
theorem FK.ins {M : List Addr} {a C : Addr} {H : Hp} {o : HO} {dx : Addr} {fs : List (Str × V)} (m : a ∈ M) (h : H a = some (.ins C dx fs)) : FK M H (upd H a o) := FK.mut m h fun _ z => by cases z
theorem LsAt.upd {H : Hp} {l : Addr} {as : List Addr} {rs : List (List Int)} (k : KT H (upd H l (.lst (as.map V.ref)))) (h : RAll H as rs) : LsAt (upd H l (.lst (as.map V.ref))) l rs := ⟨as, upd_same, h.kt k⟩
/-- blocks cut -/
def cutR (rs : List (List Int)) (ks : List Int) : List (List Int) := (rs.zip ks).map fun x => x.1.take x.2.toNat
/-- so many bytes of each are there -/
def CutOk (rs : List (List Int)) (ks : List Int) : Prop := ks.length = rs.length ∧ ∀ (i : Nat) k r, ks[i]? = some k → rs[i]? = some r → 0 ≤ k ∧ k ≤ r.length
theorem cutR_len {rs : List (List Int)} {ks : List Int} (h : CutOk rs ks) : (cutR rs ks).length = rs.length := by
  unfold cutR
  rw [List.length_map, List.length_zip, h.1, Nat.min_self]
theorem cutR_get {rs : List (List Int)} {ks : List Int} {i : Nat} {r : List Int} {k : Int} (h1 : rs[i]? = some r) (h2 : ks[i]? = some k) : (cutR rs ks)[i]? = some (r.take k.toNat) := by
  unfold cutR
  rw [List.getElem?_map, (List.getElem?_zip_eq_some (z := (r, k))).mpr ⟨h1, h2⟩]
  rfl
def spDiskInit (C : Addr) : Sp := fun vs H Q _ => ∃ a dx, vs = [.ref a] ∧ H a = some (.ins C dx []) ∧ ∀ l H', FK [a] H H' → H l = none → l ≠ a → DiskAt C H' a l 0 [] → Q .non H'
def spWrite (C : Addr) : Sp := fun vs H Q _ => ∃ a l n rs t r, vs = [.ref a, .ref t] ∧ DiskAt C H a l n rs ∧ RowAt H t r ∧ rs.length < 1000 ∧ ∀ H', FK [l] H H' → DiskAt C H' a l n (rs ++ [r]) → Q (.int (rs.length : Nat)) H'
def spSync (C : Addr) : Sp := fun vs H Q _ => ∃ a l n rs, vs = [.ref a] ∧ DiskAt C H a l n rs ∧ ∀ H', FK [a] H H' → DiskAt C H' a l rs.length rs → Q (.int ((rs.length : Nat) - (n : Nat))) H'
def spBlocks (C : Addr) : Sp := fun vs H Q _ => ∃ a l n rs, vs = [.ref a] ∧ DiskAt C H a l n rs ∧ ∀ b H', Same H H' → H b = none → LsAt H' b rs → Q (.ref b) H'
def spSynced (C : Addr) : Sp := fun vs H Q _ => ∃ a l n rs, vs = [.ref a] ∧ DiskAt C H a l n rs ∧ Q (.int (n : Nat)) H
def spIsCut (CP : Addr → Prop) : Sp := fun vs H Q _ => ∃ wt t rs ks, vs = [.ref wt, .ref t] ∧ LsAt H wt rs ∧ H t = some (.tup (ks.map V.int)) ∧ CutOk rs ks ∧ rs.length ≤ 1000 ∧ ∀ H', Same H H' → Q (.bl true) H'
def spCut (C : Addr) : Sp := fun vs H Q _ => ∃ a l n rs t ks, vs = [.ref a, .ref t] ∧ DiskAt C H a l n rs ∧ n ≤ rs.length ∧ rs.length ≤ 1000 ∧ H t = some (.tup (ks.map V.int)) ∧ CutOk (rs.drop n) ks ∧
  ∀ l' H', FK [a] H H' → H l' = none → l' ≠ a → DiskAt C H' a l' rs.length (rs.take n ++ cutR (rs.drop n) ks) → Q .non H'
def spDrop (C : Addr) : Sp := fun vs H Q _ => ∃ a l n rs, ∃ k : Nat, vs = [.ref a, .int (k : Int)] ∧ DiskAt C H a l n rs ∧ k ≤ rs.length ∧ ∀ l' H', FK [a] H H' → H l' = none → l' ≠ a → DiskAt C H' a l' (min n k) (rs.take k) → Q .non H'
def spDCopy (C : Addr) : Sp := fun vs H Q _ => ∃ a l n rs, vs = [.ref a] ∧ DiskAt C H a l n rs ∧ ∀ a2 l2 H', Same H H' → H a2 = none → H l2 = none → DiskAt C H' a2 l2 n rs → Q (.ref a2) H'
theorem rd_meth {C : Addr} {m : Str} {sp : Sp} {dvs : List V} {E : XK} {ta : TE} {t : TA} {σ : L2.St} {H : Hp} {Q : VK} (h : ta σ H fun x H1 => ∃ a dx fs, x = .ref a ∧ H1 a = some (.ins C dx fs) ∧ fs.lookup m = none ∧ t σ H1 fun vs H2 => sp (x :: (vs ++ dvs)) H2 Q E) : tMeth C m sp dvs E ta t σ H Q := h
theorem rd_sfld {K : PySem.W.Frag} {ta tv : TE} {f : Str} {D : Ends} {σ : L2.St} {H : Hp} (h : tv σ H fun y H1 => ta σ H1 fun x H2 => ∃ a C dx fs, x = .ref a ∧ H2 a = some (.ins C dx fs) ∧ Cls K C ∧ NoAttr K C f ∧ fs.length < 1000 ∧ D.nx σ (upd H2 a (.ins C dx (putF f y fs)))) : sFld K ta tv f D σ H := h
section
variable {P : Program} {w : World} {K : PySem.W.Frag} {mg : Str → Option Value} {base : Heap}
local macro_rules | `(tactic| walk_at "rd") => `(tactic| (repeat (first
  | ((with_reducible refine' rd_var ?h0 ?_); (case h0 => rfl))
  | with_reducible refine rd_c ?_
  | with_reducible refine rd_op ?_
  | with_reducible refine rd_nil ?_
  | with_reducible refine rd_cons ?_
  | with_reducible refine rd_tup ?_
  | with_reducible refine rd_lst ?_
  | with_reducible refine rd_ifs ?_
  | with_reducible refine rd_seq ?_
  | with_reducible refine rd_next ?_
  | with_reducible refine rd_ret ?_
  | with_reducible refine rd_asg ?_
  | ((with_reducible refine' rd_gset ?hs ?_); (case hs => ((simp only [L2.start, List.map_cons, List.map_nil, List.length_cons, List.length_nil, List.cons_append, List.nil_append, List.set_cons_zero, List.set_cons_succ, Nat.reduceAdd, Nat.reduceSub, Nat.zero_add, List.reduceReplicate]); rfl)))
  | with_reducible refine rd_drop ?_
  | with_reducible refine rd_test ?_
  | with_reducible refine rd_B ?_
  | with_reducible refine rd_bl ?_
  | with_reducible refine rd_blP ?_
  | with_reducible refine rd_andV ?_
  | with_reducible refine rd_orV ?_
  | with_reducible refine rd_notV ?_
  | with_reducible refine rd_and ?_
  | with_reducible refine rd_or ?_
  | with_reducible refine rd_not ?_
  | with_reducible refine rd_chain ?_
  | with_reducible refine rd_dput ?_
  | with_reducible refine rd_dget ?_
  | with_reducible refine rd_cb ?_
  | with_reducible refine rd_call ?_
  | with_reducible refine rd_un ?_
  | with_reducible refine rd_sl ?_
  | with_reducible refine rd_nopart ?_
  | with_reducible refine rd_part ?_
  | with_reducible refine rd_intP ?_
  | with_reducible refine rd_rU ?_
  | with_reducible refine rd_fld ?_
  | with_reducible refine rd_eqI ?_
  | with_reducible refine rd_neI ?_
  | with_reducible refine rd_mko ?_
  | with_reducible refine rd_bm ?_
  | with_reducible refine rd_gsub ?_
  | with_reducible refine rd_i0 ?_)))
theorem ok_number_init (T : Tx K mg) (B : Bk K mg T) : FnOk P w K mg base CX0 1 B.NoNumber_init.f B.NoNumber_init.fd ["self"] spPass := by
  refine B.NoNumber_init.F.ok sc_NoNumber_init (fun vs H Q E h => ?_) (fun cdv A outer s H vs Q E hr h => ?_)
  · obtain ⟨a, rfl, _⟩ := h
    rfl
  · obtain ⟨a, rfl, q⟩ := h
    exact ⟨_, (pss_one ps_pass), q⟩
theorem ok_cut_init (T : Tx K mg) (B : Bk K mg T) : FnOk P w K mg base CX0 1 B.NoCut_init.f B.NoCut_init.fd ["self"] spPass := by
  refine B.NoCut_init.F.ok sc_NoCut_init (fun vs H Q E h => ?_) (fun cdv A outer s H vs Q E hr h => ?_)
  · obtain ⟨a, rfl, _⟩ := h
    rfl
  · obtain ⟨a, rfl, q⟩ := h
    exact ⟨_, (pss_one ps_pass), q⟩
theorem ok_blocks_init (T : Tx K mg) (B : Bk K mg T) : FnOk P w K mg base CX0 1 B.NoBlocks_init.f B.NoBlocks_init.fd ["self"] spPass := by
  refine B.NoBlocks_init.F.ok sc_NoBlocks_init (fun vs H Q E h => ?_) (fun cdv A outer s H vs Q E hr h => ?_)
  · obtain ⟨a, rfl, _⟩ := h
    rfl
  · obtain ⟨a, rfl, q⟩ := h
    exact ⟨_, (pss_one ps_pass), q⟩
theorem ok_disk_init (T : Tx K mg) (B : Bk K mg T) : FnOk P w K mg base CX0 1 B.Disk_init.f B.Disk_init.fd ["self"] (spDiskInit T.c_Disk) := by
  refine B.Disk_init.F.ok sc_Disk_init (fun vs H Q E h => ?_) (fun cdv A outer s H vs Q E hr h => ?_)
  · obtain ⟨a, dx, rfl, _⟩ := h
    rfl
  · obtain ⟨a, dx, rfl, ha, q⟩ := h
    refine ⟨_, (pss_cons (ps_fld (pv 0) (pe_lst pa_nil) rfl)
      (pss_one (ps_fld (pv 0) pe_int rfl))), ?_⟩
    walk_at "rd"
    refine rd_sfld ?_
    walk_at "rd"
    refine rd_disp rfl fun l nl => ?_
    have nal : a ≠ l := ne_of_none ha nl
    walk_at "rd"
    refine ⟨a, T.c_Disk, dx, _, rfl, (upd_ne nal).trans ha, T.W_Disk.cl, T.na_rows, (by show 0 < 1000; decide), ?_⟩
    dsimp only
    walk_at "rd"
    refine rd_sfld ?_
    walk_at "rd"
    refine ⟨a, T.c_Disk, dx, _, rfl, upd_same, T.W_Disk.cl, T.na_firm, (by show 1 < 1000; decide), ?_⟩
    dsimp only
    have f1 : FK [a] H (upd H l (.lst [])) := FK.new nl
    have f2 := f1.trans (FK.ins (o := .ins T.c_Disk dx (putF ("rows" : Str) (.ref l) [])) (by simp) ((upd_ne nal).trans ha))
    have f3 := f2.trans (FK.ins (o := .ins T.c_Disk dx (putF ("firm" : Str) (.int 0) (putF ("rows" : Str) (.ref l) []))) (by simp) upd_same)
    refine q l _ f3 nl nal.symm ⟨⟨dx, upd_same⟩, [], ?_, RAll.nil⟩
    rw [upd_ne nal.symm, upd_ne nal.symm]
    exact upd_same
theorem ok_write (T : Tx K mg) (B : Bk K mg T) : FnOk P w K mg base (L2.CX P w) 7 B.Disk_write.f B.Disk_write.fd ["self", "row"] (spWrite T.c_Disk) := by
  have G_check_row := ok_check_row (P := P) (w := w) (base := base) T B
  refine B.Disk_write.F.okX sc_Disk_write (fun vs H Q E h => ?_) (fun cdv A outer s H vs Q E hr h => ?_)
  · obtain ⟨a, l, n, rs, t, r, rfl, _⟩ := h
    rfl
  · obtain ⟨a, l, n, rs, t, r, rfl, hd, ht, hl, q⟩ := h
    have nal := hd.ne
    refine ⟨_, (pss_cons (ps_expr (pe_call G_check_row (hr.mono (by omega)) rfl B.check_row.m B.check_row.F.kp B.check_row.b .nil (passes_call (takes_of rfl rfl rfl rfl) (fun _ _ _ _ h => h)) (pa_cons (pv 1) pa_nil)))
      (pss_cons (ps_expr (pe_bm PySem.F.plainAttrs_list PySem.F.slot_list_append PySem.F.type_list_append mt_append (pe_fld (pv 0) rfl) (pa_cons (pv 1) pa_nil)))
      (pss_one (ps_ret (pe_op op_sub (pe_callB call_len_seq (by rfl) T.b_len (by decide +kernel) (pa_cons (pe_fld (pv 0) rfl) pa_nil)) pe_int))))), ?_⟩
    walk_at "rd"
    refine ⟨[], _, _, rfl, row_dt ht.1, lenD_row ht.le, fun H1 s1 => ⟨fun _ => ?_, fun z => ?_⟩⟩
    · have hd1 := hd.s s1
      have ht1 := ht.kt (KT.same s1)
      obtain ⟨⟨dx, ha⟩, as, has, hra⟩ := id hd1
      walk_at "rd"
      refine ⟨a, T.c_Disk, dx, _, _, rfl, ha, T.W_Disk.cl, T.na_rows, dF_rows _ _, ?_⟩
      refine ⟨.inl ⟨rfl, _, SqL.of has⟩, ?_⟩
      walk_at "rd"
      have la := hra.1
      refine rd_append has (small' (by rw [List.length_map]; omega)) ?_
      walk_at "rd"
      refine ⟨a, T.c_Disk, dx, _, _, rfl, (upd_ne nal).trans ha, T.W_Disk.cl, T.na_rows, dF_rows _ _, ?_⟩
      have f2 : FK [l] H1 (upd H1 l (.lst ((as ++ [t]).map V.ref))) := FK.mutL (by simp) has
      rw [show as.map V.ref ++ [V.ref t] = (as ++ [t]).map V.ref by simp]
      walk_at "rd"
      refine ⟨l, _, rfl, .inl (SqL.of upd_same), ?_⟩
      walk_at "rd"
      have e : ((((as ++ [t]).map V.ref).length : Nat) : Int) - 1 = (rs.length : Nat) := by simp; omega
      rw [e]
      exact q _ ((FK.same s1).trans f2) ⟨⟨dx, (upd_ne nal).trans ha⟩, LsAt.upd f2.2 (hra.app (.one ht1))⟩
    · rw [row_isD ht.2] at z
      cases z
theorem ok_sync (T : Tx K mg) (B : Bk K mg T) : FnOk P w K mg base CX0 1 B.Disk_sync.f B.Disk_sync.fd ["self"] (spSync T.c_Disk) := by
  refine B.Disk_sync.F.ok sc_Disk_sync (fun vs H Q E h => ?_) (fun cdv A outer s H vs Q E hr h => ?_)
  · obtain ⟨a, l, n, rs, rfl, _⟩ := h
    rfl
  · obtain ⟨a, l, n, rs, rfl, hd, q⟩ := h
    have nal := hd.ne
    obtain ⟨⟨dx, ha⟩, as, has, hra⟩ := id hd
    refine ⟨_, (pss_cons (ps_set (i := 1) sc_Disk_sync.nd rfl (Or.inl rfl) (pe_op op_sub (pe_callB call_len_seq (by rfl) T.b_len (by decide +kernel) (pa_cons (pe_fld (pv 0) rfl) pa_nil)) (pe_fld (pv 0) rfl)))
      (pss_cons (ps_fld (pv 0) (pe_callB call_len_seq (by rfl) T.b_len (by decide +kernel) (pa_cons (pe_fld (pv 0) rfl) pa_nil)) rfl)
      (pss_one (ps_ret (pv 1))))), ?_⟩
    walk_at "rd"
    refine ⟨a, T.c_Disk, dx, _, _, rfl, ha, T.W_Disk.cl, T.na_rows, dF_rows _ _, ?_⟩
    walk_at "rd"
    refine ⟨l, _, rfl, .inl (SqL.of has), ?_⟩
    walk_at "rd"
    refine ⟨a, T.c_Disk, dx, _, _, rfl, ha, T.W_Disk.cl, T.na_firm, dF_firm _ _, ?_⟩
    walk_at "rd"
    refine rd_sfld ?_
    walk_at "rd"
    refine ⟨a, T.c_Disk, dx, _, _, rfl, ha, T.W_Disk.cl, T.na_rows, dF_rows _ _, ?_⟩
    walk_at "rd"
    refine ⟨l, _, rfl, .inl (SqL.of has), ?_⟩
    walk_at "rd"
    refine ⟨a, T.c_Disk, dx, _, rfl, ha, T.W_Disk.cl, T.na_firm, (by show 2 < 1000; decide), ?_⟩
    rw [dF_set]
    dsimp only
    walk_at "rd"
    rw [List.length_map, hra.1]
    have f : FK [a] H (upd H a (.ins T.c_Disk dx (dF l rs.length))) := FK.ins (by simp) ha
    exact q _ f ⟨⟨dx, upd_same⟩, as, (upd_ne nal.symm).trans has, hra.kt f.2⟩
theorem ok_blocks (T : Tx K mg) (B : Bk K mg T) : FnOk P w K mg base CX0 1 B.Disk_blocks.f B.Disk_blocks.fd ["self"] (spBlocks T.c_Disk) := by
  refine B.Disk_blocks.F.ok sc_Disk_blocks (fun vs H Q E h => ?_) (fun cdv A outer s H vs Q E hr h => ?_)
  · obtain ⟨a, l, n, rs, rfl, _⟩ := h
    rfl
  · obtain ⟨a, l, n, rs, rfl, hd, q⟩ := h
    obtain ⟨⟨dx, ha⟩, as, has, hra⟩ := id hd
    refine ⟨_, (pss_one (ps_ret (pe_callTy call_list_of (by rfl) T.b_list (by decide +kernel) (pa_cons (pe_fld (pv 0) rfl) pa_nil)))), ?_⟩
    walk_at "rd"
    refine ⟨a, T.c_Disk, dx, _, _, rfl, ha, T.W_Disk.cl, T.na_rows, dF_rows _ _, ?_⟩
    walk_at "rd"
    refine ⟨l, _, rfl, .inl (SqL.of has), fun b nb => ?_⟩
    walk_at "rd"
    have s1 := same_new (o := .lst (as.map V.ref)) nb
    exact q b _ s1 nb ⟨as, upd_same, hra.kt (KT.same s1)⟩
theorem ok_synced (T : Tx K mg) (B : Bk K mg T) : FnOk P w K mg base CX0 1 B.Disk_synced.f B.Disk_synced.fd ["self"] (spSynced T.c_Disk) := by
  refine B.Disk_synced.F.ok sc_Disk_synced (fun vs H Q E h => ?_) (fun cdv A outer s H vs Q E hr h => ?_)
  · obtain ⟨a, l, n, rs, rfl, _⟩ := h
    rfl
  · obtain ⟨a, l, n, rs, rfl, hd, q⟩ := h
    obtain ⟨⟨dx, ha⟩, as, has, hra⟩ := id hd
    refine ⟨_, (pss_one (ps_ret (pe_fld (pv 0) rfl))), ?_⟩
    walk_at "rd"
    refine ⟨a, T.c_Disk, dx, _, _, rfl, ha, T.W_Disk.cl, T.na_firm, dF_firm _ _, ?_⟩
    walk_at "rd"
    exact q
end
end Mw

/-! V2 -/
namespace Mw
open PySem L2
/-- a comprehension over zip of a list and a tuple of one length -/
theorem lc_mz {K : PySem.W.Frag} {a b : Addr} {xs ys : List V} {g : TG} {tt : TT} {te : TE} {vs : List Nat} {σ : L2.St} {H1 : Hp} {D : Addr} {Qd : Hp → Prop} (hl : xs.length = ys.length) (Pv : Nat → Hp → Prop) (h0 : Pv 0 (upd H1 D (.lst [])))
    (hq : ∀ i H, Pv i H → SqL K H a xs ∧ SqT K H b ys)
    (hs : ∀ (i : Nat) (x y : V) (t : Addr) (H : Hp), xs[i]? = some x → ys[i]? = some y → Pv i H → H t = none → g (.ref t) (wipe σ vs) (upd H t (.tup [x, y])) fun σ2 H2 => wipe σ2 vs = wipe σ vs ∧
      tt σ2 H2 fun b H3 => if b = true then te σ2 H3 fun y H4 => ∃ acc, H4 D = some (.lst acc) ∧ acc.length < sizeLine ∧ Pv (i + 1) (upd H4 D (.lst (acc ++ [y]))) else Pv (i + 1) H3)
    (hd : ∀ H, Pv ys.length H → Qd H) :
    ∃ W : Nat → Nat → Hp → Prop, (∃ m, W 0 m (upd H1 D (.lst []))) ∧ ∀ i m H, W i m H → (Imz K a b).stop i H ∧ Qd H ∨ (Imz K a b).go i H ∧ ∃ Nx : Hp → Prop, (∀ H', Nx H' → ∃ m', m' < m ∧ W (i + 1) m' H') ∧
      ∀ x H', (Imz K a b).yld i H x H' → g x (wipe σ vs) H' fun σ2 H2 => wipe σ2 vs = wipe σ vs ∧ tt σ2 H2 fun b H3 => if b = true then te σ2 H3 fun y H4 => ∃ acc, H4 D = some (.lst acc) ∧ acc.length < sizeLine ∧ Nx (upd H4 D (.lst (acc ++ [y]))) else Nx H3 := by
  refine ⟨fun i m H => m = ys.length - i ∧ i ≤ ys.length ∧ Pv i H, ⟨_, rfl, Nat.zero_le _, h0⟩, ?_⟩
  rintro i m H ⟨rfl, hi, hP⟩
  obtain ⟨q1, q2⟩ := hq i H hP
  by_cases e : i = ys.length
  · exact .inl ⟨⟨xs, ys, q1, q2, .inr (Nat.le_of_eq e.symm)⟩, hd H (e ▸ hP)⟩
  · have hlt : i < ys.length := by omega
    have hy : ys[i]? = some ys[i] := by simp [hlt]
    have hx : xs[i]? = some (xs[i]'(by omega)) := by simp
    refine .inr ⟨⟨xs, ys, _, _, q1, q2, hx, hy⟩, Pv (i + 1), fun H' h => ⟨ys.length - (i + 1), by omega, rfl, by omega, h⟩, ?_⟩
    rintro v H' ⟨t, x, y, rfl, ht, rfl, ex, ey⟩
    exact hs i x y t H (ex xs q1) (ey ys q2) hP ht
theorem rd_izipLT {K : PySem.W.Frag} {ta : TA} {σ : L2.St} {H : Hp} {R : It → Hp → Prop} (h : ta σ H fun vs H1 => ∃ a b xs ys, vs = [.ref a, .ref b] ∧ SqL K H1 a xs ∧ SqT K H1 b ys ∧ R (Imz K a b) H1) : iZipLT K ta σ H R := h
theorem ks_get {ks : List Int} {i : Nat} {v : V} (h : (ks.map V.int)[i]? = some v) : ∃ k, v = .int k ∧ ks[i]? = some k := by
  obtain ⟨k, e, rfl⟩ := mapint_get h
  exact ⟨k, rfl, e⟩
def rLenS (K : PySem.W.Frag) : List V → Hp → VK → Prop := fun xs H Q => ∃ p ys, xs = [V.ref p] ∧ (SqL K H p ys ∨ SqT K H p ys) ∧ Q (V.int (ys.length : Nat)) H
theorem all_rep (n : Nat) : (List.replicate n true).all id = true := by
  rw [List.all_eq_true]
  intro x hx
  rw [List.eq_of_mem_replicate hx]
  rfl
def spTupOf : Sp := fun vs H Q _ => ∃ (m : Int) (t : Addr) (ks : List Int), vs = [.int m, .ref t] ∧ H t = some (.tup (ks.map V.int)) ∧ Q (.bl (decide ((ks.length : Int) = m))) H
section
variable {P : Program} {w : World} {K : PySem.W.Frag} {mg : Str → Option Value} {base : Heap}
local macro_rules | `(tactic| walk_at "rd") => `(tactic| (repeat (first
  | ((with_reducible refine' rd_var ?h0 ?_); (case h0 => rfl))
  | with_reducible refine rd_c ?_
  | with_reducible refine rd_op ?_
  | with_reducible refine rd_nil ?_
  | with_reducible refine rd_cons ?_
  | with_reducible refine rd_tup ?_
  | with_reducible refine rd_lst ?_
  | with_reducible refine rd_ifs ?_
  | with_reducible refine rd_seq ?_
  | with_reducible refine rd_next ?_
  | with_reducible refine rd_ret ?_
  | with_reducible refine rd_asg ?_
  | ((with_reducible refine' rd_gset ?hs ?_); (case hs => ((simp only [L2.start, List.map_cons, List.map_nil, List.length_cons, List.length_nil, List.cons_append, List.nil_append, List.set_cons_zero, List.set_cons_succ, Nat.reduceAdd, Nat.reduceSub, Nat.zero_add, List.reduceReplicate]); rfl)))
  | with_reducible refine rd_drop ?_
  | with_reducible refine rd_test ?_
  | with_reducible refine rd_B ?_
  | with_reducible refine rd_bl ?_
  | with_reducible refine rd_blP ?_
  | with_reducible refine rd_andV ?_
  | with_reducible refine rd_orV ?_
  | with_reducible refine rd_notV ?_
  | with_reducible refine rd_and ?_
  | with_reducible refine rd_or ?_
  | with_reducible refine rd_not ?_
  | with_reducible refine rd_chain ?_
  | with_reducible refine rd_dput ?_
  | with_reducible refine rd_dget ?_
  | with_reducible refine rd_cb ?_
  | with_reducible refine rd_call ?_
  | with_reducible refine rd_un ?_
  | with_reducible refine rd_sl ?_
  | with_reducible refine rd_nopart ?_
  | with_reducible refine rd_part ?_
  | with_reducible refine rd_intP ?_
  | with_reducible refine rd_rU ?_
  | with_reducible refine rd_fld ?_
  | with_reducible refine rd_eqI ?_
  | with_reducible refine rd_neI ?_
  | with_reducible refine rd_mko ?_
  | with_reducible refine rd_bm ?_
  | with_reducible refine rd_gsub ?_
  | with_reducible refine rd_i0 ?_)))
theorem ok_is_tuple_of (T : Tx K mg) (B : Bk K mg T) : FnOk P w K mg base CX0 1 B.is_tuple_of.f B.is_tuple_of.fd ["many", "thing"] spTupOf := by
  refine B.is_tuple_of.F.ok sc_is_tuple_of (fun vs H Q E h => ?_) (fun cdv A outer s H vs Q E hr h => ?_)
  · obtain ⟨m, t, ks, rfl, _⟩ := h
    rfl
  · obtain ⟨m, t, ks, rfl, ht, q⟩ := h
    refine ⟨_, (pss_one (ps_ret (pe_and (pe_callB call_isi (by rfl) T.b_isinstance (by decide +kernel) (pa_cons (pv 1) (pa_cons (pe_bltn (v := .ty "tuple") (by rfl) T.b_tuple (by decide +kernel) rfl) pa_nil))) (pe_one (pe_cmpR op_eq (pe_callB call_len_seq (by rfl) T.b_len (by decide +kernel) (pa_cons (pv 1) pa_nil)) (pv 0) (nomark _)))))), ?_⟩
    walk_at "rd"
    refine dt_isT (CP := T.CP) (M := []) T.W (row_dt ht) ?_
    walk_at "rd"
    refine rd_yes rfl ?_
    walk_at "rd"
    refine ⟨t, _, rfl, .inr (SqT.of ht), ?_⟩
    walk_at "rd"
    rw [List.length_map]
    exact q
theorem ok_is_cut (T : Tx K mg) (B : Bk K mg T) : FnOk P w K mg base CX0 4 B.is_cut.f B.is_cut.fd ["waiting", "thing"] (spIsCut T.CP) := by
  have G_is_tuple_of := ok_is_tuple_of (P := P) (w := w) (base := base) T B
  have G_is_number_below := ok_is_number_below (P := P) (w := w) (base := base) T B
  refine B.is_cut.F.ok sc_is_cut (fun vs H Q E h => ?_) (fun cdv A outer s H vs Q E hr h => ?_)
  · obtain ⟨wt, t, rs, ks, rfl, _⟩ := h
    rfl
  · obtain ⟨wt, t, rs, ks, rfl, ⟨as, has, hra⟩, ht, hc, hl, q⟩ := h
    have la := hra.1
    refine ⟨_, (pss_cons (ps_if (pt_not (pt_val (pe_call G_is_tuple_of (hr.mono (by omega)) rfl B.is_tuple_of.m B.is_tuple_of.F.kp B.is_tuple_of.b .nil pass0 (pa_cons (pe_callB call_len_seq (by rfl) T.b_len (by decide +kernel) (pa_cons (pv 0) pa_nil)) (pa_cons (pv 1) pa_nil))))) (pss_one (ps_ret pe_bl)) pss_nil)
      (pss_one (ps_ret (pe_callB (cr_all rfl) (by rfl) T.b_all (by decide +kernel) (pa_cons (pe_lc (own := [("row", 2), ("many", 3)]) (g := (gTup K 2 (gCons (gName 2) (gCons (gName 3) gNil)))) rfl sc_is_cut.nd (pi_zipLT (by rfl) T.b_zip (pa_cons (pv 0) (pa_cons (pv 1) pa_nil))) (blkOk_by (own := [("row", 2), ("many", 3)]) (N := ["waiting", "thing", "row", "many"]) (sc := defScope s_is_cut) (by decide +kernel)) (fun _ _ _ _ _ => (pg_tup (by rfl) (pgs_cons (pg_name (i := 2) sc_is_cut.nd rfl (Or.inl rfl)) (pgs_cons (pg_name (i := 3) sc_is_cut.nd rfl (Or.inl rfl)) pgs_nil)))) (fun _ _ _ _ _ => pts_nil) (fun _ _ _ _ _ => (pe_call G_is_number_below (hr.mono (by omega)) rfl B.is_number_below.m B.is_number_below.F.kp B.is_number_below.b .nil pass0 (pa_cons (pe_op op_add (pe_callB (id := "len") (r := rLenS K) call_len_seq (by rfl) T.b_len (by decide +kernel) (pa_cons (pv 2) pa_nil)) pe_int) (pa_cons (pv 3) pa_nil))))) pa_nil))))), ?_⟩
    walk_at "rd"
    refine ⟨wt, _, rfl, .inl (SqL.of has), ?_⟩
    walk_at "rd"
    refine ⟨_, t, ks, rfl, ht, ?_⟩
    walk_at "rd"
    refine rd_no (by rw [List.length_map, hc.1, la]; simp) ?_
    walk_at "rd"
    refine rd_izipLT ?_
    walk_at "rd"
    refine ⟨wt, t, _, _, rfl, SqL.of has, SqT.of ht, fun D hD => lc_mz (K := K) (a := wt) (b := t) (xs := as.map V.ref) (ys := ks.map V.int) (by rw [List.length_map, List.length_map, la, hc.1])
      (fun i H1 => Same H H1 ∧ H1 D = some (.lst ((List.replicate i true).map V.bl))) ⟨same_new hD, upd_same⟩ (fun i H1 hh => ⟨SqL.of (hh.1 _ _ has), SqT.of (hh.1 _ _ ht)⟩) ?_ ?_⟩
    · rintro i x y tt H1 hx hy ⟨hs, hacc⟩ htt
      obtain ⟨a, r, rfl, ea, er, hr⟩ := hra.get hx
      obtain ⟨k, rfl, ek⟩ := ks_get hy
      obtain ⟨k0, k1⟩ := hc.2 i k r ek er
      have s2 := hs.trans (same_new (o := .tup [V.ref a, V.int k]) htt)
      have hDt : D ≠ tt := ne_of_none hacc htt
      refine ⟨tt, _, rfl, SqT.of upd_same, rfl, _, _, rfl, _, _, rfl, rfl, ?_⟩
      refine ⟨rfl, ?_⟩
      refine rd_tyes ?_
      refine rd_yes rfl ?_
      walk_at "rd"
      refine ⟨a, _, rfl, .inr (SqT.of (s2 _ _ hr.1)), ?_⟩
      walk_at "rd"
      refine ⟨[], _, .int k, .int k, rfl, dt_int, ?_⟩
      have e : isNb ((((r.map V.int).length : Nat) : Int) + 1) (.int k) = true := by
        show (decide (0 ≤ k) && decide (k < _)) = true
        rw [List.length_map]
        simp
        omega
      rw [e]
      refine ⟨_, (upd_ne hDt).trans hacc, small' (by rw [List.length_map, List.length_replicate]; have := (List.getElem?_eq_some_iff.mp ea).1; omega), fun b o eb => (upd_ne (ne_of_none eb hD)).trans (s2 b o eb), ?_⟩
      rw [upd_same, List.replicate_succ', List.map_append]
      rfl
    · rintro H1 ⟨hs, hacc⟩
      refine ⟨D, _, rfl, SqL.of hacc, ?_⟩
      rw [all_rep]
      exact q H1 hs
theorem ok_cut (T : Tx K mg) (B : Bk K mg T) : FnOk P w K mg base (L2.CX P w) 5 B.Disk_cut.f B.Disk_cut.fd ["self", "kept"] (spCut T.c_Disk) := by
  have G_is_cut := ok_is_cut (P := P) (w := w) (base := base) T B
  have G_NoCut_init := ok_cut_init (P := P) (w := w) (base := base) T B
  refine B.Disk_cut.F.okX sc_Disk_cut (fun vs H Q E h => ?_) (fun cdv A outer s H vs Q E hr h => ?_)
  · obtain ⟨a, l, n, rs, t, ks, rfl, _⟩ := h
    rfl
  · obtain ⟨a, l, n, rs, t, ks, rfl, hd, hn, hl, ht, hc, q⟩ := h
    have nal := hd.ne
    obtain ⟨⟨dx, ha⟩, as, has, hra⟩ := id hd
    have la := hra.1
    refine ⟨_, (pss_cons (ps_set (i := 2) sc_Disk_cut.nd rfl (Or.inl rfl) (pe_slice sl_list (pe_fld (pv 0) rfl) (po_some (pe_fld (pv 0) rfl)) po_none))
      (pss_cons (ps_if (pt_not (pt_val (pe_call G_is_cut (hr.mono (by omega)) rfl B.is_cut.m B.is_cut.F.kp B.is_cut.b .nil pass0 (pa_cons (pv 2) (pa_cons (pv 1) pa_nil))))) (pss_one (ps_raise rfl (takes_of rfl rfl rfl rfl) (pmk_pass T.x_NoCut B.NoCut_init.a B.NoCut_init.t G_NoCut_init (hr.mono (by omega)) B.NoCut_init.b pass0 rfl T.g_NoCut))) pss_nil)
      (pss_cons (ps_fld (pv 0) (pe_op op_cat (pe_slice sl_list (pe_fld (pv 0) rfl) po_none (po_some (pe_fld (pv 0) rfl))) (pe_lc (own := [("row", 3), ("many", 4)]) (g := (gTup K 2 (gCons (gName 3) (gCons (gName 4) gNil)))) rfl sc_Disk_cut.nd (pi_zipLT (by rfl) T.b_zip (pa_cons (pv 2) (pa_cons (pv 1) pa_nil))) (blkOk_by (own := [("row", 3), ("many", 4)]) (N := ["self", "kept", "waiting", "row", "many"]) (sc := defScope s_Disk_cut) (by decide +kernel)) (fun _ _ _ _ _ => (pg_tup (by rfl) (pgs_cons (pg_name (i := 3) sc_Disk_cut.nd rfl (Or.inl rfl)) (pgs_cons (pg_name (i := 4) sc_Disk_cut.nd rfl (Or.inl rfl)) pgs_nil)))) (fun _ _ _ _ _ => pts_nil) (fun _ _ _ _ _ => (pe_slice (r := rSlA K) sl_tupA (pv 3) po_none (po_some (pv 4)))))) rfl)
      (pss_one (ps_fld (pv 0) (pe_callB call_len_seq (by rfl) T.b_len (by decide +kernel) (pa_cons (pe_fld (pv 0) rfl) pa_nil)) rfl))))), ?_⟩
    walk_at "rd"
    refine ⟨a, T.c_Disk, dx, _, _, rfl, ha, T.W_Disk.cl, T.na_rows, dF_rows _ _, ?_⟩
    walk_at "rd"
    refine ⟨a, T.c_Disk, dx, _, _, rfl, ha, T.W_Disk.cl, T.na_firm, dF_firm _ _, ?_⟩
    walk_at "rd"
    refine ⟨l, _, rfl, SqL.of has, fun wt nw => ?_⟩
    have e1 : cutV (as.map V.ref) (some (n : Int)) none = (as.drop n).map V.ref := by
      unfold cutV
      rw [List.length_map, HT.sIx_none, HT.sIx_nat, Nat.min_eq_left (by omega), List.take_of_length_le (by rw [List.length_drop, List.length_map]; omega), List.map_drop]
    rw [e1]
    have s1 := same_new (o := .lst ((as.drop n).map V.ref)) nw
    have hw : LsAt (upd H wt (.lst ((as.drop n).map V.ref))) wt (rs.drop n) := ⟨_, upd_same, (hra.drop n).kt (KT.same s1)⟩
    walk_at "rd"
    refine ⟨wt, t, rs.drop n, ks, rfl, hw, s1 _ _ ht, hc, by rw [List.length_drop]; omega, fun H1 s2 => ?_⟩
    have s12 := s1.trans s2
    have ha1 := s12 _ _ ha
    have hl1 := s12 _ _ has
    have hr1 := hra.kt (KT.same s12)
    obtain ⟨bs, hbs, hrb⟩ := hw.s s2
    walk_at "rd"
    refine rd_no rfl ?_
    walk_at "rd"
    refine rd_sfld ?_
    walk_at "rd"
    refine ⟨a, T.c_Disk, dx, _, _, rfl, ha1, T.W_Disk.cl, T.na_rows, dF_rows _ _, ?_⟩
    walk_at "rd"
    refine ⟨a, T.c_Disk, dx, _, _, rfl, ha1, T.W_Disk.cl, T.na_firm, dF_firm _ _, ?_⟩
    walk_at "rd"
    refine ⟨l, _, rfl, SqL.of hl1, fun c nc => ?_⟩
    have e2 : cutV (as.map V.ref) none (some (n : Int)) = (as.take n).map V.ref := by
      unfold cutV
      rw [List.length_map, HT.sIx_none, HT.sIx_nat, Nat.min_eq_left (by omega), List.drop_zero, List.map_take, Nat.sub_zero]
    rw [e2]
    have s3 := same_new (o := .lst ((as.take n).map V.ref)) nc
    walk_at "rd"
    refine rd_izipLT ?_
    walk_at "rd"
    have lb := hrb.1
    have lk := hc.1
    have ld : (rs.drop n).length ≤ 1000 := by rw [List.length_drop]; omega
    refine ⟨wt, t, _, _, rfl, SqL.of (s3 _ _ hbs), SqT.of ((s12.trans s3) _ _ ht), fun D hD => lc_mz (K := K) (a := wt) (b := t) (xs := bs.map V.ref) (ys := ks.map V.int) (by rw [List.length_map, List.length_map, lb, lk])
      (fun i H2 => Same (upd H1 c (.lst ((as.take n).map V.ref))) H2 ∧ ∃ cs, H2 D = some (.lst (cs.map V.ref)) ∧ RAll H2 cs ((cutR (rs.drop n) ks).take i)) ⟨same_new hD, [], upd_same, by rw [List.take_zero]; exact RAll.nil⟩ (fun i H2 hh => ⟨SqL.of (hh.1 _ _ (s3 _ _ hbs)), SqT.of (hh.1 _ _ ((s12.trans s3) _ _ ht))⟩) ?_ ?_⟩
    · rintro i x y tt H2 hx hy ⟨hs, cs, hacc, hrc⟩ htt
      obtain ⟨b, r, rfl, eb, er, hrr⟩ := hrb.get hx
      obtain ⟨k, rfl, ek⟩ := ks_get hy
      obtain ⟨k0, k1⟩ := hc.2 i k r ek er
      have hs3 := s3.trans hs
      have s4 := same_new (o := .tup [V.ref b, V.int k]) htt
      have hDt : D ≠ tt := ne_of_none hacc htt
      refine ⟨tt, _, rfl, SqT.of upd_same, rfl, _, _, rfl, _, _, rfl, rfl, ?_⟩
      refine ⟨rfl, ?_⟩
      refine rd_tyes ?_
      refine rd_yes rfl ?_
      walk_at "rd"
      have hrb4 := hrr.kt (KT.same (hs3.trans s4))
      refine rd_cutA hrb4.1 fun d H3 s5 hd3 => ?_
      have e3 : cutV (r.map V.int) none (some k) = (r.take k.toNat).map V.int := by
        unfold cutV
        obtain ⟨k', rfl⟩ := Int.eq_ofNat_of_zero_le k0
        rw [List.length_map, HT.sIx_none, HT.sIx_nat, Nat.min_eq_left (by omega), List.drop_zero, List.map_take, Nat.sub_zero]
        rfl
      rw [e3] at hd3
      have hrow : RowAt H3 d (r.take k.toNat) := ⟨hd3, fun z hz => hrb4.2 z (List.mem_of_mem_take hz), by have := hrb4.3; rw [List.length_take]; omega⟩
      have hacc3 : H3 D = some (.lst (cs.map V.ref)) := s5 _ _ ((upd_ne hDt).trans hacc)
      have lc := hrc.1
      rw [List.length_take] at lc
      have lcc := cutR_len hc
      refine ⟨_, hacc3, small' (by rw [List.length_map]; omega), fun z o ez => (upd_ne (ne_of_none ez hD)).trans (s5 _ _ (s4 _ _ (hs z o ez))), cs ++ [d], ?_, ?_⟩
      · rw [upd_same, List.map_append]
        rfl
      · rw [take_snoc (cutR_get er ek)]
        have k45 : KT H2 H3 := KT.same (s4.trans s5)
        have k6 : KT H3 (upd H3 D (.lst (cs.map V.ref ++ [V.ref d]))) := (FK.mutL (M := [D]) (by simp) hacc3).2
        exact ((hrc.kt k45).kt k6).app (.one (hrow.kt k6))
    · rintro H2 ⟨hs, cs, hacc, hrc⟩
      have lcc := cutR_len hc
      rw [List.take_of_length_le (by rw [List.length_map]; omega)] at hrc
      have hs3 := s3.trans hs
      walk_at "rd"
      refine ⟨c, D, _, _, rfl, rfl, hs _ _ upd_same, hacc, Nat.le_trans (show _ ≤ 2000 by rw [List.length_map, List.length_map, List.length_take, hrc.1, lcc]; omega) (by decide), fun l' nl' => ?_⟩
      have s6 := same_new (o := .lst ((as.take n).map V.ref ++ cs.map V.ref)) nl'
      have s16 := (s12.trans hs3).trans s6
      have ne1 : a ≠ l' := ne_of_none ((s12.trans hs3) _ _ ha) nl'
      have ha2 := s16 _ _ ha
      have nl0 : H l' = none := (s12.trans hs3).free nl'
      walk_at "rd"
      refine ⟨a, T.c_Disk, dx, _, rfl, ha2, T.W_Disk.cl, T.na_rows, (by show 2 < 1000; decide), ?_⟩
      rw [dF_put]
      dsimp only
      have f7 := (FK.same (M := [a]) s16).trans (FK.ins (o := .ins T.c_Disk dx (dF l' n)) (by simp) ha2)
      walk_at "rd"
      refine rd_sfld ?_
      walk_at "rd"
      refine ⟨a, T.c_Disk, dx, _, _, rfl, upd_same, T.W_Disk.cl, T.na_rows, dF_rows _ _, ?_⟩
      walk_at "rd"
      refine ⟨l', _, rfl, .inl (SqL.of ((upd_ne ne1.symm).trans upd_same)), ?_⟩
      walk_at "rd"
      refine ⟨a, T.c_Disk, dx, _, rfl, upd_same, T.W_Disk.cl, T.na_firm, (by show 2 < 1000; decide), ?_⟩
      have el : (((as.take n).map V.ref ++ cs.map V.ref).length : Nat) = rs.length := by
        rw [List.length_append, List.length_map, List.length_map, List.length_take, hrc.1, lcc, List.length_drop]
        omega
      rw [el, dF_set]
      dsimp only
      have f8 := f7.trans (FK.ins (o := .ins T.c_Disk dx (dF l' rs.length)) (by simp) upd_same)
      walk_at "rd"
      refine q l' _ f8 nl0 ne1.symm ⟨⟨dx, upd_same⟩, as.take n ++ cs, ?_, ?_⟩
      · rw [upd_ne ne1.symm, upd_ne ne1.symm, upd_same, List.map_append]
      · have k1 : KT H2 (upd (upd (upd H2 l' (.lst ((as.take n).map V.ref ++ cs.map V.ref))) a (.ins T.c_Disk dx (dF l' n))) a (.ins T.c_Disk dx (dF l' rs.length))) :=
          (KT.same s6).trans ((KT.mut ha2 fun _ z => by cases z).trans (KT.mut upd_same fun _ z => by cases z))
        exact ((hra.take n).kt f8.2).app (hrc.kt k1)
end
end Mw

/-! V3 -/
namespace Mw
open PySem L2
/-- a list (b) or a tuple -/
def AtB (H : Hp) (a : Addr) (xs : List V) (b : Bool) : Prop := H a = some (if b = true then .lst xs else .tup xs)
def Itb (K : PySem.W.Frag) (a : Addr) (b : Bool) : It := if b = true then Itl K a else Itt K a
theorem AtB.s {H H' : Hp} {a : Addr} {xs : List V} {b : Bool} (h : AtB H a xs b) (s : Same H H') : AtB H' a xs b := s _ _ h
theorem rd_iseqV {K : PySem.W.Frag} {i : Nat} {σ : L2.St} {H : Hp} {R : It → Hp → Prop} {a : Addr} {b : Bool} {xs : List V} (e : σ[i]? = some (some (.ref a))) (h1 : AtB H a xs b) (h2 : R (Itb K a b) H) : iSeq K (tVar i) σ H R := by
  refine ⟨.ref a, e, a, rfl, ?_⟩
  cases b with
  | true => exact .inl ⟨⟨xs, SqL.of h1⟩, h2⟩
  | false => exact .inr ⟨⟨xs, SqT.of h1⟩, h2⟩
theorem lc_b {K : PySem.W.Frag} {a : Addr} {b : Bool} {xs : List V} {g : TG} {tt : TT} {te : TE} {vs : List Nat} {σ : L2.St} {H1 : Hp} {D : Addr} {Qd : Hp → Prop} (Pv : Nat → Hp → Prop) (h0 : Pv 0 (upd H1 D (.lst []))) (hl : ∀ i H, i ≤ xs.length → Pv i H → AtB H a xs b)
    (hs : ∀ i x H, xs[i]? = some x → Pv i H → g x (wipe σ vs) H fun σ2 H2 => wipe σ2 vs = wipe σ vs ∧ tt σ2 H2 fun b H3 =>
      if b = true then te σ2 H3 fun y H4 => ∃ acc, H4 D = some (.lst acc) ∧ acc.length < sizeLine ∧ Pv (i + 1) (upd H4 D (.lst (acc ++ [y]))) else Pv (i + 1) H3) (hd : ∀ H, Pv xs.length H → Qd H) :
    ∃ W : Nat → Nat → Hp → Prop, (∃ m, W 0 m (upd H1 D (.lst []))) ∧ ∀ i m H, W i m H →
      ((Itb K a b).stop i H ∧ Qd H) ∨ ((Itb K a b).go i H ∧ ∃ Nx : Hp → Prop, (∀ H', Nx H' → ∃ m', m' < m ∧ W (i + 1) m' H') ∧ ∀ x H', (Itb K a b).yld i H x H' → g x (wipe σ vs) H' fun σ2 H2 => wipe σ2 vs = wipe σ vs ∧ tt σ2 H2 fun b H3 =>
        if b = true then te σ2 H3 fun y H4 => ∃ acc, H4 D = some (.lst acc) ∧ acc.length < sizeLine ∧ Nx (upd H4 D (.lst (acc ++ [y]))) else Nx H3) := by
  cases b with
  | true => exact lc_list (K := K) (a := a) (xs := xs) Pv h0 (fun i H k p => SqL.of (hl i H k p)) hs hd
  | false => exact lc_tup (K := K) (a := a) (xs := xs) Pv h0 (fun i H k p => SqT.of (hl i H k p)) hs hd
theorem for_b {K : PySem.W.Frag} {a : Addr} {b : Bool} {xs : List V} {g : TG} {tb : TS} {D : Ends} {σ : L2.St} {H : Hp} (Pv : Nat → L2.St → Hp → Prop) (h0 : Pv 0 σ H) (hl : ∀ i σ H, i ≤ xs.length → Pv i σ H → AtB H a xs b)
    (hs : ∀ i x σ H, xs[i]? = some x → Pv i σ H → g x σ H fun σ2 H2 => tb { D with nx := Pv (i + 1), ct := Pv (i + 1), bk := D.nx } σ2 H2) (hd : ∀ σ H, Pv xs.length σ H → D.nx σ H) :
    ∃ W : Nat → Nat → L2.St → Hp → Prop, (∃ m, W 0 m σ H) ∧ ∀ i m σ H, W i m σ H →
      ((Itb K a b).stop i H ∧ D.nx σ H) ∨ ((Itb K a b).go i H ∧ ∃ N : L2.St → Hp → Prop, (∀ σ' H', N σ' H' → ∃ m', m' < m ∧ W (i + 1) m' σ' H') ∧ ∀ x H', (Itb K a b).yld i H x H' → g x σ H' fun σ2 H2 => tb { D with nx := N, ct := N, bk := D.nx } σ2 H2) := by
  cases b with
  | true => exact for_list (K := K) (a := a) (xs := xs) Pv h0 (fun i σ H k p => SqL.of (hl i σ H k p)) hs hd
  | false => exact for_tup (K := K) (a := a) (xs := xs) Pv h0 (fun i σ H k p => SqT.of (hl i σ H k p)) hs hd
theorem b_isLT {K : PySem.W.Frag} {H : Hp} {a t : Addr} {xs : List V} {b : Bool} {Q : VK} (h : AtB H a xs b) (ht : H t = some (.tup [.ty "list", .ty "tuple"])) (q : Q (.bl true) H) : rIsiT K [.ref a, .ref t] H Q := by
  cases b with
  | true =>
    refine ⟨.ref a, t, _, .type "list", [.type "list", .type "tuple"], _, rfl, ht, .cons (.ty _) (.cons (.ty _) .nil), .base (.lst h), ?_, q⟩
    unfold PySem.W.kitAny
    rw [kit_ty (show kitB "list" "list" = some true from by decide +kernel)]
  | false =>
    refine ⟨.ref a, t, _, .type "tuple", [.type "list", .type "tuple"], _, rfl, ht, .cons (.ty _) (.cons (.ty _) .nil), .base (.tup h), ?_, q⟩
    unfold PySem.W.kitAny
    rw [kit_ty (show kitB "tuple" "list" = some false from by decide +kernel)]
    show PySem.W.kitAny K _ [.type "tuple"] = _
    unfold PySem.W.kitAny
    rw [kit_ty (show kitB "tuple" "tuple" = some true from by decide +kernel)]
/-- the parcels of the first blocks, as far as each is sealed -/
def Keeps (rs : List (List Int)) (ds : List PyData) : Prop := ds.length ≤ rs.length ∧ (∀ (j : Nat) r d, rs[j]? = some r → ds[j]? = some d → OpD r (.tuple [d])) ∧ ∀ r, rs[ds.length]? = some r → OpD r (.tuple [])
theorem Keeps.det {rs : List (List Int)} {ds es : List PyData} (h : Keeps rs ds) (k : Keeps rs es) : ds = es := by
  obtain ⟨h1, h2, h3⟩ := h
  obtain ⟨k1, k2, k3⟩ := k
  have no : ∀ {r : List Int} {d : PyData}, OpD r (.tuple [d]) → OpD r (.tuple []) → False := fun x y => by
    have := opD_det x y
    injection this with e
    cases e
  have el : ds.length = es.length := by
    rcases Nat.lt_trichotomy ds.length es.length with g | g | g
    · have hr : rs[ds.length]? = some (rs[ds.length]'(by omega)) := List.getElem?_eq_getElem _
      exact (no (k2 _ _ _ hr (List.getElem?_eq_getElem g)) (h3 _ hr)).elim
    · exact g
    · have hr : rs[es.length]? = some (rs[es.length]'(by omega)) := List.getElem?_eq_getElem _
      exact (no (h2 _ _ _ hr (List.getElem?_eq_getElem g)) (k3 _ hr)).elim
  apply List.ext_getElem? fun j => ?_
  by_cases g : j < ds.length
  · have g2 : j < es.length := by omega
    have hr : rs[j]? = some (rs[j]'(by omega)) := List.getElem?_eq_getElem _
    have := opD_det (h2 _ _ _ hr (List.getElem?_eq_getElem g)) (k2 _ _ _ hr (List.getElem?_eq_getElem g2))
    injection this with e
    injection e with e
    rw [List.getElem?_eq_getElem g, List.getElem?_eq_getElem g2, e]
  · rw [List.getElem?_eq_none (by omega), List.getElem?_eq_none (by omega)]
/-- the first i blocks are all opened -/
def KeptTo (rs : List (List Int)) (i : Nat) (ds : List PyData) : Prop := ds.length = i ∧ ∀ (j : Nat) r d, rs[j]? = some r → ds[j]? = some d → OpD r (.tuple [d])
theorem KeptTo.snoc {rs : List (List Int)} {i : Nat} {ds : List PyData} {r : List Int} {d : PyData} (h : KeptTo rs i ds) (hr : rs[i]? = some r) (o : OpD r (.tuple [d])) : KeptTo rs (i + 1) (ds ++ [d]) := ⟨by rw [List.length_append, h.1]; rfl, fun j q e eq ee => by
  rw [List.getElem?_append] at ee
  split at ee
  · exact h.2 j q e eq ee
  · rename_i g
    have hj : j = i := by
      have := (List.getElem?_eq_some_iff.mp ee).1
      simp at this
      have := h.1
      omega
    subst hj
    rw [h.1, Nat.sub_self] at ee
    injection ee with ee
    subst ee
    rw [hr] at eq
    injection eq with eq
    subst eq
    exact o⟩
theorem KeptTo.stop {rs : List (List Int)} {i : Nat} {ds : List PyData} {r : List Int} (h : KeptTo rs i ds) (hr : rs[i]? = some r) (o : OpD r (.tuple [])) : Keeps rs ds := ⟨by rw [h.1]; have := (List.getElem?_eq_some_iff.mp hr).1; omega, h.2, fun q e => by
  rw [h.1, hr] at e
  injection e with e
  subst e
  exact o⟩
theorem KeptTo.all {rs : List (List Int)} {ds : List PyData} (h : KeptTo rs rs.length ds) : Keeps rs ds := ⟨Nat.le_of_eq h.1, h.2, fun q e => by
  rw [h.1, List.getElem?_eq_none (Nat.le_refl _)] at e
  cases e⟩
theorem opD_one {row : List Int} {D : PyData} (h : OpD row D) : (∃ d, D = .tuple [d]) ∨ D = .tuple [] := by
  rcases h with ⟨_, d, _, rfl⟩ | ⟨_, rfl⟩
  · exact .inl ⟨d, rfl⟩
  · exact .inr rfl
theorem KeptTo.plain {rs : List (List Int)} {i : Nat} {ds : List PyData} (h : KeptTo rs i ds) (hi : i ≤ rs.length) : plainAll ds = true := plainAll_of fun d hd => by
  obtain ⟨j, e⟩ := List.getElem?_of_mem hd
  have hj := (List.getElem?_eq_some_iff.mp e).1
  have := h.1
  have p := opD_plain (h.2 j _ d (List.getElem?_eq_getElem (show j < rs.length by omega)) e)
  have p2 : (plainD d && true) = true := p
  simpa using p2
theorem Keeps.plain {rs : List (List Int)} {ds : List PyData} (h : Keeps rs ds) : plainAll ds = true := KeptTo.plain (i := ds.length) ⟨rfl, h.2.1⟩ h.1
def spKept (CP : Addr → Prop) : Sp := fun vs H Q _ => ∃ a b as rs, vs = [.ref a] ∧ AtB H a ((as : List Addr).map V.ref) b ∧ RAll H as rs ∧ rs.length ≤ 1000 ∧ ∀ ds p xs H', Keeps rs ds → Same H H' → H p = none → H' p = some (.lst xs) → DtAll CP [] H' ds xs → Q (.ref p) H'
section
variable {P : Program} {w : World} {K : PySem.W.Frag} {mg : Str → Option Value} {base : Heap}
local macro_rules | `(tactic| walk_at "rd") => `(tactic| (repeat (first
  | ((with_reducible refine' rd_var ?h0 ?_); (case h0 => rfl))
  | with_reducible refine rd_c ?_
  | with_reducible refine rd_op ?_
  | with_reducible refine rd_nil ?_
  | with_reducible refine rd_cons ?_
  | with_reducible refine rd_tup ?_
  | with_reducible refine rd_lst ?_
  | with_reducible refine rd_ifs ?_
  | with_reducible refine rd_seq ?_
  | with_reducible refine rd_next ?_
  | with_reducible refine rd_ret ?_
  | with_reducible refine rd_asg ?_
  | ((with_reducible refine' rd_gset ?hs ?_); (case hs => ((simp only [L2.start, List.map_cons, List.map_nil, List.length_cons, List.length_nil, List.cons_append, List.nil_append, List.set_cons_zero, List.set_cons_succ, Nat.reduceAdd, Nat.reduceSub, Nat.zero_add, List.reduceReplicate]); rfl)))
  | with_reducible refine rd_drop ?_
  | with_reducible refine rd_test ?_
  | with_reducible refine rd_B ?_
  | with_reducible refine rd_bl ?_
  | with_reducible refine rd_blP ?_
  | with_reducible refine rd_andV ?_
  | with_reducible refine rd_orV ?_
  | with_reducible refine rd_notV ?_
  | with_reducible refine rd_and ?_
  | with_reducible refine rd_or ?_
  | with_reducible refine rd_not ?_
  | with_reducible refine rd_chain ?_
  | with_reducible refine rd_dput ?_
  | with_reducible refine rd_dget ?_
  | with_reducible refine rd_cb ?_
  | with_reducible refine rd_call ?_
  | with_reducible refine rd_un ?_
  | with_reducible refine rd_sl ?_
  | with_reducible refine rd_nopart ?_
  | with_reducible refine rd_part ?_
  | with_reducible refine rd_intP ?_
  | with_reducible refine rd_rU ?_
  | with_reducible refine rd_fld ?_
  | with_reducible refine rd_eqI ?_
  | with_reducible refine rd_neI ?_
  | with_reducible refine rd_mko ?_
  | with_reducible refine rd_bm ?_
  | with_reducible refine rd_gsub ?_
  | with_reducible refine rd_i0 ?_)))
theorem ok_drop (T : Tx K mg) (B : Bk K mg T) : FnOk P w K mg base (L2.CX P w) 4 B.Disk_drop.f B.Disk_drop.fd ["self", "number"] (spDrop T.c_Disk) := by
  have G_is_number_below := ok_is_number_below (P := P) (w := w) (base := base) T B
  have G_NoNumber_init := ok_number_init (P := P) (w := w) (base := base) T B
  refine B.Disk_drop.F.okX sc_Disk_drop (fun vs H Q E h => ?_) (fun cdv A outer s H vs Q E hr h => ?_)
  · obtain ⟨a, l, n, rs, k, rfl, _⟩ := h
    rfl
  · obtain ⟨a, l, n, rs, k, rfl, hd, hk, q⟩ := h
    have nal := hd.ne
    obtain ⟨⟨dx, ha⟩, as, has, hra⟩ := id hd
    have la := hra.1
    refine ⟨_, (pss_cons (ps_if (pt_not (pt_val (pe_call G_is_number_below (hr.mono (by omega)) rfl B.is_number_below.m B.is_number_below.F.kp B.is_number_below.b .nil pass0 (pa_cons (pe_op op_add (pe_callB call_len_seq (by rfl) T.b_len (by decide +kernel) (pa_cons (pe_fld (pv 0) rfl) pa_nil)) pe_int) (pa_cons (pv 1) pa_nil))))) (pss_one (ps_raise rfl (takes_of rfl rfl rfl rfl) (pmk_pass T.x_NoNumber B.NoNumber_init.a B.NoNumber_init.t G_NoNumber_init (hr.mono (by omega)) B.NoNumber_init.b pass0 rfl T.g_NoNumber))) pss_nil)
      (pss_cons (ps_fld (pv 0) (pe_slice sl_list (pe_fld (pv 0) rfl) po_none (po_some (pv 1))) rfl)
      (pss_one (ps_fld (pv 0) (pe_callB (call_min2 rfl) (by rfl) T.b_min (by decide +kernel) (pa_cons (pe_fld (pv 0) rfl) (pa_cons (pv 1) pa_nil))) rfl)))), ?_⟩
    walk_at "rd"
    refine ⟨a, T.c_Disk, dx, _, _, rfl, ha, T.W_Disk.cl, T.na_rows, dF_rows _ _, ?_⟩
    walk_at "rd"
    refine ⟨l, _, rfl, .inl (SqL.of has), ?_⟩
    walk_at "rd"
    refine ⟨[], _, .int k, .int k, rfl, dt_int, ?_⟩
    have e : isNb ((((as.map V.ref).length : Nat) : Int) + 1) (.int (k : Int)) = true := by
      show (decide (0 ≤ (k : Int)) && decide ((k : Int) < _)) = true
      rw [List.length_map]
      simp
      omega
    rw [e]
    walk_at "rd"
    refine rd_no rfl ?_
    walk_at "rd"
    refine rd_sfld ?_
    walk_at "rd"
    refine ⟨a, T.c_Disk, dx, _, _, rfl, ha, T.W_Disk.cl, T.na_rows, dF_rows _ _, ?_⟩
    walk_at "rd"
    refine ⟨l, _, rfl, SqL.of has, fun c nc => ?_⟩
    have e2 : cutV (as.map V.ref) none (some (k : Int)) = (as.take k).map V.ref := by
      unfold cutV
      rw [List.length_map, HT.sIx_none, HT.sIx_nat, Nat.min_eq_left (by omega), List.drop_zero, List.map_take, Nat.sub_zero]
    rw [e2]
    have s1 := same_new (o := .lst ((as.take k).map V.ref)) nc
    have nac : a ≠ c := ne_of_none ha nc
    walk_at "rd"
    refine ⟨a, T.c_Disk, dx, _, rfl, s1 _ _ ha, T.W_Disk.cl, T.na_rows, (by show 2 < 1000; decide), ?_⟩
    rw [dF_put]
    dsimp only
    have f2 := (FK.same (M := [a]) s1).trans (FK.ins (o := .ins T.c_Disk dx (dF c n)) (by simp) (s1 _ _ ha))
    walk_at "rd"
    refine rd_sfld ?_
    walk_at "rd"
    refine ⟨a, T.c_Disk, dx, _, _, rfl, upd_same, T.W_Disk.cl, T.na_firm, dF_firm _ _, ?_⟩
    walk_at "rd"
    refine ⟨_, _, rfl, ?_⟩
    have e3 : (if (k : Int) < (n : Int) then (k : Int) else (n : Int)) = ((min n k : Nat) : Int) := by
      split <;> omega
    rw [e3]
    walk_at "rd"
    refine ⟨a, T.c_Disk, dx, _, rfl, upd_same, T.W_Disk.cl, T.na_firm, (by show 2 < 1000; decide), ?_⟩
    rw [dF_set]
    dsimp only
    have f3 := f2.trans (FK.ins (o := .ins T.c_Disk dx (dF c (min n k))) (by simp) upd_same)
    walk_at "rd"
    refine q c _ f3 nc nac.symm ⟨⟨dx, upd_same⟩, as.take k, ?_, (hra.take k).kt f3.2⟩
    rw [upd_ne nac.symm, upd_ne nac.symm, upd_same]
theorem ok_dcopy (T : Tx K mg) (B : Bk K mg T) : FnOk P w K mg base CX0 3 B.Disk_copy.f B.Disk_copy.fd ["self"] (spDCopy T.c_Disk) := by
  have G_Disk_init := ok_disk_init (P := P) (w := w) (base := base) T B
  refine B.Disk_copy.F.ok sc_Disk_copy (fun vs H Q E h => ?_) (fun cdv A outer s H vs Q E hr h => ?_)
  · obtain ⟨a, l, n, rs, rfl, _⟩ := h
    rfl
  · obtain ⟨a, l, n, rs, rfl, hd, q⟩ := h
    refine ⟨_, (pss_cons (ps_set (i := 1) sc_Disk_copy.nd rfl (Or.inl rfl) (pe_make0 (mk_of_Disk T B.Disk_init) G_Disk_init (hr.mono (by decide)) rfl T.g_Disk B.Disk_init.b .nil pass0))
      (pss_cons (ps_fld (pv 1) (pe_callTy call_list_of (by rfl) T.b_list (by decide +kernel) (pa_cons (pe_fld (pv 0) rfl) pa_nil)) rfl)
      (pss_cons (ps_fld (pv 1) (pe_fld (pv 0) rfl) rfl)
      (pss_one (ps_ret (pv 1)))))), ?_⟩
    walk_at "rd"
    refine rd_make ?_
    walk_at "rd"
    intro x dx nx ndx ne
    refine ⟨x, dx, rfl, upd_same, fun l0 H1 f1 nl0 nlx ho => ⟨rfl, ?_⟩⟩
    have S1 : Same H H1 := fun b o e => f1.at (by simpa using ne_of_none e nx) (by rw [upd_ne (ne_of_none e nx), upd_ne (ne_of_none e ndx)]; exact e)
    obtain ⟨⟨dx1, hx1⟩, _⟩ := ho
    obtain ⟨⟨dd, ha⟩, as, has, hra⟩ := hd.s S1
    have nax : a ≠ x := by
      obtain ⟨⟨d0, h0⟩, _⟩ := id hd
      exact ne_of_none h0 nx
    walk_at "rd"
    refine rd_sfld ?_
    walk_at "rd"
    refine ⟨a, T.c_Disk, dd, _, _, rfl, ha, T.W_Disk.cl, T.na_rows, dF_rows _ _, ?_⟩
    walk_at "rd"
    refine ⟨l, _, rfl, .inl (SqL.of has), fun l2 nl2 => ?_⟩
    have nxl : x ≠ l2 := ne_of_none hx1 nl2
    have s2 := same_new (o := .lst (as.map V.ref)) nl2
    walk_at "rd"
    refine ⟨x, T.c_Disk, dx1, _, rfl, s2 _ _ hx1, T.W_Disk.cl, T.na_rows, (by show 2 < 1000; decide), ?_⟩
    rw [dF_put]
    dsimp only
    walk_at "rd"
    refine rd_sfld ?_
    walk_at "rd"
    refine ⟨a, T.c_Disk, dd, _, _, rfl, (upd_ne nax).trans (s2 _ _ ha), T.W_Disk.cl, T.na_firm, dF_firm _ _, ?_⟩
    walk_at "rd"
    refine ⟨x, T.c_Disk, dx1, _, rfl, upd_same, T.W_Disk.cl, T.na_firm, (by show 2 < 1000; decide), ?_⟩
    rw [dF_set]
    dsimp only
    walk_at "rd"
    have nl : H l2 = none := S1.free nl2
    have k3 : KT (upd H1 l2 (.lst (as.map V.ref))) (upd (upd (upd H1 l2 (.lst (as.map V.ref))) x (.ins T.c_Disk dx1 (dF l2 0))) x (.ins T.c_Disk dx1 (dF l2 n))) := (KT.mut (s2 _ _ hx1) fun _ z => by cases z).trans (KT.mut upd_same fun _ z => by cases z)
    refine q x l2 _ (fun b o e => ?_) nx nl ⟨⟨dx1, upd_same⟩, as, ?_, (hra.kt (KT.same s2)).kt k3⟩
    · have nb := ne_of_none e nx
      rw [upd_ne nb, upd_ne nb]
      exact s2 _ _ (S1 _ _ e)
    · rw [upd_ne nxl.symm, upd_ne nxl.symm, upd_same]
theorem ok_kept (T : Tx K mg) (B : Bk K mg T) : FnOk P w K mg base (L2.CX P w) 49 B.kept_parcels.f B.kept_parcels.fd ["blocks"] (spKept T.CP) := by
  have G_is_row := ok_is_row (P := P) (w := w) (base := base) T B
  have G_unsealed := ok_unsealed (P := P) (w := w) (base := base) T B
  have G_NoBlocks_init := ok_blocks_init (P := P) (w := w) (base := base) T B
  refine B.kept_parcels.F.okX sc_kept_parcels (fun vs H Q E h => ?_) (fun cdv A outer s H vs Q E hr h => ?_)
  · obtain ⟨a, b, as, rs, rfl, _⟩ := h
    rfl
  · obtain ⟨a, b, as, rs, rfl, ha, hra, hl, q⟩ := h
    have la := hra.1
    refine ⟨_, (pss_cons (ps_if (PW.pt (pw_or (pt_not (pt_val (pe_callB call_isiT (by rfl) T.b_isinstance (by decide +kernel) (pa_cons (pv 0) (pa_cons (pe_tup (pa_cons (pe_bltn (v := .ty "list") (by rfl) T.b_list (by decide +kernel) rfl) (pa_cons (pe_bltn (v := .ty "tuple") (by rfl) T.b_tuple (by decide +kernel) rfl) pa_nil))) pa_nil))))) (pw_or1 (pt_not (pt_val (pe_callB (cr_all rfl) (by rfl) T.b_all (by decide +kernel) (pa_cons (pe_lc (own := [("block", 1)]) (g := gName 1) rfl sc_kept_parcels.nd (pi_seq (pv 0)) (blkOk_by (own := [("block", 1)]) (N := ["blocks", "block", "parcels", "told"]) (sc := defScope s_kept_parcels) (by decide +kernel)) (fun _ _ _ _ _ => pg_name (i := 1) sc_kept_parcels.nd rfl (Or.inl rfl)) (fun _ _ _ _ _ => pts_nil) (fun _ _ _ _ _ => (pe_call G_is_row (hr.mono (by omega)) rfl B.is_row.m B.is_row.F.kp B.is_row.b .nil pass0 (pa_cons (pv 1) pa_nil)))) pa_nil))))))) (pss_one (ps_raise rfl (takes_of rfl rfl rfl rfl) (pmk_pass T.x_NoBlocks B.NoBlocks_init.a B.NoBlocks_init.t G_NoBlocks_init (hr.mono (by omega)) B.NoBlocks_init.b pass0 rfl T.g_NoBlocks))) pss_nil)
      (pss_cons (ps_set (i := 2) sc_kept_parcels.nd rfl (Or.inl rfl) (pe_lst pa_nil))
      (pss_cons (ps_for (passes_of rfl) rfl (pi_seq (pv 0)) (pg_name (i := 1) sc_kept_parcels.nd rfl (Or.inl rfl)) (pss_cons (ps_set (i := 3) sc_kept_parcels.nd rfl (Or.inl rfl) (pe_call G_unsealed (hr.mono (by omega)) rfl B.unsealed.m B.unsealed.F.kp B.unsealed.b .nil pass0 (pa_cons (pv 1) pa_nil)))
      (pss_cons (ps_if (pt_cmpR op_eq (pe_callB call_len_seq (by rfl) T.b_len (by decide +kernel) (pa_cons (pv 3) pa_nil)) pe_int (nomark _)) (pss_one ps_break) pss_nil)
      (pss_one (ps_expr (pe_bm PySem.F.plainAttrs_list PySem.F.slot_list_extend PySem.F.type_list_extend mt_extT (pv 2) (pa_cons (pv 3) pa_nil)))))))
      (pss_one (ps_ret (pv 2)))))), ?_⟩
    walk_at "rd"
    refine rd_disp rfl fun tp ntp => ?_
    have s1 := same_new (o := .tup [.ty "list", .ty "tuple"]) ntp
    walk_at "rd"
    refine b_isLT (ha.s s1) upd_same ?_
    walk_at "rd"
    refine rd_no rfl ?_
    walk_at "rd"
    refine rd_iseqV rfl (ha.s s1) (fun D hD => lc_b (K := K) (a := a) (b := b) (xs := as.map V.ref) (fun i H1 => Same (upd H tp (.tup [.ty "list", .ty "tuple"])) H1 ∧ H1 D = some (.lst ((List.replicate i true).map V.bl))) ⟨same_new hD, upd_same⟩ (fun i H1 _ hh => (ha.s s1).s hh.1) ?_ ?_)
    · rintro i y H1 hi ⟨hs, hacc⟩
      obtain ⟨c, r, rfl, ea, er, hrr⟩ := hra.get hi
      refine ⟨rfl, ?_⟩
      refine rd_tyes ?_
      refine rd_yes rfl ?_
      walk_at "rd"
      have hr2 := hrr.kt (KT.same (s1.trans hs))
      refine ⟨[], _, _, rfl, row_dt hr2.1, lenD_row hr2.le, fun H2 s2 => ?_⟩
      rw [row_isD hr2.2]
      refine ⟨_, s2 _ _ hacc, small' (by rw [List.length_map, List.length_replicate]; have := (List.getElem?_eq_some_iff.mp ea).1; omega), fun z o ez => (upd_ne (ne_of_none ez hD)).trans (s2 _ _ (hs z o ez)), ?_⟩
      rw [upd_same, List.replicate_succ', List.map_append]
      rfl
    · rintro H1 ⟨hs, hacc⟩
      refine ⟨D, _, rfl, SqL.of hacc, ?_⟩
      rw [all_rep]
      have s12 := s1.trans hs
      walk_at "rd"
      refine rd_no rfl ?_
      walk_at "rd"
      refine rd_disp rfl fun p np => ?_
      have s3 := s12.trans (same_new (o := .lst []) np)
      walk_at "rd"
      refine rd_iseqV rfl (ha.s s3) (for_b (K := K) (a := a) (b := b) (xs := as.map V.ref) (fun i σ H2 => Same H1 H2 ∧ (∃ ds xs, H2 p = some (.lst xs) ∧ KeptTo rs i ds ∧ DtAll T.CP [] H2 ds xs) ∧ ∃ u2 u3 : Option V, σ = [some (.ref a), u2, some (.ref p), u3])
        ⟨same_new np, ⟨[], [], upd_same, ⟨rfl, fun j r d _ z => by simp at z⟩, dtAll_nil⟩, _, _, rfl⟩ (fun i σ H2 _ hh => (ha.s s12).s hh.1) ?_ ?_)
      · rintro i y σ H2 hi ⟨hs2, ⟨ds, xs, hp, hk, hx⟩, u2, u3, rfl⟩
        obtain ⟨c, r, rfl, ea, er, hrr⟩ := hra.get hi
        have hr2 := hrr.kt (KT.same (s12.trans hs2))
        walk_at "rd"
        refine ⟨[], _, _, rfl, row_dt hr2.1, lenD_row hr2.le, fun z => ?_, fun row e hb D2 v H3 hO s4 hv => ?_⟩
        · rw [row_isD hr2.2] at z
          cases z
        · have := tup_inj e
          subst this
          have hlx := hx.len
          have hi2 : i < as.length := (List.getElem?_eq_some_iff.mp ea).1
          have hp3 := s4 _ _ hp
          rcases opD_one hO with ⟨d, rfl⟩ | rfl
          · obtain ⟨t, zs, rfl, ht, hz⟩ := dt_tup' hv
            have hlz := hz.len
            walk_at "rd"
            refine ⟨t, _, rfl, .inr (SqT.of ht), ?_⟩
            walk_at "rd"
            refine rd_no (by rw [← hlz]; rfl) ?_
            walk_at "rd"
            refine ⟨.inl ⟨rfl, _, SqL.of hp3⟩, ?_⟩
            walk_at "rd"
            refine ⟨p, t, xs, zs, rfl, rfl, hp3, ht, small (by rw [← hlz, ← hlx, hk.1]; simp; omega), ?_⟩
            walk_at "rd"
            have f5 : FK [p] H3 (upd H3 p (.lst (xs ++ zs))) := FK.mutL (by simp) hp3
            refine ⟨fun z o ez => ?_, ⟨ds ++ [d], xs ++ zs, upd_same, hk.snoc er hO, ?_⟩, _, _, rfl⟩
            · have nz : z ≠ p := ne_of_none ez np
              exact (upd_ne nz).trans (s4 _ _ (hs2 z o ez))
            · have hk2 := hk.snoc er hO
              exact DtAll.plain f5.2 _ _ (hk2.plain (by omega)) ((hx.s s4).append hz)
          · obtain ⟨t, zs, rfl, ht, hz⟩ := dt_tup' hv
            have hlz := hz.len
            walk_at "rd"
            refine ⟨t, _, rfl, .inr (SqT.of ht), ?_⟩
            walk_at "rd"
            refine rd_yes (by rw [← hlz]; rfl) ?_
            walk_at "rd"
            refine rd_break ?_
            walk_at "rd"
            exact q ds p xs H3 (hk.stop er hO) ((s12.trans hs2).trans s4) (s12.free np) hp3 (hx.s s4)
      · rintro σ H2 ⟨hs2, ⟨ds, xs, hp, hk, hx⟩, u2, u3, rfl⟩
        walk_at "rd"
        rw [List.length_map, la] at hk
        exact q ds p xs H2 hk.all (s12.trans hs2) (s12.free np) hp hx
end
end Mw

/-! V4m -/
namespace Mw
open PySem L2
theorem opD_shaped {row : List Int} (hb : ∀ b ∈ row, 0 ≤ b ∧ b < 256) {D : PyData} (h : OpD row D) : SeqAt.shaped D = true := by
  have hd := (opD_size hb h).2.1
  unfold SeqAt.shaped
  rw [Bool.and_eq_true]
  refine ⟨?_, decide_eq_true (by omega)⟩
  rcases h with ⟨_, d, hR, rfl⟩ | ⟨_, rfl⟩
  · have hbb : ∀ b ∈ body row, 0 ≤ b ∧ b < 256 := fun b hb' => hb b (List.mem_of_mem_take hb')
    obtain ⟨h1, _⟩ := rd_inv_all hbb hR
    show (d.canLay0 && true) = true
    rw [isPc_lay d h1]
    rfl
  · rfl
def rowD (r : List Int) : PyData := .tuple (r.map PyData.int)
theorem rows_lay : ∀ rs : List (List Int), PyData.canLayAll0 (rs.map rowD) = true
  | [] => rfl
  | r :: rs => by
    show (PyData.canLayAll0 (r.map PyData.int) && PyData.canLayAll0 (rs.map rowD)) = true
    rw [ints_lay, rows_lay rs]
    rfl
theorem rows_depth : ∀ rs : List (List Int), PyData.depthAll (rs.map rowD) ≤ 1
  | [] => by decide
  | r :: rs => by
    show max (PyData.depthAll (r.map PyData.int) + 1) (PyData.depthAll (rs.map rowD)) ≤ 1
    rw [ints_depth]
    have := rows_depth rs
    omega
theorem rows_shaped (rs : List (List Int)) : SeqAt.shaped (.list (rs.map rowD)) = true := by
  unfold SeqAt.shaped
  show (PyData.canLayAll0 (rs.map rowD) && decide (PyData.depthAll (rs.map rowD) + 1 ≤ 64)) = true
  rw [rows_lay, Bool.true_and, decide_eq_true]
  have := rows_depth rs
  omega
theorem rows_eqvAll : ∀ rs : List (List Int), PyData.eqvAll (rs.map rowD) (rs.map rowD) = true
  | [] => rfl
  | r :: rs => by
    show (PyData.eqvAll (r.map PyData.int) (r.map PyData.int) && PyData.eqvAll (rs.map rowD) (rs.map rowD)) = true
    rw [eqv_ints, rows_eqvAll rs, decide_eq_true rfl]
    rfl
theorem rows_eqv (rs : List (List Int)) : PyData.eqv (.list (rs.map rowD)) (.list (rs.map rowD)) = true := rows_eqvAll rs
theorem LsAt.dt {CP : Addr → Prop} {H : Hp} {l : Addr} {rs : List (List Int)} (h : LsAt H l rs) : Dt CP [] H (.list (rs.map rowD)) (.ref l) := by
  obtain ⟨as, h1, h2⟩ := h
  refine dt_lst (by simp) h1 ((dtAll_iff _ _).mpr ⟨by rw [List.length_map, List.length_map, h2.1], fun i d x e f => ?_⟩)
  obtain ⟨a, r, rfl, ea, er, hr⟩ := h2.get f
  rw [List.getElem?_map, er] at e
  injection e with e
  subst e
  exact row_dt hr.1
/-- the list of a disk's blocks and the own one are equal -/
theorem rd_neL {K : PySem.W.Frag} {H : Hp} {Q : VK} {l m : Addr} {rs : List (List Int)} (h1 : LsAt H l rs) (h2 : LsAt H m rs) (q : Q (.bl false) H) : rNeD K (.ref l) (.ref m) H Q := by
  refine rd_eqD (CP := fun _ => False) h1.dt h2.dt (rows_shaped rs) (rows_shaped rs) ?_
  rw [rows_eqv]
  exact q
theorem szdAll_le {B : Nat} : ∀ {ds : List PyData}, (∀ d ∈ ds, szd d ≤ B) → szdAll ds ≤ ds.length * B
  | [], _ => by simp [szdAll]
  | d :: ds, h => by
    show szd d + szdAll ds ≤ (ds.length + 1) * B
    have h1 := h d (by simp)
    have h2 := szdAll_le (ds := ds) (B := B) fun c hc => h c (by simp [hc])
    rw [Nat.succ_mul]
    omega
/-- what is kept is not too great -/
theorem Keeps.size {rs : List (List Int)} {ds : List PyData} (h : Keeps rs ds) (hb : ∀ r ∈ rs, (∀ b ∈ r, 0 ≤ b ∧ b < 256) ∧ r.length ≤ 6000) (hl : rs.length ≤ 100) : plainD (.tuple ds) = true ∧ (PyData.tuple ds).depth < 24 ∧ szd (.tuple ds) ≤ 900000 := by
  have one : ∀ d ∈ ds, szd d ≤ 6001 ∧ d.depth ≤ 22 := fun d hd => by
    obtain ⟨j, e⟩ := List.getElem?_of_mem hd
    have hj := (List.getElem?_eq_some_iff.mp e).1
    have h1 := h.1
    have er : rs[j]? = some (rs[j]'(by omega)) := List.getElem?_eq_getElem _
    obtain ⟨b1, b2⟩ := hb _ (List.mem_of_getElem? er)
    obtain ⟨s1, s2, s3⟩ := opD_size b1 (h.2.1 j _ d er e)
    have s3' : szd d + 0 + 1 ≤ _ + 2 := s3
    have s2' : max d.depth 0 + 1 < 22 := s2
    omega
  have h1 := h.1
  refine ⟨h.plain, ?_, ?_⟩
  · show PyData.depthAll ds + 1 < 24
    have := depthAll_le (n := 22) (ds := ds) fun d hd => (one d hd).2
    omega
  · show szdAll ds + 1 ≤ 900000
    have := szdAll_le (B := 6001) (ds := ds) fun d hd => (one d hd).1
    have h3 : ds.length * 6001 ≤ 100 * 6001 := Nat.mul_le_mul_right _ (by omega)
    omega
end Mw

/-! V4 -/
namespace Mw
open PySem L2
theorem rd_isD {K : PySem.W.Frag} {CP : Addr → Prop} {M1 M2 : List Addr} {H : Hp} {Q : VK} {v u : V} {d e : PyData} (h1 : Dt CP M1 H d v) (h2 : Dt CP M2 H e u) (l1 : SeqAt.shaped d = true) (l2 : SeqAt.shaped e = true) (q : Q (.bl (PyData.eqv d e)) H) : rEqD K v u H Q :=
  ⟨d, e, dt_dp _ _ (SeqAt.canLay_of_shaped l1) h1, dt_dp _ _ (SeqAt.canLay_of_shaped l2) h2, l1, l2, q⟩
def spLKept (CP : Addr → Prop) : Sp := fun vs H Q _ => ∃ b rs, vs = [.ref b] ∧ LsAt H b rs ∧ rs.length ≤ 1000 ∧ ∀ ds p xs H', Keeps rs ds → Same H H' → H p = none → H' p = some (.lst xs) → DtAll CP [] H' ds xs → Q (.ref p) H'
def spBlock : Sp := fun vs H Q _ => ∃ p l, vs = [.ref p] ∧ PoolAt H p l ∧ ∀ c r H', RowAt H' c r → r.length ≤ 6000 → PoolAt H' p l → FK [p, l] H H' → Q (.ref c) H'
section
variable {P : Program} {w : World} {K : PySem.W.Frag} {mg : Str → Option Value} {base : Heap}
local macro_rules | `(tactic| walk_at "rd") => `(tactic| (repeat (first
  | ((with_reducible refine' rd_var ?h0 ?_); (case h0 => rfl))
  | with_reducible refine rd_c ?_
  | with_reducible refine rd_op ?_
  | with_reducible refine rd_nil ?_
  | with_reducible refine rd_cons ?_
  | with_reducible refine rd_tup ?_
  | with_reducible refine rd_lst ?_
  | with_reducible refine rd_ifs ?_
  | with_reducible refine rd_seq ?_
  | with_reducible refine rd_next ?_
  | with_reducible refine rd_ret ?_
  | with_reducible refine rd_asg ?_
  | ((with_reducible refine' rd_gset ?hs ?_); (case hs => ((simp only [L2.start, List.map_cons, List.map_nil, List.length_cons, List.length_nil, List.cons_append, List.nil_append, List.set_cons_zero, List.set_cons_succ, Nat.reduceAdd, Nat.reduceSub, Nat.zero_add, List.reduceReplicate]); rfl)))
  | with_reducible refine rd_drop ?_
  | with_reducible refine rd_test ?_
  | with_reducible refine rd_B ?_
  | with_reducible refine rd_bl ?_
  | with_reducible refine rd_blP ?_
  | with_reducible refine rd_andV ?_
  | with_reducible refine rd_orV ?_
  | with_reducible refine rd_notV ?_
  | with_reducible refine rd_and ?_
  | with_reducible refine rd_or ?_
  | with_reducible refine rd_not ?_
  | with_reducible refine rd_chain ?_
  | with_reducible refine rd_dput ?_
  | with_reducible refine rd_dget ?_
  | with_reducible refine rd_cb ?_
  | with_reducible refine rd_call ?_
  | with_reducible refine rd_un ?_
  | with_reducible refine rd_sl ?_
  | with_reducible refine rd_nopart ?_
  | with_reducible refine rd_part ?_
  | with_reducible refine rd_intP ?_
  | with_reducible refine rd_rU ?_
  | with_reducible refine rd_fld ?_
  | with_reducible refine rd_eqI ?_
  | with_reducible refine rd_neI ?_
  | with_reducible refine rd_mko ?_
  | with_reducible refine rd_bm ?_
  | with_reducible refine rd_gsub ?_
  | with_reducible refine rd_i0 ?_)))
theorem ok_law_kept (T : Tx K mg) (B : Bk K mg T) : FnOk P w K mg base CX0 27 B.law_kept.f B.law_kept.fd ["_law_blocks"] (spLKept T.CP) := by
  have G_law_opened := ok_law_opened (P := P) (w := w) (base := base) T B
  refine B.law_kept.F.ok sc_law_kept (fun vs H Q E h => ?_) (fun cdv A outer s H vs Q E hr h => ?_)
  · obtain ⟨b, rs, rfl, _⟩ := h
    rfl
  · obtain ⟨b, rs, rfl, ⟨as, hb, hra⟩, hl, q⟩ := h
    have la := hra.1
    refine ⟨_, (pss_cons (ps_set (i := 1) sc_law_kept.nd rfl (Or.inl rfl) (pe_lst pa_nil))
      (pss_cons (ps_for PassesOwn.never rfl (pi_list (pv 0)) (pg_name (i := 2) sc_law_kept.nd rfl (Or.inl rfl)) (pss_cons (ps_set (i := 3) sc_law_kept.nd rfl (Or.inl rfl) (pe_call G_law_opened (hr.mono (by omega)) rfl B.law_opened.m B.law_opened.F.kp B.law_opened.b .nil pass0 (pa_cons (pv 2) pa_nil)))
      (pss_cons (ps_if (pt_cmpR (op_eqD hr.units) (pv 3) (pe_tup pa_nil) (nomark _)) (pss_one (ps_ret (pv 1))) pss_nil)
      (pss_one (ps_expr (pe_bm PySem.F.plainAttrs_list PySem.F.slot_list_append PySem.F.type_list_append mt_append (pv 1) (pa_cons (pe_ix ix_tup (pv 3) pe_int (fun _ _ => rfl)) pa_nil)))))))
      (pss_one (ps_ret (pv 1))))), ?_⟩
    walk_at "rd"
    refine rd_disp rfl fun p np => ?_
    have s3 := same_new (o := .lst []) np
    walk_at "rd"
    refine ⟨_, rfl, b, rfl, ⟨_, SqL.of (s3 _ _ hb)⟩, for_list (K := K) (a := b) (xs := as.map V.ref) (fun i σ H2 => Same H H2 ∧ (∃ ds xs, H2 p = some (.lst xs) ∧ KeptTo rs i ds ∧ DtAll T.CP [] H2 ds xs) ∧ ∃ u2 u3 : Option V, σ = [some (.ref b), some (.ref p), u2, u3])
        ⟨s3, ⟨[], [], upd_same, ⟨rfl, fun j r d _ z => by simp at z⟩, dtAll_nil⟩, _, _, rfl⟩ (fun i σ H2 _ hh => SqL.of (hh.1 _ _ hb)) ?_ ?_⟩
    · rintro i y σ H2 hi ⟨hs2, ⟨ds, xs, hp, hk, hx⟩, u2, u3, rfl⟩
      obtain ⟨c, r, rfl, ea, er, hrr⟩ := hra.get hi
      have hr2 := hrr.kt (KT.same hs2)
      walk_at "rd"
      refine ⟨c, r, rfl, hr2, fun D2 v H3 hO s4 hv => ?_⟩
      have hlx := hx.len
      have hi2 : i < as.length := (List.getElem?_eq_some_iff.mp ea).1
      have hp3 := s4 _ _ hp
      have hsh := opD_shaped hr2.2 hO
      walk_at "rd"
      refine rd_disp rfl fun e ne => ?_
      have s5 := same_new (o := .tup []) ne
      refine rd_isD (CP := T.CP) (M1 := []) (M2 := []) (hv.s s5) (dt_tup (ds := []) upd_same dtAll_nil) hsh (by decide) ?_
      have hp4 := s5 _ _ hp3
      have hv4 := hv.s s5
      have s25 := (hs2.trans s4).trans s5
      have hx4 := hx.s (s4.trans s5)
      rcases opD_one hO with ⟨d, rfl⟩ | rfl
      · obtain ⟨t, zs, rfl, ht, hz⟩ := dt_tup' hv4
        have hlz := hz.len
        walk_at "rd"
        refine rd_no rfl ?_
        walk_at "rd"
        refine ⟨.inl ⟨rfl, _, SqL.of hp4⟩, ?_⟩
        walk_at "rd"
        obtain ⟨x0, hx0, hd0⟩ := hz.get (i := 0) rfl
        refine rd_ixT ht (at_of (j := 0) rfl hx0) ?_
        walk_at "rd"
        refine rd_append hp4 (small' (by rw [← hlx, hk.1]; omega)) ?_
        have f5 := FK.mutL (M := [p]) (o := .lst (xs ++ [x0])) (by simp) hp4
        refine ⟨fun z o ez => ?_, ⟨ds ++ [d], xs ++ [x0], upd_same, hk.snoc er hO, ?_⟩, _, _, rfl⟩
        · have nz : z ≠ p := ne_of_none ez np
          exact (upd_ne nz).trans (s25 _ _ ez)
        · have hk2 := hk.snoc er hO
          exact DtAll.plain f5.2 _ _ (hk2.plain (by omega)) (hx4.append (dtAll_cons hd0 dtAll_nil))
      · walk_at "rd"
        refine rd_yes rfl ?_
        walk_at "rd"
        exact q ds p xs _ (hk.stop er hO) s25 np hp4 hx4
    · rintro σ H2 ⟨hs2, ⟨ds, xs, hp, hk, hx⟩, u2, u3, rfl⟩
      walk_at "rd"
      rw [List.length_map, la] at hk
      exact q ds p xs H2 hk.all hs2 np hp hx
theorem ok_law_block (T : Tx K mg) (B : Bk K mg T) : FnOk P w K mg base CX0 7 B.law_block.f B.law_block.fd ["_law_pool_here"] spBlock := by
  have G_law_draw := ok_law_draw (P := P) (w := w) (base := base) T B
  have G_law_parcel := ok_parcel_n (P := P) (w := w) (base := base) T B 3
  have G_law_bytes := ok_law_bytes_n (P := P) (w := w) (base := base) T B 4
  have G_law_sealed := ok_law_sealed (P := P) (w := w) (base := base) T B
  refine B.law_block.F.ok sc_law_block (fun vs H Q E h => ?_) (fun cdv A outer s H vs Q E hr h => ?_)
  · obtain ⟨p, l, rfl, _⟩ := h
    rfl
  · obtain ⟨p, l, rfl, hh, q⟩ := h
    have bB2 : bB 2 = 4902 := rfl
    refine ⟨_, (pss_cons (ps_set (i := 1) sc_law_block.nd rfl (Or.inl rfl) (pe_call G_law_draw (hr.mono (by omega)) rfl B.law_draw.m B.law_draw.F.kp B.law_draw.b .nil pass0 (pa_cons (pv 0) (pa_cons pe_int pa_nil))))
      (pss_cons (ps_set (i := 2) sc_law_block.nd rfl (Or.inl rfl) (pe_call G_law_sealed (hr.mono (by omega)) rfl B.law_sealed.m B.law_sealed.F.kp B.law_sealed.b .nil pass0 (pa_cons (pe_callTy call_tuple_of (by rfl) T.b_tuple (by decide +kernel) (pa_cons (pe_call G_law_bytes (hr.mono (by omega)) rfl B.law_bytes.m B.law_bytes.F.kp B.law_bytes.b .nil pass0 (pa_cons (pe_call G_law_parcel (hr.mono (by omega)) rfl B.law_parcel.m B.law_parcel.F.kp B.law_parcel.b .nil pass0 (pa_cons (pv 0) (pa_cons pe_int pa_nil))) pa_nil)) pa_nil)) pa_nil)))
      (pss_cons (ps_if (pt_cmpR op_eq (pv 1) pe_int (nomark _)) (pss_one (ps_ret (pe_slice sl_tupA (pv 2) po_none (po_some (pe_call G_law_draw (hr.mono (by omega)) rfl B.law_draw.m B.law_draw.F.kp B.law_draw.b .nil pass0 (pa_cons (pv 0) (pa_cons (pe_op op_add (pe_callB call_len_seq (by rfl) T.b_len (by decide +kernel) (pa_cons (pv 2) pa_nil)) pe_int) pa_nil))))))) pss_nil)
      (pss_one (ps_ret (pe_ifExp (pt_cmpR op_eq (pv 1) pe_int (nomark _)) (pe_callTy call_tuple_of (by rfl) T.b_tuple (by decide +kernel) (pa_cons (pe_lc (own := [("_law_at", 3)]) (g := gName 3) rfl sc_law_block.nd (pi_range1 (by rfl) T.b_range (pa_cons (pe_call G_law_draw (hr.mono (by omega)) rfl B.law_draw.m B.law_draw.F.kp B.law_draw.b .nil pass0 (pa_cons (pv 0) (pa_cons pe_int pa_nil))) pa_nil)) (blkOk_by (own := [("_law_at", 3)]) (N := ["_law_pool_here", "_law_kind", "_law_row", "_law_at"]) (sc := defScope s_law_block) (by decide +kernel)) (fun _ _ _ _ _ => pg_name (i := 3) sc_law_block.nd rfl (Or.inl rfl)) (fun _ _ _ _ _ => pts_nil) (fun _ _ _ _ _ => (pe_call G_law_draw (hr.mono (by omega)) rfl B.law_draw.m B.law_draw.F.kp B.law_draw.b .nil pass0 (pa_cons (pv 0) (pa_cons pe_int pa_nil))))) pa_nil)) (pv 2))))))), ?_⟩
    walk_at "rd"
    refine ⟨p, l, _, rfl, by decide, by decide, hh, fun kd H1 kd0 kd1 hh1 k1 => ?_⟩
    walk_at "rd"
    refine ⟨p, l, 2, by omega, rfl, hh1, fun d v H2 hpc hby hdv hh2 k2 => ?_⟩
    have hdp := isPc_depth d hpc
    rw [bB2] at hby
    walk_at "rd"
    refine ⟨[p, l], d, v, rfl, hdv, isPc_plain d hpc, by omega, by omega, fun b H3 s3 nb hb => ?_⟩
    walk_at "rd"
    refine ⟨b, _, rfl, .inl ⟨SqL.of hb, fun r nr => ?_⟩⟩
    have s4 := s3.trans (same_new (o := .tup ((byD d).map V.int)) nr)
    walk_at "rd"
    refine ⟨r, byD d, rfl, upd_same, by omega, fun t H4 s5 ht => ?_⟩
    obtain ⟨hrow, _⟩ := RowAt.sealed ht (byD_by d hpc) (by omega)
    have hlen : (byD d ++ sealL (byD d)).length ≤ 4906 := by rw [List.length_append, sealL_len]; omega
    generalize byD d ++ sealL (byD d) = row at hrow hlen
    have s45 := s4.trans s5
    have hh4 := hh2.same s45
    have k4 := (k1.trans k2).trans (FK.same s45)
    clear s3 s4 s5 s45 ht hb nb nr hh2 hh1 k1 k2 hdv
    walk_at "rd"
    refine rd_ite (fun h1 => ?_) (fun h1 => ?_)
    · walk_at "rd"
      refine ⟨t, _, rfl, .inr (SqT.of hrow.1), ?_⟩
      rw [List.length_map]
      walk_at "rd"
      refine ⟨p, l, _, rfl, by omega, by omega, hh4, fun j H5 j0 j1 hh5 k5 => ?_⟩
      walk_at "rd"
      refine rd_cutR (hrow.kt k5.2) fun c sub H6 s6 hc lc => ?_
      exact q c sub H6 hc (by omega) (hh5.same s6) ((k4.trans k5).trans (FK.same s6))
    · walk_at "rd"
      refine rd_ifx ?_
      walk_at "rd"
      refine rd_ite (fun h2 => ?_) (fun h2 => ?_)
      · walk_at "rd"
        show iRng1 _ _ _ _
        refine rd_rng1 ?_
        walk_at "rd"
        refine ⟨p, l, _, rfl, by decide, by decide, hh4, fun m H5 m0 m1 hh5 k5 => ?_⟩
        walk_at "rd"
        refine ⟨m, rfl, by omega, by omega, fun D hD => lc_range (lo := 0) (n := m.toNat) (fun i H3 => ∃ bs : List Int, bs.length = i ∧ H3 D = some (.lst (bs.map V.int)) ∧ (∀ b ∈ bs, 0 ≤ b ∧ b < 256) ∧ PoolAt H3 p l ∧ FK [p, l] H5 H3)
          ⟨[], rfl, upd_same, fun c hc => absurd hc (by simp), hh5.new hD, FK.new hD⟩ ?_ ?_⟩
        · rintro i H3 hi ⟨bs, hl, hacc, hs, hh3, k3⟩
          have hout := hh5.out hD
          refine ⟨rfl, ?_⟩
          refine rd_tyes ?_
          refine rd_yes rfl ?_
          walk_at "rd"
          refine ⟨p, l, _, rfl, by decide, by decide, hh3, fun j H6 j0 j1 hh6 k6 => ?_⟩
          refine ⟨_, k6.at hout hacc, small' (by rw [List.length_map]; omega), bs ++ [j], by simp [hl], ?_, fun c hc => ?_, hh6.upd hout, (k3.trans k6).own hD (k6.at hout hacc)⟩
          · rw [upd_same, List.map_append]
            rfl
          · rcases List.mem_append.mp hc with h | h
            · exact hs c h
            · rw [show c = j by simpa using h]
              exact ⟨j0, j1⟩
        · rintro H3 ⟨bs, hl, hacc, hs, hh3, k3⟩
          walk_at "rd"
          refine ⟨D, _, rfl, .inl ⟨SqL.of hacc, fun c nc => ?_⟩⟩
          exact q c bs _ ⟨upd_same, hs, by omega⟩ (by omega) (hh3.new nc) (((k4.trans k5).trans k3).trans (FK.new nc))
      · walk_at "rd"
        exact q t row H4 hrow (by omega) hh4 k4
end
end Mw

/-! V5 -/
namespace Mw
open PySem L2
theorem FK.step {M N : List Addr} {H0 H1 H2 : Hp} (x : FK M H0 H1) (y : FK N H1 H2) (h : ∀ c ∈ N, c ∈ M ∨ H0 c = none) : FK M H0 H2 := by
  refine ⟨fun b o nb e => ?_, fun a xs e => y.2 a xs (x.2 a xs e)⟩
  have e1 := x.1 b o nb e
  refine y.1 b o (fun hb => ?_) e1
  rcases h b hb with z | z
  · exact nb z
  · rw [z] at e
    cases e
theorem PoolAt.fk {M : List Addr} {H H' : Hp} {p l : Addr} (h : PoolAt H p l) (k : FK M H H') (n1 : p ∉ M) (n2 : l ∉ M) : PoolAt H' p l := by
  obtain ⟨a, b, c, h1, h2, r⟩ := h
  exact ⟨a, b, c, k.at n1 h1, k.at n2 h2, r⟩
/-- a disk that is led, and the own list of its blocks -/
structure Led (C : Addr) (H : Hp) (p l a dl b : Addr) (n : Nat) (rs : List (List Int)) : Prop where
  pool : PoolAt H p l
  disk : DiskAt C H a dl n rs
  blks : LsAt H b rs
  db : dl ≠ b
  dp : dl ≠ p
  dl_ : dl ≠ l
  bp : b ≠ p
  bl : b ≠ l
  hn : n ≤ rs.length
  rb : ∀ r ∈ rs, r.length ≤ 6000
theorem Led.ap {C : Addr} {H : Hp} {p l a dl b : Addr} {n : Nat} {rs : List (List Int)} (h : Led C H p l a dl b n rs) : a ≠ p ∧ a ≠ l ∧ a ≠ b ∧ a ≠ dl := by
  obtain ⟨⟨dx, ha⟩, hd⟩ := h.disk
  obtain ⟨us, hp⟩ := h.pool.p
  obtain ⟨ws, hl⟩ := h.pool.l
  obtain ⟨zs, hb⟩ := h.blks.l
  obtain ⟨ys, hdl⟩ := hd.l
  exact ⟨ne_of ha hp (by intro z; cases z), ne_of ha hl (by intro z; cases z), ne_of ha hb (by intro z; cases z), ne_of ha hdl (by intro z; cases z)⟩
theorem Led.pl {C : Addr} {H H' : Hp} {p l a dl b : Addr} {n : Nat} {rs : List (List Int)} (h : Led C H p l a dl b n rs) (k : FK [p, l] H H') (hh : PoolAt H' p l) : Led C H' p l a dl b n rs := by
  obtain ⟨n1, n2, n3, n4⟩ := h.ap
  exact ⟨hh, h.disk.fk k (by simp [n1, n2]) (by simp [h.dp, h.dl_]), h.blks.fk k (by simp [h.bp, h.bl]), h.db, h.dp, h.dl_, h.bp, h.bl, h.hn, h.rb⟩
theorem Led.s {C : Addr} {H H' : Hp} {p l a dl b : Addr} {n : Nat} {rs : List (List Int)} (h : Led C H p l a dl b n rs) (s : Same H H') : Led C H' p l a dl b n rs := h.pl (FK.same s) (h.pool.same s)
/-- what the loop keeps -/
structure LedI (C : Addr) (H0 H : Hp) (p l a dl0 dl b : Addr) (n : Nat) (rs : List (List Int)) : Prop where
  led : Led C H p l a dl b n rs
  fk : FK [p, l, a, dl0, b] H0 H
  new : dl = dl0 ∨ H0 dl = none
theorem LedI.pl {C : Addr} {H0 H H' : Hp} {p l a dl0 dl b : Addr} {n : Nat} {rs : List (List Int)} (h : LedI C H0 H p l a dl0 dl b n rs) (k : FK [p, l] H H') (hh : PoolAt H' p l) : LedI C H0 H' p l a dl0 dl b n rs :=
  ⟨h.led.pl k hh, h.fk.trans (k.more (by simp)), h.new⟩
theorem LedI.s {C : Addr} {H0 H H' : Hp} {p l a dl0 dl b : Addr} {n : Nat} {rs : List (List Int)} (h : LedI C H0 H p l a dl0 dl b n rs) (s : Same H H') : LedI C H0 H' p l a dl0 dl b n rs := h.pl (FK.same s) (h.led.pool.same s)
/-- the disk's list grows, then the own one -/
theorem LedI.write {C : Addr} {H0 H H1 : Hp} {p l a dl0 dl b t : Addr} {n : Nat} {rs : List (List Int)} {r : List Int} {as : List Addr} (h : LedI C H0 H p l a dl0 dl b n rs) (k : FK [dl] H H1) (hd : DiskAt C H1 a dl n (rs ++ [r])) (hb : H1 b = some (.lst (as.map V.ref))) (hra : RAll H1 as rs) (ht : RowAt H1 t r) (hr : r.length ≤ 6000) :
    LedI C H0 (upd H1 b (.lst (as.map V.ref ++ [.ref t]))) p l a dl0 dl b n (rs ++ [r]) := by
  obtain ⟨n1, n2, n3, n4⟩ := h.led.ap
  have e := h.led
  have k2 : FK [b] H1 (upd H1 b (.lst (as.map V.ref ++ [.ref t]))) := FK.mutL (by simp) hb
  refine ⟨⟨(e.pool.fk k (by simp [e.dp.symm]) (by simp [e.dl_.symm])).fk k2 (by simp [e.bp.symm]) (by simp [e.bl.symm]), hd.fk k2 (by simp [n3]) (by simp [e.db]), ⟨as ++ [t], by rw [upd_same, List.map_append]; rfl, (hra.kt k2.2).app (.one (ht.kt k2.2))⟩, e.db, e.dp, e.dl_, e.bp, e.bl, by have := e.hn; simp; omega, fun q hq => ?_⟩, (h.fk.step k fun c hc => ?_).trans (k2.more (by simp)), h.new⟩
  · rcases List.mem_append.mp hq with z | z
    · exact e.rb q z
    · rw [show q = r by simpa using z]
      exact hr
  · rw [show c = dl by simpa using hc]
    rcases h.new with z | z
    · rw [z]
      exact .inl (by simp)
    · exact .inr z
/-- the disk alone changes, its list stays -/
theorem LedI.sync {C : Addr} {H0 H H1 : Hp} {p l a dl0 dl b : Addr} {n m : Nat} {rs : List (List Int)} (h : LedI C H0 H p l a dl0 dl b n rs) (k : FK [a] H H1) (hd : DiskAt C H1 a dl m rs) (hm : m ≤ rs.length) : LedI C H0 H1 p l a dl0 dl b m rs := by
  obtain ⟨n1, n2, n3, n4⟩ := h.led.ap
  have e := h.led
  exact ⟨⟨e.pool.fk k (by simp [n1.symm]) (by simp [n2.symm]), hd, e.blks.fk k (by simp [n3.symm]), e.db, e.dp, e.dl_, e.bp, e.bl, hm, e.rb⟩, h.fk.trans (k.more (by simp)), h.new⟩
/-- the disk has a new list, then the own one is set -/
theorem LedI.swap {C : Addr} {H0 H H1 : Hp} {p l a dl0 dl dl2 b : Addr} {n m : Nat} {rs qs : List (List Int)} {as : List Addr} {us : List V} (h : LedI C H0 H p l a dl0 dl b n rs) (k : FK [a] H H1) (ndl : H dl2 = none) (na : dl2 ≠ a) (hd : DiskAt C H1 a dl2 m qs) (hb : H1 b = some (.lst us)) (hra : RAll H1 as qs) (hm : m ≤ qs.length) (hr : ∀ r ∈ qs, r.length ≤ 6000) :
    LedI C H0 (upd H1 b (.lst (as.map V.ref))) p l a dl0 dl2 b m qs := by
  obtain ⟨n1, n2, n3, n4⟩ := h.led.ap
  have e := h.led
  obtain ⟨us1, hp⟩ := e.pool.p
  obtain ⟨ws, hl⟩ := e.pool.l
  obtain ⟨zs, hb0⟩ := e.blks.l
  have d1 := ne_of_none hp ndl
  have d2 := ne_of_none hl ndl
  have d3 := ne_of_none hb0 ndl
  have k2 : FK [b] H1 (upd H1 b (.lst (as.map V.ref))) := FK.mutL (by simp) hb
  refine ⟨⟨(e.pool.fk k (by simp [n1.symm]) (by simp [n2.symm])).fk k2 (by simp [e.bp.symm]) (by simp [e.bl.symm]), hd.fk k2 (by simp [n3]) (by simp [d3.symm]), ⟨as, upd_same, hra.kt k2.2⟩, d3.symm, d1.symm, d2.symm, e.bp, e.bl, hm, hr⟩, (h.fk.trans (k.more (by simp))).trans (k2.more (by simp)), ?_⟩
  cases g : H0 dl2 with
  | none => exact .inr rfl
  | some o =>
    by_cases hin : dl2 ∈ [p, l, a, dl0, b]
    · simp only [List.mem_cons, List.not_mem_nil, or_false] at hin
      rcases hin with z | z | z | z | z
      · exact absurd z d1.symm
      · exact absurd z d2.symm
      · exact absurd z na
      · exact .inl z
      · exact absurd z d3.symm
    · rw [h.fk.at hin g] at ndl
      cases ndl
def spLed (C : Addr) : Sp := fun vs H Q _ => ∃ p l a dl b n rs, ∃ many : Nat, vs = [.ref p, .ref a, .ref b, .int (n : Nat), .int (many : Nat)] ∧ Led C H p l a dl b n rs ∧ many ≤ 20 ∧ rs.length + many ≤ 60 ∧
  ∀ dl' n' rs' H', LedI C H H' p l a dl dl' b n' rs' → rs'.length ≤ rs.length + many → Q (.int (n' : Nat)) H'
section
variable {P : Program} {w : World} {K : PySem.W.Frag} {mg : Str → Option Value} {base : Heap}
local macro_rules | `(tactic| walk_at "rd") => `(tactic| (repeat (first
  | ((with_reducible refine' rd_var ?h0 ?_); (case h0 => rfl))
  | with_reducible refine rd_c ?_
  | with_reducible refine rd_op ?_
  | with_reducible refine rd_nil ?_
  | with_reducible refine rd_cons ?_
  | with_reducible refine rd_tup ?_
  | with_reducible refine rd_lst ?_
  | with_reducible refine rd_ifs ?_
  | with_reducible refine rd_seq ?_
  | with_reducible refine rd_next ?_
  | with_reducible refine rd_ret ?_
  | with_reducible refine rd_asg ?_
  | ((with_reducible refine' rd_gset ?hs ?_); (case hs => ((simp only [L2.start, List.map_cons, List.map_nil, List.length_cons, List.length_nil, List.cons_append, List.nil_append, List.set_cons_zero, List.set_cons_succ, Nat.reduceAdd, Nat.reduceSub, Nat.zero_add, List.reduceReplicate]); rfl)))
  | with_reducible refine rd_drop ?_
  | with_reducible refine rd_test ?_
  | with_reducible refine rd_B ?_
  | with_reducible refine rd_bl ?_
  | with_reducible refine rd_blP ?_
  | with_reducible refine rd_andV ?_
  | with_reducible refine rd_orV ?_
  | with_reducible refine rd_notV ?_
  | with_reducible refine rd_and ?_
  | with_reducible refine rd_or ?_
  | with_reducible refine rd_not ?_
  | with_reducible refine rd_chain ?_
  | with_reducible refine rd_dput ?_
  | with_reducible refine rd_dget ?_
  | with_reducible refine rd_cb ?_
  | with_reducible refine rd_call ?_
  | with_reducible refine rd_un ?_
  | with_reducible refine rd_sl ?_
  | with_reducible refine rd_nopart ?_
  | with_reducible refine rd_part ?_
  | with_reducible refine rd_intP ?_
  | with_reducible refine rd_rU ?_
  | with_reducible refine rd_fld ?_
  | with_reducible refine rd_eqI ?_
  | with_reducible refine rd_neI ?_
  | with_reducible refine rd_mko ?_
  | with_reducible refine rd_bm ?_
  | with_reducible refine rd_gsub ?_
  | with_reducible refine rd_i0 ?_)))
theorem ok_led (T : Tx K mg) (B : Bk K mg T) : FnOk P w K mg base CX0 10 B.law_led.f B.law_led.fd ["_law_pool_here", "_law_disk", "_law_blocks", "_law_synced", "_law_many"] (spLed T.c_Disk) := by
  have G_law_draw := ok_law_draw (P := P) (w := w) (base := base) T B
  have G_law_block := ok_law_block (P := P) (w := w) (base := base) T B
  have G_law_is := ok_law_is (P := P) (w := w) (base := base) T B
  have G_Disk_write := ok_write (P := P) (w := w) (base := base) T B
  have G_Disk_sync := ok_sync (P := P) (w := w) (base := base) T B
  have G_Disk_cut := ok_cut (P := P) (w := w) (base := base) T B
  have G_Disk_drop := ok_drop (P := P) (w := w) (base := base) T B
  have G_Disk_blocks := ok_blocks (P := P) (w := w) (base := base) T B
  have G_Disk_synced := ok_synced (P := P) (w := w) (base := base) T B
  refine B.law_led.F.ok sc_law_led (fun vs H Q E h => ?_) (fun cdv A outer s H vs Q E hr h => ?_)
  · obtain ⟨p, l, a, dl, b, n, rs, many, rfl, _⟩ := h
    rfl
  · obtain ⟨p, l, a, dl, b, n, rs, many, rfl, hL, hm, hl, q⟩ := h
    refine ⟨_, (pss_cons (ps_for PassesOwn.never rfl (pi_range1 (by rfl) T.b_range (pa_cons (pv 4) pa_nil)) (pg_name (i := 5) sc_law_led.nd rfl (Or.inl rfl)) (pss_cons (ps_set (i := 6) sc_law_led.nd rfl (Or.inl rfl) (pe_call G_law_draw (hr.mono (by omega)) rfl B.law_draw.m B.law_draw.F.kp B.law_draw.b .nil pass0 (pa_cons (pv 0) (pa_cons pe_int pa_nil))))
      (C8.pss_cut (ps_if (pt_cmpR op_lt (pv 6) pe_int (nomark _)) (pss_cons (ps_set (i := 7) sc_law_led.nd rfl (Or.inl rfl) (pe_call G_law_block (hr.mono (by omega)) rfl B.law_block.m B.law_block.F.kp B.law_block.b .nil pass0 (pa_cons (pv 0) pa_nil)))
      (pss_cons (ps_if (pt_not (pt_val (pe_call G_law_is (hr.mono (by omega)) rfl B.law_is.m B.law_is.F.kp B.law_is.b .nil pass0 (pa_cons (pe_meth (pv 1) T.W_Disk.cl ⟨B.Disk_write.a, B.Disk_write.i, B.Disk_write.F.kp⟩ G_Disk_write (hr.mono (by omega)) B.Disk_write.b .nil passL (pa_cons (pv 7) pa_nil)) (pa_cons (pe_callB call_len_seq (by rfl) T.b_len (by decide +kernel) (pa_cons (pv 2) pa_nil)) pa_nil))))) (pss_one (ps_ret pe_non)) pss_nil)
      (pss_one (ps_expr (pe_bm PySem.F.plainAttrs_list PySem.F.slot_list_append PySem.F.type_list_append mt_append (pv 2) (pa_cons (pv 7) pa_nil)))))) (pss_one (ps_if (pt_cmpR op_eq (pv 6) pe_int (nomark _)) (pss_cons (ps_if (pt_not (pt_val (pe_call G_law_is (hr.mono (by omega)) rfl B.law_is.m B.law_is.F.kp B.law_is.b .nil pass0 (pa_cons (pe_meth0 (pv 1) T.W_Disk.cl ⟨B.Disk_sync.a, B.Disk_sync.i, B.Disk_sync.F.kp⟩ G_Disk_sync (hr.mono (by omega)) B.Disk_sync.b .nil pass0) (pa_cons (pe_op op_sub (pe_callB call_len_seq (by rfl) T.b_len (by decide +kernel) (pa_cons (pv 2) pa_nil)) (pv 3)) pa_nil))))) (pss_one (ps_ret pe_non)) pss_nil)
      (pss_one (ps_set (i := 3) sc_law_led.nd rfl (Or.inl rfl) (pe_callB call_len_seq (by rfl) T.b_len (by decide +kernel) (pa_cons (pv 2) pa_nil))))) (pss_one (ps_if (pt_cmpR op_eq (pv 6) pe_int (nomark _)) (pss_cons (ps_set (i := 8) sc_law_led.nd rfl (Or.inl rfl) (pe_callTy call_tuple_of (by rfl) T.b_tuple (by decide +kernel) (pa_cons (pe_lc (own := [("_law_row", 7)]) (g := gName 7) rfl sc_law_led.nd (pi_list (pe_slice sl_list (pv 2) (po_some (pv 3)) po_none)) (blkOk_by (own := [("_law_row", 7)]) (N := ["_law_pool_here", "_law_disk", "_law_blocks", "_law_synced", "_law_many", "_law_turn", "_law_kind", "_law_row", "_law_kept_here", "_law_number_here", "_law_length"]) (sc := defScope s_law_led) (by decide +kernel)) (fun _ _ _ _ _ => pg_name (i := 7) sc_law_led.nd rfl (Or.inl rfl)) (fun _ _ _ _ _ => pts_nil) (fun _ _ _ _ _ => (pe_ix (r := rIxL K) ix_list (pe_lst (pa_cons (pe_callB (id := "len") (r := rLenS K) call_len_seq (by rfl) T.b_len (by decide +kernel) (pa_cons (pv 7) pa_nil)) (pa_cons (pe_call G_law_draw (hr.mono (by omega)) rfl B.law_draw.m B.law_draw.F.kp B.law_draw.b .nil pass0 (pa_cons (pv 0) (pa_cons (pe_op op_add (pe_callB (id := "len") (r := rLenS K) call_len_seq (by rfl) T.b_len (by decide +kernel) (pa_cons (pv 7) pa_nil)) pe_int) pa_nil))) pa_nil))) (pe_call G_law_draw (hr.mono (by omega)) rfl B.law_draw.m B.law_draw.F.kp B.law_draw.b .nil pass0 (pa_cons (pv 0) (pa_cons pe_int pa_nil))) (fun _ _ => rfl)))) pa_nil)))
      (pss_cons (ps_if (pt_cmpR op_notN (pe_meth (pv 1) T.W_Disk.cl ⟨B.Disk_cut.a, B.Disk_cut.i, B.Disk_cut.F.kp⟩ G_Disk_cut (hr.mono (by omega)) B.Disk_cut.b .nil passL (pa_cons (pv 8) pa_nil)) pe_non (nomark _)) (pss_one (ps_ret pe_non)) pss_nil)
      (pss_cons (ps_asg (pe_lc (own := [("_law_row", 7), ("_law_length", 10)]) (g := (gTup K 2 (gCons (gName 7) (gCons (gName 10) gNil)))) rfl sc_law_led.nd (pi_zipLT (by rfl) T.b_zip (pa_cons (pe_slice sl_list (pv 2) (po_some (pv 3)) po_none) (pa_cons (pv 8) pa_nil))) (blkOk_by (own := [("_law_row", 7), ("_law_length", 10)]) (N := ["_law_pool_here", "_law_disk", "_law_blocks", "_law_synced", "_law_many", "_law_turn", "_law_kind", "_law_row", "_law_kept_here", "_law_number_here", "_law_length"]) (sc := defScope s_law_led) (by decide +kernel)) (fun _ _ _ _ _ => (pg_tup (by rfl) (pgs_cons (pg_name (i := 7) sc_law_led.nd rfl (Or.inl rfl)) (pgs_cons (pg_name (i := 10) sc_law_led.nd rfl (Or.inl rfl)) pgs_nil)))) (fun _ _ _ _ _ => pts_nil) (fun _ _ _ _ _ => (pe_slice (r := rSlA K) sl_tupA (pv 7) po_none (po_some (pv 10))))) (pg_slL (pv 2) (pv 3)))
      (pss_one (ps_set (i := 3) sc_law_led.nd rfl (Or.inl rfl) (pe_callB call_len_seq (by rfl) T.b_len (by decide +kernel) (pa_cons (pv 2) pa_nil))))))) (pss_one (ps_if (PW.pt (pw_and (pt_cmpR op_eq (pv 6) pe_int (nomark _)) (pw_and1 (pt_cmpR op_eq (pe_call G_law_draw (hr.mono (by omega)) rfl B.law_draw.m B.law_draw.F.kp B.law_draw.b .nil pass0 (pa_cons (pv 0) (pa_cons pe_int pa_nil))) pe_int (nomark _))))) (pss_cons (ps_set (i := 9) sc_law_led.nd rfl (Or.inl rfl) (pe_call G_law_draw (hr.mono (by omega)) rfl B.law_draw.m B.law_draw.F.kp B.law_draw.b .nil pass0 (pa_cons (pv 0) (pa_cons (pe_op op_add (pe_callB call_len_seq (by rfl) T.b_len (by decide +kernel) (pa_cons (pv 2) pa_nil)) pe_int) pa_nil))))
      (pss_cons (ps_if (pt_cmpR op_notN (pe_meth (pv 1) T.W_Disk.cl ⟨B.Disk_drop.a, B.Disk_drop.i, B.Disk_drop.F.kp⟩ G_Disk_drop (hr.mono (by omega)) B.Disk_drop.b .nil passL (pa_cons (pv 9) pa_nil)) pe_non (nomark _)) (pss_one (ps_ret pe_non)) pss_nil)
      (pss_cons (ps_asg (pe_lst pa_nil) (pg_slL (pv 2) (pv 9)))
      (pss_one (ps_set (i := 3) sc_law_led.nd rfl (Or.inl rfl) (pe_callB (call_min2 rfl) (by rfl) T.b_min (by decide +kernel) (pa_cons (pv 3) (pa_cons (pv 9) pa_nil)))))))) pss_nil)))))))
      (pss_one (ps_if (PW.pt (pw_or (pt_cmpR (op_neD hr.units) (pe_meth0 (pv 1) T.W_Disk.cl ⟨B.Disk_blocks.a, B.Disk_blocks.i, B.Disk_blocks.F.kp⟩ G_Disk_blocks (hr.mono (by omega)) B.Disk_blocks.b .nil pass0) (pv 2) (nomark _)) (pw_or1 (pt_not (pt_val (pe_call G_law_is (hr.mono (by omega)) rfl B.law_is.m B.law_is.F.kp B.law_is.b .nil pass0 (pa_cons (pe_meth0 (pv 1) T.W_Disk.cl ⟨B.Disk_synced.a, B.Disk_synced.i, B.Disk_synced.F.kp⟩ G_Disk_synced (hr.mono (by omega)) B.Disk_synced.b .nil pass0) (pa_cons (pv 3) pa_nil)))))))) (pss_one (ps_ret pe_non)) pss_nil)))))
      (pss_one (ps_ret (pv 3)))), ?_⟩
    walk_at "rd"
    refine ⟨_, rfl, _, rfl, by omega, by omega, for_range (lo := 0) (n := many) (fun i σ H1 => ∃ dl1 n1 rs1, LedI T.c_Disk H H1 p l a dl dl1 b n1 rs1 ∧ rs1.length ≤ rs.length + i ∧ ∃ u5 u6 u7 u8 u9 u10 : Option V, σ = [some (.ref p), some (.ref a), some (.ref b), some (.int (n1 : Nat)), some (.int (many : Nat)), u5, u6, u7, u8, u9, u10])
      ⟨dl, n, rs, ⟨hL, FK.refl, .inl rfl⟩, by omega, _, _, _, _, _, _, rfl⟩ ?_ ?_⟩
    · rintro i σ H1 hi ⟨dl1, n1, rs1, hI, hr1, u5, u6, u7, u8, u9, u10, rfl⟩
      walk_at "rd"
      refine ⟨p, l, _, rfl, by decide, by decide, hI.led.pool, fun kd H2 kd0 kd1 hh2 k2 => ?_⟩
      have hI2 := hI.pl k2 hh2
      clear hI k2 hh2
      have hrl : rs1.length ≤ 60 := by omega
      walk_at "rd"
      refine ⟨fun σ2 H3 => ∃ dl2 n2 rs2, LedI T.c_Disk H H3 p l a dl dl2 b n2 rs2 ∧ rs2.length ≤ rs.length + (i + 1) ∧ ∃ u5 u6 u7 u8 u9 u10 : Option V, σ2 = [some (.ref p), some (.ref a), some (.ref b), some (.int (n2 : Nat)), some (.int (many : Nat)), u5, u6, u7, u8, u9, u10], ?_, ?_⟩
      · walk_at "rd"
        refine rd_ite (fun h1 => ?_) (fun h1 => ?_)
        · walk_at "rd"
          refine ⟨p, l, rfl, hI2.led.pool, fun t r H3 hrow hrlen hh3 k3 => ?_⟩
          have hI3 := hI2.pl k3 hh3
          walk_at "rd"
          refine rd_meth ?_
          walk_at "rd"
          obtain ⟨⟨dx, ha⟩, _⟩ := id hI3.led.disk
          refine ⟨a, dx, _, rfl, ha, rfl, ?_⟩
          walk_at "rd"
          refine ⟨a, dl1, n1, rs1, t, r, rfl, hI3.led.disk, hrow, by omega, fun H4 k4 hd4 => ?_⟩
          obtain ⟨as, hb, hra⟩ := hI3.led.blks.fk k4 (by simp [hI3.led.db.symm])
          have la := hra.1
          walk_at "rd"
          refine ⟨b, _, rfl, .inl (SqL.of hb), ?_⟩
          walk_at "rd"
          rw [List.length_map, la]
          refine ⟨_, rfl, by omega, by omega, ?_⟩
          walk_at "rd"
          refine rd_no rfl ?_
          walk_at "rd"
          refine ⟨.inl ⟨rfl, _, SqL.of hb⟩, ?_⟩
          walk_at "rd"
          refine rd_append hb (small' (by rw [List.length_map]; omega)) ?_
          exact ⟨dl1, n1, rs1 ++ [r], hI3.write k4 hd4 hb hra (hrow.kt k4.2) hrlen, by simp; omega, _, _, _, _, _, _, rfl⟩
        · walk_at "rd"
          refine rd_ite (fun h2 => ?_) (fun h2 => ?_)
          · walk_at "rd"
            refine rd_meth ?_
            walk_at "rd"
            obtain ⟨⟨dx, ha⟩, _⟩ := id hI2.led.disk
            refine ⟨a, dx, _, rfl, ha, rfl, ?_⟩
            walk_at "rd"
            refine ⟨a, dl1, n1, rs1, rfl, hI2.led.disk, fun H3 k3 hd3 => ?_⟩
            have hI3 := hI2.sync k3 hd3 (Nat.le_refl _)
            obtain ⟨as, hb, hra⟩ := hI3.led.blks
            have la := hra.1
            have hn1 := hI2.led.hn
            walk_at "rd"
            refine ⟨b, _, rfl, .inl (SqL.of hb), ?_⟩
            rw [List.length_map, la]
            walk_at "rd"
            refine ⟨_, rfl, by omega, by omega, ?_⟩
            walk_at "rd"
            refine rd_no rfl ?_
            walk_at "rd"
            refine ⟨b, _, rfl, .inl (SqL.of hb), ?_⟩
            rw [List.length_map, la]
            walk_at "rd"
            exact ⟨dl1, rs1.length, rs1, hI3, by omega, _, _, _, _, _, _, rfl⟩
          · walk_at "rd"
            refine rd_ite (fun h3 => ?_) (fun h3 => ?_)
            · walk_at "rd"
              show iList _ _ _ _ _
              refine rd_ilist ?_
              walk_at "rd"
              obtain ⟨as, hb, hra⟩ := hI2.led.blks
              have la := hra.1
              have hn1 := hI2.led.hn
              refine ⟨b, _, rfl, SqL.of hb, fun wt nw => ?_⟩
              have e1 : cutV (as.map V.ref) (some (n1 : Int)) none = (as.drop n1).map V.ref := by
                unfold cutV
                rw [List.length_map, HT.sIx_none, HT.sIx_nat, Nat.min_eq_left (by omega), List.take_of_length_le (by rw [List.length_drop, List.length_map]; omega), List.map_drop]
              rw [e1]
              have s3 := same_new (o := .lst ((as.drop n1).map V.ref)) nw
              have hI3 := hI2.s s3
              have hra3 := (hra.drop n1).kt (KT.same s3)
              have hwt : (upd H2 wt (.lst ((as.drop n1).map V.ref))) wt = some (.lst ((as.drop n1).map V.ref)) := upd_same
              have owt := hI2.led.pool.out nw
              generalize upd H2 wt (.lst ((as.drop n1).map V.ref)) = H3 at hI3 hra3 hwt
              clear s3 hra hb nw hI2 e1
              have ld := hra3.1
              have hrd : (rs1.drop n1).length ≤ 60 := by rw [List.length_drop]; omega
              refine ⟨wt, rfl, ⟨_, SqL.of hwt⟩, fun D hD => lc_list (K := K) (a := wt) (xs := (as.drop n1).map V.ref) (fun i H4 => ∃ ks : List Int, ks.length = i ∧ H4 D = some (.lst (ks.map V.int)) ∧ (∀ (j : Nat) k r, ks[j]? = some k → (rs1.drop n1)[j]? = some r → 0 ≤ k ∧ k ≤ r.length) ∧ PoolAt H4 p l ∧ FK [p, l] H3 H4)
                ⟨[], rfl, upd_same, fun j k r e _ => by simp at e, hI3.led.pool.new hD, FK.new hD⟩ (fun i H4 _ hh => by obtain ⟨_, _, _, _, _, k4⟩ := hh; exact SqL.of (k4.at owt hwt)) ?_ ?_⟩
              · rintro j y H4 hj ⟨ks, hlk, hacc, hks, hh4, k4⟩
                obtain ⟨c, r, rfl, ec, er, hrow⟩ := hra3.get hj
                have oD := hI3.led.pool.out hD
                have hrow4 := hrow.kt k4.2
                have hrl4 := hrow.3
                refine ⟨rfl, ?_⟩
                refine rd_tyes ?_
                refine rd_yes rfl ?_
                walk_at "rd"
                refine ⟨c, _, rfl, .inr (SqT.of hrow4.1), ?_⟩
                walk_at "rd"
                refine ⟨c, _, rfl, .inr (SqT.of hrow4.1), ?_⟩
                rw [List.length_map]
                walk_at "rd"
                refine ⟨p, l, _, rfl, by omega, by omega, hh4, fun x H5 x0 x1 hh5 k5 => ?_⟩
                walk_at "rd"
                refine rd_disp rfl fun e ne => ?_
                have oe := hh5.out ne
                walk_at "rd"
                refine ⟨p, l, _, rfl, by decide, by decide, hh5.new ne, fun m H6 m0 m1 hh6 k6 => ?_⟩
                have key : ∃ k : Int, ([.int (r.length : Nat), .int x] : List V)[m.toNat]? = some (.int k) ∧ 0 ≤ k ∧ k ≤ r.length := by
                  have hm2 : m.toNat < 2 := by omega
                  generalize m.toNat = z at hm2
                  match z, hm2 with
                  | 0, _ => exact ⟨_, rfl, by omega, by omega⟩
                  | 1, _ => exact ⟨_, rfl, by omega, by omega⟩
                obtain ⟨k, ek, kb⟩ := key
                refine rd_ixL (k6.at oe upd_same) (at_of (j := m.toNat) (by omega) ek) ?_
                have k46 := (k5.trans (FK.new ne)).trans k6
                have hacc6 := k46.at oD hacc
                have hjl : j < (as.drop n1).length := (List.getElem?_eq_some_iff.mp ec).1
                refine ⟨_, hacc6, small' (by rw [List.length_map]; omega), ks ++ [k], by simp [hlk], ?_, fun j2 k2 r2 e2 f2 => ?_, hh6.upd oD, (k4.trans k46).own hD hacc6⟩
                · rw [upd_same, List.map_append]
                  rfl
                · rw [List.getElem?_append] at e2
                  split at e2
                  · exact hks j2 k2 r2 e2 f2
                  · rename_i g
                    have hj2 : j2 = j := by
                      have := (List.getElem?_eq_some_iff.mp e2).1
                      simp at this
                      omega
                    subst hj2
                    rw [hlk, Nat.sub_self] at e2
                    injection e2 with e2
                    subst e2
                    rw [er] at f2
                    injection f2 with f2
                    subst f2
                    exact kb
              · rintro H4 ⟨ks, hlk, hacc, hks, hh4, k4⟩
                have hI4 := hI3.pl k4 hh4
                clear hI3 hra3 hh4
                walk_at "rd"
                refine ⟨D, _, rfl, .inl ⟨SqL.of hacc, fun t nt => ?_⟩⟩
                have s5 := same_new (o := .tup (ks.map V.int)) nt
                have hI5 := hI4.s s5
                have ht : (upd H4 t (.tup (ks.map V.int))) t = some (.tup (ks.map V.int)) := upd_same
                generalize upd H4 t (.tup (ks.map V.int)) = H5 at hI5 ht
                clear hI4 s5 nt hacc k4
                have hcut : CutOk (rs1.drop n1) ks := ⟨by rw [hlk, List.length_map, ld], hks⟩
                walk_at "rd"
                refine rd_meth ?_
                walk_at "rd"
                obtain ⟨⟨dx, ha⟩, _⟩ := id hI5.led.disk
                refine ⟨a, dx, _, rfl, ha, rfl, ?_⟩
                walk_at "rd"
                refine ⟨a, dl1, n1, rs1, t, ks, rfl, hI5.led.disk, hn1, by omega, ht, hcut, fun l' H6 k6 nl' na' hd6 => ?_⟩
                obtain ⟨a1, a2, a3, a4⟩ := hI5.led.ap
                have ht6 := k6.2 _ _ ht
                obtain ⟨bs, hb6, hrb6⟩ := hI5.led.blks.fk k6 (by simp [a3.symm])
                have lb6 := hrb6.1
                walk_at "rd"
                refine ⟨rfl, ?_⟩
                walk_at "rd"
                refine rd_no rfl ?_
                walk_at "rd"
                refine rd_izipLT ?_
                walk_at "rd"
                refine ⟨b, _, rfl, SqL.of hb6, fun w2 nw2 => ?_⟩
                have e2 : cutV (bs.map V.ref) (some (n1 : Int)) none = (bs.drop n1).map V.ref := by
                  unfold cutV
                  rw [List.length_map, HT.sIx_none, HT.sIx_nat, Nat.min_eq_left (by omega), List.take_of_length_le (by rw [List.length_drop, List.length_map]; omega), List.map_drop]
                rw [e2]
                have s7 := same_new (o := .lst ((bs.drop n1).map V.ref)) nw2
                have hrb7 := (hrb6.drop n1).kt (KT.same s7)
                have lb7 := hrb7.1
                have lk7 := hcut.1
                walk_at "rd"
                refine ⟨w2, t, _, _, rfl, SqL.of upd_same, SqT.of (s7 _ _ ht6), fun D2 hD2 => lc_mz (K := K) (a := w2) (b := t) (xs := (bs.drop n1).map V.ref) (ys := ks.map V.int) (by rw [List.length_map, List.length_map, lb7, lk7])
                  (fun i H8 => Same (upd H6 w2 (.lst ((bs.drop n1).map V.ref))) H8 ∧ ∃ cs, H8 D2 = some (.lst (cs.map V.ref)) ∧ RAll H8 cs ((cutR (rs1.drop n1) ks).take i)) ⟨same_new hD2, [], upd_same, by rw [List.take_zero]; exact RAll.nil⟩ (fun i H8 hh => ⟨SqL.of (hh.1 _ _ upd_same), SqT.of (hh.1 _ _ (s7 _ _ ht6))⟩) ?_ ?_⟩
                · rintro i2 x y tt H8 hx hy ⟨hs, cs, hacc, hrc⟩ htt
                  obtain ⟨c, r, rfl, eb, er, hrr⟩ := hrb7.get hx
                  obtain ⟨k, rfl, ek⟩ := ks_get hy
                  obtain ⟨k0, k1⟩ := hcut.2 i2 k r ek er
                  have s8 := same_new (o := .tup [V.ref c, V.int k]) htt
                  have hDt : D2 ≠ tt := ne_of_none hacc htt
                  refine ⟨tt, _, rfl, SqT.of upd_same, rfl, _, _, rfl, _, _, rfl, rfl, ?_⟩
                  refine ⟨rfl, ?_⟩
                  refine rd_tyes ?_
                  refine rd_yes rfl ?_
                  walk_at "rd"
                  have hrb9 := hrr.kt (KT.same (hs.trans s8))
                  refine rd_cutA hrb9.1 fun d H9 s9 hd9 => ?_
                  have e3 : cutV (r.map V.int) none (some k) = (r.take k.toNat).map V.int := by
                    unfold cutV
                    obtain ⟨k', rfl⟩ := Int.eq_ofNat_of_zero_le k0
                    rw [List.length_map, HT.sIx_none, HT.sIx_nat, Nat.min_eq_left (by omega), List.drop_zero, List.map_take, Nat.sub_zero]
                    rfl
                  rw [e3] at hd9
                  have hrow : RowAt H9 d (r.take k.toNat) := ⟨hd9, fun z hz => hrb9.2 z (List.mem_of_mem_take hz), by have := hrb9.3; rw [List.length_take]; omega⟩
                  have hacc9 : H9 D2 = some (.lst (cs.map V.ref)) := s9 _ _ ((upd_ne hDt).trans hacc)
                  have lc := hrc.1
                  rw [List.length_take] at lc
                  have lcc := cutR_len hcut
                  refine ⟨_, hacc9, small' (by rw [List.length_map]; omega), fun z o ez => (upd_ne (ne_of_none ez hD2)).trans (s9 _ _ (s8 _ _ (hs z o ez))), cs ++ [d], ?_, ?_⟩
                  · rw [upd_same, List.map_append]
                    rfl
                  · rw [take_snoc (cutR_get er ek)]
                    have k89 : KT H8 H9 := KT.same (s8.trans s9)
                    have k10 : KT H9 (upd H9 D2 (.lst (cs.map V.ref ++ [V.ref d]))) := (FK.mutL (M := [D2]) (by simp) hacc9).2
                    exact ((hrc.kt k89).kt k10).app (.one (hrow.kt k10))
                · rintro H8 ⟨hs, cs, hacc, hrc⟩
                  have lcc := cutR_len hcut
                  rw [List.take_of_length_le (by rw [List.length_map]; omega)] at hrc
                  have s68 := s7.trans hs
                  have hb8 := s68 _ _ hb6
                  have lcs := hrc.1
                  have nbD : b ≠ D2 := ne_of_none (s7 _ _ hb6) hD2
                  refine rd_slset ?_
                  walk_at "rd"
                  have ll : ((as.drop n1).length) ≤ 60 := by omega
                  refine ⟨n1, rfl, b, D2, _, _, rfl, rfl, hb8, hacc, nbD, by rw [List.length_map]; omega, small (by rw [List.length_map, List.length_map]; omega), ?_⟩
                  rw [← List.map_take, ← List.map_append]
                  have hq : ∀ r ∈ rs1.take n1 ++ cutR (rs1.drop n1) ks, r.length ≤ 6000 := fun r hr => by
                    rcases List.mem_append.mp hr with z | z
                    · exact hI5.led.rb r (List.mem_of_mem_take z)
                    · unfold cutR at z
                      obtain ⟨⟨r0, k0⟩, z1, rfl⟩ := List.mem_map.mp z
                      have z2 := hI5.led.rb r0 (List.mem_of_mem_drop (List.of_mem_zip z1).1)
                      show (r0.take _).length ≤ 6000
                      rw [List.length_take]
                      omega
                  have lq : (rs1.take n1 ++ cutR (rs1.drop n1) ks).length = rs1.length := by
                    rw [List.length_append, lcc, List.length_take, List.length_drop]
                    omega
                  have hd8 := hd6.s s68
                  have hI8 := hI5.swap (as := bs.take n1 ++ cs) (k6.trans (FK.same s68)) nl' na' hd8 hb8 (((hrb6.take n1).kt (KT.same s68)).app hrc) (by rw [lq]; exact Nat.le_refl _) hq
                  walk_at "rd"
                  refine ⟨b, _, rfl, .inl (SqL.of upd_same), ?_⟩
                  have el : (((bs.take n1 ++ cs).map V.ref).length : Nat) = rs1.length := by
                    rw [List.length_map, List.length_append, lcs, lcc, List.length_take, List.length_drop]
                    omega
                  rw [el]
                  walk_at "rd"
                  exact ⟨l', rs1.length, _, hI8, by rw [lq]; omega, _, _, _, _, _, _, rfl⟩
            · walk_at "rd"
              refine rd_ite (fun h4 => ?_) (fun h4 => ?_)
              · walk_at "rd"
                refine ⟨p, l, _, rfl, by decide, by decide, hI2.led.pool, fun x H3 x0 x1 hh3 k3 => ?_⟩
                have hI3 := hI2.pl k3 hh3
                clear hI2 hh3 k3
                walk_at "rd"
                refine rd_ite (fun h5 => ?_) (fun h5 => ?_)
                · walk_at "rd"
                  obtain ⟨as, hb, hra⟩ := id hI3.led.blks
                  have la := hra.1
                  refine ⟨b, _, rfl, .inl (SqL.of hb), ?_⟩
                  rw [List.length_map, la]
                  walk_at "rd"
                  refine ⟨p, l, _, rfl, by omega, by omega, hI3.led.pool, fun k' H4 k0 k1 hh4 k4 => ?_⟩
                  have hI4 := hI3.pl k4 hh4
                  obtain ⟨k, rfl⟩ := Int.eq_ofNat_of_zero_le k0
                  have hk : k ≤ rs1.length := by omega
                  clear hI3 hh4 k4 hb hra la
                  walk_at "rd"
                  refine rd_meth ?_
                  walk_at "rd"
                  obtain ⟨⟨dx, ha⟩, _⟩ := id hI4.led.disk
                  refine ⟨a, dx, _, rfl, ha, rfl, ?_⟩
                  walk_at "rd"
                  refine ⟨a, dl1, n1, rs1, k, rfl, hI4.led.disk, hk, fun l' H6 k6 nl' na' hd6 => ?_⟩
                  obtain ⟨a1, a2, a3, a4⟩ := hI4.led.ap
                  obtain ⟨bs, hb6, hrb6⟩ := hI4.led.blks.fk k6 (by simp [a3.symm])
                  have lb6 := hrb6.1
                  walk_at "rd"
                  refine ⟨rfl, ?_⟩
                  walk_at "rd"
                  refine rd_no rfl ?_
                  walk_at "rd"
                  refine rd_disp rfl fun e ne => ?_
                  have s7 := same_new (o := .lst []) ne
                  have nbe : b ≠ e := ne_of_none hb6 ne
                  have hn1 := hI4.led.hn
                  refine rd_slset ?_
                  walk_at "rd"
                  refine ⟨k, rfl, b, e, _, _, rfl, rfl, s7 _ _ hb6, upd_same, nbe, by rw [List.length_map]; omega, small (by rw [List.length_map, List.length_nil]; omega), ?_⟩
                  rw [List.append_nil, ← List.map_take]
                  have hI8 := hI4.swap (as := bs.take k) (k6.trans (FK.same s7)) nl' na' (hd6.s s7) (s7 _ _ hb6) ((hrb6.take k).kt (KT.same s7)) (by rw [List.length_take]; omega) (fun r hr => hI4.led.rb r (List.mem_of_mem_take hr))
                  walk_at "rd"
                  refine ⟨_, _, rfl, ?_⟩
                  have e3 : (if (k : Int) < (n1 : Int) then (k : Int) else (n1 : Int)) = ((min n1 k : Nat) : Int) := by
                    split <;> omega
                  rw [e3]
                  walk_at "rd"
                  exact ⟨l', min n1 k, _, hI8, by rw [List.length_take]; omega, _, _, _, _, _, _, rfl⟩
                · walk_at "rd"
                  exact ⟨dl1, n1, rs1, hI3, by omega, _, _, _, _, _, _, rfl⟩
              · walk_at "rd"
                exact ⟨dl1, n1, rs1, hI2, by omega, _, _, _, _, _, _, rfl⟩
      · clear hI2 hr1 hrl
        rintro σ2 H3 ⟨dl2, n2, rs2, hI, hr2, u5, u6, u7, u8, u9, u10, rfl⟩
        have hn2 := hI.led.hn
        walk_at "rd"
        refine rd_meth ?_
        walk_at "rd"
        obtain ⟨⟨dx, ha⟩, _⟩ := id hI.led.disk
        refine ⟨a, dx, _, rfl, ha, rfl, ?_⟩
        walk_at "rd"
        refine ⟨a, dl2, n2, rs2, rfl, hI.led.disk, fun c H4 s4 nc hc => ?_⟩
        have hI4 := hI.s s4
        walk_at "rd"
        refine rd_neL hc hI4.led.blks ?_
        walk_at "rd"
        refine rd_no rfl ?_
        walk_at "rd"
        refine rd_meth ?_
        walk_at "rd"
        obtain ⟨⟨dx4, ha4⟩, _⟩ := id hI4.led.disk
        refine ⟨a, dx4, _, rfl, ha4, rfl, ?_⟩
        walk_at "rd"
        refine ⟨a, dl2, n2, rs2, rfl, hI4.led.disk, ?_⟩
        walk_at "rd"
        refine ⟨_, rfl, by omega, by omega, ?_⟩
        walk_at "rd"
        refine rd_no rfl ?_
        walk_at "rd"
        exact ⟨dl2, n2, rs2, hI4, by omega, _, _, _, _, _, _, rfl⟩
    · rintro σ H1 ⟨dl1, n1, rs1, hI, hr1, u5, u6, u7, u8, u9, u10, rfl⟩
      walk_at "rd"
      exact q dl1 n1 rs1 H1 hI hr1
end
end Mw

/-! V6 -/
namespace Mw
open PySem L2
theorem RAll.by {H : Hp} {as : List Addr} {rs : List (List Int)} (h : RAll H as rs) : ∀ r ∈ rs, ∀ b ∈ r, 0 ≤ b ∧ b < 256 := fun r hr => by
  obtain ⟨j, e⟩ := List.getElem?_of_mem hr
  have hj := (List.getElem?_eq_some_iff.mp e).1
  rw [← h.1] at hj
  exact (h.2 j _ r (List.getElem?_eq_getElem hj) e).2
def spPR : Sp := fun vs H Q _ => ∃ b rs, vs = [.ref b] ∧ LsAt H b rs ∧ rs.length ≤ 60 ∧ (∀ r ∈ rs, r.length ≤ 6000) ∧ ∀ H', Same H H' → Q (.bl true) H'
section
variable {P : Program} {w : World} {K : PySem.W.Frag} {mg : Str → Option Value} {base : Heap}
local macro_rules | `(tactic| walk_at "rd") => `(tactic| (repeat (first
  | ((with_reducible refine' rd_var ?h0 ?_); (case h0 => rfl))
  | with_reducible refine rd_c ?_
  | with_reducible refine rd_op ?_
  | with_reducible refine rd_nil ?_
  | with_reducible refine rd_cons ?_
  | with_reducible refine rd_tup ?_
  | with_reducible refine rd_lst ?_
  | with_reducible refine rd_ifs ?_
  | with_reducible refine rd_seq ?_
  | with_reducible refine rd_next ?_
  | with_reducible refine rd_ret ?_
  | with_reducible refine rd_asg ?_
  | ((with_reducible refine' rd_gset ?hs ?_); (case hs => ((simp only [L2.start, List.map_cons, List.map_nil, List.length_cons, List.length_nil, List.cons_append, List.nil_append, List.set_cons_zero, List.set_cons_succ, Nat.reduceAdd, Nat.reduceSub, Nat.zero_add, List.reduceReplicate]); rfl)))
  | with_reducible refine rd_drop ?_
  | with_reducible refine rd_test ?_
  | with_reducible refine rd_B ?_
  | with_reducible refine rd_bl ?_
  | with_reducible refine rd_blP ?_
  | with_reducible refine rd_andV ?_
  | with_reducible refine rd_orV ?_
  | with_reducible refine rd_notV ?_
  | with_reducible refine rd_and ?_
  | with_reducible refine rd_or ?_
  | with_reducible refine rd_not ?_
  | with_reducible refine rd_chain ?_
  | with_reducible refine rd_dput ?_
  | with_reducible refine rd_dget ?_
  | with_reducible refine rd_cb ?_
  | with_reducible refine rd_call ?_
  | with_reducible refine rd_un ?_
  | with_reducible refine rd_sl ?_
  | with_reducible refine rd_nopart ?_
  | with_reducible refine rd_part ?_
  | with_reducible refine rd_intP ?_
  | with_reducible refine rd_rU ?_
  | with_reducible refine rd_fld ?_
  | with_reducible refine rd_eqI ?_
  | with_reducible refine rd_neI ?_
  | with_reducible refine rd_mko ?_
  | with_reducible refine rd_bm ?_
  | with_reducible refine rd_gsub ?_
  | with_reducible refine rd_i0 ?_)))
theorem ok_pr (T : Tx K mg) (B : Bk K mg T) : FnOk P w K mg base CX0 50 B.law_parcels_right.f B.law_parcels_right.fd ["_law_blocks"] spPR := by
  have G_law_kept := ok_law_kept (P := P) (w := w) (base := base) T B
  have G_kept_parcels := ok_kept (P := P) (w := w) (base := base) T B
  have G_law_same := ok_same_n (P := P) (w := w) (base := base) T B 24
  refine B.law_parcels_right.F.ok sc_law_parcels_right (fun vs H Q E h => ?_) (fun cdv A outer s H vs Q E hr h => ?_)
  · obtain ⟨b, rs, rfl, _⟩ := h
    rfl
  · obtain ⟨b, rs, rfl, hb, hl, hr6, q⟩ := h
    refine ⟨_, (pss_cons (ps_set (i := 1) sc_law_parcels_right.nd rfl (Or.inl rfl) (pe_call G_law_kept (hr.mono (by omega)) rfl B.law_kept.m B.law_kept.F.kp B.law_kept.b .nil pass0 (pa_cons (pv 0) pa_nil)))
      (pss_cons (ps_for PassesOwn.never rfl (pi_list (pe_lst (pa_cons (pe_call G_kept_parcels (hr.mono (by omega)) rfl B.kept_parcels.m B.kept_parcels.F.kp B.kept_parcels.b .nil passL (pa_cons (pv 0) pa_nil)) (pa_cons (pe_call G_kept_parcels (hr.mono (by omega)) rfl B.kept_parcels.m B.kept_parcels.F.kp B.kept_parcels.b .nil passL (pa_cons (pe_callTy call_tuple_of (by rfl) T.b_tuple (by decide +kernel) (pa_cons (pv 0) pa_nil)) pa_nil)) pa_nil)))) (pg_name (i := 2) sc_law_parcels_right.nd rfl (Or.inl rfl)) (pss_one (ps_if (PW.pt (pw_or (pt_not (pt_val (pe_callB call_isi (by rfl) T.b_isinstance (by decide +kernel) (pa_cons (pv 2) (pa_cons (pe_bltn (v := .ty "list") (by rfl) T.b_list (by decide +kernel) rfl) pa_nil))))) (pw_or1 (pt_not (pt_val (pe_call G_law_same (hr.mono (by omega)) rfl B.law_same.m B.law_same.F.kp B.law_same.b .nil pass0 (pa_cons (pe_callTy call_tuple_of (by rfl) T.b_tuple (by decide +kernel) (pa_cons (pv 2) pa_nil)) (pa_cons (pe_callTy call_tuple_of (by rfl) T.b_tuple (by decide +kernel) (pa_cons (pv 1) pa_nil)) pa_nil)))))))) (pss_one (ps_ret pe_bl)) pss_nil)))
      (pss_one (ps_ret pe_bl)))), ?_⟩
    walk_at "rd"
    refine ⟨b, rs, rfl, hb, by omega, fun ds d0 xs0 H1 hk s1 nd0 hd0 hx0 => ?_⟩
    have hb1 := hb.s s1
    obtain ⟨as, hbb, hra⟩ := id hb1
    have hby := hra.by
    obtain ⟨z1, z2, z3⟩ := hk.size (fun r hr => ⟨hby r hr, hr6 r hr⟩) (by omega)
    walk_at "rd"
    show iList _ _ _ _ _
    refine rd_ilist ?_
    walk_at "rd"
    refine ⟨b, true, as, rs, rfl, hbb, hra, by omega, fun ds1 p1 xs1 H2 hk1 s2 np1 hp1 hx1 => ?_⟩
    have e1 := hk1.det hk
    subst e1
    walk_at "rd"
    refine ⟨b, _, rfl, .inl ⟨SqL.of (s2 _ _ hbb), fun t nt => ?_⟩⟩
    have s3 := same_new (o := .tup (as.map V.ref)) nt
    walk_at "rd"
    refine ⟨t, false, as, rs, rfl, upd_same, hra.kt (KT.same (s2.trans s3)), by omega, fun ds2 p2 xs2 H3 hk2 s4 np2 hp2 hx2 => ?_⟩
    have e2 := hk2.det hk
    subst e2
    have s34 := s3.trans s4
    have hp1' := s34 _ _ hp1
    have hx1' := hx1.s s34
    have hd0' := (s2.trans s34) _ _ hd0
    have hx0' := hx0.s (s2.trans s34)
    have s14 := (s1.trans s2).trans s34
    walk_at "rd"
    refine rd_disp rfl fun c nc => ?_
    have s5 := same_new (o := .lst [.ref p1, .ref p2]) nc
    walk_at "rd"
    have two : ∀ (i : Nat) (y : V), [V.ref p1, V.ref p2][i]? = some y → ∃ pp xs, y = .ref pp ∧ H3 pp = some (.lst xs) ∧ DtAll T.CP [] H3 ds2 xs := fun i y e => by
      match i, e with
      | 0, e =>
        injection e with e
        exact ⟨p1, xs1, e.symm, hp1', hx1'⟩
      | 1, e =>
        injection e with e
        exact ⟨p2, xs2, e.symm, hp2, hx2⟩
    refine ⟨c, rfl, ⟨_, SqL.of upd_same⟩, for_list (K := K) (a := c) (xs := [V.ref p1, V.ref p2]) (fun i σ H4 => Same (upd H3 c (.lst [.ref p1, .ref p2])) H4 ∧ ∃ u2 : Option V, σ = [some (.ref b), some (.ref d0), u2])
      ⟨Same.refl _, _, rfl⟩ (fun i σ H4 _ hh => SqL.of (hh.1 _ _ upd_same)) ?_ ?_⟩
    · rintro i y σ H4 hi ⟨hs, u2, rfl⟩
      obtain ⟨pp, xs, rfl, hpp, hxx⟩ := two i y hi
      have sA := s5.trans hs
      walk_at "rd"
      refine dt_isL T.W (dt_lst (CP := T.CP) (M := []) (by simp) (sA _ _ hpp) (hxx.s sA)) ?_
      walk_at "rd"
      refine rd_no rfl ?_
      walk_at "rd"
      refine ⟨pp, _, rfl, .inl ⟨SqL.of (sA _ _ hpp), fun t1 nt1 => ?_⟩⟩
      have s6 := same_new (o := .tup xs) nt1
      walk_at "rd"
      refine ⟨d0, _, rfl, .inl ⟨SqL.of ((sA.trans s6) _ _ hd0'), fun t2 nt2 => ?_⟩⟩
      have s7 := same_new (o := .tup xs0) nt2
      walk_at "rd"
      refine ⟨[], [], .tuple ds2, .ref t1, .ref t2, rfl, z1, z2, z3, dt_tup (s7 _ _ upd_same) (hxx.s ((sA.trans s6).trans s7)), dt_tup upd_same (hx0'.s ((sA.trans s6).trans s7)), fun H5 s8 => ?_⟩
      walk_at "rd"
      refine rd_no rfl ?_
      walk_at "rd"
      exact ⟨((hs.trans s6).trans s7).trans s8, _, rfl⟩
    · rintro σ H4 ⟨hs, u2, rfl⟩
      walk_at "rd"
      exact q H4 ((s14.trans s5).trans hs)
end
end Mw

/-! V7 -/
namespace Mw
open PySem L2
theorem rd_par {i j : Nat} {ta : TA} {D : Ends} {σ : L2.St} {H : Hp} (h : ta σ H fun vs H1 => ∃ v w, vs = [v, w] ∧ D.nx ((σ.set i (some v)).set j (some w)) H1) : tPar i j ta D σ H := h
/-- another disk is led: this one stays -/
theorem Led.other {C : Addr} {H H' : Hp} {p l a dl b a2 dl2 b2 : Addr} {n : Nat} {rs : List (List Int)} (h : Led C H p l a dl b n rs) (k : FK [p, l, a2, dl2, b2] H H') (hh : PoolAt H' p l) (n1 : a ∉ [a2, dl2, b2]) (n2 : dl ∉ [a2, dl2, b2]) (n3 : b ∉ [a2, dl2, b2]) : Led C H' p l a dl b n rs := by
  obtain ⟨m1, m2, m3, m4⟩ := h.ap
  simp only [List.mem_cons, List.not_mem_nil, or_false, not_or] at n1 n2 n3
  exact ⟨hh, h.disk.fk k (by simp [m1, m2, n1]) (by simp [h.dp, h.dl_, n2]), h.blks.fk k (by simp [h.bp, h.bl, n3]), h.db, h.dp, h.dl_, h.bp, h.bl, h.hn, h.rb⟩
/-- all stand -/
theorem Led.not {C : Addr} {H : Hp} {p l a dl b q : Addr} {n : Nat} {rs : List (List Int)} (h : Led C H p l a dl b n rs) (e : H q = none) : a ≠ q ∧ dl ≠ q ∧ b ≠ q ∧ p ≠ q ∧ l ≠ q := by
  obtain ⟨⟨dx, ha⟩, hd⟩ := h.disk
  obtain ⟨us, hp⟩ := h.pool.p
  obtain ⟨ws, hl⟩ := h.pool.l
  obtain ⟨zs, hb⟩ := h.blks.l
  obtain ⟨ys, hdl⟩ := hd.l
  exact ⟨ne_of_none ha e, ne_of_none hdl e, ne_of_none hb e, ne_of_none hp e, ne_of_none hl e⟩
section
variable {P : Program} {w : World} {K : PySem.W.Frag} {mg : Str → Option Value} {base : Heap}
local macro_rules | `(tactic| walk_at "rd") => `(tactic| (repeat (first
  | ((with_reducible refine' rd_var ?h0 ?_); (case h0 => rfl))
  | with_reducible refine rd_c ?_
  | with_reducible refine rd_op ?_
  | with_reducible refine rd_nil ?_
  | with_reducible refine rd_cons ?_
  | with_reducible refine rd_tup ?_
  | with_reducible refine rd_lst ?_
  | with_reducible refine rd_ifs ?_
  | with_reducible refine rd_seq ?_
  | with_reducible refine rd_next ?_
  | with_reducible refine rd_ret ?_
  | with_reducible refine rd_asg ?_
  | ((with_reducible refine' rd_gset ?hs ?_); (case hs => ((simp only [L2.start, List.map_cons, List.map_nil, List.length_cons, List.length_nil, List.cons_append, List.nil_append, List.set_cons_zero, List.set_cons_succ, Nat.reduceAdd, Nat.reduceSub, Nat.zero_add, List.reduceReplicate]); rfl)))
  | with_reducible refine rd_drop ?_
  | with_reducible refine rd_test ?_
  | with_reducible refine rd_B ?_
  | with_reducible refine rd_bl ?_
  | with_reducible refine rd_blP ?_
  | with_reducible refine rd_andV ?_
  | with_reducible refine rd_orV ?_
  | with_reducible refine rd_notV ?_
  | with_reducible refine rd_and ?_
  | with_reducible refine rd_or ?_
  | with_reducible refine rd_not ?_
  | with_reducible refine rd_chain ?_
  | with_reducible refine rd_dput ?_
  | with_reducible refine rd_dget ?_
  | with_reducible refine rd_cb ?_
  | with_reducible refine rd_call ?_
  | with_reducible refine rd_un ?_
  | with_reducible refine rd_sl ?_
  | with_reducible refine rd_nopart ?_
  | with_reducible refine rd_part ?_
  | with_reducible refine rd_intP ?_
  | with_reducible refine rd_rU ?_
  | with_reducible refine rd_fld ?_
  | with_reducible refine rd_eqI ?_
  | with_reducible refine rd_neI ?_
  | with_reducible refine rd_mko ?_
  | with_reducible refine rd_bm ?_
  | with_reducible refine rd_gsub ?_
  | with_reducible refine rd_i0 ?_)))
theorem ok_law (T : Tx K mg) (B : Bk K mg T) : FnOk P w K mg base CX0 51 B.law.f B.law.fd ["_law_script"] (spLaw K) := by
  have G_law_pool := ok_law_pool (P := P) (w := w) (base := base) T B
  have G_law_draw := ok_law_draw (P := P) (w := w) (base := base) T B
  have G_law_led := ok_led (P := P) (w := w) (base := base) T B
  have G_law_parcels_right := ok_pr (P := P) (w := w) (base := base) T B
  have G_Disk_init := ok_disk_init (P := P) (w := w) (base := base) T B
  have G_Disk_copy := ok_dcopy (P := P) (w := w) (base := base) T B
  have G_Disk_blocks := ok_blocks (P := P) (w := w) (base := base) T B
  refine B.law.F.ok sc_law (fun vs H Q E h => ?_) (fun cdv A outer s H vs Q E hr h => ?_)
  · obtain ⟨a, ns, rfl, _⟩ := h
    rfl
  · obtain ⟨sc, ns, rfl, ha, q⟩ := h
    refine ⟨_, (pss_cons (ps_set (i := 1) sc_law.nd rfl (Or.inl rfl) (pe_call G_law_pool (hr.mono (by omega)) rfl B.law_pool.m B.law_pool.F.kp B.law_pool.b .nil pass0 (pa_cons (pv 0) pa_nil)))
      (pss_cons (ps_for PassesOwn.never rfl (pi_range1 (by rfl) T.b_range (pa_cons pe_int pa_nil)) (pg_name (i := 2) sc_law.nd rfl (Or.inl rfl)) (pss_cons (ps_par (i := 3) (j := 4) rfl sc_law.nd rfl rfl (by decide) rfl rfl (pa_cons (pe_make0 (mk_of_Disk T B.Disk_init) G_Disk_init (hr.mono (by omega)) rfl T.g_Disk B.Disk_init.b .nil pass0) (pa_cons (pe_lst pa_nil) pa_nil)) rfl)
      (pss_cons (ps_set (i := 5) sc_law.nd rfl (Or.inl rfl) (pe_call G_law_led (hr.mono (by omega)) rfl B.law_led.m B.law_led.F.kp B.law_led.b .nil pass0 (pa_cons (pv 1) (pa_cons (pv 3) (pa_cons (pv 4) (pa_cons pe_int (pa_cons (pe_call G_law_draw (hr.mono (by omega)) rfl B.law_draw.m B.law_draw.F.kp B.law_draw.b .nil pass0 (pa_cons (pv 1) (pa_cons pe_int pa_nil))) pa_nil)))))))
      (pss_cons (ps_if (PW.pt (pw_or (pt_cmpR op_isN (pv 5) pe_non (nomark _)) (pw_or1 (pt_not (pt_val (pe_call G_law_parcels_right (hr.mono (by omega)) rfl B.law_parcels_right.m B.law_parcels_right.F.kp B.law_parcels_right.b .nil pass0 (pa_cons (pv 4) pa_nil))))))) (pss_one (ps_ret pe_bl)) pss_nil)
      (pss_cons (ps_par (i := 6) (j := 7) rfl sc_law.nd rfl rfl (by decide) rfl rfl (pa_cons (pe_meth0 (pv 3) T.W_Disk.cl ⟨B.Disk_copy.a, B.Disk_copy.i, B.Disk_copy.F.kp⟩ G_Disk_copy (hr.mono (by omega)) B.Disk_copy.b .nil pass0) (pa_cons (pe_callTy call_list_of (by rfl) T.b_list (by decide +kernel) (pa_cons (pv 4) pa_nil)) pa_nil)) rfl)
      (pss_cons (ps_if (PW.pt (pw_or (pt_cmpR op_isN (pe_call G_law_led (hr.mono (by omega)) rfl B.law_led.m B.law_led.F.kp B.law_led.b .nil pass0 (pa_cons (pv 1) (pa_cons (pv 6) (pa_cons (pv 7) (pa_cons (pv 5) (pa_cons (pe_call G_law_draw (hr.mono (by omega)) rfl B.law_draw.m B.law_draw.F.kp B.law_draw.b .nil pass0 (pa_cons (pv 1) (pa_cons pe_int pa_nil))) pa_nil)))))) pe_non (nomark _)) (pw_or1 (pt_cmpR (op_neD hr.units) (pe_meth0 (pv 3) T.W_Disk.cl ⟨B.Disk_blocks.a, B.Disk_blocks.i, B.Disk_blocks.F.kp⟩ G_Disk_blocks (hr.mono (by omega)) B.Disk_blocks.b .nil pass0) (pv 4) (nomark _))))) (pss_one (ps_ret pe_bl)) pss_nil)
      (pss_cons (ps_if (PW.pt (pw_or (pt_cmpR op_isN (pe_call G_law_led (hr.mono (by omega)) rfl B.law_led.m B.law_led.F.kp B.law_led.b .nil pass0 (pa_cons (pv 1) (pa_cons (pv 3) (pa_cons (pv 4) (pa_cons (pv 5) (pa_cons (pe_call G_law_draw (hr.mono (by omega)) rfl B.law_draw.m B.law_draw.F.kp B.law_draw.b .nil pass0 (pa_cons (pv 1) (pa_cons pe_int pa_nil))) pa_nil)))))) pe_non (nomark _)) (pw_or1 (pt_cmpR (op_neD hr.units) (pe_meth0 (pv 6) T.W_Disk.cl ⟨B.Disk_blocks.a, B.Disk_blocks.i, B.Disk_blocks.F.kp⟩ G_Disk_blocks (hr.mono (by omega)) B.Disk_blocks.b .nil pass0) (pv 7) (nomark _))))) (pss_one (ps_ret pe_bl)) pss_nil)
      (pss_cons (ps_if (PW.pt (pw_or (pt_not (pt_val (pe_call G_law_parcels_right (hr.mono (by omega)) rfl B.law_parcels_right.m B.law_parcels_right.F.kp B.law_parcels_right.b .nil pass0 (pa_cons (pv 4) pa_nil)))) (pw_or1 (pt_not (pt_val (pe_call G_law_parcels_right (hr.mono (by omega)) rfl B.law_parcels_right.m B.law_parcels_right.F.kp B.law_parcels_right.b .nil pass0 (pa_cons (pv 7) pa_nil))))))) (pss_one (ps_ret pe_bl)) pss_nil)
      (pss_cons (ps_expr (pe_bm PySem.F.plainAttrs_list PySem.F.slot_list_append PySem.F.type_list_append mt_append (pe_meth0 (pv 3) T.W_Disk.cl ⟨B.Disk_blocks.a, B.Disk_blocks.i, B.Disk_blocks.F.kp⟩ G_Disk_blocks (hr.mono (by omega)) B.Disk_blocks.b .nil pass0) (pa_cons (pe_tup pa_nil) pa_nil)))
      (pss_one (ps_if (pt_cmpR (op_neD hr.units) (pe_meth0 (pv 3) T.W_Disk.cl ⟨B.Disk_blocks.a, B.Disk_blocks.i, B.Disk_blocks.F.kp⟩ G_Disk_blocks (hr.mono (by omega)) B.Disk_blocks.b .nil pass0) (pv 4) (nomark _)) (pss_one (ps_ret pe_bl)) pss_nil)))))))))))
      (pss_one (ps_ret pe_bl)))), ?_⟩
    walk_at "rd"
    refine ⟨sc, ns, rfl, ha, fun p l H0 np nl hh0 s0 => ?_⟩
    walk_at "rd"
    refine ⟨2, rfl, by decide, by decide, for_range (lo := 0) (n := 2) (fun i σ H1 => PoolAt H1 p l ∧ ∃ u2 u3 u4 u5 u6 u7 : Option V, σ = [some (.ref sc), some (.ref p), u2, u3, u4, u5, u6, u7])
      ⟨hh0, _, _, _, _, _, _, rfl⟩ ?_ ?_⟩
    · rintro i σ H1 hi ⟨hh1, u2, u3, u4, u5, u6, u7, rfl⟩
      walk_at "rd"
      refine rd_par ?_
      walk_at "rd"
      refine rd_make ?_
      walk_at "rd"
      intro a dx na ndx ne
      have S0 : Same H1 (upd (upd H1 dx (.own a)) a (.ins T.c_Disk dx [])) := fun z o e => by
        rw [upd_ne (ne_of_none e na), upd_ne (ne_of_none e ndx)]
        exact e
      refine ⟨a, dx, rfl, upd_same, fun dl H2 f2 ndl nda hd => ⟨rfl, ?_⟩⟩
      have ndl1 := S0.free ndl
      have S1 : Same H1 H2 := fun z o e => f2.at (by simpa using ne_of_none e na) (S0 _ _ e)
      walk_at "rd"
      refine rd_disp rfl fun b nb => ?_
      have s3 := same_new (o := .lst []) nb
      obtain ⟨us, hp⟩ := hh1.p
      obtain ⟨ws, hl⟩ := hh1.l
      obtain ⟨ys, hdl⟩ := hd.2.l
      have hL3 : Led T.c_Disk (upd H2 b (.lst [])) p l a dl b 0 [] := ⟨(hh1.same S1).same s3, hd.s s3, ⟨[], upd_same, RAll.nil⟩, ne_of_none hdl nb, (ne_of_none hp ndl1).symm, (ne_of_none hl ndl1).symm, (ne_of_none (S1 _ _ hp) nb).symm, (ne_of_none (S1 _ _ hl) nb).symm, Nat.zero_le _, fun r hr => by cases hr⟩
      generalize upd H2 b (.lst []) = H3 at hL3
      clear s3 hp hl hdl hd nb S1 ndl1 nda f2 ndl S0 ne na ndx hh1
      refine ⟨_, _, rfl, ?_⟩
      dsimp only [List.set]
      walk_at "rd"
      refine ⟨p, l, _, rfl, by decide, by decide, hL3.pool, fun m H4 m0 m1 hh4 k4 => ?_⟩
      have hL4 := hL3.pl k4 hh4
      obtain ⟨m, rfl⟩ := Int.eq_ofNat_of_zero_le m0
      clear hL3 k4 hh4
      walk_at "rd"
      refine ⟨p, l, a, dl, b, 0, [], m, rfl, hL4, by omega, by simp; omega, fun dl1 n1 rs1 H5 hI5 hr5 => ?_⟩
      have hL5 := hI5.led
      have lr1 : rs1.length ≤ 15 := by
        have : ([] : List (List Int)).length + m ≤ 15 := by simp; omega
        omega
      clear hI5 hr5 hL4
      walk_at "rd"
      refine ⟨rfl, ?_⟩
      walk_at "rd"
      refine rd_no rfl ?_
      walk_at "rd"
      refine ⟨b, rs1, rfl, hL5.blks, by omega, hL5.rb, fun H6 s6 => ?_⟩
      have hL6 := hL5.s s6
      clear s6 hL5
      walk_at "rd"
      refine rd_no rfl ?_
      walk_at "rd"
      refine rd_par ?_
      walk_at "rd"
      refine rd_meth ?_
      walk_at "rd"
      obtain ⟨⟨dx6, ha6⟩, _⟩ := id hL6.disk
      refine ⟨a, dx6, _, rfl, ha6, rfl, ?_⟩
      walk_at "rd"
      refine ⟨a, dl1, n1, rs1, rfl, hL6.disk, fun a2 l2 H7 s7 na2 nl2 hd7 => ?_⟩
      obtain ⟨x1, x2, x3, x4, x5⟩ := hL6.not na2
      obtain ⟨y1, y2, y3, y4, y5⟩ := hL6.not nl2
      have hL7 := hL6.s s7
      obtain ⟨as7, hb7, hra7⟩ := id hL7.blks
      walk_at "rd"
      refine ⟨b, _, rfl, .inl (SqL.of hb7), fun b2 nb2 => ?_⟩
      have s8 := same_new (o := .lst (as7.map V.ref)) nb2
      obtain ⟨z1, z2, z3, z4, z5⟩ := hL7.not nb2
      have hL8 := hL7.s s8
      obtain ⟨ys2, hl2⟩ := hd7.2.l
      have n22 := hd7.ne
      obtain ⟨⟨dq, ha2⟩, _⟩ := id hd7
      have hM8 : Led T.c_Disk (upd H7 b2 (.lst (as7.map V.ref))) p l a2 l2 b2 n1 rs1 := ⟨hL8.pool, hd7.s s8, ⟨as7, upd_same, hra7.kt (KT.same s8)⟩, ne_of_none hl2 nb2, y4.symm, y5.symm, z4.symm, z5.symm, hL8.hn, hL8.rb⟩
      generalize upd H7 b2 (.lst (as7.map V.ref)) = H8 at hL8 hM8
      clear s8 hl2 ha2 n22 nb2 hra7 hb7 hL7 hd7 s7 na2 nl2 hL6 ha6
      refine ⟨_, _, rfl, ?_⟩
      dsimp only [List.set]
      walk_at "rd"
      refine ⟨p, l, _, rfl, by decide, by decide, hL8.pool, fun m2 H9 m20 m21 hh9 k9 => ?_⟩
      have hL9 := hL8.pl k9 hh9
      have hM9 := hM8.pl k9 hh9
      obtain ⟨m2, rfl⟩ := Int.eq_ofNat_of_zero_le m20
      clear hL8 hM8 k9 hh9
      walk_at "rd"
      refine ⟨p, l, a2, l2, b2, n1, rs1, m2, rfl, hM9, by omega, by omega, fun l3 n2 rs2 H10 hI10 hr10 => ?_⟩
      have hM10 := hI10.led
      have hL10 := hL9.other hI10.fk hM10.pool (by simp [x1, y1, z1]) (by simp [x2, y2, z2]) (by simp [x3, y3, z3])
      have l3n : a ≠ l3 ∧ dl1 ≠ l3 ∧ b ≠ l3 := by
        rcases hI10.new with z | z
        · rw [z]
          exact ⟨y1, y2, y3⟩
        · obtain ⟨w1, w2, w3, _⟩ := hL9.not z
          exact ⟨w1, w2, w3⟩
      clear hI10 hL9 hM9
      walk_at "rd"
      refine ⟨rfl, ?_⟩
      walk_at "rd"
      refine rd_no rfl ?_
      walk_at "rd"
      refine rd_meth ?_
      walk_at "rd"
      obtain ⟨⟨dx10, ha10⟩, _⟩ := id hL10.disk
      refine ⟨a, dx10, _, rfl, ha10, rfl, ?_⟩
      walk_at "rd"
      refine ⟨a, dl1, n1, rs1, rfl, hL10.disk, fun c11 H11 s11 nc11 hc11 => ?_⟩
      have hL11 := hL10.s s11
      have hM11 := hM10.s s11
      clear hL10 hM10 ha10
      walk_at "rd"
      refine rd_neL hc11 hL11.blks ?_
      walk_at "rd"
      refine rd_no rfl ?_
      clear hc11 nc11 s11
      walk_at "rd"
      refine ⟨p, l, _, rfl, by decide, by decide, hL11.pool, fun m3 H12 m30 m31 hh12 k12 => ?_⟩
      have hL12 := hL11.pl k12 hh12
      have hM12 := hM11.pl k12 hh12
      obtain ⟨m3, rfl⟩ := Int.eq_ofNat_of_zero_le m30
      clear hL11 hM11 k12 hh12
      walk_at "rd"
      refine ⟨p, l, a, dl1, b, n1, rs1, m3, rfl, hL12, by omega, by omega, fun dl2 n3 rs3 H13 hI13 hr13 => ?_⟩
      have hL13 := hI13.led
      have hM13 := hM12.other hI13.fk hL13.pool (by simp [x1.symm, x2.symm, x3.symm]) (by simp [l3n.1.symm, l3n.2.1.symm, l3n.2.2.symm]) (by simp [z1.symm, z2.symm, z3.symm])
      clear hI13 hL12 hM12
      walk_at "rd"
      refine ⟨rfl, ?_⟩
      walk_at "rd"
      refine rd_no rfl ?_
      walk_at "rd"
      refine rd_meth ?_
      walk_at "rd"
      obtain ⟨⟨dx13, ha13⟩, _⟩ := id hM13.disk
      refine ⟨a2, dx13, _, rfl, ha13, rfl, ?_⟩
      walk_at "rd"
      refine ⟨a2, l3, n2, rs2, rfl, hM13.disk, fun c14 H14 s14 nc14 hc14 => ?_⟩
      have hL14 := hL13.s s14
      have hM14 := hM13.s s14
      clear hL13 hM13 ha13
      walk_at "rd"
      refine rd_neL hc14 hM14.blks ?_
      walk_at "rd"
      refine rd_no rfl ?_
      clear hc14 nc14 s14
      walk_at "rd"
      refine ⟨b, rs3, rfl, hL14.blks, by omega, hL14.rb, fun H15 s15 => ?_⟩
      have hL15 := hL14.s s15
      have hM15 := hM14.s s15
      clear hL14 hM14 s15
      walk_at "rd"
      refine rd_no rfl ?_
      walk_at "rd"
      refine ⟨b2, rs2, rfl, hM15.blks, by omega, hM15.rb, fun H16 s16 => ?_⟩
      have hL16 := hL15.s s16
      clear hL15 hM15 s16
      walk_at "rd"
      refine rd_no rfl ?_
      walk_at "rd"
      refine rd_meth ?_
      walk_at "rd"
      obtain ⟨⟨dx16, ha16⟩, _⟩ := id hL16.disk
      refine ⟨a, dx16, _, rfl, ha16, rfl, ?_⟩
      walk_at "rd"
      refine ⟨a, dl2, n3, rs3, rfl, hL16.disk, fun c H17 s17 nc hc => ?_⟩
      obtain ⟨w1, w2, w3, w4, w5⟩ := hL16.not nc
      have hL17 := hL16.s s17
      obtain ⟨as17, hc17, hrc⟩ := hc
      refine ⟨.inl ⟨rfl, _, SqL.of hc17⟩, ?_⟩
      walk_at "rd"
      refine rd_disp rfl fun e ne => ?_
      have s18 := same_new (o := .tup []) ne
      have hL18 := hL17.s s18
      have hc18 := s18 _ _ hc17
      have lrc := hrc.1
      walk_at "rd"
      refine rd_append hc18 (small' (by rw [List.length_map]; omega)) ?_
      have f19 := FK.mutL (M := [c]) (o := .lst (as17.map V.ref ++ [.ref e])) (by simp) hc18
      have hL19 : Led T.c_Disk _ p l a dl2 b n3 rs3 := ⟨hL18.pool.fk f19 (by simp [w4]) (by simp [w5]), hL18.disk.fk f19 (by simp [w1]) (by simp [w2]), hL18.blks.fk f19 (by simp [w3]), hL18.db, hL18.dp, hL18.dl_, hL18.bp, hL18.bl, hL18.hn, hL18.rb⟩
      walk_at "rd"
      refine rd_meth ?_
      walk_at "rd"
      obtain ⟨⟨dx19, ha19⟩, _⟩ := id hL19.disk
      refine ⟨a, dx19, _, rfl, ha19, rfl, ?_⟩
      walk_at "rd"
      refine ⟨a, dl2, n3, rs3, rfl, hL19.disk, fun c20 H20 s20 nc20 hc20 => ?_⟩
      have hL20 := hL19.s s20
      walk_at "rd"
      refine rd_neL hc20 hL20.blks ?_
      walk_at "rd"
      refine rd_no rfl ?_
      walk_at "rd"
      exact ⟨hL20.pool, _, _, _, _, _, _, rfl⟩
    · rintro σ H1 ⟨hh1, u2, u3, u4, u5, u6, u7, rfl⟩
      walk_at "rd"
      exact q H1
end
end Mw

/-! Z1 -/
namespace Mw
open PySem L2
theorem kit_bt {K : PySem.W.Frag} {C : Addr} {T : String} {b : Bool} (h : PySem.W.mroIn K C (.type T) = some b) (hm : PySem.W.kitMeta T = true) (hne : (Value.ref C == .type T) = false) : PySem.W.kitOne K (.ref C) (.type T) = some b := by
  unfold PySem.W.kitOne PySem.W.kitCls
  rw [if_neg (by rw [hne]; simp)]
  simp only [hm, if_true]
  exact h
theorem kit_cls {K : PySem.W.Frag} {t : Value} {C : Addr} {b : Bool} (hne : (t == .ref C) = false) (h2 : PySem.W.isClsIn K C = true) (h3 : PySem.W.typeIn K (.ref C) = some (.type "type")) (h : PySem.W.subIn K t (.ref C) = some b) : PySem.W.kitOne K t (.ref C) = some b := by
  have e2 : ((PySem.W.clsIn K C).isSome && PySem.W.typeIn K (.ref C) == some (.type "type")) = true := by
    have h2' : (PySem.W.clsIn K C).isSome = true := h2
    rw [h2', h3] <;> rfl
  unfold PySem.W.kitOne PySem.W.kitCls
  rw [if_neg (by rw [hne]; simp)]
  simp only [e2]
  exact h
theorem exm_cls {K : PySem.W.Frag} {S D : Addr} {b : Bool} (h1 : PySem.W.subIn K (.ref D) (.type "BaseException") = some true) (h2 : PySem.W.isClsIn K D = true) (h3 : PySem.W.typeIn K (.ref D) = some (.type "type")) (h4 : PySem.W.subIn K (.ref S) (.ref D) = some b) : PySem.W.exmOne K (.ref S) (.ref D) = some b := by
  have e2 : ((PySem.W.clsIn K D).isSome && PySem.W.typeIn K (.ref D) == some (.type "type")) = true := by
    have h2' : (PySem.W.clsIn K D).isSome = true := h2
    rw [h2', h3] <;> rfl
  unfold PySem.W.exmOne PySem.W.kitCls
  rw [if_pos (by rw [h1] <;> rfl)]
  simp only [e2]
  exact h4
theorem kit_subT {K : PySem.W.Frag} {C : Addr} {T : String} (hm : PySem.W.kitMeta T = true) (h : PySem.W.subIn K (.ref C) (.type T) = some true) : PySem.W.kitOne K (.ref C) (.type T) = some true := by
  unfold PySem.W.kitOne PySem.W.kitCls
  split
  · rfl
  · simp only [hm, if_true]
    exact h
theorem kit_subR {K : PySem.W.Frag} {A C : Addr} (h2 : PySem.W.isClsIn K C = true) (h3 : PySem.W.typeIn K (.ref C) = some (.type "type")) (h : PySem.W.subIn K (.ref A) (.ref C) = some true) : PySem.W.kitOne K (.ref A) (.ref C) = some true := by
  have e2 : ((PySem.W.clsIn K C).isSome && PySem.W.typeIn K (.ref C) == some (.type "type")) = true := by
    have h2' : (PySem.W.clsIn K C).isSome = true := h2
    rw [h2', h3] <;> rfl
  unfold PySem.W.kitOne PySem.W.kitCls
  split
  · rfl
  · simp only [e2]
    exact h
theorem tup_not {K : PySem.W.Frag} {C : Addr} : PySem.W.subIn K (.type "tuple") (.ref C) = some false := rfl
theorem fin_of {l : PySem.W.OpenLaw} {w : World} {K : PySem.W.Frag} {mg : Str → Option Value} {fa : Addr} (T : Tx K mg) (B : Bk K mg T) (hfa : mg "law" = some (.ref fa)) (hb : ∀ (s : Shared) (v : Value), BindsTo s B.law.fd ⟨[v], []⟩ [("_law_script", v)]) :
    ∃ fd : FuncData, (∀ (s : Shared) (v : Value), BindsTo s fd ⟨[v], []⟩ [("_law_script", v)]) ∧ ∀ base : Heap, K.In base → base.Ns mainGlobals mg → FnOk l.prog w K mg base CX0 51 fa fd ["_law_script"] (spLaw K) := by
  have e : fa = B.law.f := by
    have z := hfa.symm.trans B.law.m
    injection z with z
    injection z
  subst e
  exact ⟨B.law.fd, hb, fun base _ _ => ok_law T B⟩
theorem all_mk {l : PySem.W.OpenLaw} {w : World} {K : PySem.W.Frag} {h : Heap} {mg : Str → Option Value} {fa c_Disk c_NoNumber c_NoCut c_NoBlocks c_NoRow c_BadRow f0 f1 f2 f3 f4 f5 f6 f7 f8 f9 f10 f11 f12 f13 f14 f15 f16 f17 f18 f19 f20 f21 f22 f23 f24 f25 f26 f27 f28 f29 f30 f31 f32 f33 f34 f35 f36 f37 f38 f39 f40 f41 f42 f43 f44 f45 f46 f47 f48 f49 f50 f51 f52 : Addr} (X : K.In h) (G : h.Ns mainGlobals mg) (hfa : mg "law" = some (.ref fa)) {tk1 tk2 tk3 tk4 tk6 tk7 tk8 tk9 tk10 tk11 tk12 tk13 tk14 tk15 tk16 tk17 : Tok}
    {nm0 q0 : Str} {N0 ss0 : Addr} {bs0 : List Value} {sn0 : List Str} {sub0 : List Value} {ab0 : Bool} {col0 : Option Bool} {dd0 : Option Addr} {ma0 mb0 mc0 md0 me0 : Option Value} {nm1 q1 : Str} {N1 ss1 : Addr} {bs1 : List Value} {sn1 : List Str} {sub1 : List Value} {ab1 : Bool} {col1 : Option Bool} {dd1 : Option Addr} {ma1 mb1 mc1 md1 me1 : Option Value} {nm2 q2 : Str} {N2 ss2 : Addr} {bs2 : List Value} {sn2 : List Str} {sub2 : List Value} {ab2 : Bool} {col2 : Option Bool} {dd2 : Option Addr} {ma2 mb2 mc2 md2 me2 : Option Value} {nm3 q3 : Str} {N3 ss3 : Addr} {bs3 : List Value} {sn3 : List Str} {sub3 : List Value} {ab3 : Bool} {col3 : Option Bool} {dd3 : Option Addr} {ma3 mb3 mc3 md3 me3 : Option Value} {nm4 q4 : Str} {N4 ss4 : Addr} {bs4 : List Value} {sn4 : List Str} {sub4 : List Value} {ab4 : Bool} {col4 : Option Bool} {dd4 : Option Addr} {ma4 mb4 mc4 md4 me4 : Option Value}
    {od0 an0 : Option Addr} {sl0 : Array (Option Value)} {oc0 kV0 dc0 pm0 cd0 ct0 : Value}
    {od1 an1 : Option Addr} {sl1 : Array (Option Value)} {oc1 kV1 dc1 pm1 cd1 ct1 : Value}
    {od2 an2 : Option Addr} {sl2 : Array (Option Value)} {oc2 kV2 dc2 pm2 cd2 ct2 : Value}
    {od3 an3 : Option Addr} {sl3 : Array (Option Value)} {oc3 kV3 dc3 pm3 cd3 ct3 : Value}
    {od4 an4 : Option Addr} {sl4 : Array (Option Value)} {oc4 kV4 dc4 pm4 cd4 ct4 : Value}
    {od5 an5 : Option Addr} {sl5 : Array (Option Value)} {oc5 kV5 dc5 pm5 cd5 ct5 : Value}
    {od6 an6 : Option Addr} {sl6 : Array (Option Value)} {oc6 kV6 dc6 pm6 cd6 ct6 : Value}
    {od7 an7 : Option Addr} {sl7 : Array (Option Value)} {oc7 kV7 dc7 pm7 cd7 ct7 : Value}
    {od8 an8 : Option Addr} {sl8 : Array (Option Value)} {oc8 kV8 dc8 pm8 cd8 ct8 : Value}
    {od9 an9 : Option Addr} {sl9 : Array (Option Value)} {oc9 kV9 dc9 pm9 cd9 ct9 : Value}
    {od10 an10 : Option Addr} {sl10 : Array (Option Value)} {oc10 kV10 dc10 pm10 cd10 ct10 : Value}
    {od11 an11 : Option Addr} {sl11 : Array (Option Value)} {oc11 kV11 dc11 pm11 cd11 ct11 : Value}
    {od12 an12 : Option Addr} {sl12 : Array (Option Value)} {oc12 kV12 dc12 pm12 cd12 ct12 : Value}
    {od13 an13 : Option Addr} {sl13 : Array (Option Value)} {oc13 kV13 dc13 pm13 cd13 ct13 : Value}
    {od14 an14 : Option Addr} {sl14 : Array (Option Value)} {oc14 kV14 dc14 pm14 cd14 ct14 : Value}
    {od15 an15 : Option Addr} {sl15 : Array (Option Value)} {oc15 kV15 dc15 pm15 cd15 ct15 : Value}
    {od16 an16 : Option Addr} {sl16 : Array (Option Value)} {oc16 kV16 dc16 pm16 cd16 ct16 : Value}
    {od17 an17 : Option Addr} {sl17 : Array (Option Value)} {oc17 kV17 dc17 pm17 cd17 ct17 : Value}
    {od18 an18 : Option Addr} {sl18 : Array (Option Value)} {oc18 kV18 dc18 pm18 cd18 ct18 : Value}
    {od19 an19 : Option Addr} {sl19 : Array (Option Value)} {oc19 kV19 dc19 pm19 cd19 ct19 : Value}
    {od20 an20 : Option Addr} {sl20 : Array (Option Value)} {oc20 kV20 dc20 pm20 cd20 ct20 : Value}
    {od21 an21 : Option Addr} {sl21 : Array (Option Value)} {oc21 kV21 dc21 pm21 cd21 ct21 : Value}
    {od22 an22 : Option Addr} {sl22 : Array (Option Value)} {oc22 kV22 dc22 pm22 cd22 ct22 : Value}
    {od23 an23 : Option Addr} {sl23 : Array (Option Value)} {oc23 kV23 dc23 pm23 cd23 ct23 : Value}
    {od24 an24 : Option Addr} {sl24 : Array (Option Value)} {oc24 kV24 dc24 pm24 cd24 ct24 : Value}
    {od25 an25 : Option Addr} {sl25 : Array (Option Value)} {oc25 kV25 dc25 pm25 cd25 ct25 : Value}
    {od26 an26 : Option Addr} {sl26 : Array (Option Value)} {oc26 kV26 dc26 pm26 cd26 ct26 : Value}
    {od27 an27 : Option Addr} {sl27 : Array (Option Value)} {oc27 kV27 dc27 pm27 cd27 ct27 : Value}
    {od28 an28 : Option Addr} {sl28 : Array (Option Value)} {oc28 kV28 dc28 pm28 cd28 ct28 : Value}
    {od29 an29 : Option Addr} {sl29 : Array (Option Value)} {oc29 kV29 dc29 pm29 cd29 ct29 : Value}
    {od30 an30 : Option Addr} {sl30 : Array (Option Value)} {oc30 kV30 dc30 pm30 cd30 ct30 : Value}
    {od31 an31 : Option Addr} {sl31 : Array (Option Value)} {oc31 kV31 dc31 pm31 cd31 ct31 : Value}
    {od32 an32 : Option Addr} {sl32 : Array (Option Value)} {oc32 kV32 dc32 pm32 cd32 ct32 : Value}
    {od33 an33 : Option Addr} {sl33 : Array (Option Value)} {oc33 kV33 dc33 pm33 cd33 ct33 : Value}
    {od34 an34 : Option Addr} {sl34 : Array (Option Value)} {oc34 kV34 dc34 pm34 cd34 ct34 : Value}
    {od35 an35 : Option Addr} {sl35 : Array (Option Value)} {oc35 kV35 dc35 pm35 cd35 ct35 : Value}
    {od36 an36 : Option Addr} {sl36 : Array (Option Value)} {oc36 kV36 dc36 pm36 cd36 ct36 : Value}
    {od37 an37 : Option Addr} {sl37 : Array (Option Value)} {oc37 kV37 dc37 pm37 cd37 ct37 : Value}
    {od38 an38 : Option Addr} {sl38 : Array (Option Value)} {oc38 kV38 dc38 pm38 cd38 ct38 : Value}
    {od39 an39 : Option Addr} {sl39 : Array (Option Value)} {oc39 kV39 dc39 pm39 cd39 ct39 : Value}
    {od40 an40 : Option Addr} {sl40 : Array (Option Value)} {oc40 kV40 dc40 pm40 cd40 ct40 : Value}
    {od41 an41 : Option Addr} {sl41 : Array (Option Value)} {oc41 kV41 dc41 pm41 cd41 ct41 : Value}
    {od42 an42 : Option Addr} {sl42 : Array (Option Value)} {oc42 kV42 dc42 pm42 cd42 ct42 : Value}
    {od43 an43 : Option Addr} {sl43 : Array (Option Value)} {oc43 kV43 dc43 pm43 cd43 ct43 : Value}
    {od44 an44 : Option Addr} {sl44 : Array (Option Value)} {oc44 kV44 dc44 pm44 cd44 ct44 : Value}
    {od45 an45 : Option Addr} {sl45 : Array (Option Value)} {oc45 kV45 dc45 pm45 cd45 ct45 : Value}
    {od46 an46 : Option Addr} {sl46 : Array (Option Value)} {oc46 kV46 dc46 pm46 cd46 ct46 : Value}
    {od47 an47 : Option Addr} {sl47 : Array (Option Value)} {oc47 kV47 dc47 pm47 cd47 ct47 : Value}
    {od48 an48 : Option Addr} {sl48 : Array (Option Value)} {oc48 kV48 dc48 pm48 cd48 ct48 : Value}
    {od49 an49 : Option Addr} {sl49 : Array (Option Value)} {oc49 kV49 dc49 pm49 cd49 ct49 : Value}
    {od50 an50 : Option Addr} {sl50 : Array (Option Value)} {oc50 kV50 dc50 pm50 cd50 ct50 : Value}
    {od51 an51 : Option Addr} {sl51 : Array (Option Value)} {oc51 kV51 dc51 pm51 cd51 ct51 : Value}
    {od52 an52 : Option Addr} {sl52 : Array (Option Value)} {oc52 kV52 dc52 pm52 cd52 ct52 : Value}
    (g_c_Disk : PySem.W.nsIn K mainGlobals "Disk" = some (some (.ref c_Disk)))
    (g_c_NoNumber : PySem.W.nsIn K mainGlobals "NoNumber" = some (some (.ref c_NoNumber)))
    (g_c_NoCut : PySem.W.nsIn K mainGlobals "NoCut" = some (some (.ref c_NoCut)))
    (g_c_NoBlocks : PySem.W.nsIn K mainGlobals "NoBlocks" = some (some (.ref c_NoBlocks)))
    (g_c_NoRow : PySem.W.nsIn K mainGlobals "NoRow" = some (some (.ref c_NoRow)))
    (g_c_BadRow : PySem.W.nsIn K mainGlobals "BadRow" = some (some (.ref c_BadRow)))
    (g_NONE : PySem.W.nsIn K mainGlobals "NONE" = some (some (.int 0 tk1)))
    (g_NO : PySem.W.nsIn K mainGlobals "NO" = some (some (.int 1 tk2)))
    (g_YES : PySem.W.nsIn K mainGlobals "YES" = some (some (.int 2 tk3)))
    (g_FROM_ZERO : PySem.W.nsIn K mainGlobals "FROM_ZERO" = some (some (.int 3 tk4)))
    (g_STRING : PySem.W.nsIn K mainGlobals "STRING" = some (some (.int 5 tk6)))
    (g_TUPLE : PySem.W.nsIn K mainGlobals "TUPLE" = some (some (.int 6 tk7)))
    (g_MOST_SIGNS : PySem.W.nsIn K mainGlobals "MOST_SIGNS" = some (some (.int 20 tk8)))
    (g_MOST_DEEP : PySem.W.nsIn K mainGlobals "MOST_DEEP" = some (some (.int 20 tk9)))
    (g_BYTE_LIMIT : PySem.W.nsIn K mainGlobals "BYTE_LIMIT" = some (some (.int 256 tk10)))
    (g_FIGURE_LIMIT : PySem.W.nsIn K mainGlobals "FIGURE_LIMIT" = some (some (.int 128 tk11)))
    (g_MARK_LIMIT : PySem.W.nsIn K mainGlobals "MARK_LIMIT" = some (some (.int 2305843009213693951 tk12)))
    (g_SEAL_LENGTH : PySem.W.nsIn K mainGlobals "SEAL_LENGTH" = some (some (.int 4 tk13)))
    (g_LEAST_SIGN : PySem.W.nsIn K mainGlobals "LEAST_SIGN" = some (some (.int 32 tk14)))
    (g_GREATEST_SIGN : PySem.W.nsIn K mainGlobals "GREATEST_SIGN" = some (some (.int 126 tk15)))
    (g_NO_SIGN : PySem.W.nsIn K mainGlobals "NO_SIGN" = some (some (.int 37 tk16)))
    (g_SIGNS : PySem.W.nsIn K mainGlobals "SIGNS" = some (some (.str SC_SIGNS tk17)))
    (b_isinstance : PySem.W.nsIn K mainGlobals "isinstance" = some none)
    (b_int : PySem.W.nsIn K mainGlobals "int" = some none)
    (b_bool : PySem.W.nsIn K mainGlobals "bool" = some none)
    (b_tuple : PySem.W.nsIn K mainGlobals "tuple" = some none)
    (b_list : PySem.W.nsIn K mainGlobals "list" = some none)
    (b_str : PySem.W.nsIn K mainGlobals "str" = some none)
    (b_len : PySem.W.nsIn K mainGlobals "len" = some none)
    (b_range : PySem.W.nsIn K mainGlobals "range" = some none)
    (b_zip : PySem.W.nsIn K mainGlobals "zip" = some none)
    (b_min : PySem.W.nsIn K mainGlobals "min" = some none)
    (b_all : PySem.W.nsIn K mainGlobals "all" = some none)
    (b_sum : PySem.W.nsIn K mainGlobals "sum" = some none)
    (b_abs : PySem.W.nsIn K mainGlobals "abs" = some none)
    (b_ord : PySem.W.nsIn K mainGlobals "ord" = some none)
    (b_repr : PySem.W.nsIn K mainGlobals "repr" = some none)
    (w_c_Disk_pg : PySem.W.plainGet K c_Disk Str.empty = true)
    (w_c_Disk_hd : PySem.W.hasDictIn K c_Disk = true)
    (w_c_Disk_po : PySem.W.plainOver K c_Disk = true)
    (w_c_Disk_sa : PySem.W.findIn K (.ref c_Disk) "__setattr__" = some (some (.builtin "object.__setattr__")))
    (w_c_Disk_ca : PySem.W.findIn K (.ref c_Disk) "__class__" = some (some (.builtin "object.__class__")))
    (w_c_Disk_co : PySem.W.mroIn K c_Disk (.type "object") = some true)
    (w_c_Disk_ki : PySem.W.mroIn K c_Disk (.type "int") = some false)
    (w_c_Disk_kb : PySem.W.mroIn K c_Disk (.type "bool") = some false)
    (w_c_Disk_kt : PySem.W.mroIn K c_Disk (.type "tuple") = some false)
    (w_c_Disk_kl : PySem.W.mroIn K c_Disk (.type "list") = some false)
    (w_c_Disk_ks : PySem.W.mroIn K c_Disk (.type "str") = some false)
    (w_c_Disk_is : PySem.W.isClsIn K c_Disk = true)
    (w_c_Disk_ty : PySem.W.typeIn K (.ref c_Disk) = some (.type "type"))
    (w_c_Disk_mk : PySem.W.makesIn K c_Disk = true)
    (w_c_Disk_kp : PySem.W.keepIn K (.ref c_Disk) = true)
    (w_cg : PySem.W.specialIn K (.builtin "object.__class__") "__get__" = some (some (.builtin "getset_descriptor.__get__")))
    (w_ct : PySem.W.takesIn K (.builtin "object.__class__") = some true)
    (w_na_rows : PySem.W.findIn K (.ref c_Disk) "rows" = some none)
    (w_na_firm : PySem.W.findIn K (.ref c_Disk) "firm" = some none)
    (x0_l : K.lookup c_NoNumber = some (excClassObj nm0 q0 c_NoNumber N0 bs0 [.ref ss0, .type "ValueError", .type "Exception", .type "BaseException", .type "object"] true sn0 sub0 ab0 col0 dd0 ma0 mb0 mc0 md0 me0 "ValueError.__new__"))
    (x0_sa : PySem.W.findIn K (.ref c_NoNumber) "__setattr__" = some (some (.builtin "object.__setattr__")))
    (x0_ex : PySem.W.subIn K (.ref c_NoNumber) (.type "BaseException") = some true)
    (x0_ty : PySem.W.typeIn K (.ref c_NoNumber) = some (.type "type"))
    (x0_kp : PySem.W.keepIn K (.ref c_NoNumber) = true)
    (x0_is : PySem.W.isClsIn K c_NoNumber = true)
    (x1_l : K.lookup c_NoCut = some (excClassObj nm1 q1 c_NoCut N1 bs1 [.ref ss1, .type "ValueError", .type "Exception", .type "BaseException", .type "object"] true sn1 sub1 ab1 col1 dd1 ma1 mb1 mc1 md1 me1 "ValueError.__new__"))
    (x1_sa : PySem.W.findIn K (.ref c_NoCut) "__setattr__" = some (some (.builtin "object.__setattr__")))
    (x1_ex : PySem.W.subIn K (.ref c_NoCut) (.type "BaseException") = some true)
    (x1_ty : PySem.W.typeIn K (.ref c_NoCut) = some (.type "type"))
    (x1_kp : PySem.W.keepIn K (.ref c_NoCut) = true)
    (x1_is : PySem.W.isClsIn K c_NoCut = true)
    (x2_l : K.lookup c_NoBlocks = some (excClassObj nm2 q2 c_NoBlocks N2 bs2 [.ref ss2, .type "ValueError", .type "Exception", .type "BaseException", .type "object"] true sn2 sub2 ab2 col2 dd2 ma2 mb2 mc2 md2 me2 "ValueError.__new__"))
    (x2_sa : PySem.W.findIn K (.ref c_NoBlocks) "__setattr__" = some (some (.builtin "object.__setattr__")))
    (x2_ex : PySem.W.subIn K (.ref c_NoBlocks) (.type "BaseException") = some true)
    (x2_ty : PySem.W.typeIn K (.ref c_NoBlocks) = some (.type "type"))
    (x2_kp : PySem.W.keepIn K (.ref c_NoBlocks) = true)
    (x2_is : PySem.W.isClsIn K c_NoBlocks = true)
    (x3_l : K.lookup c_NoRow = some (excClassObj nm3 q3 c_NoRow N3 bs3 [.ref ss3, .type "ValueError", .type "Exception", .type "BaseException", .type "object"] true sn3 sub3 ab3 col3 dd3 ma3 mb3 mc3 md3 me3 "ValueError.__new__"))
    (x3_sa : PySem.W.findIn K (.ref c_NoRow) "__setattr__" = some (some (.builtin "object.__setattr__")))
    (x3_ex : PySem.W.subIn K (.ref c_NoRow) (.type "BaseException") = some true)
    (x3_ty : PySem.W.typeIn K (.ref c_NoRow) = some (.type "type"))
    (x3_kp : PySem.W.keepIn K (.ref c_NoRow) = true)
    (x3_is : PySem.W.isClsIn K c_NoRow = true)
    (x4_l : K.lookup c_BadRow = some (excClassObj nm4 q4 c_BadRow N4 bs4 [.ref ss4, .type "ValueError", .type "Exception", .type "BaseException", .type "object"] true sn4 sub4 ab4 col4 dd4 ma4 mb4 mc4 md4 me4 "ValueError.__new__"))
    (x4_sa : PySem.W.findIn K (.ref c_BadRow) "__setattr__" = some (some (.builtin "object.__setattr__")))
    (x4_ex : PySem.W.subIn K (.ref c_BadRow) (.type "BaseException") = some true)
    (x4_ty : PySem.W.typeIn K (.ref c_BadRow) = some (.type "type"))
    (x4_kp : PySem.W.keepIn K (.ref c_BadRow) = true)
    (x4_is : PySem.W.isClsIn K c_BadRow = true)
    (qna_place : PySem.W.findIn K (.ref c_BadRow) "place" = some none)
    (se_BadRowBadRow : PySem.W.subIn K (.ref c_BadRow) (.ref c_BadRow) = some true)
    (a0 : PySem.W.findIn K (.ref c_NoNumber) "__init__" = some (some (.ref f0)))
    (i0 : PySem.W.isFn K (.ref f0) = true)
    (t0 : PySem.W.typeIn K (.ref f0) = some (.type "function"))
    (l0 : K.lookup f0 = some ⟨oc0, od0, .func (PySem.W.fnOf "__init__" "NoNumber.__init__" (defArgs s_NoNumber_init) (defBody s_NoNumber_init) (defScope s_NoNumber_init) .none kV0 dc0 pm0 an0 cd0 ct0), sl0⟩)
    (c0 : PySem.W.codeIn K cd0 "NoNumber.__init__" = true)
    (k0 : PySem.W.keepIn K (.ref f0) = true)
    (a1 : PySem.W.findIn K (.ref c_NoRow) "__init__" = some (some (.ref f1)))
    (i1 : PySem.W.isFn K (.ref f1) = true)
    (t1 : PySem.W.typeIn K (.ref f1) = some (.type "function"))
    (l1 : K.lookup f1 = some ⟨oc1, od1, .func (PySem.W.fnOf "__init__" "NoRow.__init__" (defArgs s_NoRow_init) (defBody s_NoRow_init) (defScope s_NoRow_init) .none kV1 dc1 pm1 an1 cd1 ct1), sl1⟩)
    (c1 : PySem.W.codeIn K cd1 "NoRow.__init__" = true)
    (k1 : PySem.W.keepIn K (.ref f1) = true)
    (a2 : PySem.W.findIn K (.ref c_BadRow) "__init__" = some (some (.ref f2)))
    (i2 : PySem.W.isFn K (.ref f2) = true)
    (t2 : PySem.W.typeIn K (.ref f2) = some (.type "function"))
    (l2 : K.lookup f2 = some ⟨oc2, od2, .func (PySem.W.fnOf "__init__" "BadRow.__init__" (defArgs s_BadRow_init) (defBody s_BadRow_init) (defScope s_BadRow_init) .none kV2 dc2 pm2 an2 cd2 ct2), sl2⟩)
    (c2 : PySem.W.codeIn K cd2 "BadRow.__init__" = true)
    (k2 : PySem.W.keepIn K (.ref f2) = true)
    (a3 : PySem.W.findIn K (.ref c_NoCut) "__init__" = some (some (.ref f3)))
    (i3 : PySem.W.isFn K (.ref f3) = true)
    (t3 : PySem.W.typeIn K (.ref f3) = some (.type "function"))
    (l3 : K.lookup f3 = some ⟨oc3, od3, .func (PySem.W.fnOf "__init__" "NoCut.__init__" (defArgs s_NoCut_init) (defBody s_NoCut_init) (defScope s_NoCut_init) .none kV3 dc3 pm3 an3 cd3 ct3), sl3⟩)
    (c3 : PySem.W.codeIn K cd3 "NoCut.__init__" = true)
    (k3 : PySem.W.keepIn K (.ref f3) = true)
    (a4 : PySem.W.findIn K (.ref c_NoBlocks) "__init__" = some (some (.ref f4)))
    (i4 : PySem.W.isFn K (.ref f4) = true)
    (t4 : PySem.W.typeIn K (.ref f4) = some (.type "function"))
    (l4 : K.lookup f4 = some ⟨oc4, od4, .func (PySem.W.fnOf "__init__" "NoBlocks.__init__" (defArgs s_NoBlocks_init) (defBody s_NoBlocks_init) (defScope s_NoBlocks_init) .none kV4 dc4 pm4 an4 cd4 ct4), sl4⟩)
    (c4 : PySem.W.codeIn K cd4 "NoBlocks.__init__" = true)
    (k4 : PySem.W.keepIn K (.ref f4) = true)
    (a5 : PySem.W.nsIn K mainGlobals "is_int" = some (some (.ref f5)))
    (l5 : K.lookup f5 = some ⟨oc5, od5, .func (PySem.W.fnOf "is_int" "is_int" (defArgs s_is_int) (defBody s_is_int) (defScope s_is_int) .none kV5 dc5 pm5 an5 cd5 ct5), sl5⟩)
    (c5 : PySem.W.codeIn K cd5 "is_int" = true)
    (k5 : PySem.W.keepIn K (.ref f5) = true)
    (a6 : PySem.W.nsIn K mainGlobals "is_number" = some (some (.ref f6)))
    (l6 : K.lookup f6 = some ⟨oc6, od6, .func (PySem.W.fnOf "is_number" "is_number" (defArgs s_is_number) (defBody s_is_number) (defScope s_is_number) .none kV6 dc6 pm6 an6 cd6 ct6), sl6⟩)
    (c6 : PySem.W.codeIn K cd6 "is_number" = true)
    (k6 : PySem.W.keepIn K (.ref f6) = true)
    (a7 : PySem.W.nsIn K mainGlobals "is_number_below" = some (some (.ref f7)))
    (l7 : K.lookup f7 = some ⟨oc7, od7, .func (PySem.W.fnOf "is_number_below" "is_number_below" (defArgs s_is_number_below) (defBody s_is_number_below) (defScope s_is_number_below) .none kV7 dc7 pm7 an7 cd7 ct7), sl7⟩)
    (c7 : PySem.W.codeIn K cd7 "is_number_below" = true)
    (k7 : PySem.W.keepIn K (.ref f7) = true)
    (a8 : PySem.W.nsIn K mainGlobals "is_tuple_of" = some (some (.ref f8)))
    (l8 : K.lookup f8 = some ⟨oc8, od8, .func (PySem.W.fnOf "is_tuple_of" "is_tuple_of" (defArgs s_is_tuple_of) (defBody s_is_tuple_of) (defScope s_is_tuple_of) .none kV8 dc8 pm8 an8 cd8 ct8), sl8⟩)
    (c8 : PySem.W.codeIn K cd8 "is_tuple_of" = true)
    (k8 : PySem.W.keepIn K (.ref f8) = true)
    (a9 : PySem.W.nsIn K mainGlobals "is_byte" = some (some (.ref f9)))
    (l9 : K.lookup f9 = some ⟨oc9, od9, .func (PySem.W.fnOf "is_byte" "is_byte" (defArgs s_is_byte) (defBody s_is_byte) (defScope s_is_byte) .none kV9 dc9 pm9 an9 cd9 ct9), sl9⟩)
    (c9 : PySem.W.codeIn K cd9 "is_byte" = true)
    (k9 : PySem.W.keepIn K (.ref f9) = true)
    (a10 : PySem.W.nsIn K mainGlobals "is_row" = some (some (.ref f10)))
    (l10 : K.lookup f10 = some ⟨oc10, od10, .func (PySem.W.fnOf "is_row" "is_row" (defArgs s_is_row) (defBody s_is_row) (defScope s_is_row) .none kV10 dc10 pm10 an10 cd10 ct10), sl10⟩)
    (c10 : PySem.W.codeIn K cd10 "is_row" = true)
    (k10 : PySem.W.keepIn K (.ref f10) = true)
    (a11 : PySem.W.nsIn K mainGlobals "check_row" = some (some (.ref f11)))
    (l11 : K.lookup f11 = some ⟨oc11, od11, .func (PySem.W.fnOf "check_row" "check_row" (defArgs s_check_row) (defBody s_check_row) (defScope s_check_row) .none kV11 dc11 pm11 an11 cd11 ct11), sl11⟩)
    (c11 : PySem.W.codeIn K cd11 "check_row" = true)
    (k11 : PySem.W.keepIn K (.ref f11) = true)
    (a12 : PySem.W.nsIn K mainGlobals "_is_sign" = some (some (.ref f12)))
    (l12 : K.lookup f12 = some ⟨oc12, od12, .func (PySem.W.fnOf "_is_sign" "_is_sign" (defArgs s_is_sign) (defBody s_is_sign) (defScope s_is_sign) .none kV12 dc12 pm12 an12 cd12 ct12), sl12⟩)
    (c12 : PySem.W.codeIn K cd12 "_is_sign" = true)
    (k12 : PySem.W.keepIn K (.ref f12) = true)
    (a13 : PySem.W.nsIn K mainGlobals "parcel_of" = some (some (.ref f13)))
    (l13 : K.lookup f13 = some ⟨oc13, od13, .func (PySem.W.fnOf "parcel_of" "parcel_of" (defArgs s_parcel_of) (defBody s_parcel_of) (defScope s_parcel_of) .none kV13 dc13 pm13 an13 cd13 ct13), sl13⟩)
    (c13 : PySem.W.codeIn K cd13 "parcel_of" = true)
    (k13 : PySem.W.keepIn K (.ref f13) = true)
    (a14 : PySem.W.nsIn K mainGlobals "_check_there" = some (some (.ref f14)))
    (l14 : K.lookup f14 = some ⟨oc14, od14, .func (PySem.W.fnOf "_check_there" "_check_there" (defArgs s_check_there) (defBody s_check_there) (defScope s_check_there) .none kV14 dc14 pm14 an14 cd14 ct14), sl14⟩)
    (c14 : PySem.W.codeIn K cd14 "_check_there" = true)
    (k14 : PySem.W.keepIn K (.ref f14) = true)
    (a15 : PySem.W.nsIn K mainGlobals "_parcel_at" = some (some (.ref f15)))
    (l15 : K.lookup f15 = some ⟨oc15, od15, .func (PySem.W.fnOf "_parcel_at" "_parcel_at" (defArgs s_parcel_at) (defBody s_parcel_at) (defScope s_parcel_at) .none kV15 dc15 pm15 an15 cd15 ct15), sl15⟩)
    (c15 : PySem.W.codeIn K cd15 "_parcel_at" = true)
    (k15 : PySem.W.keepIn K (.ref f15) = true)
    (a16 : PySem.W.nsIn K mainGlobals "_whole_at" = some (some (.ref f16)))
    (l16 : K.lookup f16 = some ⟨oc16, od16, .func (PySem.W.fnOf "_whole_at" "_whole_at" (defArgs s_whole_at) (defBody s_whole_at) (defScope s_whole_at) .none kV16 dc16 pm16 an16 cd16 ct16), sl16⟩)
    (c16 : PySem.W.codeIn K cd16 "_whole_at" = true)
    (k16 : PySem.W.keepIn K (.ref f16) = true)
    (a17 : PySem.W.nsIn K mainGlobals "_string_at" = some (some (.ref f17)))
    (l17 : K.lookup f17 = some ⟨oc17, od17, .func (PySem.W.fnOf "_string_at" "_string_at" (defArgs s_string_at) (defBody s_string_at) (defScope s_string_at) .none kV17 dc17 pm17 an17 cd17 ct17), sl17⟩)
    (c17 : PySem.W.codeIn K cd17 "_string_at" = true)
    (k17 : PySem.W.keepIn K (.ref f17) = true)
    (a18 : PySem.W.nsIn K mainGlobals "_tuple_at" = some (some (.ref f18)))
    (l18 : K.lookup f18 = some ⟨oc18, od18, .func (PySem.W.fnOf "_tuple_at" "_tuple_at" (defArgs s_tuple_at) (defBody s_tuple_at) (defScope s_tuple_at) .none kV18 dc18 pm18 an18 cd18 ct18), sl18⟩)
    (c18 : PySem.W.codeIn K cd18 "_tuple_at" = true)
    (k18 : PySem.W.keepIn K (.ref f18) = true)
    (a19 : PySem.W.nsIn K mainGlobals "_mark_of" = some (some (.ref f19)))
    (l19 : K.lookup f19 = some ⟨oc19, od19, .func (PySem.W.fnOf "_mark_of" "_mark_of" (defArgs s_mark_of) (defBody s_mark_of) (defScope s_mark_of) .none kV19 dc19 pm19 an19 cd19 ct19), sl19⟩)
    (c19 : PySem.W.codeIn K cd19 "_mark_of" = true)
    (k19 : PySem.W.keepIn K (.ref f19) = true)
    (a20 : PySem.W.nsIn K mainGlobals "_seal" = some (some (.ref f20)))
    (l20 : K.lookup f20 = some ⟨oc20, od20, .func (PySem.W.fnOf "_seal" "_seal" (defArgs s_seal_) (defBody s_seal_) (defScope s_seal_) .none kV20 dc20 pm20 an20 cd20 ct20), sl20⟩)
    (c20 : PySem.W.codeIn K cd20 "_seal" = true)
    (k20 : PySem.W.keepIn K (.ref f20) = true)
    (a21 : PySem.W.nsIn K mainGlobals "unsealed" = some (some (.ref f21)))
    (l21 : K.lookup f21 = some ⟨oc21, od21, .func (PySem.W.fnOf "unsealed" "unsealed" (defArgs s_unsealed) (defBody s_unsealed) (defScope s_unsealed) .none kV21 dc21 pm21 an21 cd21 ct21), sl21⟩)
    (c21 : PySem.W.codeIn K cd21 "unsealed" = true)
    (k21 : PySem.W.keepIn K (.ref f21) = true)
    (a22 : PySem.W.findIn K (.ref c_Disk) "__init__" = some (some (.ref f22)))
    (i22 : PySem.W.isFn K (.ref f22) = true)
    (t22 : PySem.W.typeIn K (.ref f22) = some (.type "function"))
    (l22 : K.lookup f22 = some ⟨oc22, od22, .func (PySem.W.fnOf "__init__" "Disk.__init__" (defArgs s_Disk_init) (defBody s_Disk_init) (defScope s_Disk_init) .none kV22 dc22 pm22 an22 cd22 ct22), sl22⟩)
    (c22 : PySem.W.codeIn K cd22 "Disk.__init__" = true)
    (k22 : PySem.W.keepIn K (.ref f22) = true)
    (a23 : PySem.W.findIn K (.ref c_Disk) "write" = some (some (.ref f23)))
    (i23 : PySem.W.isFn K (.ref f23) = true)
    (t23 : PySem.W.typeIn K (.ref f23) = some (.type "function"))
    (l23 : K.lookup f23 = some ⟨oc23, od23, .func (PySem.W.fnOf "write" "Disk.write" (defArgs s_Disk_write) (defBody s_Disk_write) (defScope s_Disk_write) .none kV23 dc23 pm23 an23 cd23 ct23), sl23⟩)
    (c23 : PySem.W.codeIn K cd23 "Disk.write" = true)
    (k23 : PySem.W.keepIn K (.ref f23) = true)
    (a24 : PySem.W.findIn K (.ref c_Disk) "sync" = some (some (.ref f24)))
    (i24 : PySem.W.isFn K (.ref f24) = true)
    (t24 : PySem.W.typeIn K (.ref f24) = some (.type "function"))
    (l24 : K.lookup f24 = some ⟨oc24, od24, .func (PySem.W.fnOf "sync" "Disk.sync" (defArgs s_Disk_sync) (defBody s_Disk_sync) (defScope s_Disk_sync) .none kV24 dc24 pm24 an24 cd24 ct24), sl24⟩)
    (c24 : PySem.W.codeIn K cd24 "Disk.sync" = true)
    (k24 : PySem.W.keepIn K (.ref f24) = true)
    (a25 : PySem.W.findIn K (.ref c_Disk) "blocks" = some (some (.ref f25)))
    (i25 : PySem.W.isFn K (.ref f25) = true)
    (t25 : PySem.W.typeIn K (.ref f25) = some (.type "function"))
    (l25 : K.lookup f25 = some ⟨oc25, od25, .func (PySem.W.fnOf "blocks" "Disk.blocks" (defArgs s_Disk_blocks) (defBody s_Disk_blocks) (defScope s_Disk_blocks) .none kV25 dc25 pm25 an25 cd25 ct25), sl25⟩)
    (c25 : PySem.W.codeIn K cd25 "Disk.blocks" = true)
    (k25 : PySem.W.keepIn K (.ref f25) = true)
    (a26 : PySem.W.findIn K (.ref c_Disk) "synced" = some (some (.ref f26)))
    (i26 : PySem.W.isFn K (.ref f26) = true)
    (t26 : PySem.W.typeIn K (.ref f26) = some (.type "function"))
    (l26 : K.lookup f26 = some ⟨oc26, od26, .func (PySem.W.fnOf "synced" "Disk.synced" (defArgs s_Disk_synced) (defBody s_Disk_synced) (defScope s_Disk_synced) .none kV26 dc26 pm26 an26 cd26 ct26), sl26⟩)
    (c26 : PySem.W.codeIn K cd26 "Disk.synced" = true)
    (k26 : PySem.W.keepIn K (.ref f26) = true)
    (a27 : PySem.W.findIn K (.ref c_Disk) "cut" = some (some (.ref f27)))
    (i27 : PySem.W.isFn K (.ref f27) = true)
    (t27 : PySem.W.typeIn K (.ref f27) = some (.type "function"))
    (l27 : K.lookup f27 = some ⟨oc27, od27, .func (PySem.W.fnOf "cut" "Disk.cut" (defArgs s_Disk_cut) (defBody s_Disk_cut) (defScope s_Disk_cut) .none kV27 dc27 pm27 an27 cd27 ct27), sl27⟩)
    (c27 : PySem.W.codeIn K cd27 "Disk.cut" = true)
    (k27 : PySem.W.keepIn K (.ref f27) = true)
    (a28 : PySem.W.findIn K (.ref c_Disk) "drop" = some (some (.ref f28)))
    (i28 : PySem.W.isFn K (.ref f28) = true)
    (t28 : PySem.W.typeIn K (.ref f28) = some (.type "function"))
    (l28 : K.lookup f28 = some ⟨oc28, od28, .func (PySem.W.fnOf "drop" "Disk.drop" (defArgs s_Disk_drop) (defBody s_Disk_drop) (defScope s_Disk_drop) .none kV28 dc28 pm28 an28 cd28 ct28), sl28⟩)
    (c28 : PySem.W.codeIn K cd28 "Disk.drop" = true)
    (k28 : PySem.W.keepIn K (.ref f28) = true)
    (a29 : PySem.W.findIn K (.ref c_Disk) "copy" = some (some (.ref f29)))
    (i29 : PySem.W.isFn K (.ref f29) = true)
    (t29 : PySem.W.typeIn K (.ref f29) = some (.type "function"))
    (l29 : K.lookup f29 = some ⟨oc29, od29, .func (PySem.W.fnOf "copy" "Disk.copy" (defArgs s_Disk_copy) (defBody s_Disk_copy) (defScope s_Disk_copy) .none kV29 dc29 pm29 an29 cd29 ct29), sl29⟩)
    (c29 : PySem.W.codeIn K cd29 "Disk.copy" = true)
    (k29 : PySem.W.keepIn K (.ref f29) = true)
    (a30 : PySem.W.nsIn K mainGlobals "_is_cut" = some (some (.ref f30)))
    (l30 : K.lookup f30 = some ⟨oc30, od30, .func (PySem.W.fnOf "_is_cut" "_is_cut" (defArgs s_is_cut) (defBody s_is_cut) (defScope s_is_cut) .none kV30 dc30 pm30 an30 cd30 ct30), sl30⟩)
    (c30 : PySem.W.codeIn K cd30 "_is_cut" = true)
    (k30 : PySem.W.keepIn K (.ref f30) = true)
    (a31 : PySem.W.nsIn K mainGlobals "kept_parcels" = some (some (.ref f31)))
    (l31 : K.lookup f31 = some ⟨oc31, od31, .func (PySem.W.fnOf "kept_parcels" "kept_parcels" (defArgs s_kept_parcels) (defBody s_kept_parcels) (defScope s_kept_parcels) .none kV31 dc31 pm31 an31 cd31 ct31), sl31⟩)
    (c31 : PySem.W.codeIn K cd31 "kept_parcels" = true)
    (k31 : PySem.W.keepIn K (.ref f31) = true)
    (a32 : PySem.W.nsIn K mainGlobals "_law_pool" = some (some (.ref f32)))
    (l32 : K.lookup f32 = some ⟨oc32, od32, .func (PySem.W.fnOf "_law_pool" "_law_pool" (defArgs s_law_pool) (defBody s_law_pool) (defScope s_law_pool) .none kV32 dc32 pm32 an32 cd32 ct32), sl32⟩)
    (c32 : PySem.W.codeIn K cd32 "_law_pool" = true)
    (k32 : PySem.W.keepIn K (.ref f32) = true)
    (a33 : PySem.W.nsIn K mainGlobals "_law_draw" = some (some (.ref f33)))
    (l33 : K.lookup f33 = some ⟨oc33, od33, .func (PySem.W.fnOf "_law_draw" "_law_draw" (defArgs s_law_draw) (defBody s_law_draw) (defScope s_law_draw) .none kV33 dc33 pm33 an33 cd33 ct33), sl33⟩)
    (c33 : PySem.W.codeIn K cd33 "_law_draw" = true)
    (k33 : PySem.W.keepIn K (.ref f33) = true)
    (a34 : PySem.W.nsIn K mainGlobals "_law_is" = some (some (.ref f34)))
    (l34 : K.lookup f34 = some ⟨oc34, od34, .func (PySem.W.fnOf "_law_is" "_law_is" (defArgs s_law_is) (defBody s_law_is) (defScope s_law_is) .none kV34 dc34 pm34 an34 cd34 ct34), sl34⟩)
    (c34 : PySem.W.codeIn K cd34 "_law_is" = true)
    (k34 : PySem.W.keepIn K (.ref f34) = true)
    (a35 : PySem.W.nsIn K mainGlobals "_law_whole" = some (some (.ref f35)))
    (l35 : K.lookup f35 = some ⟨oc35, od35, .func (PySem.W.fnOf "_law_whole" "_law_whole" (defArgs s_law_whole) (defBody s_law_whole) (defScope s_law_whole) .none kV35 dc35 pm35 an35 cd35 ct35), sl35⟩)
    (c35 : PySem.W.codeIn K cd35 "_law_whole" = true)
    (k35 : PySem.W.keepIn K (.ref f35) = true)
    (a36 : PySem.W.nsIn K mainGlobals "_law_bytes" = some (some (.ref f36)))
    (l36 : K.lookup f36 = some ⟨oc36, od36, .func (PySem.W.fnOf "_law_bytes" "_law_bytes" (defArgs s_law_bytes) (defBody s_law_bytes) (defScope s_law_bytes) .none kV36 dc36 pm36 an36 cd36 ct36), sl36⟩)
    (c36 : PySem.W.codeIn K cd36 "_law_bytes" = true)
    (k36 : PySem.W.keepIn K (.ref f36) = true)
    (a37 : PySem.W.nsIn K mainGlobals "_law_number" = some (some (.ref f37)))
    (l37 : K.lookup f37 = some ⟨oc37, od37, .func (PySem.W.fnOf "_law_number" "_law_number" (defArgs s_law_number) (defBody s_law_number) (defScope s_law_number) .none kV37 dc37 pm37 an37 cd37 ct37), sl37⟩)
    (c37 : PySem.W.codeIn K cd37 "_law_number" = true)
    (k37 : PySem.W.keepIn K (.ref f37) = true)
    (a38 : PySem.W.nsIn K mainGlobals "_law_parcel" = some (some (.ref f38)))
    (l38 : K.lookup f38 = some ⟨oc38, od38, .func (PySem.W.fnOf "_law_parcel" "_law_parcel" (defArgs s_law_parcel) (defBody s_law_parcel) (defScope s_law_parcel) .none kV38 dc38 pm38 an38 cd38 ct38), sl38⟩)
    (c38 : PySem.W.codeIn K cd38 "_law_parcel" = true)
    (k38 : PySem.W.keepIn K (.ref f38) = true)
    (a39 : PySem.W.nsIn K mainGlobals "_law_same" = some (some (.ref f39)))
    (l39 : K.lookup f39 = some ⟨oc39, od39, .func (PySem.W.fnOf "_law_same" "_law_same" (defArgs s_law_same) (defBody s_law_same) (defScope s_law_same) .none kV39 dc39 pm39 an39 cd39 ct39), sl39⟩)
    (c39 : PySem.W.codeIn K cd39 "_law_same" = true)
    (k39 : PySem.W.keepIn K (.ref f39) = true)
    (a40 : PySem.W.nsIn K mainGlobals "_law_sign" = some (some (.ref f40)))
    (l40 : K.lookup f40 = some ⟨oc40, od40, .func (PySem.W.fnOf "_law_sign" "_law_sign" (defArgs s_law_sign) (defBody s_law_sign) (defScope s_law_sign) .none kV40 dc40 pm40 an40 cd40 ct40), sl40⟩)
    (c40 : PySem.W.codeIn K cd40 "_law_sign" = true)
    (k40 : PySem.W.keepIn K (.ref f40) = true)
    (a41 : PySem.W.nsIn K mainGlobals "_law_read_whole" = some (some (.ref f41)))
    (l41 : K.lookup f41 = some ⟨oc41, od41, .func (PySem.W.fnOf "_law_read_whole" "_law_read_whole" (defArgs s_law_read_whole) (defBody s_law_read_whole) (defScope s_law_read_whole) .none kV41 dc41 pm41 an41 cd41 ct41), sl41⟩)
    (c41 : PySem.W.codeIn K cd41 "_law_read_whole" = true)
    (k41 : PySem.W.keepIn K (.ref f41) = true)
    (a42 : PySem.W.nsIn K mainGlobals "_law_read" = some (some (.ref f42)))
    (l42 : K.lookup f42 = some ⟨oc42, od42, .func (PySem.W.fnOf "_law_read" "_law_read" (defArgs s_law_read) (defBody s_law_read) (defScope s_law_read) .none kV42 dc42 pm42 an42 cd42 ct42), sl42⟩)
    (c42 : PySem.W.codeIn K cd42 "_law_read" = true)
    (k42 : PySem.W.keepIn K (.ref f42) = true)
    (a43 : PySem.W.nsIn K mainGlobals "_law_read_string" = some (some (.ref f43)))
    (l43 : K.lookup f43 = some ⟨oc43, od43, .func (PySem.W.fnOf "_law_read_string" "_law_read_string" (defArgs s_law_read_string) (defBody s_law_read_string) (defScope s_law_read_string) .none kV43 dc43 pm43 an43 cd43 ct43), sl43⟩)
    (c43 : PySem.W.codeIn K cd43 "_law_read_string" = true)
    (k43 : PySem.W.keepIn K (.ref f43) = true)
    (a44 : PySem.W.nsIn K mainGlobals "_law_told" = some (some (.ref f44)))
    (l44 : K.lookup f44 = some ⟨oc44, od44, .func (PySem.W.fnOf "_law_told" "_law_told" (defArgs s_law_told) (defBody s_law_told) (defScope s_law_told) .none kV44 dc44 pm44 an44 cd44 ct44), sl44⟩)
    (c44 : PySem.W.codeIn K cd44 "_law_told" = true)
    (k44 : PySem.W.keepIn K (.ref f44) = true)
    (a45 : PySem.W.nsIn K mainGlobals "_law_mark" = some (some (.ref f45)))
    (l45 : K.lookup f45 = some ⟨oc45, od45, .func (PySem.W.fnOf "_law_mark" "_law_mark" (defArgs s_law_mark) (defBody s_law_mark) (defScope s_law_mark) .none kV45 dc45 pm45 an45 cd45 ct45), sl45⟩)
    (c45 : PySem.W.codeIn K cd45 "_law_mark" = true)
    (k45 : PySem.W.keepIn K (.ref f45) = true)
    (a46 : PySem.W.nsIn K mainGlobals "_law_sealed" = some (some (.ref f46)))
    (l46 : K.lookup f46 = some ⟨oc46, od46, .func (PySem.W.fnOf "_law_sealed" "_law_sealed" (defArgs s_law_sealed) (defBody s_law_sealed) (defScope s_law_sealed) .none kV46 dc46 pm46 an46 cd46 ct46), sl46⟩)
    (c46 : PySem.W.codeIn K cd46 "_law_sealed" = true)
    (k46 : PySem.W.keepIn K (.ref f46) = true)
    (a47 : PySem.W.nsIn K mainGlobals "_law_opened" = some (some (.ref f47)))
    (l47 : K.lookup f47 = some ⟨oc47, od47, .func (PySem.W.fnOf "_law_opened" "_law_opened" (defArgs s_law_opened) (defBody s_law_opened) (defScope s_law_opened) .none kV47 dc47 pm47 an47 cd47 ct47), sl47⟩)
    (c47 : PySem.W.codeIn K cd47 "_law_opened" = true)
    (k47 : PySem.W.keepIn K (.ref f47) = true)
    (a48 : PySem.W.nsIn K mainGlobals "_law_kept" = some (some (.ref f48)))
    (l48 : K.lookup f48 = some ⟨oc48, od48, .func (PySem.W.fnOf "_law_kept" "_law_kept" (defArgs s_law_kept) (defBody s_law_kept) (defScope s_law_kept) .none kV48 dc48 pm48 an48 cd48 ct48), sl48⟩)
    (c48 : PySem.W.codeIn K cd48 "_law_kept" = true)
    (k48 : PySem.W.keepIn K (.ref f48) = true)
    (a49 : PySem.W.nsIn K mainGlobals "_law_block" = some (some (.ref f49)))
    (l49 : K.lookup f49 = some ⟨oc49, od49, .func (PySem.W.fnOf "_law_block" "_law_block" (defArgs s_law_block) (defBody s_law_block) (defScope s_law_block) .none kV49 dc49 pm49 an49 cd49 ct49), sl49⟩)
    (c49 : PySem.W.codeIn K cd49 "_law_block" = true)
    (k49 : PySem.W.keepIn K (.ref f49) = true)
    (a50 : PySem.W.nsIn K mainGlobals "_law_led" = some (some (.ref f50)))
    (l50 : K.lookup f50 = some ⟨oc50, od50, .func (PySem.W.fnOf "_law_led" "_law_led" (defArgs s_law_led) (defBody s_law_led) (defScope s_law_led) .none kV50 dc50 pm50 an50 cd50 ct50), sl50⟩)
    (c50 : PySem.W.codeIn K cd50 "_law_led" = true)
    (k50 : PySem.W.keepIn K (.ref f50) = true)
    (a51 : PySem.W.nsIn K mainGlobals "_law_parcels_right" = some (some (.ref f51)))
    (l51 : K.lookup f51 = some ⟨oc51, od51, .func (PySem.W.fnOf "_law_parcels_right" "_law_parcels_right" (defArgs s_law_parcels_right) (defBody s_law_parcels_right) (defScope s_law_parcels_right) .none kV51 dc51 pm51 an51 cd51 ct51), sl51⟩)
    (c51 : PySem.W.codeIn K cd51 "_law_parcels_right" = true)
    (k51 : PySem.W.keepIn K (.ref f51) = true)
    (a52 : PySem.W.nsIn K mainGlobals "law" = some (some (.ref f52)))
    (l52 : K.lookup f52 = some ⟨oc52, od52, .func (PySem.W.fnOf "law" "law" (defArgs s_law) (defBody s_law) (defScope s_law) .none kV52 dc52 pm52 an52 cd52 ct52), sl52⟩)
    (c52 : PySem.W.codeIn K cd52 "law" = true)
    (k52 : PySem.W.keepIn K (.ref f52) = true) :
    ∃ fd : FuncData, (∀ (s : Shared) (v : Value), BindsTo s fd ⟨[v], []⟩ [("_law_script", v)]) ∧ ∀ base : Heap, K.In base → base.Ns mainGlobals mg → FnOk l.prog w K mg base CX0 51 fa fd ["_law_script"] (spLaw K) := by
  have hb : ∀ (s : Shared) (v : Value), BindsTo s (PySem.W.fnOf "law" "law" (defArgs s_law) (defBody s_law) (defScope s_law) .none kV52 dc52 pm52 an52 cd52 ct52) ⟨[v], []⟩ [("_law_script", v)] := fun s v => .of_eq rfl
  let T : Tx K mg := {
    c_Disk := c_Disk, c_NoNumber := c_NoNumber, c_NoCut := c_NoCut, c_NoBlocks := c_NoBlocks, c_NoRow := c_NoRow, c_BadRow := c_BadRow,
    b_isinstance := PySem.W.mg_none_of X G b_isinstance,
    b_int := PySem.W.mg_none_of X G b_int,
    b_bool := PySem.W.mg_none_of X G b_bool,
    b_tuple := PySem.W.mg_none_of X G b_tuple,
    b_list := PySem.W.mg_none_of X G b_list,
    b_str := PySem.W.mg_none_of X G b_str,
    b_len := PySem.W.mg_none_of X G b_len,
    b_range := PySem.W.mg_none_of X G b_range,
    b_zip := PySem.W.mg_none_of X G b_zip,
    b_min := PySem.W.mg_none_of X G b_min,
    b_all := PySem.W.mg_none_of X G b_all,
    b_sum := PySem.W.mg_none_of X G b_sum,
    b_abs := PySem.W.mg_none_of X G b_abs,
    b_ord := PySem.W.mg_none_of X G b_ord,
    b_repr := PySem.W.mg_none_of X G b_repr,
    g_Disk := PySem.W.mg_of X G g_c_Disk,
    g_NoNumber := PySem.W.mg_of X G g_c_NoNumber,
    g_NoCut := PySem.W.mg_of X G g_c_NoCut,
    g_NoBlocks := PySem.W.mg_of X G g_c_NoBlocks,
    g_NoRow := PySem.W.mg_of X G g_c_NoRow,
    g_BadRow := PySem.W.mg_of X G g_c_BadRow,
    k1 := tk1, k2 := tk2, k3 := tk3, k4 := tk4, k6 := tk6, k7 := tk7, k8 := tk8, k9 := tk9, k10 := tk10, k11 := tk11, k12 := tk12, k13 := tk13, k14 := tk14, k15 := tk15, k16 := tk16, k17 := tk17,
    g_NONE := PySem.W.mg_of X G g_NONE,
    g_NO := PySem.W.mg_of X G g_NO,
    g_YES := PySem.W.mg_of X G g_YES,
    g_FROM_ZERO := PySem.W.mg_of X G g_FROM_ZERO,
    g_STRING := PySem.W.mg_of X G g_STRING,
    g_TUPLE := PySem.W.mg_of X G g_TUPLE,
    g_MOST_SIGNS := PySem.W.mg_of X G g_MOST_SIGNS,
    g_MOST_DEEP := PySem.W.mg_of X G g_MOST_DEEP,
    g_BYTE_LIMIT := PySem.W.mg_of X G g_BYTE_LIMIT,
    g_FIGURE_LIMIT := PySem.W.mg_of X G g_FIGURE_LIMIT,
    g_MARK_LIMIT := PySem.W.mg_of X G g_MARK_LIMIT,
    g_SEAL_LENGTH := PySem.W.mg_of X G g_SEAL_LENGTH,
    g_LEAST_SIGN := PySem.W.mg_of X G g_LEAST_SIGN,
    g_GREATEST_SIGN := PySem.W.mg_of X G g_GREATEST_SIGN,
    g_NO_SIGN := PySem.W.mg_of X G g_NO_SIGN,
    g_SIGNS := PySem.W.mg_of X G g_SIGNS,
    W_Disk := ⟨⟨w_c_Disk_pg, w_c_Disk_hd, w_c_Disk_po, w_c_Disk_sa⟩, w_c_Disk_ca, w_cg, w_ct, w_c_Disk_co, kit_bt w_c_Disk_ki rfl rfl, kit_bt w_c_Disk_kb rfl rfl, kit_bt w_c_Disk_kt rfl rfl, kit_bt w_c_Disk_kl rfl rfl, kit_bt w_c_Disk_ks rfl rfl⟩, mk_Disk := ⟨w_c_Disk_mk, w_c_Disk_kp⟩,
    na_rows := w_na_rows,
    na_firm := w_na_firm,
    x_NoNumber := ⟨⟨_, _, _, _, _, _, _, _, _, _, _, _, _, _, _, x0_l, rfl⟩, x0_sa, x0_ex, x0_ty, x0_kp⟩,
    x_NoCut := ⟨⟨_, _, _, _, _, _, _, _, _, _, _, _, _, _, _, x1_l, rfl⟩, x1_sa, x1_ex, x1_ty, x1_kp⟩,
    x_NoBlocks := ⟨⟨_, _, _, _, _, _, _, _, _, _, _, _, _, _, _, x2_l, rfl⟩, x2_sa, x2_ex, x2_ty, x2_kp⟩,
    x_NoRow := ⟨⟨_, _, _, _, _, _, _, _, _, _, _, _, _, _, _, x3_l, rfl⟩, x3_sa, x3_ex, x3_ty, x3_kp⟩,
    x_BadRow := ⟨⟨_, _, _, _, _, _, _, _, _, _, _, _, _, _, _, x4_l, rfl⟩, x4_sa, x4_ex, x4_ty, x4_kp⟩,
    na_place := qna_place,
    e_BadRowBadRow := exm_cls x4_ex x4_is x4_ty se_BadRowBadRow }
  let B : Bk K mg T := {
    NoNumber_init := ⟨f0, _, fun_mk (st := s_NoNumber_init) l0 c0 k0, a0, i0, t0, (fun_mk (st := s_NoNumber_init) l0 c0 k0).binds (ps := ["self"]) fun _ _ _ _ _ _ us hl => match us, hl with | [_], _ => rfl⟩,
    NoRow_init := ⟨f1, _, fun_mk (st := s_NoRow_init) l1 c1 k1, a1, i1, t1, (fun_mk (st := s_NoRow_init) l1 c1 k1).binds (ps := ["self"]) fun _ _ _ _ _ _ us hl => match us, hl with | [_], _ => rfl⟩,
    BadRow_init := ⟨f2, _, fun_mk (st := s_BadRow_init) l2 c2 k2, a2, i2, t2, (fun_mk (st := s_BadRow_init) l2 c2 k2).binds (ps := ["self", "place"]) fun _ _ _ _ _ _ us hl => match us, hl with | [_, _], _ => rfl⟩,
    NoCut_init := ⟨f3, _, fun_mk (st := s_NoCut_init) l3 c3 k3, a3, i3, t3, (fun_mk (st := s_NoCut_init) l3 c3 k3).binds (ps := ["self"]) fun _ _ _ _ _ _ us hl => match us, hl with | [_], _ => rfl⟩,
    NoBlocks_init := ⟨f4, _, fun_mk (st := s_NoBlocks_init) l4 c4 k4, a4, i4, t4, (fun_mk (st := s_NoBlocks_init) l4 c4 k4).binds (ps := ["self"]) fun _ _ _ _ _ _ us hl => match us, hl with | [_], _ => rfl⟩,
    is_int := ⟨f5, _, fun_mk (st := s_is_int) l5 c5 k5, PySem.W.mg_of X G a5, (fun_mk (st := s_is_int) l5 c5 k5).binds (ps := ["thing"]) fun _ _ _ _ _ _ us hl => match us, hl with | [_], _ => rfl⟩,
    is_number := ⟨f6, _, fun_mk (st := s_is_number) l6 c6 k6, PySem.W.mg_of X G a6, (fun_mk (st := s_is_number) l6 c6 k6).binds (ps := ["thing"]) fun _ _ _ _ _ _ us hl => match us, hl with | [_], _ => rfl⟩,
    is_number_below := ⟨f7, _, fun_mk (st := s_is_number_below) l7 c7 k7, PySem.W.mg_of X G a7, (fun_mk (st := s_is_number_below) l7 c7 k7).binds (ps := ["limit", "thing"]) fun _ _ _ _ _ _ us hl => match us, hl with | [_, _], _ => rfl⟩,
    is_tuple_of := ⟨f8, _, fun_mk (st := s_is_tuple_of) l8 c8 k8, PySem.W.mg_of X G a8, (fun_mk (st := s_is_tuple_of) l8 c8 k8).binds (ps := ["many", "thing"]) fun _ _ _ _ _ _ us hl => match us, hl with | [_, _], _ => rfl⟩,
    is_byte := ⟨f9, _, fun_mk (st := s_is_byte) l9 c9 k9, PySem.W.mg_of X G a9, (fun_mk (st := s_is_byte) l9 c9 k9).binds (ps := ["thing"]) fun _ _ _ _ _ _ us hl => match us, hl with | [_], _ => rfl⟩,
    is_row := ⟨f10, _, fun_mk (st := s_is_row) l10 c10 k10, PySem.W.mg_of X G a10, (fun_mk (st := s_is_row) l10 c10 k10).binds (ps := ["thing"]) fun _ _ _ _ _ _ us hl => match us, hl with | [_], _ => rfl⟩,
    check_row := ⟨f11, _, fun_mk (st := s_check_row) l11 c11 k11, PySem.W.mg_of X G a11, (fun_mk (st := s_check_row) l11 c11 k11).binds (ps := ["row"]) fun _ _ _ _ _ _ us hl => match us, hl with | [_], _ => rfl⟩,
    is_sign := ⟨f12, _, fun_mk (st := s_is_sign) l12 c12 k12, PySem.W.mg_of X G a12, (fun_mk (st := s_is_sign) l12 c12 k12).binds (ps := ["number"]) fun _ _ _ _ _ _ us hl => match us, hl with | [_], _ => rfl⟩,
    parcel_of := ⟨f13, _, fun_mk (st := s_parcel_of) l13 c13 k13, PySem.W.mg_of X G a13, (fun_mk (st := s_parcel_of) l13 c13 k13).binds (ps := ["row"]) fun _ _ _ _ _ _ us hl => match us, hl with | [_], _ => rfl⟩,
    check_there := ⟨f14, _, fun_mk (st := s_check_there) l14 c14 k14, PySem.W.mg_of X G a14, (fun_mk (st := s_check_there) l14 c14 k14).binds (ps := ["row", "place"]) fun _ _ _ _ _ _ us hl => match us, hl with | [_, _], _ => rfl⟩,
    parcel_at := ⟨f15, _, fun_mk (st := s_parcel_at) l15 c15 k15, PySem.W.mg_of X G a15, (fun_mk (st := s_parcel_at) l15 c15 k15).binds (ps := ["row", "place", "deep"]) fun _ _ _ _ _ _ us hl => match us, hl with | [_, _, _], _ => rfl⟩,
    whole_at := ⟨f16, _, fun_mk (st := s_whole_at) l16 c16 k16, PySem.W.mg_of X G a16, (fun_mk (st := s_whole_at) l16 c16 k16).binds (ps := ["row", "place"]) fun _ _ _ _ _ _ us hl => match us, hl with | [_, _], _ => rfl⟩,
    string_at := ⟨f17, _, fun_mk (st := s_string_at) l17 c17 k17, PySem.W.mg_of X G a17, (fun_mk (st := s_string_at) l17 c17 k17).binds (ps := ["row", "place", "many"]) fun _ _ _ _ _ _ us hl => match us, hl with | [_, _, _], _ => rfl⟩,
    tuple_at := ⟨f18, _, fun_mk (st := s_tuple_at) l18 c18 k18, PySem.W.mg_of X G a18, (fun_mk (st := s_tuple_at) l18 c18 k18).binds (ps := ["row", "place", "many", "deep"]) fun _ _ _ _ _ _ us hl => match us, hl with | [_, _, _, _], _ => rfl⟩,
    mark_of := ⟨f19, _, fun_mk (st := s_mark_of) l19 c19 k19, PySem.W.mg_of X G a19, (fun_mk (st := s_mark_of) l19 c19 k19).binds (ps := ["row"]) fun _ _ _ _ _ _ us hl => match us, hl with | [_], _ => rfl⟩,
    seal_ := ⟨f20, _, fun_mk (st := s_seal_) l20 c20 k20, PySem.W.mg_of X G a20, (fun_mk (st := s_seal_) l20 c20 k20).binds (ps := ["row"]) fun _ _ _ _ _ _ us hl => match us, hl with | [_], _ => rfl⟩,
    unsealed := ⟨f21, _, fun_mk (st := s_unsealed) l21 c21 k21, PySem.W.mg_of X G a21, (fun_mk (st := s_unsealed) l21 c21 k21).binds (ps := ["row"]) fun _ _ _ _ _ _ us hl => match us, hl with | [_], _ => rfl⟩,
    Disk_init := ⟨f22, _, fun_mk (st := s_Disk_init) l22 c22 k22, a22, i22, t22, (fun_mk (st := s_Disk_init) l22 c22 k22).binds (ps := ["self"]) fun _ _ _ _ _ _ us hl => match us, hl with | [_], _ => rfl⟩,
    Disk_write := ⟨f23, _, fun_mk (st := s_Disk_write) l23 c23 k23, a23, i23, t23, (fun_mk (st := s_Disk_write) l23 c23 k23).binds (ps := ["self", "row"]) fun _ _ _ _ _ _ us hl => match us, hl with | [_, _], _ => rfl⟩,
    Disk_sync := ⟨f24, _, fun_mk (st := s_Disk_sync) l24 c24 k24, a24, i24, t24, (fun_mk (st := s_Disk_sync) l24 c24 k24).binds (ps := ["self"]) fun _ _ _ _ _ _ us hl => match us, hl with | [_], _ => rfl⟩,
    Disk_blocks := ⟨f25, _, fun_mk (st := s_Disk_blocks) l25 c25 k25, a25, i25, t25, (fun_mk (st := s_Disk_blocks) l25 c25 k25).binds (ps := ["self"]) fun _ _ _ _ _ _ us hl => match us, hl with | [_], _ => rfl⟩,
    Disk_synced := ⟨f26, _, fun_mk (st := s_Disk_synced) l26 c26 k26, a26, i26, t26, (fun_mk (st := s_Disk_synced) l26 c26 k26).binds (ps := ["self"]) fun _ _ _ _ _ _ us hl => match us, hl with | [_], _ => rfl⟩,
    Disk_cut := ⟨f27, _, fun_mk (st := s_Disk_cut) l27 c27 k27, a27, i27, t27, (fun_mk (st := s_Disk_cut) l27 c27 k27).binds (ps := ["self", "kept"]) fun _ _ _ _ _ _ us hl => match us, hl with | [_, _], _ => rfl⟩,
    Disk_drop := ⟨f28, _, fun_mk (st := s_Disk_drop) l28 c28 k28, a28, i28, t28, (fun_mk (st := s_Disk_drop) l28 c28 k28).binds (ps := ["self", "number"]) fun _ _ _ _ _ _ us hl => match us, hl with | [_, _], _ => rfl⟩,
    Disk_copy := ⟨f29, _, fun_mk (st := s_Disk_copy) l29 c29 k29, a29, i29, t29, (fun_mk (st := s_Disk_copy) l29 c29 k29).binds (ps := ["self"]) fun _ _ _ _ _ _ us hl => match us, hl with | [_], _ => rfl⟩,
    is_cut := ⟨f30, _, fun_mk (st := s_is_cut) l30 c30 k30, PySem.W.mg_of X G a30, (fun_mk (st := s_is_cut) l30 c30 k30).binds (ps := ["waiting", "thing"]) fun _ _ _ _ _ _ us hl => match us, hl with | [_, _], _ => rfl⟩,
    kept_parcels := ⟨f31, _, fun_mk (st := s_kept_parcels) l31 c31 k31, PySem.W.mg_of X G a31, (fun_mk (st := s_kept_parcels) l31 c31 k31).binds (ps := ["blocks"]) fun _ _ _ _ _ _ us hl => match us, hl with | [_], _ => rfl⟩,
    law_pool := ⟨f32, _, fun_mk (st := s_law_pool) l32 c32 k32, PySem.W.mg_of X G a32, (fun_mk (st := s_law_pool) l32 c32 k32).binds (ps := ["_law_script"]) fun _ _ _ _ _ _ us hl => match us, hl with | [_], _ => rfl⟩,
    law_draw := ⟨f33, _, fun_mk (st := s_law_draw) l33 c33 k33, PySem.W.mg_of X G a33, (fun_mk (st := s_law_draw) l33 c33 k33).binds (ps := ["_law_pool_here", "_law_many"]) fun _ _ _ _ _ _ us hl => match us, hl with | [_, _], _ => rfl⟩,
    law_is := ⟨f34, _, fun_mk (st := s_law_is) l34 c34 k34, PySem.W.mg_of X G a34, (fun_mk (st := s_law_is) l34 c34 k34).binds (ps := ["_law_told_here", "_law_due"]) fun _ _ _ _ _ _ us hl => match us, hl with | [_, _], _ => rfl⟩,
    law_whole := ⟨f35, _, fun_mk (st := s_law_whole) l35 c35 k35, PySem.W.mg_of X G a35, (fun_mk (st := s_law_whole) l35 c35 k35).binds (ps := ["_law_number_here"]) fun _ _ _ _ _ _ us hl => match us, hl with | [_], _ => rfl⟩,
    law_bytes := ⟨f36, _, fun_mk (st := s_law_bytes) l36 c36 k36, PySem.W.mg_of X G a36, (fun_mk (st := s_law_bytes) l36 c36 k36).binds (ps := ["_law_parcel_here"]) fun _ _ _ _ _ _ us hl => match us, hl with | [_], _ => rfl⟩,
    law_number := ⟨f37, _, fun_mk (st := s_law_number) l37 c37 k37, PySem.W.mg_of X G a37, (fun_mk (st := s_law_number) l37 c37 k37).binds (ps := ["_law_pool_here"]) fun _ _ _ _ _ _ us hl => match us, hl with | [_], _ => rfl⟩,
    law_parcel := ⟨f38, _, fun_mk (st := s_law_parcel) l38 c38 k38, PySem.W.mg_of X G a38, (fun_mk (st := s_law_parcel) l38 c38 k38).binds (ps := ["_law_pool_here", "_law_deep"]) fun _ _ _ _ _ _ us hl => match us, hl with | [_, _], _ => rfl⟩,
    law_same := ⟨f39, _, fun_mk (st := s_law_same) l39 c39 k39, PySem.W.mg_of X G a39, (fun_mk (st := s_law_same) l39 c39 k39).binds (ps := ["_law_one", "_law_other"]) fun _ _ _ _ _ _ us hl => match us, hl with | [_, _], _ => rfl⟩,
    law_sign := ⟨f40, _, fun_mk (st := s_law_sign) l40 c40 k40, PySem.W.mg_of X G a40, (fun_mk (st := s_law_sign) l40 c40 k40).binds (ps := ["_law_byte"]) fun _ _ _ _ _ _ us hl => match us, hl with | [_], _ => rfl⟩,
    law_read_whole := ⟨f41, _, fun_mk (st := s_law_read_whole) l41 c41 k41, PySem.W.mg_of X G a41, (fun_mk (st := s_law_read_whole) l41 c41 k41).binds (ps := ["_law_row", "_law_at"]) fun _ _ _ _ _ _ us hl => match us, hl with | [_, _], _ => rfl⟩,
    law_read := ⟨f42, _, fun_mk (st := s_law_read) l42 c42 k42, PySem.W.mg_of X G a42, (fun_mk (st := s_law_read) l42 c42 k42).binds (ps := ["_law_row", "_law_at", "_law_left"]) fun _ _ _ _ _ _ us hl => match us, hl with | [_, _, _], _ => rfl⟩,
    law_read_string := ⟨f43, _, fun_mk (st := s_law_read_string) l43 c43 k43, PySem.W.mg_of X G a43, (fun_mk (st := s_law_read_string) l43 c43 k43).binds (ps := ["_law_row", "_law_begin", "_law_many", "_law_here"]) fun _ _ _ _ _ _ us hl => match us, hl with | [_, _, _, _], _ => rfl⟩,
    law_told := ⟨f44, _, fun_mk (st := s_law_told) l44 c44 k44, PySem.W.mg_of X G a44, (fun_mk (st := s_law_told) l44 c44 k44).binds (ps := ["_law_row"]) fun _ _ _ _ _ _ us hl => match us, hl with | [_], _ => rfl⟩,
    law_mark := ⟨f45, _, fun_mk (st := s_law_mark) l45 c45 k45, PySem.W.mg_of X G a45, (fun_mk (st := s_law_mark) l45 c45 k45).binds (ps := ["_law_row"]) fun _ _ _ _ _ _ us hl => match us, hl with | [_], _ => rfl⟩,
    law_sealed := ⟨f46, _, fun_mk (st := s_law_sealed) l46 c46 k46, PySem.W.mg_of X G a46, (fun_mk (st := s_law_sealed) l46 c46 k46).binds (ps := ["_law_row"]) fun _ _ _ _ _ _ us hl => match us, hl with | [_], _ => rfl⟩,
    law_opened := ⟨f47, _, fun_mk (st := s_law_opened) l47 c47 k47, PySem.W.mg_of X G a47, (fun_mk (st := s_law_opened) l47 c47 k47).binds (ps := ["_law_row"]) fun _ _ _ _ _ _ us hl => match us, hl with | [_], _ => rfl⟩,
    law_kept := ⟨f48, _, fun_mk (st := s_law_kept) l48 c48 k48, PySem.W.mg_of X G a48, (fun_mk (st := s_law_kept) l48 c48 k48).binds (ps := ["_law_blocks"]) fun _ _ _ _ _ _ us hl => match us, hl with | [_], _ => rfl⟩,
    law_block := ⟨f49, _, fun_mk (st := s_law_block) l49 c49 k49, PySem.W.mg_of X G a49, (fun_mk (st := s_law_block) l49 c49 k49).binds (ps := ["_law_pool_here"]) fun _ _ _ _ _ _ us hl => match us, hl with | [_], _ => rfl⟩,
    law_led := ⟨f50, _, fun_mk (st := s_law_led) l50 c50 k50, PySem.W.mg_of X G a50, (fun_mk (st := s_law_led) l50 c50 k50).binds (ps := ["_law_pool_here", "_law_disk", "_law_blocks", "_law_synced", "_law_many"]) fun _ _ _ _ _ _ us hl => match us, hl with | [_, _, _, _, _], _ => rfl⟩,
    law_parcels_right := ⟨f51, _, fun_mk (st := s_law_parcels_right) l51 c51 k51, PySem.W.mg_of X G a51, (fun_mk (st := s_law_parcels_right) l51 c51 k51).binds (ps := ["_law_blocks"]) fun _ _ _ _ _ _ us hl => match us, hl with | [_], _ => rfl⟩,
    law := ⟨f52, _, fun_mk (st := s_law) l52 c52 k52, PySem.W.mg_of X G a52, (fun_mk (st := s_law) l52 c52 k52).binds (ps := ["_law_script"]) fun _ _ _ _ _ _ us hl => match us, hl with | [_], _ => rfl⟩ }
  exact fin_of T B hfa hb
theorem walk {l : PySem.W.OpenLaw} {q : Program} {loose : List Str} {XP : (Str → Option Value) → Heap → Prop} {YP : World → Heap → Prop} {d : DefRec} {K : Params → PySem.W.Frag} (hn : l.most = some 63) (hdf : d.params.defaults = [])
    (hY : ∀ (w : World) (h : Heap), YP w h → (K w.params).In h)
    (F : ∀ (w : World) (mg : Str → Option Value) (fa : Addr) (h : Heap), (K w.params).In h → h.Ns mainGlobals mg → mg d.name = some (.ref fa) →
      ∃ fd : FuncData, (∀ (s : Shared) (u : Value), BindsTo s fd ⟨[u], []⟩ [("_law_script", u)]) ∧ ∀ base : Heap, (K w.params).In base → base.Ns mainGlobals mg → FnOk l.prog w (K w.params) mg base CX0 51 fa fd ["_law_script"] (spLaw (K w.params))) :
    PySem.W.WalkO q loose XP YP l.row.toRowW d [] (fun f vs => PySem.call f vs) :=
  L2.walk_of (n := 63) (k := 51) (x := "_law_script") (CX := fun _ => CX0) (sp := fun w => spLaw (K w.params)) hn (by decide) hdf ⟨rfl, by decide, by decide⟩ hY F (fun _ _ a ns hl _ hS => ⟨a, ns, rfl, hS, fun _ => rfl⟩) fun _ _ _ _ _ z => z
end Mw

/-! Z2 -/
open PySem PySem.W PyProof.Rows in
set_option maxRecDepth 100000 in
set_option maxHeartbeats 0 in
theorem PySem.Challenge.cw_moststream_k30_whole_disks_and_kept_parc_holds : PySem.Challenge.rw_moststream_k30_whole_disks_and_kept_parc.Holds := by
  w_on; o_law; k_head; (case hw => w_witness2)
  k_fill
  refine Mw.walk (l := PySem.Challenge.rw_moststream_k30_whole_disks_and_kept_parc) rfl rfl (fun w h Y => PySem.W.kIn_of Y) ?F
  case F =>
    intro w mg fa h KX G hmg
    refine' Mw.all_mk KX G hmg ?g_c_Disk ?g_c_NoNumber ?g_c_NoCut ?g_c_NoBlocks ?g_c_NoRow ?g_c_BadRow ?g_NONE ?g_NO ?g_YES ?g_FROM_ZERO ?g_STRING ?g_TUPLE ?g_MOST_SIGNS ?g_MOST_DEEP ?g_BYTE_LIMIT ?g_FIGURE_LIMIT ?g_MARK_LIMIT ?g_SEAL_LENGTH ?g_LEAST_SIGN ?g_GREATEST_SIGN ?g_NO_SIGN ?g_SIGNS ?b_isinstance ?b_int ?b_bool ?b_tuple ?b_list ?b_str ?b_len ?b_range ?b_zip ?b_min ?b_all ?b_sum ?b_abs ?b_ord ?b_repr ?w_c_Disk_pg ?w_c_Disk_hd ?w_c_Disk_po ?w_c_Disk_sa ?w_c_Disk_ca ?w_c_Disk_co ?w_c_Disk_ki ?w_c_Disk_kb ?w_c_Disk_kt ?w_c_Disk_kl ?w_c_Disk_ks ?w_c_Disk_is ?w_c_Disk_ty ?w_c_Disk_mk ?w_c_Disk_kp ?w_cg ?w_ct ?w_na_rows ?w_na_firm ?x0_l ?x0_sa ?x0_ex ?x0_ty ?x0_kp ?x0_is ?x1_l ?x1_sa ?x1_ex ?x1_ty ?x1_kp ?x1_is ?x2_l ?x2_sa ?x2_ex ?x2_ty ?x2_kp ?x2_is ?x3_l ?x3_sa ?x3_ex ?x3_ty ?x3_kp ?x3_is ?x4_l ?x4_sa ?x4_ex ?x4_ty ?x4_kp ?x4_is ?qna_place ?se_BadRowBadRow ?a0 ?i0 ?t0 ?l0 ?c0 ?k0 ?a1 ?i1 ?t1 ?l1 ?c1 ?k1 ?a2 ?i2 ?t2 ?l2 ?c2 ?k2 ?a3 ?i3 ?t3 ?l3 ?c3 ?k3 ?a4 ?i4 ?t4 ?l4 ?c4 ?k4 ?a5 ?l5 ?c5 ?k5 ?a6 ?l6 ?c6 ?k6 ?a7 ?l7 ?c7 ?k7 ?a8 ?l8 ?c8 ?k8 ?a9 ?l9 ?c9 ?k9 ?a10 ?l10 ?c10 ?k10 ?a11 ?l11 ?c11 ?k11 ?a12 ?l12 ?c12 ?k12 ?a13 ?l13 ?c13 ?k13 ?a14 ?l14 ?c14 ?k14 ?a15 ?l15 ?c15 ?k15 ?a16 ?l16 ?c16 ?k16 ?a17 ?l17 ?c17 ?k17 ?a18 ?l18 ?c18 ?k18 ?a19 ?l19 ?c19 ?k19 ?a20 ?l20 ?c20 ?k20 ?a21 ?l21 ?c21 ?k21 ?a22 ?i22 ?t22 ?l22 ?c22 ?k22 ?a23 ?i23 ?t23 ?l23 ?c23 ?k23 ?a24 ?i24 ?t24 ?l24 ?c24 ?k24 ?a25 ?i25 ?t25 ?l25 ?c25 ?k25 ?a26 ?i26 ?t26 ?l26 ?c26 ?k26 ?a27 ?i27 ?t27 ?l27 ?c27 ?k27 ?a28 ?i28 ?t28 ?l28 ?c28 ?k28 ?a29 ?i29 ?t29 ?l29 ?c29 ?k29 ?a30 ?l30 ?c30 ?k30 ?a31 ?l31 ?c31 ?k31 ?a32 ?l32 ?c32 ?k32 ?a33 ?l33 ?c33 ?k33 ?a34 ?l34 ?c34 ?k34 ?a35 ?l35 ?c35 ?k35 ?a36 ?l36 ?c36 ?k36 ?a37 ?l37 ?c37 ?k37 ?a38 ?l38 ?c38 ?k38 ?a39 ?l39 ?c39 ?k39 ?a40 ?l40 ?c40 ?k40 ?a41 ?l41 ?c41 ?k41 ?a42 ?l42 ?c42 ?k42 ?a43 ?l43 ?c43 ?k43 ?a44 ?l44 ?c44 ?k44 ?a45 ?l45 ?c45 ?k45 ?a46 ?l46 ?c46 ?k46 ?a47 ?l47 ?c47 ?k47 ?a48 ?l48 ?c48 ?k48 ?a49 ?l49 ?c49 ?k49 ?a50 ?l50 ?c50 ?k50 ?a51 ?l51 ?c51 ?k51 ?a52 ?l52 ?c52 ?k52
    (case g_c_Disk => k_is)
    (case g_c_NoNumber => k_is)
    (case g_c_NoCut => k_is)
    (case g_c_NoBlocks => k_is)
    (case g_c_NoRow => k_is)
    (case g_c_BadRow => k_is)
    (case g_NONE => k_is)
    (case g_NO => k_is)
    (case g_YES => k_is)
    (case g_FROM_ZERO => k_is)
    (case g_STRING => k_is)
    (case g_TUPLE => k_is)
    (case g_MOST_SIGNS => k_is)
    (case g_MOST_DEEP => k_is)
    (case g_BYTE_LIMIT => k_is)
    (case g_FIGURE_LIMIT => k_is)
    (case g_MARK_LIMIT => k_is)
    (case g_SEAL_LENGTH => k_is)
    (case g_LEAST_SIGN => k_is)
    (case g_GREATEST_SIGN => k_is)
    (case g_NO_SIGN => k_is)
    (case g_SIGNS => k_is)
    (case b_isinstance => k_is)
    (case b_int => k_is)
    (case b_bool => k_is)
    (case b_tuple => k_is)
    (case b_list => k_is)
    (case b_str => k_is)
    (case b_len => k_is)
    (case b_range => k_is)
    (case b_zip => k_is)
    (case b_min => k_is)
    (case b_all => k_is)
    (case b_sum => k_is)
    (case b_abs => k_is)
    (case b_ord => k_is)
    (case b_repr => k_is)
    (case w_c_Disk_pg => k_is)
    (case w_c_Disk_hd => k_is)
    (case w_c_Disk_po => k_is)
    (case w_c_Disk_sa => k_is)
    (case w_c_Disk_ca => k_is)
    (case w_c_Disk_co => k_is)
    (case w_c_Disk_ki => k_is)
    (case w_c_Disk_kb => k_is)
    (case w_c_Disk_kt => k_is)
    (case w_c_Disk_kl => k_is)
    (case w_c_Disk_ks => k_is)
    (case w_c_Disk_is => k_is)
    (case w_c_Disk_ty => k_is)
    (case w_c_Disk_mk => k_is)
    (case w_c_Disk_kp => k_is)
    (case w_cg => k_is)
    (case w_ct => k_is)
    (case w_na_rows => k_is)
    (case w_na_firm => k_is)
    (case x0_l => k_is)
    (case x0_sa => k_is)
    (case x0_ex => k_is)
    (case x0_ty => k_is)
    (case x0_kp => k_is)
    (case x0_is => k_is)
    (case x1_l => k_is)
    (case x1_sa => k_is)
    (case x1_ex => k_is)
    (case x1_ty => k_is)
    (case x1_kp => k_is)
    (case x1_is => k_is)
    (case x2_l => k_is)
    (case x2_sa => k_is)
    (case x2_ex => k_is)
    (case x2_ty => k_is)
    (case x2_kp => k_is)
    (case x2_is => k_is)
    (case x3_l => k_is)
    (case x3_sa => k_is)
    (case x3_ex => k_is)
    (case x3_ty => k_is)
    (case x3_kp => k_is)
    (case x3_is => k_is)
    (case x4_l => k_is)
    (case x4_sa => k_is)
    (case x4_ex => k_is)
    (case x4_ty => k_is)
    (case x4_kp => k_is)
    (case x4_is => k_is)
    (case qna_place => k_is)
    (case se_BadRowBadRow => k_is)
    (case a0 => k_is)
    (case i0 => k_is)
    (case t0 => k_is)
    (case l0 => k_is)
    (case c0 => k_is)
    (case k0 => k_is)
    (case a1 => k_is)
    (case i1 => k_is)
    (case t1 => k_is)
    (case l1 => k_is)
    (case c1 => k_is)
    (case k1 => k_is)
    (case a2 => k_is)
    (case i2 => k_is)
    (case t2 => k_is)
    (case l2 => k_is)
    (case c2 => k_is)
    (case k2 => k_is)
    (case a3 => k_is)
    (case i3 => k_is)
    (case t3 => k_is)
    (case l3 => k_is)
    (case c3 => k_is)
    (case k3 => k_is)
    (case a4 => k_is)
    (case i4 => k_is)
    (case t4 => k_is)
    (case l4 => k_is)
    (case c4 => k_is)
    (case k4 => k_is)
    (case a5 => k_is)
    (case l5 => k_is)
    (case c5 => k_is)
    (case k5 => k_is)
    (case a6 => k_is)
    (case l6 => k_is)
    (case c6 => k_is)
    (case k6 => k_is)
    (case a7 => k_is)
    (case l7 => k_is)
    (case c7 => k_is)
    (case k7 => k_is)
    (case a8 => k_is)
    (case l8 => k_is)
    (case c8 => k_is)
    (case k8 => k_is)
    (case a9 => k_is)
    (case l9 => k_is)
    (case c9 => k_is)
    (case k9 => k_is)
    (case a10 => k_is)
    (case l10 => k_is)
    (case c10 => k_is)
    (case k10 => k_is)
    (case a11 => k_is)
    (case l11 => k_is)
    (case c11 => k_is)
    (case k11 => k_is)
    (case a12 => k_is)
    (case l12 => k_is)
    (case c12 => k_is)
    (case k12 => k_is)
    (case a13 => k_is)
    (case l13 => k_is)
    (case c13 => k_is)
    (case k13 => k_is)
    (case a14 => k_is)
    (case l14 => k_is)
    (case c14 => k_is)
    (case k14 => k_is)
    (case a15 => k_is)
    (case l15 => k_is)
    (case c15 => k_is)
    (case k15 => k_is)
    (case a16 => k_is)
    (case l16 => k_is)
    (case c16 => k_is)
    (case k16 => k_is)
    (case a17 => k_is)
    (case l17 => k_is)
    (case c17 => k_is)
    (case k17 => k_is)
    (case a18 => k_is)
    (case l18 => k_is)
    (case c18 => k_is)
    (case k18 => k_is)
    (case a19 => k_is)
    (case l19 => k_is)
    (case c19 => k_is)
    (case k19 => k_is)
    (case a20 => k_is)
    (case l20 => k_is)
    (case c20 => k_is)
    (case k20 => k_is)
    (case a21 => k_is)
    (case l21 => k_is)
    (case c21 => k_is)
    (case k21 => k_is)
    (case a22 => k_is)
    (case i22 => k_is)
    (case t22 => k_is)
    (case l22 => k_is)
    (case c22 => k_is)
    (case k22 => k_is)
    (case a23 => k_is)
    (case i23 => k_is)
    (case t23 => k_is)
    (case l23 => k_is)
    (case c23 => k_is)
    (case k23 => k_is)
    (case a24 => k_is)
    (case i24 => k_is)
    (case t24 => k_is)
    (case l24 => k_is)
    (case c24 => k_is)
    (case k24 => k_is)
    (case a25 => k_is)
    (case i25 => k_is)
    (case t25 => k_is)
    (case l25 => k_is)
    (case c25 => k_is)
    (case k25 => k_is)
    (case a26 => k_is)
    (case i26 => k_is)
    (case t26 => k_is)
    (case l26 => k_is)
    (case c26 => k_is)
    (case k26 => k_is)
    (case a27 => k_is)
    (case i27 => k_is)
    (case t27 => k_is)
    (case l27 => k_is)
    (case c27 => k_is)
    (case k27 => k_is)
    (case a28 => k_is)
    (case i28 => k_is)
    (case t28 => k_is)
    (case l28 => k_is)
    (case c28 => k_is)
    (case k28 => k_is)
    (case a29 => k_is)
    (case i29 => k_is)
    (case t29 => k_is)
    (case l29 => k_is)
    (case c29 => k_is)
    (case k29 => k_is)
    (case a30 => k_is)
    (case l30 => k_is)
    (case c30 => k_is)
    (case k30 => k_is)
    (case a31 => k_is)
    (case l31 => k_is)
    (case c31 => k_is)
    (case k31 => k_is)
    (case a32 => k_is)
    (case l32 => k_is)
    (case c32 => k_is)
    (case k32 => k_is)
    (case a33 => k_is)
    (case l33 => k_is)
    (case c33 => k_is)
    (case k33 => k_is)
    (case a34 => k_is)
    (case l34 => k_is)
    (case c34 => k_is)
    (case k34 => k_is)
    (case a35 => k_is)
    (case l35 => k_is)
    (case c35 => k_is)
    (case k35 => k_is)
    (case a36 => k_is)
    (case l36 => k_is)
    (case c36 => k_is)
    (case k36 => k_is)
    (case a37 => k_is)
    (case l37 => k_is)
    (case c37 => k_is)
    (case k37 => k_is)
    (case a38 => k_is)
    (case l38 => k_is)
    (case c38 => k_is)
    (case k38 => k_is)
    (case a39 => k_is)
    (case l39 => k_is)
    (case c39 => k_is)
    (case k39 => k_is)
    (case a40 => k_is)
    (case l40 => k_is)
    (case c40 => k_is)
    (case k40 => k_is)
    (case a41 => k_is)
    (case l41 => k_is)
    (case c41 => k_is)
    (case k41 => k_is)
    (case a42 => k_is)
    (case l42 => k_is)
    (case c42 => k_is)
    (case k42 => k_is)
    (case a43 => k_is)
    (case l43 => k_is)
    (case c43 => k_is)
    (case k43 => k_is)
    (case a44 => k_is)
    (case l44 => k_is)
    (case c44 => k_is)
    (case k44 => k_is)
    (case a45 => k_is)
    (case l45 => k_is)
    (case c45 => k_is)
    (case k45 => k_is)
    (case a46 => k_is)
    (case l46 => k_is)
    (case c46 => k_is)
    (case k46 => k_is)
    (case a47 => k_is)
    (case l47 => k_is)
    (case c47 => k_is)
    (case k47 => k_is)
    (case a48 => k_is)
    (case l48 => k_is)
    (case c48 => k_is)
    (case k48 => k_is)
    (case a49 => k_is)
    (case l49 => k_is)
    (case c49 => k_is)
    (case k49 => k_is)
    (case a50 => k_is)
    (case l50 => k_is)
    (case c50 => k_is)
    (case k50 => k_is)
    (case a51 => k_is)
    (case l51 => k_is)
    (case c51 => k_is)
    (case k51 => k_is)
    (case a52 => k_is)
    (case l52 => k_is)
    (case c52 => k_is)
    (case k52 => k_is)
