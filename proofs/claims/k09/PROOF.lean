import PyProof.Rows.All
import Wide.All
import OpenK.AllK
import Wide.FinOn
import HandS.Base
import HandS.Call
import HandS.List
import HandS.Comp
import HandS.Ends
import HandS.Iter
import HandS.Words
import HandS.WordsList
import HandS.Wide
import PyProof.ReprRoads
import KE.GoesMore
import HandS.ForMost
import HandS.TupAny
import HandS.TupMul
import HandS.IsInst
import HandS.Walk
import HandS.SetFor
import HandS.Strs
import PySem.Challenge.RW_ringswings_k09_passages_counted
set_option Elab.async false
set_option linter.all false
set_option maxRecDepth 100000
/-! Ringswings, the common part: promises of defs that may call repr (no repr is under way around them), repr of data, enumerate of a tuple. -/
namespace RS
open PySem PySem.Spec PyProof.Rows L2

/-! ### promises under the condition that no repr is under way -/
structure FnG (P : Program) (w : World) (K : PySem.W.Frag) (mg : Str → Option Value) (base : Heap) (CX : CXT) (k : Nat)
    (f : Addr) (fd : FuncData) (ps : List Str) (sp : Sp) : Prop where
  len : ∀ vs H Q E, sp vs H Q E → vs.length = ps.length
  run : ∀ (A : Around) (outer : List Env) (s : Shared) (H : Hp) (args : Args) (us : List Value) (vs : List V) (Q : VK) (E : XK),
    A.guards = some [] → Room k A → Env0 P w K mg base A outer s H → BindsTo s fd args (ps.zip us) → Vals vs us → sp vs H Q E →
      codeAny (model P w) A (.call (.ref f) args) (CR CX outer P w H s Q E) s

section
variable {P : Program} {w : World} {K : PySem.W.Frag} {mg : Str → Option Value} {base : Heap}

theorem okG {x qual : Str} {st : Stmt} {f : Addr} {fd : FuncData} {N ps : List Str} {k : Nat} {sp : Sp} (F : Fun K x qual st f fd)
    (S : FnScope N ps (defScope st)) (len : ∀ vs H Q E, sp vs H Q E → vs.length = ps.length)
    (walk : ∀ (cdv : Value) (A : Around) (outer : List Env) (s : Shared) (H : Hp) (vs : List V) (Q : VK) (E : XK), A.guards = some [] →
      Room k (A.deeper (envOfC qual (defScope st) s.heap.objs.size f cdv)) → sp vs H Q E →
      ∃ t, PSs (cxOf CX0 P w K mg base N qual (defScope st) f cdv A outer s H E).nox (defBody st) t ∧
        t { nx := fun _ H' => Q .non H', rt := Q } (start N vs) H) :
    FnG P w K mg base CX0 (k + 1) f fd ps sp := by
  obtain ⟨oc, od, kV, doc, pm, an, cdv, ct, osl, rfl, lk, hcd⟩ := F.ex
  refine ⟨len, ?_⟩
  intro A outer s H args us vs Q E hgd room env bnd rel prom
  have hlen := len _ _ _ _ prom
  have inK : K.In s.heap := env.mod.kin.keeps fun b o q => (env.bs b o q).1
  have noLim : s.heap.NoLimit := env.mod.nolimit.keeps fun b o q => (env.bs b o q).1
  refine codeAny_call_function room.depth (inK _ _ lk) rfl S.co S.gen rfl (PySem.W.codeRec_of inK hcd) (bnd _ _ _ _ ?_)
  refine wpAny_newFunctionEnv_cells S.kind ?_ ?_
  · rintro ⟨n, v⟩ mem
    exact (S.par n (List.of_mem_zip mem).1).imp id fun q => ⟨q, PySem.W.cellsFrom_some _ _ _ (.inl q)⟩
  · intro env' he s1 x1
    subst he
    refine ⟨noLim.keeps x1.toInCall.keep, codeAny_func ?_⟩
    obtain ⟨t, ht, hq⟩ := walk cdv A outer s H vs Q E hgd (room.deeper _) prom
    have I := inv_start (CX := CX0) (E := E) S room.hd env hlen rel x1
    refine wpAny_mono (ht.nox.run [] s1 (start N vs) H _ I hq) ?_ (fun _ _ z => z)
    intro fl s' hs
    cases fl with
    | ret u =>
      obtain ⟨v, σ', H', J, rv, q⟩ := hs
      exact ⟨v, H', J.os, J.bare, J.base, J.hok, rv, q⟩
    | next =>
      obtain ⟨σ', H', J, q⟩ := hs
      exact ⟨V.non, H', J.os, J.bare, J.base, J.hok, rfl, q⟩
    | brk => exact hs.elim fun _ h => h.elim fun _ h => h.2.elim
    | cont => exact hs.elim fun _ h => h.elim fun _ h => h.2.elim
end

section
variable {X : Cx} {CX : CXT} {k : Nat} {f : Addr} {fd : FuncData} {ps : List Str} {sp : Sp} {E : XK} {x : Str} {p pos : Pos}
  {e : Expr} {es : List Expr} {t : TA}

theorem pe_callG (hgd : X.A.guards = some []) (F : FnG X.prog X.w X.K X.mg X.base CX k f fd ps sp) (room : Room k X.A) (hg : Gl X x)
    (hm : X.mg x = some (.ref f)) (kp : PySem.W.keepIn X.K (.ref f) = true) (bnd : Binds X.K fd ps []) (pass : Passes CX X E)
    (ha : PA X (e :: es) t) (hdb : (x == ("__debug__" : Str)) = false := by decide)
    (he : starEach (e :: es) X.env = (false, eval e X.env) :: starEach es X.env := by rfl)
    (hpl : (backTo pos (starEach es X.env)).any (·.1) = false := by rfl) :
    PE X (.Call (.Name x p) (e :: es) [] pos) (tCall sp [] E t) := by
  refine ⟨?_⟩
  intro pins s σ H Q I h
  refine wpAny_Call_Name_kw (ld_glob I hg hm ?_ hdb)
  refine PySem.W.callWith_K (h₀ := X.base) I.ok.mod.kin kp (thn (ha.run pos pins s σ H _ I h) ?_) he hpl
  rintro us s1 ⟨vs, H1, I1, rel, q⟩
  rw [List.append_nil] at q
  have hl : us.length = ps.length := by
    rw [← rel.length]
    exact F.len _ _ _ _ q
  have bd := bnd s1 us I1.kIn (by rw [List.append_nil]; exact hl)
  rw [List.append_nil] at bd
  refine ⟨I1.kIn, wpAny_call (codeAny_mono (F.run X.A X.stack s1 H1 ⟨us, []⟩ us vs Q E hgd room I1.env0 bd rel q) ?_)⟩
  intro r s' hq
  cases r with
  | error z => exact pass pins σ H1 s1 z s' I1 hq
  | ok fl =>
    cases fl with
    | ret u => exact I1.after hq
    | next => exact hq.elim
    | brk => exact hq.elim
    | cont => exact hq.elim
end

/-! ### repr of data -/
section
variable {X : Cx}
/-- repr(x), x a tree of lists and tuples over None, bools, ints, texts: the text that the data itself has -/
def rRepr (K : PySem.W.Frag) : List V → Hp → VK → Prop := fun xs H Q =>
  ∃ x d, xs = [x] ∧ Dp K H x d ∧ d.showable = true ∧ d.hasDict = false ∧ d.depth ≤ 60 ∧ d.shown.length ≤ sizeLine ∧ Q (.str d.shown) H
theorem call_repr_ref (hgd : X.A.guards = some []) (hu : X.A.units + 64 < cLine) :
    CallR X (.builtin "repr") (fun xs H Q => ∃ a d, xs = [.ref a] ∧ Dp X.K H (.ref a) d ∧ d.showable = true ∧ d.hasDict = false ∧
      d.depth ≤ 60 ∧ d.shown.length ≤ sizeLine ∧ Q (.str d.shown) H) := by
  intro pins s σ H xs us Q I r h
  obtain ⟨a, d, rfl, hd, hs, hh, hz, hl, q⟩ := h
  obtain ⟨u, rfl, ru⟩ := vals1 r
  cases ru
  obtain ⟨as, rd⟩ := Dp.reads I d _ _ hd rfl
  refine repr_of_reads' rd hs (fun z => by rw [hh] at z; cases z) hgd (by omega) (fun b o e => e) ?_ hl
  intro h' u tk hk
  exact ⟨.str d.shown, H, I.kept hk, ⟨u, rfl⟩, q⟩
end
end RS

set_option Elab.async false
set_option linter.all false
set_option maxRecDepth 100000
namespace PySem
open AutoSeq1 (wpAny_loadPart')

/-! ### enumerate(t), t a tuple -/
theorem rs_meets_enum (l : Addr) (cs : Array Value) (n : Nat) (dct : Option Addr) (sl : Array (Option Value)) :
    Meets (Builtin.«enumerate.__new__» ⟨[.type "enumerate", .ref l], []⟩)
      (fun _ R s => s.heap.get? l = some { cls := .type "tuple", dict := dct, data := .seq cs n, slots := sl } ∧
        R (.ok (.ret (.ref (s.heap.push { cls := .type "tuple_iterator", data := .fields #[.ref l, .int 0 0] }).objs.size)))
          { s with heap := Heap.push (s.heap.push { cls := .type "tuple_iterator", data := .fields #[.ref l, .int 0 0] }) { cls := .type "enumerate", data := .fields #[.none, .bool false, .ref s.heap.objs.size, rawInt 0, .none, .none] } }) := by
  refine .of_wp ?_
  intro prog w A R s h
  obtain ⟨hp, g, d, tk, os⟩ := s
  obtain ⟨hl, h⟩ := h
  have sub := sub_enumerate
  have isT : Heap.IsTuple (Shared.heap ⟨hp, g, d, tk, os⟩) l cs := ⟨_, hl, rfl, n, rfl⟩
  wp_walk using wpAny_loadPart' hl
  refine wpAny_stack_any fun st => wpAny_pure ?_
  split
  · rename_i c _ _ _ _ _
    cases (c == Value.type "enumerate") <;>
      (wp_walk using wpAny_loadPart' hl, wpAny_pyIter_tuple isT
       exact ⟨_, rfl, h⟩)
  · wp_walk using wpAny_loadPart' hl, wpAny_pyIter_tuple isT
    exact ⟨_, rfl, h⟩

section
variable {prog : Program} {w : World} {A : Around} {E : Value → Shared → Prop} {s : Shared}
theorem rs_call_enum {l : Addr} {cs : Array Value} {Q : Value → Shared → Prop} (isT : s.heap.IsTuple l cs)
    (h : ∀ h', IsEnum h' (s.heap.objs.size + 1) s.heap.objs.size 0 .none → h'.IsTupleIter s.heap.objs.size l 0 →
      (∀ b o, s.heap.get? b = some o → h'.get? b = some o) → Q (.ref (s.heap.objs.size + 1)) { s with heap := h' }) :
    wpAny (model prog w) A (call (.type "enumerate") [.ref l]) Q E s := by
  obtain ⟨⟨c, dct, dt, sl⟩, hl, hc, n, hd⟩ := isT
  obtain rfl : c = .type "tuple" := hc
  obtain rfl : dt = .seq cs n := hd
  refine callType_new F.called_enumerate (by decide) (F.typeCall_enumerate_1 _) (F.newCall_enumerate_1 _)
    (fun obj => F.args_object_init_2 obj _) F.entry_enumerate_new (rs_meets_enum l cs n dct sl) ⟨hl, ?_⟩
  generalize ho : ({ cls := .type "tuple_iterator", data := .fields #[.ref l, .int 0 0] } : Obj) = oi
  have hz : (s.heap.push oi).objs.size = s.heap.objs.size + 1 := Heap.size_push ..
  show _ ∧ _
  rw [hz]
  have he : IsEnum ((s.heap.push oi).push
      { cls := .type "enumerate", data := .fields #[.none, .bool false, .ref s.heap.objs.size, rawInt 0, .none, .none] })
      (s.heap.objs.size + 1) s.heap.objs.size 0 .none := by
    rw [← hz]
    exact Heap.get?_push_size _ rfl
  subst ho
  exact ⟨⟨_, he, rfl⟩, h _ he ⟨_, Heap.get?_push_of_some _ (Heap.get?_push_size _ rfl), rfl, rfl⟩
    fun b o x => Heap.get?_push_of_some _ (Heap.get?_push_of_some _ x)⟩
end
end PySem

namespace RS
open PySem PySem.Spec PyProof.Rows L2
/-- the tuple at a, each item in a new pair with its place -/
def ItE (K : PySem.W.Frag) (a : Addr) : It where
  go := fun i H => ∃ (xs : List V) (x : V), SqT K H a xs ∧ xs[i]? = some x
  yld := fun i H v H' => ∃ T x, v = .ref T ∧ H T = none ∧ H' = upd H T (.tup [.int (i : Nat), x]) ∧ ∀ xs, SqT K H a xs → xs[i]? = some x
  stop := fun i H => ∃ xs : List V, SqT K H a xs ∧ xs.length ≤ i

theorem turn_enumT {P : Program} {w : World} {K : PySem.W.Frag} {elts : List Expr} {kk : Nat} {tpos : Pos} (a e it : Addr) :
    Turn P w K (.Tuple elts kk tpos) (ItE K a) [e, it] e
      (fun i h => (∃ old, IsEnum h e it ((i : Nat) : Int) old) ∧ h.IsTupleIter it a i ∧ e ≠ it) where
  mem := by simp
  obj := by
    intro i h st b hb
    obtain ⟨⟨old, he⟩, ⟨o, ho, hc, hd⟩, _⟩ := st
    have e' : b = e ∨ b = it := by simpa using hb
    rcases e' with rfl | rfl
    · exact ⟨_, he, fun v q => nomatch q⟩
    · exact ⟨o, ho, fun v q => by rw [hd] at q; cases q⟩
  keep := by
    intro i h h' st k
    obtain ⟨⟨old, he⟩, hi, hne⟩ := st
    exact ⟨⟨old, k e (by simp) _ he⟩, hi.at fun o q => k it (by simp) o q, hne⟩
  item := by
    intro X hP hw hK hc i pins s σ H E I hf st hg
    subst hP hw hK
    obtain ⟨⟨old, he⟩, hit, hne⟩ := st
    obtain ⟨xs, x, hq, hx⟩ := hg
    obtain ⟨its, rv, tp, hz⟩ := I.tuple hq
    obtain ⟨u, hu, ru⟩ := rv.get hx
    have isT : s.heap.IsTuple a its.toArray := tp
    have hel : e < s.heap.objs.size := Heap.lt_size he
    have hil : it < s.heap.objs.size := by
      obtain ⟨_, q, _⟩ := hit
      exact Heap.lt_size q
    have hta : a ≠ it := by
      rintro rfl
      obtain ⟨o1, q1, c1, _⟩ := isT
      obtain ⟨o2, q2, c2, _⟩ := hit
      rw [q1] at q2
      cases q2
      rw [c1] at c2
      injection c2 with c3
      exact absurd c3 (by decide)
    have hea : e ≠ a := by
      rintro rfl
      obtain ⟨o1, q1, c1, _⟩ := isT
      rw [he] at q1
      cases q1
      injection c1 with c3
      exact absurd c3 (by decide)
    have D := Draws.tuple (prog := X.prog) (w := X.w) (A := X.A.in1) (show X.A.in1.handled = none from I.ok.hd hc) it a hta its.toArray
    have hlt : i < its.toArray.size := by
      have := (List.getElem?_eq_some_iff.mp hu).1
      simpa using this
    refine wpAny_pyNext_enum_itemD D he ⟨hit, isT⟩ hlt hne (by simp; exact ⟨hne, hea⟩) ?_
    intro x' h' tk hx' ho st' hT hsz hk
    have ex : x' = u := by
      have : its[i]? = some x' := by simpa using hx'
      rw [hu] at this
      exact (Option.some.inj this).symm
    subst ex
    refine ⟨_, rfl, wpAny_letOwnedTupleGo_enum (s := { s with heap := h', toks := tk + 1 }) ho ?_⟩
    intro h'' he' sb
    have hT2 : h''.get? s.heap.objs.size = some { cls := .type "tuple", data := .seq #[.int i tk, x'] } := (sb.2 _ (Nat.ne_of_gt hel)).trans hT
    have new : ObjOk X.prog X.w (upd H s.heap.objs.size (.tup [.int (i : Nat), x])) h'' s.heap.objs.size (.tup [.int (i : Nat), x]) :=
      ⟨by show 2 ≤ sizeLine; decide, [.int i tk, x'], .cons ⟨_, rfl⟩ (.cons ru .nil), ⟨_, hT2, rfl, _, rfl⟩⟩
    have I1 : Inv X pins σ (upd H s.heap.objs.size (.tup [.int (i : Nat), x])) { s with heap := h'', toks := tk + 1 } := by
      refine I.turnedNew (ch := [e, it]) ?_ hf (Nat.le_refl _) new
      intro b ob hb q
      have b1 : b ≠ e := fun z => hb (by simp [z])
      have b2 : b ≠ it := fun z => hb (by simp [z])
      exact (sb.2 b b1).trans (hk b ob b1 b2 q)
    refine ⟨.ref s.heap.objs.size, _, I1, rfl, ⟨_, x, rfl, I.hok.fresh (Nat.le_refl _), rfl, fun ys hy => by rw [I.tuple_inj hy hq]; exact hx⟩, ⟨⟨x', ?_⟩, ?_, hne⟩, ?_⟩
    · have e1 : ((i + 1 : Nat) : Int) = (i : Int) + 1 := by omega
      rw [e1]
      exact he'
    · exact st'.1.at fun o q => (sb.2 it (Ne.symm hne)).trans q
    · intro b hb
      have hb' : b ≠ s.heap.objs.size := by
        have e' : b = e ∨ b = it := by simpa using hb
        rcases e' with rfl | rfl
        · exact Nat.ne_of_lt hel
        · exact Nat.ne_of_lt hil
      rw [upd_ne hb']
      exact (hf b hb).1
  done := by
    intro X hP hw hK hc i pins s σ H E I hf st hg
    subst hP hw hK
    obtain ⟨⟨old, he⟩, hit, hne⟩ := st
    obtain ⟨xs, hq, hx⟩ := hg
    obtain ⟨its, rv, tp, hz⟩ := I.tuple hq
    obtain ⟨f0, f1, f2, f3, f4, f5⟩ := hf it (by simp)
    have isT : s.heap.IsTuple a its.toArray := tp
    have hta : a ≠ it := by
      rintro rfl
      obtain ⟨o1, q1, c1, _⟩ := isT
      obtain ⟨o2, q2, c2, _⟩ := hit
      rw [q1] at q2
      cases q2
      rw [c1] at c2
      injection c2 with c3
      exact absurd c3 (by decide)
    have hl := rv.length
    have hT : s.TypeIs (.ref e) "enumerate" := ⟨_, he, rfl⟩
    unfold pyNext
    refine wpAny_bind (wpAny_attempt (wpAny_callSpecial?_slot (name := Str.ofString "__next__") hT F.slot_enumerate_next
      (wpAny_call_entry F.slot_enumerate_next hT F.entry_enumerate_next ?_ (F.args_enumerate_next_1 _))))
    show wpAny _ _ (field (.ref e) 2 >>= _) _ _ _
    refine wpAny_bind (wpAny_field he rfl (x := .ref it) rfl ?_)
    refine wpAny_bind (wpAny_nextOf_tuple_end (show X.A.in1.handled = none from I.ok.hd hc) hit isT (by simp; omega) fun h' x he' hx' => ?_)
    obtain ⟨o, ho, hcl⟩ := hx'
    refine wpAny_bind (wpAny_isInstance (T := "StopIteration") (b := true) ⟨o, ho, hcl⟩ isSubtype_stop ?_)
    exact wpAny_pure ⟨rfl, I.turned (t' := s.toks) (fun b o hb q => he' b o hb q) f0 f1 f3 f4 f5⟩
  self := by
    intro A i s Q E st h
    obtain ⟨⟨_, he⟩, _⟩ := st
    exact wpAny_pyIter_enum he h

def iEnumT (K : PySem.W.Frag) (ta : TA) : TI := fun σ H R => ta σ H fun vs H1 => ∃ a xs, vs = [.ref a] ∧ SqT K H1 a xs ∧ R (ItE K a) H1
theorem pi_enumT {X : Cx} {e : Expr} {ta : TA} {p pos tpos : Pos} {elts : List Expr} {kk : Nat} (hg : Gl X "enumerate")
    (hm : X.mg "enumerate" = none) (ha : PA X [e] ta) (hs : starEach [e] X.env = [(false, eval e X.env)] := by rfl) :
    PI X (.Tuple elts kk tpos) (.Call (.Name "enumerate" p) [e] [] pos) (iEnumT X.K ta) := by
  refine ⟨?_⟩
  intro pins s σ H R I h
  refine Call_ (ld_blt I hg hm boot_enumerate (PyProof.Rows.callWith_type1 (thn (ha.run pos pins s σ H _ I h) ?_) hs rfl))
  rintro us s1 ⟨vs, H1, I1, r1, a, xs, ex, hq, q⟩
  subst ex
  obtain ⟨u, rfl, ru⟩ := vals1 r1
  cases ru
  obtain ⟨its, rv, tp, hz⟩ := I1.tuple hq
  refine rs_call_enum (show s1.heap.IsTuple a its.toArray from tp) fun h' he hit hk => wpAny_pyIter_enum he ?_
  have I2 : Inv X pins σ H1 { s1 with heap := h' } := I1.kept (t' := s1.toks) hk
  refine ⟨s1.heap.objs.size + 1, [s1.heap.objs.size + 1, s1.heap.objs.size], _, _, H1, rfl, I2,
    turn_enumT a (s1.heap.objs.size + 1) s1.heap.objs.size, ⟨⟨.none, he⟩, hit, Nat.succ_ne_self _⟩, ?_, q⟩
  intro b hb
  have hle : s1.heap.objs.size ≤ b := by
    have e' : b = s1.heap.objs.size + 1 ∨ b = s1.heap.objs.size := by simpa using hb
    rcases e' with rfl | rfl
    · exact Nat.le_add_right _ _
    · exact Nat.le_refl _
  exact I1.fpOk hle (I1.hok.fresh hle)
end RS

set_option Elab.async false
set_option linter.all false
set_option maxRecDepth 100000
namespace RS
open PySem PySem.Spec PyProof.Rows L2

/-! ### how long the text of data may be -/
mutual
def cost : PyData → Nat
  | .none => 4
  | .bool _ => 5
  | .int _ => 1921
  | .str x => (reprText x).length
  | .list xs => costAll xs + 3
  | .tuple xs => costAll xs + 3
  | .dict _ => 0
def costAll : List PyData → Nat
  | [] => 0
  | x :: xs => cost x + 2 + costAll xs
end

theorem textFrom_le : ∀ (ts : List Str) (k : Nat) (acc : Str), (textFrom k acc ts).length ≤ acc.length + piled ts
  | [], k, acc => Nat.le_add_right _ _
  | t :: r, k, acc => by
    have h := textFrom_le r (k + 1) (acc ++ (if k > 0 then ", " else "" : String) ++ t)
    have e : (((if k > 0 then ", " else "" : String) : Str)).length ≤ 2 := by split <;> decide +kernel
    rw [strLen_append, strLen_append] at h
    rw [piled_cons]
    show (textFrom (k + 1) (acc ++ (if k > 0 then ", " else "" : String) ++ t) r).length ≤ _
    omega
theorem listText_le (ts : List Str) : (listText ts).length ≤ piled ts + 2 := by
  unfold listText
  have h := textFrom_le ts 0 "["
  have e1 : ((("[" : String) : Str)).length = 1 := rfl
  have e2 : ((("]" : String) : Str)).length = 1 := rfl
  rw [strLen_append]
  omega
theorem tupleText_le (ts : List Str) : (tupleText ts).length ≤ piled ts + 3 := by
  have e3 : (((if ts.length == 1 then ",)" else ")" : String) : Str)).length ≤ 2 := by split <;> decide +kernel
  have e1 : ((("(" : String) : Str)).length = 1 := rfl
  unfold tupleText
  rw [strLen_append, strLen_append, e1]
  by_cases h : ts = []
  · subst h
    have : (Str.join ", " ([] : List Str)).length = 0 := rfl
    omega
  · have := join_length_add ts h
    omega
mutual
theorem shown_le : ∀ d : PyData, d.showable = true → d.hasDict = false → d.shown.length ≤ cost d
  | .none, _, _ => by simp only [PyData.shown, cost]; decide +kernel
  | .bool b, _, _ => by
    cases b <;> (simp only [PyData.shown, cost]; decide +kernel)
  | .int i, h, _ => by
    have hi : i.natAbs.log2 < 1920 := by simpa [PyData.showable] using h
    simp only [PyData.shown, cost]
    rw [PySem.ofString_length]
    exact int_text_length_le (k := 1920) (by decide) hi
  | .str x, _, _ => by simp only [PyData.shown, cost]; exact Nat.le_refl _
  | .list xs, h, n => by
    have h1 := shownAll_le xs (by simpa [PyData.showable] using h) (by simpa [PyData.hasDict] using n)
    have h2 := listText_le (PyData.shownAll xs)
    simp only [PyData.shown, cost]
    omega
  | .tuple xs, h, n => by
    have h1 := shownAll_le xs (by simpa [PyData.showable] using h) (by simpa [PyData.hasDict] using n)
    have h2 := tupleText_le (PyData.shownAll xs)
    simp only [PyData.shown, cost]
    omega
  | .dict _, _, n => by simp [PyData.hasDict] at n
theorem shownAll_le : ∀ ds : List PyData, PyData.showableAll ds = true → PyData.hasDictAll ds = false → piled (PyData.shownAll ds) ≤ costAll ds
  | [], _, _ => Nat.le_refl _
  | d :: ds, h, n => by
    simp only [PyData.showableAll, Bool.and_eq_true] at h
    simp only [PyData.hasDictAll, Bool.or_eq_false_iff] at n
    have h1 := shown_le d h.1 n.1
    have h2 := shownAll_le ds h.2 n.2
    simp only [PyData.shownAll, piled_cons, costAll]
    omega
end

/-- data whose repr is asked -/
structure Fine (d : PyData) : Prop where
  sh : d.showable = true
  nd : d.hasDict = false
  dp : d.depth ≤ 60
  sz : cost d ≤ sizeLine

section
variable {X : Cx}
def rReprD (K : PySem.W.Frag) : List V → Hp → VK → Prop := fun xs H Q => ∃ x d, xs = [x] ∧ Dp K H x d ∧ Fine d ∧ Q (.str d.shown) H
theorem call_repr (hgd : X.A.guards = some []) (hu : X.A.units + 64 < cLine) : CallR X (.builtin "repr") (rReprD X.K) := by
  intro pins s σ H xs us Q I r h
  obtain ⟨x, d, rfl, hd, F, q⟩ := h
  obtain ⟨u, rfl, ru⟩ := vals1 r
  have hz : d.shown.length ≤ sizeLine := Nat.le_trans (shown_le d F.sh F.nd) F.sz
  cases hd with
  | non =>
    cases ru
    exact PySem.P.repr_of_none ⟨.str _, H, I.tok _, ⟨_, rfl⟩, by simpa only [PyData.shown] using q⟩
  | bl b =>
    cases ru
    exact PySem.P.repr_of_bool ⟨.str _, H, I.tok _, ⟨_, rfl⟩, by simpa only [PyData.shown] using q⟩
  | int i =>
    obtain ⟨t, rfl⟩ := ru
    have hi : i.natAbs.log2 < 1920 := by simpa [PyData.showable] using F.sh
    exact PySem.P.repr_of_int hi ⟨.str _, H, I.tok _, ⟨_, rfl⟩, by simpa only [PyData.shown] using q⟩
  | str z =>
    obtain ⟨t, rfl⟩ := ru
    have hz' : (reprText z).length ≤ sizeLine := by simpa only [PyData.shown] using hz
    exact PySem.P.repr_of_str ⟨.str _, H, I.tok _, ⟨_, rfl⟩, by simpa only [PyData.shown] using q⟩ hz'
  | lst a b =>
    exact call_repr_ref hgd hu pins s σ H _ _ Q I r ⟨_, _, rfl, .lst a b, F.sh, F.nd, F.dp, hz, q⟩
  | tup a b =>
    exact call_repr_ref hgd hu pins s σ H _ _ Q I r ⟨_, _, rfl, .tup a b, F.sh, F.nd, F.dp, hz, q⟩
end

/-! ### data of ints -/
theorem log_of_abs {i : Int} {B : Nat} (hB : 0 < B) (h : i.natAbs < 2 ^ B) : i.natAbs.log2 < B := by
  by_cases h0 : i.natAbs = 0
  · rw [h0]
    exact hB
  · exact (Nat.log2_lt h0).mpr h
def dInts (ns : List Int) : List PyData := ns.map .int
theorem dInts_show : ∀ ns : List Int, (∀ n ∈ ns, n.natAbs < 2 ^ 1000) → PyData.showableAll (dInts ns) = true
  | [], _ => rfl
  | n :: ns, h => by
    have h1 : n.natAbs.log2 < 1920 := Nat.lt_of_lt_of_le (log_of_abs (by decide) (h n List.mem_cons_self)) (by decide)
    have h2 := dInts_show ns fun m hm => h m (List.mem_cons_of_mem _ hm)
    show (PyData.showable (.int n) && PyData.showableAll (dInts ns)) = true
    rw [h2, Bool.and_true]
    simp only [PyData.showable]
    exact decide_eq_true h1
theorem dInts_nodict : ∀ ns : List Int, PyData.hasDictAll (dInts ns) = false
  | [] => rfl
  | n :: ns => by
    show (PyData.hasDict (.int n) || PyData.hasDictAll (dInts ns)) = false
    rw [dInts_nodict ns]
    rfl
theorem dInts_depth : ∀ ns : List Int, PyData.depthAll (dInts ns) = 0
  | [] => rfl
  | n :: ns => by
    show max (PyData.depth (.int n)) (PyData.depthAll (dInts ns)) = 0
    rw [dInts_depth ns]
    rfl
theorem dInts_cost : ∀ ns : List Int, costAll (dInts ns) = 1923 * ns.length
  | [] => rfl
  | n :: ns => by
    show 1921 + 2 + costAll (dInts ns) = _
    rw [dInts_cost ns, List.length_cons]
    omega
theorem dpInts {K : PySem.W.Frag} {H : Hp} : ∀ ns : List Int, DpAll K H (ns.map V.int) (dInts ns)
  | [] => .nil
  | n :: ns => .cons (.int n) (dpInts ns)
theorem fine_tup {ns : List Int} (h : ∀ n ∈ ns, n.natAbs < 2 ^ 1000) (hl : ns.length ≤ 8000) : Fine (.tuple (dInts ns)) := by
  refine ⟨by simp only [PyData.showable]; exact dInts_show ns h, by simp only [PyData.hasDict]; exact dInts_nodict ns, ?_, ?_⟩
  · simp only [PyData.depth]
    rw [dInts_depth]
    decide
  · simp only [cost]
    rw [dInts_cost]
    have : 1923 * 8000 + 3 ≤ sizeLine := by decide
    omega
theorem fine_lst {ns : List Int} (h : ∀ n ∈ ns, n.natAbs < 2 ^ 1000) (hl : ns.length ≤ 8000) : Fine (.list (dInts ns)) := by
  refine ⟨by simp only [PyData.showable]; exact dInts_show ns h, by simp only [PyData.hasDict]; exact dInts_nodict ns, ?_, ?_⟩
  · simp only [PyData.depth]
    rw [dInts_depth]
    decide
  · simp only [cost]
    rw [dInts_cost]
    have : 1923 * 8000 + 3 ≤ sizeLine := by decide
    omega

/-! ### frames: what stays of the heap -/
/-- all but two cells (a deck and its cards) stays -/
def Keep (d l : Addr) (H H' : Hp) : Prop := ∀ b o, b ≠ d → b ≠ l → H b = some o → H' b = some o
theorem Keep.refl {d l : Addr} {H : Hp} : Keep d l H H := fun _ _ _ _ h => h
theorem Keep.trans {d l : Addr} {H H1 H2 : Hp} (a : Keep d l H H1) (b : Keep d l H1 H2) : Keep d l H H2 := fun c o h1 h2 h => b c o h1 h2 (a c o h1 h2 h)
theorem Keep.same {d l : Addr} {H H1 : Hp} (a : Same H H1) : Keep d l H H1 := fun c o _ _ h => a c o h
theorem same_upd {H : Hp} {p : Addr} {o : HO} (h : H p = none) : Same H (upd H p o) := by
  intro b x e
  rw [upd_ne (ne_of_none e h)]
  exact e
theorem Same.tupq {K : PySem.W.Frag} {H H' : Hp} {a : Addr} {xs : List V} (e : Same H H') (h : SqT K H a xs) : SqT K H' a xs := by
  rcases h with (h | ⟨o, h⟩) | h
  · exact .inl (.inl (e _ _ h))
  · exact .inl (.inr ⟨o, e _ _ h⟩)
  · exact .inr h
end RS

set_option Elab.async false
set_option linter.all false
set_option maxRecDepth 100000
namespace RS
open PySem PySem.Spec PyProof.Rows L2
/-! ### slices -/
theorem cut_to (xs : List V) (k : Nat) : cutV xs none (some (k : Int)) = xs.take k := by
  unfold cutV
  rw [HT.sIx_none, HT.sIx_nat, Nat.sub_zero, List.drop_zero]
  by_cases h : k ≤ xs.length
  · rw [Nat.min_eq_left h]
  · rw [Nat.min_eq_right (by omega), List.take_length, List.take_of_length_le (by omega)]
theorem cut_from (xs : List V) (k : Nat) : cutV xs (some (k : Int)) none = xs.drop k := by
  unfold cutV
  rw [HT.sIx_none, HT.sIx_nat]
  by_cases h : k ≤ xs.length
  · rw [Nat.min_eq_left h, List.take_of_length_le]
    rw [List.length_drop]
    omega
  · rw [Nat.min_eq_right (by omega), Nat.sub_self, List.take_zero, List.drop_of_length_le (by omega)]

/-! ### items -/
theorem get_map_int {ns : List Int} {i : Nat} {v : V} (h : (ns.map V.int)[i]? = some v) : ∃ n, ns[i]? = some n ∧ v = .int n := by
  rw [List.getElem?_map] at h
  cases e : ns[i]? with
  | none =>
    rw [e] at h
    cases h
  | some n =>
    rw [e] at h
    exact ⟨n, rfl, (Option.some.inj h).symm⟩
theorem map_get {ns : List Int} {i : Nat} {n : Int} (h : ns[i]? = some n) : (ns.map V.int)[i]? = some (.int n) := by
  rw [List.getElem?_map, h]
  rfl
theorem atI_of {ns : List Int} {i : Int} {j : Nat} {n : Int} (e : i = (j : Int)) (h : ns[j]? = some n) : atI (ns.map V.int) i = some (.int n) := by
  subst e
  exact atI_nat (map_get h)
/-- the item before a place, around the ring -/
def prevOf (ns : List Int) (i : Nat) : Int := ns.getD (if i = 0 then ns.length - 1 else i - 1) 0
theorem atI_back {ns : List Int} {i : Nat} (hi : i < ns.length) : atI (ns.map V.int) ((i : Int) - 1) = some (.int (prevOf ns i)) := by
  have hl : (ns.map V.int).length = ns.length := List.length_map ..
  unfold atI ixN
  rw [hl]
  by_cases h0 : i = 0
  · subst h0
    rw [if_neg (by omega), if_pos (by omega)]
    have e : ((((0 : Nat) : Int) - 1) + (ns.length : Int)).toNat = ns.length - 1 := by omega
    rw [e]
    show (ns.map V.int)[ns.length - 1]? = _
    unfold prevOf
    rw [if_pos rfl, List.getElem?_map, List.getElem?_eq_getElem (by omega), List.getD_eq_getElem?_getD, List.getElem?_eq_getElem (by omega)]
    rfl
  · rw [if_pos (by omega), if_pos (by omega)]
    have e : ((i : Int) - 1).toNat = i - 1 := by omega
    rw [e]
    show (ns.map V.int)[i - 1]? = _
    unfold prevOf
    rw [if_neg h0, List.getElem?_map, List.getElem?_eq_getElem (by omega), List.getD_eq_getElem?_getD, List.getElem?_eq_getElem (by omega)]
    rfl
theorem take_succ_map {ns : List Int} {i : Nat} {n : Int} (h : ns[i]? = some n) : ((ns.take i).map V.int) ++ [V.int n] = (ns.take (i + 1)).map V.int := by
  rw [List.take_add_one, h, List.map_append]
  rfl

/-! ### walks -/
def YPairT (xs : List V) : Nat → Hp → V → Hp → Prop := fun i H v H' => ∃ T x, v = .ref T ∧ H T = none ∧ H' = upd H T (.tup [.int (i : Nat), x]) ∧ xs[i]? = some x
theorem walk_enumT {K : PySem.W.Frag} {a : Addr} {xs : List V} : Walk (ItE K a) xs.length (fun H => SqT K H a xs) (YPairT xs) where
  goes := fun i H hi h => ⟨xs, xs[i], h, List.getElem?_eq_getElem hi⟩
  stops := fun H h => ⟨xs, h, Nat.le_refl _⟩
  yields := fun i H x H' hi h y => by
    obtain ⟨T, z, e1, e2, e3, e4⟩ := y
    exact ⟨T, z, e1, e2, e3, e4 xs h⟩

/-! ### the deck of a law's draws -/
structure Deck (H : Hp) (d l : Addr) (n : Int) : Prop where
  top : H d = some (.lst [.ref l, .int n])
  cards : ∃ cs : List Int, H l = some (.lst (cs.map V.int)) ∧ (∀ c ∈ cs, 0 ≤ c) ∧ cs.length ≤ 63
  ne : l ≠ d
  n0 : 0 ≤ n
theorem Deck.keep {H H' : Hp} {d l : Addr} {n : Int} (D : Deck H d l n) (h1 : H' d = H d) (h2 : H' l = H l) : Deck H' d l n := by
  refine ⟨h1.trans D.top, ?_, D.ne, D.n0⟩
  obtain ⟨cs, a, b, c⟩ := D.cards
  exact ⟨cs, h2.trans a, b, c⟩
theorem Deck.same {H H' : Hp} {d l : Addr} {n : Int} (D : Deck H d l n) (s : Same H H') : Deck H' d l n := by
  refine ⟨s _ _ D.top, ?_, D.ne, D.n0⟩
  obtain ⟨cs, a, b, c⟩ := D.cards
  exact ⟨cs, s _ _ a, b, c⟩
/-- a tuple that stands is none of the deck's two lists -/
theorem Deck.tup_ne {H : Hp} {d l a : Addr} {n : Int} (D : Deck H d l n) {xs : List V} (h : H a = some (.tup xs)) : a ≠ d ∧ a ≠ l := by
  obtain ⟨cs, c1, _⟩ := D.cards
  constructor
  · rintro rfl
    rw [D.top] at h
    cases h
  · rintro rfl
    rw [c1] at h
    cases h
theorem Deck.free_ne {H : Hp} {d l a : Addr} {n : Int} (D : Deck H d l n) (h : H a = none) : a ≠ d ∧ a ≠ l := by
  obtain ⟨cs, c1, _⟩ := D.cards
  constructor
  · rintro rfl
    rw [D.top] at h
    cases h
  · rintro rfl
    rw [c1] at h
    cases h
theorem Keep.free {d l p : Addr} {n : Int} {H H' : Hp} (k : Keep d l H H') (D : Deck H' d l n) (h : H' p = none) : H p = none := by
  obtain ⟨h1, h2⟩ := D.free_ne h
  cases q : H p with
  | none => rfl
  | some o =>
    rw [k p o h1 h2 q] at h
    cases h
theorem Keep.tup {d l p : Addr} {n : Int} {H H' : Hp} (k : Keep d l H H') (D : Deck H d l n) {xs : List V} (h : H p = some (.tup xs)) : H' p = some (.tup xs) :=
  k p _ (D.tup_ne h).1 (D.tup_ne h).2 h
/-- heights -/
def Ht (h : Int) : Prop := -1000000000 ≤ h ∧ h ≤ 1000000000
theorem Ht.abs {h : Int} (H : Ht h) : h.natAbs < 2 ^ 1000 := by
  have h1 : h.natAbs ≤ 1000000000 := by
    have := H.1
    have := H.2
    omega
  exact Nat.lt_of_le_of_lt h1 (by decide +kernel)
end RS
namespace RS
open PySem PySem.Spec PyProof.Rows L2
/-! ### movement -/
def absI (x : Int) : Int := if x < 0 then -x else x
def stepsOf (hs : List Int) : List Int := (List.range hs.length).map fun i => absI (hs.getD i 0 - prevOf hs i)
theorem steps_len (hs : List Int) : (stepsOf hs).length = hs.length := by
  unfold stepsOf
  rw [List.length_map, List.length_range]
theorem steps_get {hs : List Int} {i : Nat} {c : Int} (h : hs[i]? = some c) : (stepsOf hs)[i]? = some (absI (c - prevOf hs i)) := by
  have hi : i < hs.length := (List.getElem?_eq_some_iff.mp h).1
  unfold stepsOf
  rw [List.getElem?_map, List.getElem?_range hi]
  show some (absI (hs.getD i 0 - prevOf hs i)) = _
  rw [List.getD_eq_getElem?_getD, h]
  rfl
theorem prev_succ {hs : List Int} {i : Nat} {c : Int} (h : hs[i]? = some c) : prevOf hs (i + 1) = c := by
  unfold prevOf
  rw [if_neg (by omega), Nat.add_sub_cancel, List.getD_eq_getElem?_getD, h]
  rfl
theorem sum_take_succ {ns : List Int} {i : Nat} {c : Int} (h : ns[i]? = some c) : (ns.take (i + 1)).sum = (ns.take i).sum + c := by
  rw [List.take_add_one, h, List.sum_append]
  show _ + (c + 0) = _
  omega
theorem absI_max (a b : Int) : (if b - a > a - b then b - a else a - b) = absI (a - b) := by
  unfold absI
  split <;> split <;> omega
end RS
namespace RS
open PySem PySem.Spec PyProof.Rows L2
/-! ### rules at a written part that is named (within comprehensions) -/
theorem ixT {X : Cx} (K : PySem.W.Frag) (h : X.K = K := by rfl) : IxR X (rIxT K) := h ▸ ix_tup
theorem ixL {X : Cx} (K : PySem.W.Frag) (h : X.K = K := by rfl) : IxR X (rIxL K) := h ▸ ix_list
end RS
namespace RS
open PySem PySem.Spec PyProof.Rows L2
/-! ### slices and sums of tuples, whether the same object comes back or a new one -/
def rSlW (K : PySem.W.Frag) : V → Option Int → Option Int → Hp → VK → Prop := fun x lo hi H Q => ∃ a xs, x = .ref a ∧ SqT K H a xs ∧
  ∀ p H', Same H H' → SqT K H' p (cutV xs lo hi) → Q (.ref p) H'
theorem cut_whole {xs : List V} {lo hi : Option Int} (h : HT.sIx xs.length 0 lo = 0 ∧ HT.sIx xs.length xs.length hi = xs.length) : cutV xs lo hi = xs := by
  unfold cutV
  rw [h.1, h.2, List.drop_zero, Nat.sub_zero, List.take_length]
theorem sl_tupW {X : Cx} : SlR X (rSlW X.K) := by
  intro pins s σ H x v vl vu lo hi sl Q I rx hs pl pu h
  obtain ⟨a, xs, hx, hq, q⟩ := h
  refine sl_tupA pins s σ H x v vl vu lo hi sl Q I rx hs pl pu ⟨a, xs, hx, hq, fun hw => q a H (Same.refl H) ?_, fun _ p np => q p _ (same_upd np) (.inl (.inl upd_same))⟩
  rw [cut_whole hw]
  exact hq
def rCatW (K : PySem.W.Frag) : R2 := fun x y H Q => ∃ a b xs ys, x = .ref a ∧ y = .ref b ∧ SqT K H a xs ∧ SqT K H b ys ∧ xs.length + ys.length ≤ sizeLine ∧
  ∀ p H', Same H H' → SqT K H' p (xs ++ ys) → Q (.ref p) H'
theorem op_catW {X : Cx} : OpR X (binaryOp .Add) (rCatW X.K) := by
  intro pins s σ H x y v u Q I rx ry h
  obtain ⟨a, b, xs, ys, hx, hy, h1, h2, hz, q⟩ := h
  refine op_catA pins s σ H x y v u Q I rx ry ⟨a, b, xs, ys, hx, hy, h1, h2, hz, ?_, ?_, ?_⟩
  · intro e
    subst e
    exact q b H (Same.refl H) h2
  · intro _ e
    subst e
    refine q a H (Same.refl H) ?_
    rw [List.append_nil]
    exact h1
  · intro _ _ p np
    exact q p _ (same_upd np) (.inl (.inl upd_same))

/-! ### bounds -/
theorem prev_mem {hs : List Int} {i : Nat} (h : 1 ≤ hs.length) (hi : i ≤ hs.length) : prevOf hs i ∈ hs := by
  unfold prevOf
  have hj : (if i = 0 then hs.length - 1 else i - 1) < hs.length := by split <;> omega
  rw [List.getD_eq_getElem?_getD, List.getElem?_eq_getElem hj]
  exact List.getElem_mem hj
theorem steps_bound {hs : List Int} (hh : ∀ h ∈ hs, Ht h) : ∀ x ∈ stepsOf hs, 0 ≤ x ∧ x ≤ 2000000000 := by
  intro x hx
  unfold stepsOf at hx
  obtain ⟨i, hi, rfl⟩ := List.mem_map.mp hx
  have hi' := List.mem_range.mp hi
  have h1 := hh _ (prev_mem (hs := hs) (i := i) (by omega) (by omega))
  have h2 : Ht (hs.getD i 0) := by
    rw [List.getD_eq_getElem?_getD, List.getElem?_eq_getElem hi']
    exact hh _ (List.getElem_mem hi')
  obtain ⟨a1, a2⟩ := h1
  obtain ⟨b1, b2⟩ := h2
  unfold absI
  split <;> omega
theorem sum_bound {B : Int} : ∀ ns : List Int, (∀ x ∈ ns, 0 ≤ x ∧ x ≤ B) → 0 ≤ ns.sum ∧ ns.sum ≤ B * (ns.length : Int)
  | [], _ => by
    rw [List.sum_nil, List.length_nil]
    exact ⟨Int.le_refl _, by rw [Int.natCast_zero, Int.mul_zero]; exact Int.le_refl _⟩
  | n :: ns, h => by
    obtain ⟨a, b⟩ := sum_bound ns fun x hx => h x (List.mem_cons_of_mem _ hx)
    obtain ⟨c, d⟩ := h n List.mem_cons_self
    rw [List.sum_cons, List.length_cons, Int.natCast_succ, Int.mul_add, Int.mul_one]
    omega
theorem big_of {x : Int} (h : -1000000000000 ≤ x ∧ x ≤ 1000000000000) : x.natAbs < 2 ^ 1000 := by
  have h1 : x.natAbs ≤ 1000000000000 := by omega
  exact Nat.lt_of_le_of_lt h1 (by decide +kernel)
theorem steps_one (h : Int) : (stepsOf [h]).sum = 0 := by
  show absI (h - h) + 0 = 0
  rw [Int.sub_self]
  rfl
theorem steps_five (h : Int) : (stepsOf [h, h, h, h, h]).sum = 0 := by
  show absI (h - h) + (absI (h - h) + (absI (h - h) + (absI (h - h) + (absI (h - h) + 0)))) = 0
  rw [Int.sub_self]
  rfl
theorem steps_two (a b : Int) : (stepsOf [a, b]).sum = 2 * absI (a - b) := by
  show absI (a - b) + (absI (b - a) + 0) = _
  unfold absI
  split <;> split <;> omega
end RS

set_option Elab.async false
set_option linter.all false
set_option maxRecDepth 100000
namespace RS
open PySem PySem.Spec PyProof.Rows L2
open AutoSeq1 (wpAny_loadPart')
/-! ### t * k of a tuple, k any small number from 0 on -/
theorem mul_same (l : Addr) (cs : Array Value) (n : Nat) (dd : Option Addr) (sl : Array (Option Value)) (x : Int) (u : Tok)
    (c0 : (decide (x < -(2 ^ 63)) || decide (x ≥ 2 ^ 63)) = false) (c1 : (cs.isEmpty || x == 1) = true) :
    Meets (Builtin.«tuple.__mul__» ⟨[.ref l, .int x u], []⟩)
      (fun _ R s => s.heap.get? l = some { cls := .type "tuple", dict := dd, data := .seq cs n, slots := sl } ∧ R (.ok (.ret (.ref l))) s) := by
  refine .of_wp ?_
  intro prog w A R s h
  obtain ⟨hp, g, d, tk, os⟩ := s
  obtain ⟨hl, h⟩ := h
  have f1 := AutoSeq1.idx_int
  wp_walk using wpAny_loadPart' hl
  repeat (first
    | (refine wpAny_ite_false (decide_eq_false (by rw [c0]; exact Bool.false_ne_true)) ?_; wp_walk using wpAny_loadPart' hl)
    | (refine wpAny_ite_true (decide_eq_true c1) ?_; wp_walk using wpAny_loadPart' hl))
  exact ⟨_, rfl, h⟩
theorem mul_none (l : Addr) (cs : Array Value) (n : Nat) (dd : Option Addr) (sl : Array (Option Value)) (x : Int) (u : Tok)
    (c0 : (decide (x < -(2 ^ 63)) || decide (x ≥ 2 ^ 63)) = false) (c1 : (cs.isEmpty || x == 1) = false) (c2 : (decide (x ≤ 0) || cs.isEmpty) = true) :
    Meets (Builtin.«tuple.__mul__» ⟨[.ref l, .int x u], []⟩)
      (fun _ R s => s.heap.get? l = some { cls := .type "tuple", dict := dd, data := .seq cs n, slots := sl } ∧
        R (.ok (.ret (Value.ref s.heap.objs.size))) { s with heap := s.heap.push { cls := Value.type "tuple", data := Data.seq #[] }, toks := s.toks }) := by
  refine .of_wp ?_
  intro prog w A R s h
  obtain ⟨hp, g, d, tk, os⟩ := s
  obtain ⟨hl, h⟩ := h
  have f1 := AutoSeq1.idx_int
  wp_walk using wpAny_loadPart' hl
  repeat (first
    | (refine wpAny_ite_false (decide_eq_false (by rw [c0]; exact Bool.false_ne_true)) ?_; wp_walk using wpAny_loadPart' hl)
    | (refine wpAny_ite_false (decide_eq_false (by rw [c1]; exact Bool.false_ne_true)) ?_; wp_walk using wpAny_loadPart' hl)
    | (refine wpAny_ite_true (decide_eq_true c2) ?_; wp_walk using wpAny_loadPart' hl))
  exact ⟨_, rfl, h⟩
def rRepW (K : PySem.W.Frag) : R2 := fun x y H Q => ∃ l k xs, x = .ref l ∧ y = .int k ∧ SqT K H l xs ∧ 0 ≤ k ∧ k ≤ 1000 ∧ xs.length ≤ 1000 ∧
  ∀ p H', Same H H' → SqT K H' p (List.replicate k.toNat xs).flatten → Q (.ref p) H'
theorem op_repW {X : Cx} : OpR X (binaryOp .Mult) (rRepW X.K) := by
  intro pins s σ H x y v u Q I rx ry h
  obtain ⟨l, k, xs, rfl, rfl, hT, h0, h1, hz, q⟩ := h
  by_cases hbig : xs ≠ [] ∧ 2 ≤ k
  · exact op_repT pins s σ H _ _ v u Q I rx ry ⟨l, k, xs, rfl, rfl, hT, hbig.1, hbig.2, h1, hz, fun p np => q p _ (same_upd np) (.inl (.inl upd_same))⟩
  have hT0 := hT
  cases rx
  obtain ⟨t, rfl⟩ := ry
  obtain ⟨its, r, ⟨⟨cls, dd, data, sl⟩, ho, hc, n, hd⟩, hs⟩ := I.tuple hT
  simp only at hc hd
  subst hc hd
  have hle : its.length = xs.length := r.length.symm
  have c0 : (decide (k < -(2 ^ 63)) || decide (k ≥ 2 ^ 63)) = false := by
    rw [decide_eq_false (by omega), decide_eq_false (by omega)] <;> rfl
  by_cases hs1 : xs = [] ∨ k = 1
  · have c1 : (its.toArray.isEmpty || k == 1) = true := by
      rcases hs1 with e | e
      · subst e
        have : its = [] := List.eq_nil_of_length_eq_zero hle
        subst this
        rfl
      · subst e
        simp
    refine wpAny_binaryOp_repeat_ref (T := "tuple") (U := "int") (by decide) ⟨_, ho, rfl⟩ (fun s' => typeIs_int s' k t) noFill_tuple_mul F.fills_int_mul F.slot_int_rmul repeat_tuple F.slot_int_index.lookup
      (call_meets F.slot_int_rmul (typeIs_int s k t) F.entry_int_rmul (F.args_int_rmul_2 _ _) (int_rmul_tuple k t l its.toArray n dd sl)
        ⟨ho, rfl, ⟨_, ho, rfl⟩, call_meets F.slot_tuple_mul ⟨_, ho, rfl⟩ F.entry_tuple_mul (F.args_tuple_mul_2 _ _) (mul_same l its.toArray n dd sl k t c0 c1) ⟨ho, ?_⟩⟩)
    refine ⟨.ref l, H, I, rfl, q l H (Same.refl H) ?_⟩
    have e : (List.replicate k.toNat xs).flatten = xs := by
      rcases hs1 with e | e
      · subst e
        exact List.flatten_replicate_nil
      · subst e
        show (List.replicate 1 xs).flatten = xs
        simp
    rw [e]
    exact hT0
  · have hk0 : k = 0 := by
      have hx : xs ≠ [] := fun e => hs1 (.inl e)
      have h2 : ¬ 2 ≤ k := fun e => hbig ⟨hx, e⟩
      have h3 : k ≠ 1 := fun e => hs1 (.inr e)
      omega
    have hx : xs ≠ [] := fun e => hs1 (.inl e)
    have hi : its.toArray.isEmpty = false := by
      cases its with
      | nil => exact absurd (List.eq_nil_of_length_eq_zero hle.symm) hx
      | cons a b => rfl
    have c1 : (its.toArray.isEmpty || k == 1) = false := by
      rw [hi, hk0]
      rfl
    have c2 : (decide (k ≤ 0) || its.toArray.isEmpty) = true := by
      rw [hk0]
      rfl
    refine wpAny_binaryOp_repeat_ref (T := "tuple") (U := "int") (by decide) ⟨_, ho, rfl⟩ (fun s' => typeIs_int s' k t) noFill_tuple_mul F.fills_int_mul F.slot_int_rmul repeat_tuple F.slot_int_index.lookup
      (call_meets F.slot_int_rmul (typeIs_int s k t) F.entry_int_rmul (F.args_int_rmul_2 _ _) (int_rmul_tuple k t l its.toArray n dd sl)
        ⟨ho, rfl, ⟨_, ho, rfl⟩, call_meets F.slot_tuple_mul ⟨_, ho, rfl⟩ F.entry_tuple_mul (F.args_tuple_mul_2 _ _) (mul_none l its.toArray n dd sl k t c0 c1 c2) ⟨ho, ?_⟩⟩)
    refine ⟨.ref s.heap.objs.size, _, I.laid (t' := s.toks) (o := .tup []) (fun b ob z => Heap.get?_push_of_some _ z) (Nat.le_refl _) ?_, rfl, q _ _ (same_upd (I.hok.fresh (Nat.le_refl _))) ?_⟩
    · exact ⟨Nat.zero_le _, [], .nil, IsTup.new _ _⟩
    · rw [hk0]
      exact .inl (.inl upd_same)
end RS

set_option Elab.async false
set_option linter.all false
set_option maxRecDepth 100000
namespace RS
open PySem PySem.Spec PyProof.Rows L2
/-! ### turns: the mathematics -/
/-- the heights that follow, going round -/
def after (hs : List Int) (i : Nat) : List Int := hs.drop (i + 1) ++ hs.take i
theorem after_len {hs : List Int} {i : Nat} (hi : i < hs.length) : (after hs i).length = hs.length - 1 := by
  unfold after
  rw [List.length_append, List.length_drop, List.length_take]
  omega
theorem after_get {hs : List Int} {i j : Nat} (hi : i < hs.length) (hj : j < hs.length - 1) : (after hs i)[j]? = hs[(i + 1 + j) % hs.length]? := by
  unfold after
  by_cases h : i + 1 + j < hs.length
  · rw [List.getElem?_append_left (by rw [List.length_drop]; omega), List.getElem?_drop, Nat.mod_eq_of_lt h]
  · rw [List.getElem?_append_right (by rw [List.length_drop]; omega), List.length_drop]
    have e : (i + 1 + j) % hs.length = i + 1 + j - hs.length := by
      rw [Nat.mod_eq_sub_mod (by omega), Nat.mod_eq_of_lt (by omega)]
    rw [e, List.getElem?_take_of_lt (by omega)]
    congr 1
    omega
def optV : Option Int → V
  | some x => .int x
  | none => .non
def otherOf (hs : List Int) (i : Nat) : Option Int := (after hs i).find? fun x => decide (x ≠ hs.getD i 0)
def nextOther (hs : List Int) (i : Nat) : Int := (otherOf hs i).getD (hs.getD i 0)
def isTurn (hs : List Int) (i : Nat) : Bool :=
  if prevOf hs i = hs.getD i 0 then false else decide (decide (prevOf hs i < hs.getD i 0) = decide (nextOther hs i < hs.getD i 0))
def turnsOf (hs : List Int) : List Nat := (List.range hs.length).filter (isTurn hs)
def natInts (ns : List Nat) : List Int := ns.map fun (n : Nat) => (n : Int)
theorem find_some {l : List Int} {p : Int → Bool} {j : Nat} {c : Int} (h1 : ∀ (j' : Nat) (x : Int), j' < j → l[j']? = some x → p x = false) (h2 : l[j]? = some c) (h3 : p c = true) : l.find? p = some c := by
  induction l generalizing j with
  | nil => simp at h2
  | cons y r ih =>
    cases j with
    | zero =>
      have e : y = c := Option.some.inj h2
      rw [List.find?_cons, e, h3]
    | succ j =>
      have e : p y = false := h1 0 y (by omega) rfl
      rw [List.find?_cons, e]
      exact ih (fun j' x hj hx => h1 (j' + 1) x (by omega) hx) h2
theorem find_none {l : List Int} {p : Int → Bool} (h1 : ∀ (j' : Nat) (x : Int), l[j']? = some x → p x = false) : l.find? p = none := by
  rw [List.find?_eq_none]
  intro x hx
  obtain ⟨j, hj⟩ := List.mem_iff_getElem?.mp hx
  rw [h1 j x hj]
  exact Bool.false_ne_true
/-- the place before stands among those that follow -/
theorem prev_after {hs : List Int} {i : Nat} (hi : i < hs.length) (h2 : 2 ≤ hs.length) : (after hs i)[hs.length - 2]? = some (prevOf hs i) := by
  rw [after_get hi (by omega)]
  unfold prevOf
  have hj : (if i = 0 then hs.length - 1 else i - 1) < hs.length := by split <;> omega
  have e : (i + 1 + (hs.length - 2)) % hs.length = if i = 0 then hs.length - 1 else i - 1 := by
    split
    · rename_i h
      subst h
      rw [Nat.mod_eq_of_lt (by omega)]
      omega
    · rw [Nat.mod_eq_sub_mod (by omega), Nat.mod_eq_of_lt (by omega)]
      omega
  rw [e, List.getD_eq_getElem?_getD, List.getElem?_eq_getElem hj]
  rfl
theorem prev_single {hs : List Int} {i : Nat} (hi : i < hs.length) (h2 : hs.length < 2) : prevOf hs i = hs.getD i 0 := by
  unfold prevOf
  have : i = 0 := by omega
  subst this
  rw [if_pos rfl]
  congr 1
  omega
theorem other_some {hs : List Int} {i : Nat} (hi : i < hs.length) (h : prevOf hs i ≠ hs.getD i 0) : ∃ x, otherOf hs i = some x := by
  have h2 : 2 ≤ hs.length := by
    refine Nat.le_of_not_lt fun z => h (prev_single hi z)
  cases e : otherOf hs i with
  | some x => exact ⟨x, rfl⟩
  | none =>
    unfold otherOf at e
    rw [List.find?_eq_none] at e
    have := e _ (List.mem_of_getElem? (prev_after hi h2))
    exact absurd (decide_eq_true h) this
theorem filter_take_succ {p : Nat → Bool} {i n : Nat} (hi : i < n) : ((List.range n).take (i + 1)).filter p = ((List.range n).take i).filter p ++ (if p i then [i] else []) := by
  rw [List.take_add_one, List.getElem?_range hi, List.filter_append]
  congr 1
  show List.filter p [i] = _
  cases h : p i with
  | true => simp [h]
  | false => simp [h]
theorem turns_lt {hs : List Int} : ∀ t ∈ turnsOf hs, t < hs.length := by
  intro t ht
  exact List.mem_range.mp (List.mem_filter.mp ht).1
theorem turns_len (hs : List Int) : (turnsOf hs).length ≤ hs.length := by
  unfold turnsOf
  exact Nat.le_trans (List.length_filter_le _ _) (by rw [List.length_range]; exact Nat.le_refl _)
theorem natInts_app (a b : List Nat) : natInts (a ++ b) = natInts a ++ natInts b := List.map_append ..
theorem natInts_big {ns : List Nat} (h : ∀ n ∈ ns, n < 1000000) : ∀ x ∈ natInts ns, x.natAbs < 2 ^ 1000 := by
  intro x hx
  obtain ⟨n, hn, rfl⟩ := List.mem_map.mp hx
  have := h n hn
  exact big_of ⟨by omega, by omega⟩
end RS

set_option Elab.async false
set_option linter.all false
set_option maxRecDepth 100000
namespace RS
open PySem PySem.Spec PyProof.Rows L2
/-! ### slices of ints, whatever the bounds -/
theorem cut_ints (ns : List Int) (lo hi : Option Int) : ∃ ks : List Int, cutV (ns.map V.int) lo hi = ks.map V.int ∧ (∀ k ∈ ks, k ∈ ns) ∧ ks.length ≤ ns.length := by
  unfold cutV
  rw [← List.map_drop, ← List.map_take]
  refine ⟨_, rfl, ?_, ?_⟩
  · intro k hk
    exact List.mem_of_mem_drop (List.mem_of_mem_take hk)
  · rw [List.length_take, List.length_drop]
    omega
/-! ### data: tuples of ints in a list -/
def dTups (tss : List (List Int)) : List PyData := tss.map fun ts => .tuple (dInts ts)
theorem dTups_show : ∀ tss : List (List Int), (∀ ts ∈ tss, ∀ n ∈ ts, n.natAbs < 2 ^ 1000) → PyData.showableAll (dTups tss) = true
  | [], _ => rfl
  | ts :: tss, h => by
    show (PyData.showable (.tuple (dInts ts)) && PyData.showableAll (dTups tss)) = true
    rw [dTups_show tss fun t ht => h t (List.mem_cons_of_mem _ ht), Bool.and_true]
    simp only [PyData.showable]
    exact dInts_show ts (h ts List.mem_cons_self)
theorem dTups_nodict : ∀ tss : List (List Int), PyData.hasDictAll (dTups tss) = false
  | [] => rfl
  | ts :: tss => by
    show (PyData.hasDict (.tuple (dInts ts)) || PyData.hasDictAll (dTups tss)) = false
    rw [dTups_nodict tss, Bool.or_false]
    simp only [PyData.hasDict]
    exact dInts_nodict ts
theorem dTups_depth : ∀ tss : List (List Int), PyData.depthAll (dTups tss) ≤ 1
  | [] => Nat.zero_le _
  | ts :: tss => by
    show max (PyData.depth (.tuple (dInts ts))) (PyData.depthAll (dTups tss)) ≤ 1
    have h := dTups_depth tss
    have e : PyData.depth (.tuple (dInts ts)) = 1 := by
      simp only [PyData.depth]
      rw [dInts_depth]
    rw [e]
    omega
theorem dTups_cost : ∀ (tss : List (List Int)) (m : Nat), (∀ ts ∈ tss, ts.length ≤ m) → costAll (dTups tss) ≤ (1923 * m + 5) * tss.length
  | [], _, _ => Nat.zero_le _
  | ts :: tss, m, h => by
    have h1 := dTups_cost tss m fun t ht => h t (List.mem_cons_of_mem _ ht)
    have h2 := h ts List.mem_cons_self
    show cost (.tuple (dInts ts)) + 2 + costAll (dTups tss) ≤ _
    simp only [cost]
    rw [dInts_cost, List.length_cons, Nat.mul_add, Nat.mul_one]
    omega
theorem fine_tups {tss : List (List Int)} (m : Nat) (h : ∀ ts ∈ tss, ∀ n ∈ ts, n.natAbs < 2 ^ 1000) (hm : ∀ ts ∈ tss, ts.length ≤ m) (hz : (1923 * m + 5) * tss.length + 3 ≤ sizeLine) : Fine (.list (dTups tss)) := by
  refine ⟨by simp only [PyData.showable]; exact dTups_show tss h, by simp only [PyData.hasDict]; exact dTups_nodict tss, ?_, ?_⟩
  · simp only [PyData.depth]
    have := dTups_depth tss
    omega
  · simp only [cost]
    have := dTups_cost tss m hm
    omega
/-- refs to tuples of ints -/
def Tups (K : PySem.W.Frag) (H : Hp) (ps : List Addr) (tss : List (List Int)) : Prop := ps.length = tss.length ∧ ∀ (i : Nat) (p : Addr) (ts : List Int), ps[i]? = some p → tss[i]? = some ts → SqT K H p (ts.map V.int)
theorem Tups.nil {K : PySem.W.Frag} {H : Hp} : Tups K H [] [] := ⟨rfl, fun i p ts h => by simp at h⟩
theorem Tups.cons {K : PySem.W.Frag} {H : Hp} {p : Addr} {ts : List Int} {ps : List Addr} {tss : List (List Int)} (h : SqT K H p (ts.map V.int)) (t : Tups K H ps tss) : Tups K H (p :: ps) (ts :: tss) := by
  refine ⟨by rw [List.length_cons, List.length_cons, t.1], ?_⟩
  intro i q us h1 h2
  cases i with
  | zero =>
    cases h1
    cases h2
    exact h
  | succ i => exact t.2 i q us h1 h2
theorem Tups.same {K : PySem.W.Frag} {H H' : Hp} {ps : List Addr} {tss : List (List Int)} (t : Tups K H ps tss) (s : Same H H') : Tups K H' ps tss :=
  ⟨t.1, fun i p ts h1 h2 => Same.tupq s (t.2 i p ts h1 h2)⟩
theorem Tups.snoc {K : PySem.W.Frag} {H : Hp} {p : Addr} {ts : List Int} {ps : List Addr} {tss : List (List Int)} (t : Tups K H ps tss) (h : SqT K H p (ts.map V.int)) : Tups K H (ps ++ [p]) (tss ++ [ts]) := by
  refine ⟨by rw [List.length_append, List.length_append, t.1]; rfl, ?_⟩
  intro i q us h1 h2
  by_cases hi : i < ps.length
  · rw [List.getElem?_append_left hi] at h1
    rw [List.getElem?_append_left (by rw [← t.1]; exact hi)] at h2
    exact t.2 i q us h1 h2
  · rw [List.getElem?_append_right (by omega)] at h1
    rw [List.getElem?_append_right (by rw [← t.1]; omega), ← t.1] at h2
    cases hz : i - ps.length with
    | zero =>
      rw [hz] at h1 h2
      cases h1
      cases h2
      exact h
    | succ m =>
      rw [hz] at h1
      simp at h1
theorem Tups.dp {K : PySem.W.Frag} {H : Hp} : ∀ {ps : List Addr} {tss : List (List Int)}, Tups K H ps tss → DpAll K H (ps.map V.ref) (dTups tss)
  | [], [], _ => .nil
  | [], _ :: _, t => by cases t.1
  | _ :: _, [], t => by cases t.1
  | p :: ps, ts :: tss, t => by
    refine .cons (.tup (t.2 0 p ts rfl rfl) (dpInts ts)) (Tups.dp ⟨Nat.succ.inj t.1, fun i q us h1 h2 => t.2 (i + 1) q us h1 h2⟩)
theorem get_map_ref {ps : List Addr} {i : Nat} {v : V} (h : (ps.map V.ref)[i]? = some v) : ∃ p, ps[i]? = some p ∧ v = .ref p := by
  rw [List.getElem?_map] at h
  cases e : ps[i]? with
  | none =>
    rw [e] at h
    cases h
  | some p =>
    rw [e] at h
    exact ⟨p, rfl, (Option.some.inj h).symm⟩
end RS

set_option Elab.async false
set_option linter.all false
set_option maxRecDepth 100000
namespace RS
open PySem PySem.Spec PyProof.Rows L2
/-! ### passages: the mathematics -/
def outP (lo hi x : Int) : Bool := decide (hi ≤ x) || decide (x ≤ lo)
def begins (hs : List Int) (lo hi : Int) (i : Nat) : Bool :=
  if lo < hs.getD i 0 then false else match (after hs i).find? (outP lo hi) with
    | some x => decide (hi ≤ x)
    | none => false
def passOf (hs : List Int) (lo hi : Int) : List Nat := (List.range hs.length).filter (begins hs lo hi)
theorem pass_lt {hs : List Int} {lo hi : Int} : ∀ t ∈ passOf hs lo hi, t < hs.length := by
  intro t ht
  exact List.mem_range.mp (List.mem_filter.mp ht).1
theorem pass_len (hs : List Int) (lo hi : Int) : (passOf hs lo hi).length ≤ hs.length := by
  unfold passOf
  exact Nat.le_trans (List.length_filter_le _ _) (by rw [List.length_range]; exact Nat.le_refl _)
theorem getD_of {hs : List Int} {i : Nat} {c : Int} (h : hs[i]? = some c) : hs.getD i 0 = c := by
  rw [List.getD_eq_getElem?_getD, h]
  rfl
end RS

set_option Elab.async false
set_option linter.all false
set_option maxRecDepth 100000
namespace RS
open PySem PySem.Spec PyProof.Rows L2
/-! ### counting passages by marks -/
def marks (hs : List Int) (lo hi : Int) : List Bool := (hs.filter (outP lo hi)).map fun x => decide (hi ≤ x)
def rise (p b : Bool) : Nat := if (!p && b) = true then 1 else 0
/-- the rises of a walk that begins at p -/
def adj (p : Bool) : List Bool → Nat
  | [] => 0
  | b :: r => rise p b + adj b r
def endOf (p : Bool) : List Bool → Bool
  | [] => p
  | b :: r => endOf b r
/-- the rises of a closed walk -/
def cyc : List Bool → Nat
  | [] => 0
  | b :: r => adj b (r ++ [b])
theorem adj_app : ∀ (xs ys : List Bool) (p : Bool), adj p (xs ++ ys) = adj p xs + adj (endOf p xs) ys
  | [], ys, p => by
    show adj p ys = 0 + adj p ys
    omega
  | x :: xs, ys, p => by
    show rise p x + adj x (xs ++ ys) = rise p x + adj x xs + adj (endOf x xs) ys
    rw [adj_app xs ys x]
    omega
theorem endOf_app : ∀ (xs ys : List Bool) (p : Bool), endOf p (xs ++ ys) = endOf (endOf p xs) ys
  | [], _, _ => rfl
  | x :: xs, ys, p => endOf_app xs ys x
theorem cyc_rot (a b : List Bool) : cyc (a ++ b) = cyc (b ++ a) := by
  cases a with
  | nil =>
    rw [List.append_nil]
    rfl
  | cons a0 a' =>
    cases b with
    | nil =>
      rw [List.append_nil]
      rfl
    | cons b0 b' =>
      show adj a0 (a' ++ b0 :: b' ++ [a0]) = adj b0 (b' ++ a0 :: a' ++ [b0])
      rw [adj_app (a' ++ b0 :: b') [a0], adj_app a' (b0 :: b'), endOf_app, adj_app (b' ++ a0 :: a') [b0], adj_app b' (a0 :: a'), endOf_app]
      show adj a0 a' + (rise (endOf a0 a') b0 + adj b0 b') + (rise (endOf b0 b') a0 + 0) = adj b0 b' + (rise (endOf b0 b') a0 + adj a0 a') + (rise (endOf a0 a') b0 + 0)
      omega
theorem adj_not : ∀ (xs : List Bool) (p : Bool), adj (!p) (xs.map (!·)) + (endOf p xs).toNat = adj p xs + p.toNat
  | [], p => by
    show 0 + p.toNat = 0 + p.toNat
    rfl
  | x :: xs, p => by
    have ih := adj_not xs x
    show rise (!p) (!x) + adj (!x) (xs.map (!·)) + (endOf x xs).toNat = rise p x + adj x xs + p.toNat
    cases p <;> cases x <;> simp [rise] at ih ⊢ <;> omega
theorem cyc_not (ms : List Bool) : cyc (ms.map (!·)) = cyc ms := by
  cases ms with
  | nil => rfl
  | cons m r =>
    have h := adj_not (r ++ [m]) m
    rw [endOf_app, List.map_append] at h
    have e : (endOf (endOf m r) [m]) = m := rfl
    rw [e] at h
    show adj (!m) (r.map (!·) ++ [!m]) = adj m (r ++ [m])
    have e2 : List.map (fun x => !x) [m] = [!m] := rfl
    rw [e2] at h
    omega
theorem marks_app (a b : List Int) (lo hi : Int) : marks (a ++ b) lo hi = marks a lo hi ++ marks b lo hi := by
  unfold marks
  rw [List.filter_append, List.map_append]
theorem marks_neg (hs : List Int) {lo hi : Int} (h : lo < hi) : marks (hs.map fun x => 0 - x) (0 - hi) (0 - lo) = (marks hs lo hi).map (!·) := by
  unfold marks
  induction hs with
  | nil => rfl
  | cons x r ih =>
    rw [List.map_cons]
    have e : outP (0 - hi) (0 - lo) (0 - x) = outP lo hi x := by
      unfold outP
      rw [show decide (0 - lo ≤ 0 - x) = decide (x ≤ lo) from decide_eq_decide.mpr ⟨fun _ => by omega, fun _ => by omega⟩,
        show decide (0 - x ≤ 0 - hi) = decide (hi ≤ x) from decide_eq_decide.mpr ⟨fun _ => by omega, fun _ => by omega⟩]
      exact Bool.or_comm _ _
    by_cases ho : outP lo hi x = true
    · rw [List.filter_cons_of_pos (by rw [e]; exact ho), List.filter_cons_of_pos ho, List.map_cons, List.map_cons, List.map_cons, ih]
      congr 1
      unfold outP at ho
      by_cases h1 : hi ≤ x
      · rw [decide_eq_true h1, decide_eq_false (by omega)]
        rfl
      · rw [decide_eq_false h1, Bool.false_or] at ho
        have h2 := of_decide_eq_true ho
        rw [decide_eq_false h1, decide_eq_true (by omega)]
        rfl
    · rw [List.filter_cons_of_neg (by rw [e]; exact ho), List.filter_cons_of_neg ho, ih]

/-! ### the number of places where a passage begins -/
def firstMark (l : List Int) (lo hi : Int) : Option Bool := (l.find? (outP lo hi)).map fun x => decide (hi ≤ x)
def cntM (d : Option Bool) : List Bool → Nat
  | [] => 0
  | m :: r => (if (!m) = true ∧ (r.head?.or d) = some true then 1 else 0) + cntM d r
theorem marks_head (l : List Int) (lo hi : Int) : (marks l lo hi).head? = firstMark l lo hi := by
  unfold marks firstMark
  rw [List.head?_map, List.head?_filter]
theorem firstMark_app (a b : List Int) (lo hi : Int) : firstMark (a ++ b) lo hi = (firstMark a lo hi).or (firstMark b lo hi) := by
  rw [← marks_head, marks_app, List.head?_append, marks_head, marks_head]
theorem begins_at {pre r : List Int} {h lo hi : Int} (hlh : lo < hi) : begins (pre ++ h :: r) lo hi pre.length =
    decide (h ≤ lo ∧ ((firstMark r lo hi).or (firstMark (pre ++ h :: r) lo hi)) = some true) := by
  have g : (pre ++ h :: r).getD pre.length 0 = h := by
    rw [List.getD_eq_getElem?_getD, List.getElem?_append_right (Nat.le_refl _), Nat.sub_self]
    rfl
  have ea : after (pre ++ h :: r) pre.length = r ++ pre := by
    unfold after
    rw [List.take_left, show pre ++ h :: r = (pre ++ [h]) ++ r by rw [List.append_assoc]; rfl, show pre.length + 1 = (pre ++ [h]).length by rw [List.length_append]; rfl, List.drop_left]
  unfold begins
  rw [g, ea]
  by_cases hl : lo < h
  · rw [if_pos hl, decide_eq_false (fun z => by omega)]
  · rw [if_neg hl, firstMark_app pre, show h :: r = [h] ++ r from rfl, firstMark_app [h] r, List.find?_append]
    have e1 : firstMark [h] lo hi = some false := by
      unfold firstMark
      rw [List.find?_cons, show outP lo hi h = true by
        unfold outP
        rw [decide_eq_true (show h ≤ lo by omega), Bool.or_true]]
      show some (decide (hi ≤ h)) = _
      rw [decide_eq_false (by omega)]
    rw [e1]
    unfold firstMark
    cases hr : r.find? (outP lo hi) with
    | some x =>
      show decide (hi ≤ x) = decide (h ≤ lo ∧ some (decide (hi ≤ x)) = some true)
      have hz : h ≤ lo := by omega
      by_cases hx : hi ≤ x <;> simp [hx, hz]
    | none =>
      cases hp : pre.find? (outP lo hi) with
      | some y =>
        show decide (hi ≤ y) = decide (h ≤ lo ∧ some (decide (hi ≤ y)) = some true)
        have hz : h ≤ lo := by omega
        by_cases hx : hi ≤ y <;> simp [hx, hz]
      | none => exact (decide_eq_false (fun z => by cases z.2)).symm
theorem filter_range_succ (p : Nat → Bool) (n : Nat) : ((List.range (n + 1)).filter p).length = (if p 0 = true then 1 else 0) + ((List.range n).filter fun i => p (i + 1)).length := by
  rw [List.range_succ_eq_map, List.filter_cons, List.filter_map]
  split <;> simp [Function.comp_def] <;> omega
theorem cnt_suffix {lo hi : Int} (hlh : lo < hi) (d : Option Bool) : ∀ (suf pre : List Int), d = firstMark (pre ++ suf) lo hi →
    ((List.range suf.length).filter fun i => begins (pre ++ suf) lo hi (pre.length + i)).length = cntM d (marks suf lo hi)
  | [], _, _ => rfl
  | h :: r, pre, hd => by
    have ih := cnt_suffix hlh d r (pre ++ [h]) (by rw [hd, List.append_assoc]; rfl)
    rw [List.length_cons, filter_range_succ]
    have e0 : begins (pre ++ h :: r) lo hi (pre.length + 0) = decide (h ≤ lo ∧ ((firstMark r lo hi).or d) = some true) := by
      rw [Nat.add_zero, begins_at hlh, hd]
    have e1 : ((List.range r.length).filter fun i => begins (pre ++ h :: r) lo hi (pre.length + (i + 1))) = ((List.range r.length).filter fun i => begins (pre ++ [h] ++ r) lo hi ((pre ++ [h]).length + i)) := by
      congr 1
      funext i
      rw [List.append_assoc, List.length_append]
      show _ = begins (pre ++ h :: r) lo hi (pre.length + 1 + i)
      congr 1
      omega
    rw [e0, e1, ih]
    have em : marks (h :: r) lo hi = (if outP lo hi h = true then [decide (hi ≤ h)] else []) ++ marks r lo hi := by
      unfold marks
      rw [List.filter_cons]
      split <;> rfl
    rw [em]
    by_cases ho : outP lo hi h = true
    · rw [if_pos ho]
      show _ = (if (!decide (hi ≤ h)) = true ∧ ((marks r lo hi).head?.or d) = some true then 1 else 0) + cntM d (marks r lo hi)
      rw [marks_head]
      congr 1
      by_cases hc : h ≤ lo
      · rw [show decide (hi ≤ h) = false from decide_eq_false (by omega)]
        by_cases hz : (firstMark r lo hi).or d = some true
        · rw [if_pos (decide_eq_true ⟨hc, hz⟩), if_pos ⟨rfl, hz⟩]
        · rw [if_neg (fun z => hz (of_decide_eq_true z).2), if_neg (fun z => hz z.2)]
      · have hh : hi ≤ h := by
          unfold outP at ho
          rw [show decide (h ≤ lo) = false from decide_eq_false hc, Bool.or_false] at ho
          exact of_decide_eq_true ho
        rw [show decide (hi ≤ h) = true from decide_eq_true hh, if_neg (fun z => hc (of_decide_eq_true z).1), if_neg (fun z => by cases z.1)]
    · rw [if_neg ho]
      have hc : ¬ h ≤ lo := by
        intro z
        apply ho
        unfold outP
        rw [decide_eq_true z, Bool.or_true]
      rw [if_neg (fun z => hc (of_decide_eq_true z).1)]
      show 0 + cntM d (marks r lo hi) = cntM d (marks r lo hi)
      omega
theorem cntM_adj (e : Bool) : ∀ (r : List Bool) (m : Bool), cntM (some e) (m :: r) = adj m (r ++ [e])
  | [], m => by
    show (if (!m) = true ∧ some e = some true then 1 else 0) + 0 = rise m e + 0
    unfold rise
    cases m <;> cases e <;> rfl
  | x :: r, m => by
    have ih := cntM_adj e r x
    show (if (!m) = true ∧ some x = some true then 1 else 0) + cntM (some e) (x :: r) = rise m x + adj x (r ++ [e])
    rw [ih]
    congr 1
    unfold rise
    cases m <;> cases x <;> rfl
theorem pass_count {hs : List Int} {lo hi : Int} (hlh : lo < hi) : (passOf hs lo hi).length = cyc (marks hs lo hi) := by
  have h := cnt_suffix hlh (firstMark hs lo hi) hs [] rfl
  have e : ((List.range hs.length).filter fun i => begins ([] ++ hs) lo hi (([] : List Int).length + i)) = passOf hs lo hi := by
    unfold passOf
    congr 1
    funext i
    show begins hs lo hi (0 + i) = _
    rw [Nat.zero_add]
  rw [e] at h
  rw [h, ← marks_head]
  cases marks hs lo hi with
  | nil => rfl
  | cons m r => exact cntM_adj m r m

/-! ### the law's own count -/
def prevB (ms : List Bool) (k : Nat) : Bool := ms.getD (if k = 0 then ms.length - 1 else k - 1) false
def riseAt (ms : List Bool) (k : Nat) : Bool := ms.getD k false && !(prevB ms k)
theorem adj_count : ∀ (xs : List Bool) (p : Bool), ((List.range xs.length).filter fun k => xs.getD k false && !(if k = 0 then p else xs.getD (k - 1) false)).length = adj p xs
  | [], _ => rfl
  | x :: xs, p => by
    have ih := adj_count xs x
    rw [List.length_cons, filter_range_succ]
    show _ = rise p x + adj x xs
    rw [← ih]
    congr 1
    · show (if (x && !p) = true then 1 else 0) = rise p x
      unfold rise
      cases x <;> cases p <;> rfl
    · congr 1
      congr 1
      funext k
      rw [if_neg (by omega)]
      cases k with
      | zero => rfl
      | succ k => rfl
theorem endOf_last : ∀ (xs : List Bool) (x : Bool), endOf x xs = (x :: xs).getD xs.length false
  | [], _ => rfl
  | y :: xs, x => by
    show endOf y xs = _
    rw [endOf_last xs y]
    rfl
theorem rise_count (ms : List Bool) : ((List.range ms.length).filter (riseAt ms)).length = cyc ms := by
  cases ms with
  | nil => rfl
  | cons m r =>
    have h := adj_count (m :: r) (endOf m r)
    have e : ((List.range (m :: r).length).filter (riseAt (m :: r))) = ((List.range (m :: r).length).filter fun k => (m :: r).getD k false && !(if k = 0 then endOf m r else (m :: r).getD (k - 1) false)) := by
      congr 1
      funext k
      unfold riseAt prevB
      by_cases hk : k = 0
      · rw [if_pos hk, if_pos hk, endOf_last]
        rfl
      · rw [if_neg hk, if_neg hk]
    rw [e, h]
    show rise (endOf m r) m + adj m r = adj m (r ++ [m])
    rw [adj_app]
    show _ = adj m r + (rise (endOf m r) m + 0)
    omega
end RS
namespace RS
open PySem PySem.Spec PyProof.Rows L2
/-! ### lists of bools -/
theorem atI_backV {xs : List V} {i : Nat} (hi : i < xs.length) : atI xs ((i : Int) - 1) = xs[if i = 0 then xs.length - 1 else i - 1]? := by
  unfold atI ixN
  by_cases h0 : i = 0
  · subst h0
    rw [if_neg (by omega), if_pos (by omega), if_pos rfl]
    have e : ((((0 : Nat) : Int) - 1) + (xs.length : Int)).toNat = xs.length - 1 := by omega
    rw [e]
    rfl
  · rw [if_pos (by omega), if_pos (by omega), if_neg h0]
    have e : ((i : Int) - 1).toNat = i - 1 := by omega
    rw [e]
    rfl
theorem bl_get {ms : List Bool} {i : Nat} (hi : i < ms.length) : (ms.map V.bl)[i]? = some (.bl (ms.getD i false)) := by
  rw [List.getElem?_map, List.getElem?_eq_getElem hi, List.getD_eq_getElem?_getD, List.getElem?_eq_getElem hi]
  rfl
theorem bl_prev {ms : List Bool} {i : Nat} (hi : i < ms.length) : atI (ms.map V.bl) ((i : Int) - 1) = some (.bl (prevB ms i)) := by
  have hl : (ms.map V.bl).length = ms.length := List.length_map ..
  rw [atI_backV (by rw [hl]; exact hi), hl]
  unfold prevB
  exact bl_get (by split <;> omega)
theorem marks_take {hs : List Int} {lo hi : Int} {i : Nat} {c : Int} (h : hs[i]? = some c) :
    marks (hs.take (i + 1)) lo hi = marks (hs.take i) lo hi ++ (if outP lo hi c = true then [decide (hi ≤ c)] else []) := by
  rw [List.take_add_one, h, marks_app]
  congr 1
  show marks [c] lo hi = _
  unfold marks
  rw [List.filter_cons]
  split <;> rfl
theorem marks_len (hs : List Int) (lo hi : Int) : (marks hs lo hi).length ≤ hs.length := by
  unfold marks
  rw [List.length_map]
  exact List.length_filter_le _ _
theorem cyc_le (ms : List Bool) : cyc ms ≤ ms.length := by
  rw [← rise_count]
  exact Nat.le_trans (List.length_filter_le _ _) (by rw [List.length_range]; exact Nat.le_refl _)
end RS

set_option Elab.async false
set_option linter.all false
set_option maxRecDepth 100000
namespace RS
open PySem PySem.Spec PyProof.Rows L2
/-! ### set(xs) of a list of ints -/
abbrev freshSet (w : World) : Obj := { cls := .type "set", dict := none, data := .set #[] 0 (.fresh 0 0 (!w.params.followText "set-order")) }
section
variable {P : Program} {w : World} {A : Around} {E : Value → Shared → Prop} {s : Shared}
set_option maxHeartbeats 3200000 in
theorem call_set_listI {l : Addr} {cs : Array Value} (ns : List Int) {Q : Value → Shared → Prop} (hh : A.handled = none)
    (hl : s.heap.IsList l cs) (hit : IntsAre cs.toList ns) (hb : ns.length + 1 < scanBound)
    (h : ∀ (h' : Heap) (tk c : Nat), SetR w h' s.heap.objs.size (fun j => decide (j ∈ ns)) c → c ≤ ns.length →
      (∀ b o, s.heap.get? b = some o → h'.get? b = some o) → Q (.ref s.heap.objs.size) { s with heap := h', toks := tk }) :
    wpAny (model P w) A (call (.type "set") [.ref l]) Q E s := by
  have hsz : cs.size = ns.length := by
    have z := IntsAre.length hit
    rwa [Array.length_toList] at z
  obtain ⟨c, tl, hmro⟩ := F.called_set.mro
  have a1 := F.called_set.made
  have a2 := F.called_set.sub
  refine wpAny_call (codeAny_of_tree ?_)
  show wpAny _ _ (callAny (.type "set") _) _ _ _
  refine wpAny_pure ⟨Code.quiet_builtin _ (by decide +kernel), codeAny_builtin F.entry_type_call ?_⟩
  rw [Around.under_plain (weight_type_call_type "set" [.ref l] []) rfl]
  have a3 := F.called_set.notType
  have a4 := F.called_set.canCreate
  have a5 := F.typeCall_set_1 (.ref l)
  repeat (any_goals (first | assumption | wp_step))
  refine codeAny_mono (code_set_led1 (.ref l) (E := E)
    (Q₁ := fun obj s₁ => obj = .ref s.heap.objs.size ∧ s₁ = { s with heap := s.heap.push (freshSet w) }) ⟨rfl, rfl⟩) ?_
  intro r s₁ hr
  cases r with
  | error e => exact hr
  | ok fl =>
    cases fl with
    | ret obj =>
      obtain ⟨rfl, rfl⟩ := hr
      have isS : (s.heap.push (freshSet w)).get? s.heap.objs.size = some (freshSet w) := Heap.get?_push_size _ rfl
      have tyS : Shared.TypeIs { s with heap := s.heap.push (freshSet w) } (.ref s.heap.objs.size) "set" := ⟨_, isS, rfl⟩
      have a6 := F.called_set.init.lookup
      have a7 := F.called_set.init.bind (.ref s.heap.objs.size)
      repeat (any_goals (first | assumption | wp_step))
      refine codeAny_mono (codeAny_call_builtin
        (R := wants (fun r s₂ => r = .none ∧ ∃ h' tk c, s₂ = { s with heap := h', toks := tk } ∧
          SetR w h' s.heap.objs.size (fun j => decide (j ∈ ns)) c ∧ c ≤ ns.length ∧ (∀ b o, s.heap.get? b = some o → h'.get? b = some o)) E)
        F.called_set.init.plain F.entry_set_init (check_set_init_1 tyS ?_)) ?_
      · obtain ⟨ol, hol, hcl, nl, hdl⟩ := hl
        obtain ⟨ocls, odict, odata, oslots⟩ := ol
        simp only at hcl hdl
        subst hcl
        subst hdl
        have hol2 : (s.heap.push (freshSet w)).get? l = some { cls := .type "list", dict := odict, data := .seq cs nl, slots := oslots } := Heap.get?_push_of_some _ hol
        have b1 := F.sub_list_set
        have b2 := F.sub_list_frozenset
        have b3 : (Value.type "list" == Value.type "dict") = false := by decide
        have hl1 : (s.heap.push (freshSet w)).IsList l cs := ⟨_, hol2, rfl, nl, rfl⟩
        unfold Builtin.«set.__init__» noKeywords Builtin.Frozenset.updateFrom
        generalize hPI : pyIter = PI
        wp_walk
        subst hPI
        refine wpAny_pyIter_list hl1 ?_
        refine wpAny_bind (wpAny_runValue ?_)
        have ltS : l < s.heap.objs.size := Heap.lt_size hol
        have hh3 : A.in1.in1.in1.handled = none := by simp [hh]
        have neI : l ≠ (s.heap.push (freshSet w)).objs.size := by
          rw [Heap.size_push]
          exact Nat.ne_of_lt (Nat.lt_succ_of_lt ltS)
        have nSf : s.heap.objs.size ∉ [(s.heap.push (freshSet w)).objs.size, l] := by
          rw [Heap.size_push]
          simp only [List.mem_cons, List.mem_singleton, List.not_mem_nil, or_false, not_or]
          exact ⟨Nat.ne_of_lt (Nat.lt_succ_self _), Nat.ne_of_gt ltS⟩
        have vals : ∀ (i : Nat) (v : Value), cs[i]? = some v → ∃ k t, ns[i]? = some k ∧ v = .int k t := by
          intro i v hv
          have hi : i < ns.length := by
            rw [← hsz]
            exact (Array.getElem?_eq_some_iff.mp hv).1
          obtain ⟨t, e⟩ := PyProof.Rows.IntsAre.int_at hit i v (by rw [Array.getElem?_toList]; exact hv)
          refine ⟨ns[i], t, List.getElem?_eq_getElem hi, ?_⟩
          rw [e, List.getD_eq_getElem?_getD, List.getElem?_eq_getElem hi]
          rfl
        refine set_update_ints ((Walks.list hh3 _ l neI cs).toS) s.heap.objs.size nSf ns hsz hb vals (cs.size - 0) 0 _ (by omega) (Nat.zero_le _)
          ⟨⟨_, Heap.get?_push_size _ rfl, rfl, rfl⟩, (hl1.push _)⟩ ?start ?done
        case start => exact ⟨0, Nat.le_refl 0, setR_new_at (Heap.get?_push_of_some _ isS)⟩
        case done =>
          intro s' c' hm hc' hS'
          obtain ⟨h', g2, d', tk', os'⟩ := s'
          obtain rfl : g2 = s.gens := hm.gens
          obtain rfl : d' = s.drawn := hm.drawn
          obtain rfl : os' = s.os := hm.os
          show wpAny _ _ _ _ _ _
          refine wpAny_pure ?_
          show wpAny _ _ (ret Value.none) _ _ _
          rw [hsz] at hc'
          refine wpAny_pure ⟨rfl, h', tk', c', rfl, hS', hc', ?_⟩
          intro b o e
          have hb0 : b < s.heap.objs.size := Heap.lt_size e
          have hb2 : b ≠ (s.heap.push (freshSet w)).objs.size := by
            rw [Heap.size_push]
            exact Nat.ne_of_lt (Nat.lt_succ_of_lt hb0)
          refine hm.heap b o ?_ (Heap.get?_push_of_some _ (Heap.get?_push_of_some _ e))
          simp only [List.mem_cons, List.mem_singleton, List.not_mem_nil, or_false, not_or]
          exact ⟨Nat.ne_of_lt hb0, hb2⟩
      · intro r₂ s₂ hr₂
        cases r₂ with
        | error e => exact hr₂
        | ok fl₂ =>
          cases fl₂ with
          | ret r =>
            obtain ⟨rfl, h', tk, c', rfl, hS', hc', hk'⟩ := hr₂
            repeat (any_goals (first | assumption | wp_step))
            exact h h' tk c' hS' hc' hk'
          | next => exact hr₂
          | brk => exact hr₂
          | cont => exact hr₂
    | next => exact hr
    | brk => exact hr
    | cont => exact hr
end
end RS
namespace RS
open PySem PySem.Spec PyProof.Rows L2
section
variable {X : Cx}
theorem intsAre_of : ∀ {ns : List Int} {us : List Value}, Vals (ns.map V.int) us → IntsAre us ns
  | [], _, h => by
    cases h
    exact .nil
  | n :: ns, _, h => by
    cases h with
    | cons r rr =>
      obtain ⟨t, rfl⟩ := r
      exact .cons n t (intsAre_of rr)
/-- set(xs), xs a list or a tuple of ints -/
def rSetI (K : PySem.W.Frag) (w : World) : List V → Hp → VK → Prop := fun xs H Q => ∃ (l : Addr) (ns : List Int), xs = [.ref l] ∧
  (SqL K H l (ns.map V.int) ∨ SqT K H l (ns.map V.int)) ∧ ns.length ≤ 1000 ∧
  ∀ p c, H p = none → c ≤ ns.length → Q (.ref p) (upd H p (SetO w p (fun j => decide (j ∈ ns)) c))
theorem cr_setI (hc : X.calm = true) : CallR X (.type "set") (rSetI X.K X.w) := by
  intro pins s σ H xs us Q I r h
  obtain ⟨l, ns, rfl, hq, hl, q⟩ := h
  obtain ⟨u, rfl, ru⟩ := vals1 r
  cases ru
  have hb : ns.length + 1 < scanBound := Nat.lt_of_le_of_lt (Nat.succ_le_succ hl) (by decide)
  have hf : H s.heap.objs.size = none := I.hok.fresh (Nat.le_refl _)
  rcases hq with hq | hq
  · obtain ⟨its, rv, pl, hz⟩ := I.list hq
    refine call_set_listI ns (I.ok.hd hc) pl.isList (by simpa using intsAre_of rv) hb ?_
    intro h' tk c hS hcl hk
    exact ⟨.ref s.heap.objs.size, _, I.laid (t' := tk) (fun b o e => hk b o e) (Nat.le_refl _) (setO_new hS), rfl, q _ c hf hcl⟩
  · obtain ⟨its, rv, tp, hz⟩ := I.tuple hq
    refine call_set_tupI ns (I.ok.hd hc) (show s.heap.IsTuple l its.toArray from tp) (by simpa using intsAre_of rv) hb ?_
    intro h' tk c hS hcl hk
    exact ⟨.ref s.heap.objs.size, _, I.laid (t' := tk) (fun b o e => hk b o e) (Nat.le_refl _) (setO_new hS), rfl, q _ c hf hcl⟩
end
end RS

set_option Elab.async false
set_option linter.all false
set_option maxRecDepth 100000
namespace RS
open PySem PySem.Spec PyProof.Rows L2

/-! ### the end of a law whose def may call repr -/
theorem law_callG {P : Program} {w : World} {K : PySem.W.Frag} {mg mb : Str → Option Value} {k : Nat} {fa a : Addr} {fd : FuncData}
    {x : Str} {sp : Sp} {s1 : Shared} {vs : List Value} {ns : List Int}
    (inK : K.In s1.heap) (ng : s1.heap.Ns mainGlobals mg) (nb : s1.heap.Ns builtinsNs mb)
    (bb : ∀ y : Str, y ≠ "__name__" → mb y = bootBuiltins y) (lim : s1.heap.NoLimit) (hgen : s1.gens = #[])
    (ha : s1.heap.get? a = some { cls := .type "list", data := .seq vs.toArray }) (hnts : IntsAre vs ns) (small : ns.length ≤ sizeLine)
    (room : Room k callerA)
    (F : ∀ base : Heap, K.In base → base.Ns mainGlobals mg → FnG P w K mg base CX0 k fa fd [x] sp)
    (bnd : ∀ (s : Shared) (u : Value), BindsTo s fd ⟨[u], []⟩ [(x, u)])
    (prom : ∀ H : Hp, SqL K H a (ns.map V.int) → sp [.ref a] H (fun v _ => v = .bl true) E0) :
    codeAny (model P w) callerA (.call (.ref fa) ⟨[.ref a], []⟩)
      (fun r s' => r = .ok (.ret (.bool true)) ∧ OldK s1.heap s'.heap ∧ s'.os = s1.os ∧ AllBare s'.gens) s1 := by
  have rel := vals_ints hnts
  have lenV := hnts.length
  have main : ∀ H : Hp, (∀ b u, H b = some u → b = a ∧ ∃ o xs, u = .frz o (.lst xs)) → (∀ u, H a = some u → K.lookup a = none) →
      SqL K H a (ns.map V.int) → HOk P w H s1.heap →
      codeAny (model P w) callerA (.call (.ref fa) ⟨[.ref a], []⟩)
        (fun r s' => r = .ok (.ret (.bool true)) ∧ OldK s1.heap s'.heap ∧ s'.os = s1.os ∧ AllBare s'.gens) s1 := by
    intro H only notK sq hok
    have seen : ∀ {b : Addr} {o : Obj}, s1.heap.get? b = some o → H b = none → (hidT s1.heap H).get? b = some o := fun e n => hidT_get e n
    have noDict : ∀ {b : Addr} {o : Obj} {es : Array DictEntry} {ep : Nat}, s1.heap.get? b = some o → o.data = .dict es ep → H b = none := by
      intro b o es ep e d
      cases q : H b with
      | none => rfl
      | some u =>
        obtain ⟨rfl, _⟩ := only b u q
        rw [ha] at e
        cases e
        cases d
    have keepNs : ∀ {b : Addr} {m : Str → Option Value}, s1.heap.Ns b m → (hidT s1.heap H).Ns b m := by
      rintro b m ⟨o, es, ep, e, d, r⟩
      exact ⟨o, es, ep, seen e (noDict e d), d, r⟩
    have inB : K.In (hidT s1.heap H) := by
      intro b o e
      refine seen (inK b o e) ?_
      cases q : H b with
      | none => rfl
      | some u =>
        obtain ⟨rfl, _⟩ := only b u q
        rw [notK u q] at e
        cases e
    obtain ⟨mc, c1, c2⟩ := lim
    have md : Mod K mg (hidT s1.heap H) := ⟨inB, keepNs ng, ⟨mb, keepNs nb, bb⟩, ⟨mc, keepNs c1, c2⟩⟩
    have ev : Env0 P w K mg (hidT s1.heap H) callerA [] s1 H :=
      { frames := rfl, mod := md, bs := fun b o e => of_hidT e, bsz := Nat.le_of_eq (hidT_size _ _), funs := trivial,
        frf := fun b hb => (List.not_mem_nil hb).elim, hok := hok, bare := .of_eq hgen }
    refine codeAny_mono ((F _ inB (keepNs ng)).run callerA [] s1 H ⟨[.ref a], []⟩ [.ref a] [.ref a] _ _ rfl room ev (bnd s1 (.ref a)) (.cons rfl .nil) (prom H sq)) ?_
    intro r s' h
    cases r with
    | error e => exact h.elim
    | ok fl =>
      cases fl with
      | next => exact h.elim
      | brk => exact h.elim
      | cont => exact h.elim
      | ret u =>
        obtain ⟨v, H', os, bare, un, hok', rv, q⟩ := h
        obtain rfl : v = .bl true := q
        obtain rfl : u = Value.bool true := rv
        refine ⟨rfl, OldK.of_keep ?_, os, bare⟩
        intro b o e
        cases q : H b with
        | none => exact un.keep b o e q (fun z => (List.not_mem_nil z).elim) (by simp)
        | some u =>
          obtain ⟨_, ob, xs, rfl⟩ := only b u q
          obtain ⟨e1, _⟩ := hok b _ q
          obtain ⟨e2, _⟩ := hok' b _ (un.frzs b ob _ q)
          rw [e] at e1
          cases e1
          exact e2
  cases hk : K.lookup a with
  | some o =>
    have e := inK a o hk
    rw [ha] at e
    cases e
    refine main (fun _ => none) (fun b u z => nomatch z) (fun u z => nomatch z) ?_ (fun b u z => nomatch z)
    exact .inr ⟨_, vs.toArray, _, hk, rfl, rfl, rfl, by rw [List.size_toArray, lenV]; exact small, by simpa using rel⟩
  | none =>
    let o0 : Obj := { cls := .type "list", data := .seq vs.toArray }
    have at_ : ∀ b u, (if b = a then some (HO.frz o0 (.lst (ns.map V.int))) else none) = some u → b = a ∧ u = HO.frz o0 (.lst (ns.map V.int)) := by
      intro b u z
      by_cases hb : b = a
      · rw [if_pos hb] at z
        exact ⟨hb, (Option.some.inj z).symm⟩
      · rw [if_neg hb] at z
        cases z
    refine main (fun b => if b = a then some (.frz o0 (.lst (ns.map V.int))) else none) ?_ (fun _ _ => hk) (.inl (.inr ⟨o0, if_pos rfl⟩)) ?_
    · intro b u z
      obtain ⟨h1, h2⟩ := at_ b u z
      exact ⟨h1, _, _, h2⟩
    · intro b u z
      obtain ⟨h1, h2⟩ := at_ b u z
      subst h1
      subst h2
      exact ⟨ha, by rw [List.length_map]; exact small, vs, _, rel, ha⟩

theorem walk_ofG {l : PySem.W.OpenLaw} {n k : Nat} {q : Program} {loose : List Str} {XP : (Str → Option Value) → Heap → Prop}
    {YP : World → Heap → Prop} {d : DefRec} {K : Params → PySem.W.Frag} {sp : PySem.W.Frag → Sp} {x : Str}
    (hn : l.most = some n) (hn2 : n ≤ sizeLine) (hdf : d.params.defaults = []) (room : Room k callerA)
    (hY : ∀ (w : World) (h : Heap), YP w h → (K w.params).In h)
    (F : ∀ (w : World) (mg : Str → Option Value) (fa : Addr) (h : Heap), (K w.params).In h → h.Ns mainGlobals mg → mg d.name = some (.ref fa) →
      ∃ fd : FuncData, (∀ (s : Shared) (u : Value), BindsTo s fd ⟨[u], []⟩ [(x, u)]) ∧
        ∀ base : Heap, (K w.params).In base → base.Ns mainGlobals mg → FnG l.prog w (K w.params) mg base CX0 k fa fd [x] (sp (K w.params)))
    (prom : ∀ (K : PySem.W.Frag) (H : Hp) (a : Addr) (ns : List Int), ns.length ≤ n → SqL K H a (ns.map V.int) →
      sp K [.ref a] H (fun v _ => v = .bl true) E0) :
    PySem.W.WalkO q loose XP YP l.row.toRowW d [] (fun f vs => PySem.call f vs) := by
  refine Att.attach_call hn hdf ?_
  intro w s0 s1 mg mb fa o pm cd doc a vs ns G Y ho hd hcd hmg hobj hints hlen hg
  have inK := hY w _ Y
  obtain ⟨fd, hb, hF⟩ := F w mg fa _ inK G.T.g hmg
  exact law_callG inK G.T.g G.T.b G.T.builtins G.T.nolimit hg hobj hints (Nat.le_trans hlen hn2) room hF hb fun H sq => prom _ H a ns hlen sq
end RS
namespace RS
open PySem PySem.Spec PyProof.Rows L2
/-! ### what the top has written -/
/-- the def st stands under its name -/
structure DefAt (K : PySem.W.Frag) (x : Str) (st : Stmt) : Prop where
  ex : ∃ (f : Addr) (oc : Value) (od : Option Addr) (kV dc pm : Value) (an : Option Addr) (cd ct : Value) (sl : Array (Option Value)),
    PySem.W.nsIn K mainGlobals x = some (some (.ref f)) ∧
    K.lookup f = some ⟨oc, od, .func (PySem.W.fnOf x x (defArgs st) (defBody st) (defScope st) .none kV dc pm an cd ct), sl⟩ ∧
    PySem.W.codeIn K cd x = true ∧ PySem.W.keepIn K (.ref f) = true
theorem def_mk {K : PySem.W.Frag} {x : Str} {st : Stmt} {f : Addr} {oc : Value} {od : Option Addr} {kV dc pm : Value} {an : Option Addr} {cd ct : Value}
    {sl : Array (Option Value)} (h1 : PySem.W.nsIn K mainGlobals x = some (some (.ref f)))
    (h2 : K.lookup f = some ⟨oc, od, .func (PySem.W.fnOf x x (defArgs st) (defBody st) (defScope st) .none kV dc pm an cd ct), sl⟩)
    (h3 : PySem.W.codeIn K cd x = true) (h4 : PySem.W.keepIn K (.ref f) = true) : DefAt K x st := ⟨f, oc, od, kV, dc, pm, an, cd, ct, sl, h1, h2, h3, h4⟩
theorem DefAt.get {K : PySem.W.Frag} {x : Str} {st : Stmt} {h : Heap} {mg : Str → Option Value} (d : DefAt K x st) (X : K.In h) (G : h.Ns mainGlobals mg) :
    ∃ (f : Addr) (fd : FuncData), Fun K x x st f fd ∧ mg x = some (.ref f) ∧
      ∃ (kV dc pm : Value) (an : Option Addr) (cd ct : Value), fd = PySem.W.fnOf x x (defArgs st) (defBody st) (defScope st) .none kV dc pm an cd ct := by
  obtain ⟨f, oc, od, kV, dc, pm, an, cd, ct, sl, h1, h2, h3, h4⟩ := d.ex
  exact ⟨f, _, fun_mk h2 h3 h4, PySem.W.mg_of X G h1, kV, dc, pm, an, cd, ct, rfl⟩
end RS

set_option Elab.async false
set_option linter.all false
set_option maxRecDepth 100000
namespace R09
open PySem PySem.Spec PyProof.Rows L2 RS
/-! ### the text -/
def topS (i : Nat) : Stmt := PySem.Challenge.pw_ringswings_k09_passages_counted.main.body.getD i (.Pass ⟨0, 0, 0, 0⟩)
/-! ### the deck and its draws -/
abbrev sDeck : Stmt := topS 7
abbrev nDeck : List Str := ["_law_script", "_law_cell"]
theorem scDeck : FnScope nDeck ["_law_script"] (defScope sDeck) := ⟨rfl, rfl, rfl, by decide +kernel, rfl, by decide +kernel, by decide +kernel⟩
section
variable {P : Program} {w : World} {K : PySem.W.Frag} {mg : Str → Option Value} {base : Heap}
def spDeck (K : PySem.W.Frag) : Sp := fun vs H Q _ => ∃ (a : Addr) (ns : List Int), vs = [.ref a] ∧ SqL K H a (ns.map V.int) ∧
  ∀ H' d l, Same H H' → H d = none → H l = none → Deck H' d l 0 → Q (.ref d) H'
theorem ok_deck {f : Addr} {fd : FuncData} {k : Nat} (F : Fun K "_law_deck" "_law_deck" sDeck f fd) (ma : mg "abs" = none) :
    FnOk P w K mg base CX0 (k + 1) f fd ["_law_script"] (spDeck K) := by
  refine F.ok scDeck (fun vs H Q E h => ?_) (fun cdv A outer s H vs Q E hr h => ?_)
  · obtain ⟨a, ns, rfl, _⟩ := h
    rfl
  · obtain ⟨a, ns, rfl, hS, q⟩ := h
    refine ⟨_, pss_one (ps_ret (pe_lst (pa_cons (pe_lc (own := [("_law_cell", 1)]) (g := gName 1) (tt := tYes) (by rfl) scDeck.nd
        (pi_list (pe_slice sl_list (pv 0) po_none (po_some pe_int)))
        (blkOk_by (own := [("_law_cell", 1)]) (N := nDeck) (sc := defScope sDeck) (by decide +kernel))
        (fun _ _ _ _ _ => pg_name (i := 1) scDeck.nd rfl (Or.inl rfl)) (fun _ _ _ _ _ => pts_nil)
        (fun _ _ _ _ _ => pe_callB call_abs (by rfl) ma boot_abs (pa_cons (pv 1) pa_nil)))
      (pa_cons pe_int pa_nil)))), ?_⟩
    refine ⟨.ref a, rfl, 60, rfl, a, ns.map V.int, rfl, hS, fun p np => ?_⟩
    rw [show cutV (ns.map V.int) none (some 60) = (ns.take 60).map V.int by
      rw [List.map_take]
      exact cut_to _ 60]
    have s1 : Same H (upd H p (.lst ((ns.take 60).map V.int))) := same_upd np
    refine ⟨p, rfl, ⟨_, .inl (.inl upd_same)⟩, fun D nD => ?_⟩
    have nDp : D ≠ p := by
      rintro rfl
      rw [upd_same] at nD
      cases nD
    generalize hcs : ns.take 60 = cs at *
    have hlen : cs.length ≤ 63 := by
      rw [← hcs, List.length_take]
      omega
    refine lc_list (K := K) (a := p) (xs := cs.map V.int)
      (fun i H2 => Same H H2 ∧ H2 p = some (.lst (cs.map V.int)) ∧ ∃ as : List Int, H2 D = some (.lst (as.map V.int)) ∧ as.length = i ∧ ∀ c ∈ as, 0 ≤ c)
      ?_ ?_ ?_ ?_
    · exact ⟨s1.trans (same_upd nD), by rw [upd_ne nDp.symm, upd_same], [], upd_same, rfl, fun _ h => nomatch h⟩
    · intro i H2 _ h
      exact .inl (.inl h.2.1)
    · intro i x H2 hx h
      obtain ⟨h1, h2, as, h3, h4, h5⟩ := h
      obtain ⟨c, hc, rfl⟩ := get_map_int hx
      refine ⟨rfl, .int c, rfl, c, rfl, as.map V.int, h3, ?_, ?_, ?_, as ++ [if c < 0 then -c else c], ?_, ?_, ?_⟩
      · rw [List.length_map, h4]
        have hi : i < cs.length := (List.getElem?_eq_some_iff.mp hc).1
        exact small1000 (by omega)
      · intro b o e
        have nb : b ≠ D := ne_of_none e (s1.free nD)
        rw [upd_ne nb]
        exact h1 b o e
      · rw [upd_ne nDp.symm]
        exact h2
      · rw [upd_same, List.map_append]
        rfl
      · rw [List.length_append, h4]
        rfl
      · intro z hz
        rcases List.mem_append.mp hz with hz | hz
        · exact h5 z hz
        · rw [List.mem_singleton] at hz
          rw [hz]
          split <;> omega
    · intro H2 h
      obtain ⟨h1, h2, as, h3, h4, h5⟩ := h
      rw [List.length_map] at h4
      refine ⟨by show 2 ≤ sizeLine; decide, fun e ne => ?_⟩
      have nDe : D ≠ e := ne_of_none h3 ne
      refine q _ e D (h1.trans (same_upd ne)) (h1.free ne) (s1.free nD) ⟨upd_same, ⟨as, ?_, h5, by omega⟩, nDe, by decide⟩
      rw [upd_ne nDe]
      exact h3
end
abbrev sDraw : Stmt := topS 8
abbrev nDraw : List Str := ["_law_deck_here", "_law_bound", "_law_at", "_law_cell", "_law_mixed"]
theorem scDraw : FnScope nDraw ["_law_deck_here", "_law_bound"] (defScope sDraw) := ⟨rfl, rfl, rfl, by decide +kernel, rfl, by decide +kernel, by decide +kernel⟩
section
variable {P : Program} {w : World} {K : PySem.W.Frag} {mg : Str → Option Value} {base : Heap}
def spDraw : Sp := fun vs H Q _ => ∃ (d l : Addr) (n lim : Int), vs = [.ref d, .int lim] ∧ Deck H d l n ∧ n < 1000000000000 ∧ 0 < lim ∧ lim < 1000000000000 ∧
  ∀ H' v, 0 ≤ v → v < lim → Deck H' d l (n + 1) → Keep d l H H' → Q (.int v) H'
theorem ok_draw {f : Addr} {fd : FuncData} {k : Nat} (F : Fun K "_law_draw" "_law_draw" sDraw f fd) (ml : mg "len" = none) (mx : mg "max" = none) :
    FnOk P w K mg base CX0 (k + 1) f fd ["_law_deck_here", "_law_bound"] spDraw := by
  refine F.ok scDraw (fun vs H Q E h => ?_) (fun cdv A outer s H vs Q E hr h => ?_)
  · obtain ⟨d, l, n, lim, rfl, _⟩ := h
    rfl
  · obtain ⟨d, l, n, lim, rfl, D, hn, h0, hlim, q⟩ := h
    refine ⟨_, pss_cons (ps_asg (pe_op op_add (pe_ix ix_list (pv 0) pe_int (fun _ _ => rfl)) pe_int) (pg_sub (pv 0) pe_int set_list))
      (pss_cons (ps_set (i := 2) scDraw.nd rfl (.inl rfl) (pe_op op_mod (pe_ix ix_list (pv 0) pe_int (fun _ _ => rfl)) (pe_callB (call_max2 rfl) (by rfl) mx boot_max (pa_cons pe_int (pa_cons (pe_callB call_len_seq (by rfl) ml PySem.boot_len (pa_cons (pe_ix ix_list (pv 0) pe_int (fun _ _ => rfl)) pa_nil)) pa_nil)))))
      (pss_cons (ps_set (i := 3) scDraw.nd rfl (.inl rfl) (pe_ix ix_list (pe_op op_cat (pe_ix ix_list (pv 0) pe_int (fun _ _ => rfl)) (pe_lst (pa_cons pe_int pa_nil))) (pv 2) (fun _ _ => rfl)))
      (pss_cons (ps_if (pt_cmpR op_ge (pv 3) (pe_op op_pow pe_int pe_int) (nomark _))
        (pss_cons (ps_asg (pe_op op_fdivW (pv 3) (pv 1)) (pg_sub (pe_ix ix_list (pv 0) pe_int (fun _ _ => rfl)) (pv 2) set_list))
        (pss_one (ps_ret (pe_op op_mod (pv 3) (pv 1))))) pss_nil)
      (pss_cons (ps_set (i := 4) scDraw.nd rfl (.inl rfl) (pe_op op_mod (pe_op op_pow (pe_op op_add (pe_op op_add (pe_op op_mod (pv 3) pe_int) (pe_op op_mul pe_int (pe_ix ix_list (pv 0) pe_int (fun _ _ => rfl)))) pe_int) pe_int) pe_int))
      (pss_one (ps_ret (pe_op op_mod (pe_op op_add (pe_op op_fdiv (pv 4) pe_int) (pe_op op_mul pe_int (pe_ix ix_list (pv 0) pe_int (fun _ _ => rfl)))) (pv 1)))))))), ?_⟩
    obtain ⟨cs, hl, hc, hlen⟩ := D.cards
    have hd := D.top
    have hdl := D.ne
    have hn0 := D.n0
    have hlm : (cs.map V.int).length = cs.length := List.length_map ..
    refine ⟨.ref d, rfl, d, _, 1, .int n, rfl, rfl, SqL.of hd, atI_nat (j := 1) rfl, n, 1, rfl, rfl, .ref d, rfl, d, _, 1, 1, rfl, rfl, hd, rfl, ?_⟩
    generalize hH0 : upd H d (.lst ([.ref l, .int n].set 1 (.int (n + 1)))) = H0
    have d0 : H0 d = some (.lst [.ref l, .int (n + 1)]) := by
      rw [← hH0, upd_same]
      rfl
    have l0 : H0 l = some (.lst (cs.map V.int)) := by
      rw [← hH0, upd_ne hdl]
      exact hl
    have off0 : Keep d l H H0 := by
      intro b o b1 _ h
      rw [← hH0, upd_ne b1]
      exact h
    -- at = deck[1] % max(1, len(deck[0]))
    generalize hmx : (if (cs.length : Int) > 1 then (cs.length : Int) else 1) = mxv
    have mx0 : 0 < mxv := by
      rw [← hmx]
      split <;> omega
    have mx1 : mxv ≤ (cs.length : Int) + 1 ∧ (0 < cs.length → mxv = (cs.length : Int)) ∧ (cs.length = 0 → mxv = 1) := by
      rw [← hmx]
      split <;> omega
    refine ⟨.ref d, rfl, d, _, 1, .int (n + 1), rfl, rfl, SqL.of d0, atI_nat (j := 1) rfl, .ref d, rfl, d, _, 0, .ref l, rfl, rfl, SqL.of d0, atI_nat (j := 0) rfl, l, cs.map V.int, rfl, .inl (SqL.of l0), _, _, rfl, n + 1, mxv, rfl, (show V.int (if (((cs.map V.int).length : Nat) : Int) > 1 then (((cs.map V.int).length : Nat) : Int) else 1) = V.int mxv by rw [hlm, hmx]), mx0, ?_⟩
    obtain ⟨j, hj⟩ : ∃ j : Nat, (n + 1) % mxv = (j : Int) := ⟨_, (Int.toNat_of_nonneg (Int.emod_nonneg _ (by omega))).symm⟩
    have hj2 : (j : Int) < mxv := by
      rw [← hj]
      exact Int.emod_lt_of_pos _ mx0
    -- cell = (deck[0] + [0])[at]
    refine ⟨.ref d, rfl, d, _, 0, .ref l, rfl, rfl, SqL.of d0, atI_nat (j := 0) rfl, by show 1 ≤ sizeLine; decide, fun T nT => ?_⟩
    generalize hH1 : upd H0 T (.lst [.int 0]) = H1
    have s01 : Same H0 H1 := hH1 ▸ same_upd nT
    have eT : H1 T = some (.lst [.int 0]) := hH1 ▸ upd_same
    refine ⟨l, T, _, _, rfl, rfl, s01 _ _ l0, eT, by rw [hlm]; exact Nat.le_of_lt (small1000 (by show cs.length + 1 ≤ 1000; omega)), fun U nU => ?_⟩
    generalize hH2 : upd H1 U (.lst (cs.map V.int ++ [.int 0])) = H2
    have s12 : Same H1 H2 := hH2 ▸ same_upd nU
    have eU : H2 U = some (.lst ((cs ++ [0]).map V.int)) := by
      rw [← hH2, upd_same, List.map_append]
      rfl
    have d1 := s12 _ _ (s01 _ _ d0)
    have l1 := s12 _ _ (s01 _ _ l0)
    have off1 : Keep d l H H2 := off0.trans (Keep.same (s01.trans s12))
    obtain ⟨c, gc, hc0, hcl⟩ : ∃ c, (cs ++ [0])[j]? = some c ∧ 0 ≤ c ∧ (0 < c → cs[j]? = some c ∧ j < cs.length) := by
      by_cases hz : j < cs.length
      · refine ⟨cs[j], ?_, hc _ (List.getElem_mem hz), fun _ => ⟨List.getElem?_eq_getElem hz, hz⟩⟩
        rw [List.getElem?_append_left hz]
        exact List.getElem?_eq_getElem hz
      · have hz0 : cs.length = 0 := by
          refine Classical.byContradiction fun z => ?_
          have := mx1.2.1 (by omega)
          omega
        have hj0 : j = 0 := by
          have := mx1.2.2 hz0
          omega
        subst hj0
        have : cs = [] := List.eq_nil_of_length_eq_zero hz0
        subst this
        exact ⟨0, rfl, by omega, fun z => absurd z (by omega)⟩
    refine ⟨_, rfl, U, _, _, .int c, rfl, rfl, SqL.of eU, (by rw [hj]; exact atI_nat (map_get gc)), ?_⟩
    refine ⟨.int c, rfl, _, _, rfl, rfl, ⟨by decide, by decide, by decide⟩, _, _, rfl, rfl, _, rfl, ite2 (fun e => ?_) (fun e => ?_)⟩
    · have e' : (10 : Int) ^ (18 : Int).toNat ≤ c := of_decide_eq_true e
      have e18 : (10 : Int) ^ (18 : Int).toNat = 1000000000000000000 := by decide
      rw [e18] at e'
      obtain ⟨gj, hjl⟩ := hcl (by omega)
      refine ⟨.int c, rfl, .int lim, rfl, _, _, rfl, rfl, wide_div (b := 64) h0 (by omega) (by decide) (by decide), .ref d, rfl, d, _, 0, .ref l, rfl, rfl, SqL.of d1, atI_nat (j := 0) rfl, _, rfl, l, _, _, j, rfl, rfl, l1, ?_, ?_⟩
      · rw [hj, hlm]
        unfold ixN
        rw [if_pos (by omega), if_pos (by omega), Int.toNat_natCast]
      · refine ⟨.int c, rfl, .int lim, rfl, _, _, rfl, rfl, h0, q _ _ (Int.emod_nonneg _ (by omega)) (Int.emod_lt_of_pos _ h0) ⟨?_, ⟨cs.set j (c / lim), ?_, ?_, ?_⟩, hdl, by omega⟩ ?_⟩
        · rw [upd_ne hdl.symm]
          exact d1
        · rw [upd_same, List.map_set]
        · intro z hz
          rcases List.mem_or_eq_of_mem_set hz with hz | hz
          · exact hc z hz
          · rw [hz]
            exact Int.ediv_nonneg hc0 (by omega)
        · rw [List.length_set]
          exact hlen
        · intro b o b1 b2 h
          rw [upd_ne b2]
          exact off1 b o b1 b2 h
    · refine ⟨.int c, rfl, _, _, rfl, rfl, (by show (0 : Int) < 2147483563; decide), .ref d, rfl, d, _, 1, .int (n + 1), rfl, rfl, SqL.of d1, atI_nat (j := 1) rfl, _, _, rfl, rfl, .inl ⟨by decide, by decide⟩, _, _, rfl, rfl, _, _, rfl, rfl, _, _, rfl, rfl, ⟨by decide, by decide, ?_⟩, _, _, rfl, rfl, (by show (0 : Int) < 2147483629; decide), ?_⟩
      · have a1 : 0 ≤ c % 2147483563 := Int.emod_nonneg _ (by decide)
        have a2 : c % 2147483563 < 2147483563 := Int.emod_lt_of_pos _ (by decide)
        omega
      · refine ⟨_, rfl, _, _, rfl, rfl, ⟨by decide, by decide⟩, .ref d, rfl, d, _, 1, .int (n + 1), rfl, rfl, SqL.of d1, atI_nat (j := 1) rfl, _, _, rfl, rfl, .inl ⟨by decide, by decide⟩, _, _, rfl, rfl, .int lim, rfl, _, _, rfl, rfl, h0, ?_⟩
        exact q _ _ (Int.emod_nonneg _ (by omega)) (Int.emod_lt_of_pos _ h0) ⟨d1, ⟨cs, l1, hc, hlen⟩, hdl, by omega⟩ off1
end
/-! ### drawn rings -/
abbrev sRing : Stmt := topS 9
abbrev nRing : List Str := ["_law_deck_here", "_law_most", "_law_kinds", "_law_least", "_law_many_here", "_law_heights", "_law_k", "_law_same"]
theorem scRing : FnScope nRing ["_law_deck_here", "_law_most"] (defScope sRing) := ⟨rfl, rfl, rfl, by decide +kernel, rfl, by decide +kernel, by decide +kernel⟩
section
variable {P : Program} {w : World} {K : PySem.W.Frag} {mg : Str → Option Value} {base : Heap}
def spRing : Sp := fun vs H Q _ => ∃ (d l : Addr) (n most : Int), vs = [.ref d, .int most] ∧ Deck H d l n ∧ n < 100000000000 ∧ 0 < most ∧ most ≤ 24 ∧
  ∀ H' n' r (hs : List Int), n ≤ n' → n' ≤ n + 100 → Deck H' d l n' → Keep d l H H' → H r = none → H' r = some (.tup (hs.map V.int)) →
    1 ≤ hs.length → (hs.length : Int) ≤ most → (∀ h ∈ hs, Ht h) → Q (.ref r) H'
theorem ok_ring {f fD : Addr} {fd fdD : FuncData} {k : Nat} (F : Fun K "_law_ring" "_law_ring" sRing f fd)
    (FD : Fun K "_law_draw" "_law_draw" sDraw fD fdD) (bD : Binds K fdD ["_law_deck_here", "_law_bound"] []) (gD : mg "_law_draw" = some (.ref fD))
    (ml : mg "len" = none) (mr : mg "range" = none) (mt : mg "tuple" = none) (mx : mg "max" = none) (mi : mg "int" = none) :
    FnOk P w K mg base CX0 (k + 2) f fd ["_law_deck_here", "_law_most"] spRing := by
  have GD : FnOk P w K mg base CX0 (k + 1) fD fdD ["_law_deck_here", "_law_bound"] spDraw := ok_draw FD ml mx
  refine F.ok scRing (fun vs H Q E h => ?_) (fun cdv A outer s H vs Q E hr h => ?_)
  · obtain ⟨d, l, n, most, rfl, _⟩ := h
    rfl
  · obtain ⟨d, l, n, most, rfl, D, hn, h0, h24, q⟩ := h
    refine ⟨_, pss_cons (ps_set (i := 2) scRing.nd rfl (.inl rfl) (pe_lst
        (pa_cons (pe_tup (pa_cons pe_int (pa_cons pe_int pa_nil)))
        (pa_cons (pe_tup (pa_cons (pe_un un_neg pe_int) (pa_cons pe_int pa_nil)))
        (pa_cons (pe_tup (pa_cons (pe_op op_sub pe_int (pe_op op_pow pe_int pe_int)) (pa_cons pe_int pa_nil)))
        (pa_cons (pe_tup (pa_cons (pe_op op_sub (pe_op op_pow pe_int pe_int) pe_int) (pa_cons pe_int pa_nil)))
        (pa_cons (pe_tup (pa_cons (pe_op op_sub pe_int (pe_op op_pow pe_int pe_int)) (pa_cons (pe_op op_add (pe_op op_mul pe_int (pe_op op_pow pe_int pe_int)) pe_int) pa_nil)))
        (pa_cons (pe_tup (pa_cons pe_int (pa_cons pe_int pa_nil))) pa_nil))))))))
      (pss_cons (ps_asg (pe_ix ix_list (pv 2) (pe_call GD hr (by rfl) gD FD.kp bD .nil pass0 (pa_cons (pv 0) (pa_cons pe_int pa_nil))) (fun _ _ => rfl))
        (pg_tup (by rfl) (pgs_cons (pg_name (i := 3) scRing.nd rfl (.inl rfl)) (pgs_cons (pg_name (i := 4) scRing.nd rfl (.inl rfl)) pgs_nil))))
      (pss_cons (ps_set (i := 5) scRing.nd rfl (.inl rfl) (pe_lst (pa_cons (pe_op op_add (pv 3) (pe_call GD hr (by rfl) gD FD.kp bD .nil pass0 (pa_cons (pv 0) (pa_cons (pv 4) pa_nil)))) pa_nil)))
      (pss_cons (ps_for PassesOwn.never rfl (pi_range1 (by rfl) mr (pa_cons (pe_call GD hr (by rfl) gD FD.kp bD .nil pass0 (pa_cons (pv 0) (pa_cons (pv 1) pa_nil))) pa_nil))
          (pg_name (i := 6) scRing.nd rfl (.inl rfl))
        (pss_cons (ps_set (i := 7) scRing.nd rfl (.inl rfl) (pe_cmpR op_eq (pe_call GD hr (by rfl) gD FD.kp bD .nil pass0 (pa_cons (pv 0) (pa_cons pe_int pa_nil))) pe_int (nomark _)))
        (pss_one (ps_expr (pe_bm PySem.F.plainAttrs_list PySem.F.slot_list_append PySem.F.type_list_append mt_append (pv 5)
          (pa_cons (pe_ix ix_list (pe_lst (pa_cons (pe_op op_add (pv 3) (pe_call GD hr (by rfl) gD FD.kp bD .nil pass0 (pa_cons (pv 0) (pa_cons (pv 4) pa_nil)))) (pa_cons (pe_ix ix_list (pv 5) (pe_un un_neg pe_int) (fun _ _ => rfl)) pa_nil)))
            (pe_callTy call_int1 (by rfl) mi (by decide +kernel) (pa_cons (pv 7) pa_nil)) (fun _ _ => rfl)) pa_nil))))))
      (pss_one (ps_ret (pe_callTy call_tuple_of (by rfl) mt (by decide +kernel) (pa_cons (pv 5) pa_nil))))))), ?_⟩
    -- the kinds
    refine ⟨by show 2 ≤ sizeLine; decide, fun t1 n1 => ?_⟩
    generalize hK1 : upd H t1 (.tup [.int 0, .int 3]) = K1
    have S1 : Same H K1 := hK1 ▸ same_upd n1
    have e1 : K1 t1 = some (.tup [.int 0, .int 3]) := hK1 ▸ upd_same
    refine ⟨5, rfl, by show 2 ≤ sizeLine; decide, fun t2 n2 => ?_⟩
    generalize hK2 : upd K1 t2 (.tup [.int (-5), .int 12]) = K2
    have S2 : Same K1 K2 := hK2 ▸ same_upd n2
    have e2 : K2 t2 = some (.tup [.int (-5), .int 12]) := hK2 ▸ upd_same
    refine ⟨10, 9, rfl, rfl, ⟨by decide, by decide, by decide⟩, _, _, rfl, rfl, by show 2 ≤ sizeLine; decide, fun t3 n3 => ?_⟩
    generalize hK3 : upd K2 t3 (.tup [.int (0 - 10 ^ (9 : Int).toNat), .int 4]) = K3
    have S3 : Same K2 K3 := hK3 ▸ same_upd n3
    have e3 : K3 t3 = some (.tup [.int (0 - 10 ^ (9 : Int).toNat), .int 4]) := hK3 ▸ upd_same
    refine ⟨10, 9, rfl, rfl, ⟨by decide, by decide, by decide⟩, _, _, rfl, rfl, by show 2 ≤ sizeLine; decide, fun t4 n4 => ?_⟩
    generalize hK4 : upd K3 t4 (.tup [.int (10 ^ (9 : Int).toNat - 4), .int 5]) = K4
    have S4 : Same K3 K4 := hK4 ▸ same_upd n4
    have e4 : K4 t4 = some (.tup [.int (10 ^ (9 : Int).toNat - 4), .int 5]) := hK4 ▸ upd_same
    refine ⟨10, 9, rfl, rfl, ⟨by decide, by decide, by decide⟩, _, _, rfl, rfl, 10, 9, rfl, rfl, ⟨by decide, by decide, by decide⟩, _, _, rfl, rfl, .inl ⟨by decide, by decide⟩, _, _, rfl, rfl, by show 2 ≤ sizeLine; decide, fun t5 n5 => ?_⟩
    generalize hK5 : upd K4 t5 (.tup [.int (0 - 10 ^ (9 : Int).toNat), .int (2 * 10 ^ (9 : Int).toNat + 1)]) = K5
    have S5 : Same K4 K5 := hK5 ▸ same_upd n5
    have e5 : K5 t5 = some (.tup [.int (0 - 10 ^ (9 : Int).toNat), .int (2 * 10 ^ (9 : Int).toNat + 1)]) := hK5 ▸ upd_same
    refine ⟨by show 2 ≤ sizeLine; decide, fun t6 n6 => ?_⟩
    generalize hK6 : upd K5 t6 (.tup [.int 0, .int 60]) = K6
    have S6 : Same K5 K6 := hK6 ▸ same_upd n6
    have e6 : K6 t6 = some (.tup [.int 0, .int 60]) := hK6 ▸ upd_same
    refine ⟨by show 6 ≤ sizeLine; decide, fun M nM => ?_⟩
    generalize hK8 : upd K6 M (.lst [.ref t1, .ref t2, .ref t3, .ref t4, .ref t5, .ref t6]) = K8
    have S8 : Same K6 K8 := hK8 ▸ same_upd nM
    have eM : K8 M = some (.lst [.ref t1, .ref t2, .ref t3, .ref t4, .ref t5, .ref t6]) := hK8 ▸ upd_same
    have S16 : Same H K6 := ((((S1.trans S2).trans S3).trans S4).trans S5).trans S6
    have SA : Same H K8 := S16.trans S8
    have p9 : (10 : Int) ^ (9 : Int).toNat = 1000000000 := by decide
    have menu : ∀ i : Nat, i < 6 → ∃ t ba sp, [V.ref t1, .ref t2, .ref t3, .ref t4, .ref t5, .ref t6][i]? = some (.ref t) ∧ K8 t = some (.tup [.int ba, .int sp]) ∧
        0 < sp ∧ sp < 1000000000000 ∧ -1000000000 ≤ ba ∧ ba + sp ≤ 1000000001 := by
      rw [p9] at e3 e4 e5
      have r1 := S8 _ _ (S6 _ _ (S5 _ _ (S4 _ _ (S3 _ _ (S2 _ _ e1)))))
      have r2 := S8 _ _ (S6 _ _ (S5 _ _ (S4 _ _ (S3 _ _ e2))))
      have r3 := S8 _ _ (S6 _ _ (S5 _ _ (S4 _ _ e3)))
      have r4 := S8 _ _ (S6 _ _ (S5 _ _ e4))
      have r5 := S8 _ _ (S6 _ _ e5)
      have r6 := S8 _ _ e6
      intro i hi
      match i, hi with
      | 0, _ => exact ⟨t1, _, _, rfl, r1, by decide, by decide, by decide, by decide⟩
      | 1, _ => exact ⟨t2, _, _, rfl, r2, by decide, by decide, by decide, by decide⟩
      | 2, _ => exact ⟨t3, _, _, rfl, r3, by decide, by decide, by decide, by decide⟩
      | 3, _ => exact ⟨t4, _, _, rfl, r4, by decide, by decide, by decide, by decide⟩
      | 4, _ => exact ⟨t5, _, _, rfl, r5, by decide, by decide, by decide, by decide⟩
      | 5, _ => exact ⟨t6, _, _, rfl, r6, by decide, by decide, by decide, by decide⟩
    have fM : H M = none := S16.free nM
    clear hK1 hK2 hK3 hK4 hK5 hK6 hK8 S1 S2 S3 S4 S5 S6 S8
    have D8 : Deck K8 d l n := D.same SA
    have nMd := D.free_ne fM
    have K8k : Keep d l H K8 := Keep.same SA
    refine ⟨.ref M, rfl, .ref d, rfl, d, l, n, 6, rfl, D8, by omega, by decide, by decide, fun H1 v v0 v7 D1 k1 => ?_⟩
    obtain ⟨j, rfl⟩ : ∃ j : Nat, v = (j : Int) := ⟨v.toNat, (Int.toNat_of_nonneg v0).symm⟩
    obtain ⟨t, ba, sp, gt, et, sp0, sp1, ba0, ba1⟩ := menu j (by omega)
    have eM1 : H1 M = some (.lst [.ref t1, .ref t2, .ref t3, .ref t4, .ref t5, .ref t6]) := k1 M _ nMd.1 nMd.2 eM
    have et1 : H1 t = some (.tup [.int ba, .int sp]) := k1.tup D8 et
    refine ⟨M, _, (j : Int), .ref t, rfl, rfl, SqL.of eM1, atI_nat gt, t, _, rfl, SqT.of et1, rfl, _, _, rfl, _, _, rfl, rfl, ?_⟩
    -- heights = [least + draw(deck, many)]
    refine ⟨.int ba, rfl, .ref d, rfl, .int sp, rfl, d, l, n + 1, sp, rfl, D1, by omega, sp0, sp1, fun H2 x x0 x1 D2 k2 => ?_⟩
    refine ⟨_, _, rfl, rfl, by show 1 ≤ sizeLine; decide, fun L nL => ?_⟩
    have kH2 : Keep d l H H2 := (K8k.trans k1).trans k2
    have nLd := D2.free_ne nL
    have fL : H L = none := kH2.free D2 nL
    generalize hH3 : upd H2 L (.lst [.int (ba + x)]) = H3
    have s3 : Same H2 H3 := hH3 ▸ same_upd nL
    have eL3 : H3 L = some (.lst ([ba + x].map V.int)) := hH3 ▸ upd_same
    -- for k in range(draw(deck, most))
    refine ⟨.ref d, rfl, .int most, rfl, d, l, n + 1 + 1, most, rfl, D2.same s3, by omega, h0, by omega, fun H4 m m0 m1 D4 k4 => ?_⟩
    refine ⟨m, rfl, by omega, by omega, ?_⟩
    refine for_range (lo := 0) (n := m.toNat)
      (fun i σ H5 => ∃ (y6 y7 : Option V) (n5 : Int) (as : List Int),
        σ = [some (.ref d), some (.int most), some (.ref M), some (.int ba), some (.int sp), some (.ref L), y6, y7] ∧
        n + 3 ≤ n5 ∧ n5 ≤ n + 3 + 2 * i ∧ Deck H5 d l n5 ∧ Keep d l H H5 ∧ H5 L = some (.lst (as.map V.int)) ∧ as.length = i + 1 ∧ ∀ a ∈ as, Ht a)
      ?_ ?_ ?_
    · refine ⟨none, none, n + 1 + 1 + 1, [ba + x], rfl, by omega, by omega, D4, (kH2.trans (Keep.same s3)).trans k4, k4 L _ nLd.1 nLd.2 eL3, rfl, ?_⟩
      intro z hz
      rw [List.mem_singleton] at hz
      rw [hz]
      exact ⟨by omega, by omega⟩
    · rintro i σ H5 hi ⟨y6, y7, n5, as, rfl, a1, a2, D5, k5, eL5, la, ha⟩
      refine ⟨.ref d, rfl, d, l, n5, 5, rfl, D5, by omega, by decide, by decide, fun H6 u u0 u1 D6 k6 => ?_⟩
      refine ⟨rfl, ?_⟩
      have eL6 : H6 L = some (.lst (as.map V.int)) := k6 L _ nLd.1 nLd.2 eL5
      generalize decide (V.int u = V.int 0) = bb
      refine ⟨.ref L, rfl, .inl ⟨rfl, _, SqL.of eL6⟩, .int ba, rfl, .ref d, rfl, .int sp, rfl, d, l, n5 + 1, sp, rfl, D6, by omega, sp0, sp1, fun H7 y z0 z1 D7 k7 => ?_⟩
      have eL7 : H7 L = some (.lst (as.map V.int)) := k7 L _ nLd.1 nLd.2 eL6
      refine ⟨_, _, rfl, rfl, .ref L, rfl, 1, rfl, L, _, _, _, rfl, rfl, SqL.of eL7, atI_back (ns := as) (i := 0) (by omega), by show 2 ≤ sizeLine; decide, fun T nT => ?_⟩
      have pm : Ht (prevOf as 0) := ha _ (prev_mem (by omega) (by omega))
      generalize prevOf as 0 = pa at pm
      generalize hH8 : upd H7 T (.lst [.int (ba + y), .int pa]) = H8
      have s8 : Same H7 H8 := hH8 ▸ same_upd nT
      have eT : H8 T = some (.lst ([ba + y, pa].map V.int)) := hH8 ▸ upd_same
      refine ⟨.bl bb, rfl, .inr ⟨bb, rfl, ?_⟩⟩
      obtain ⟨c, gc, hcH⟩ : ∃ c, atI ([ba + y, pa].map V.int) (if bb then 1 else 0) = some (.int c) ∧ Ht c := by
        cases bb with
        | true => exact ⟨pa, rfl, pm⟩
        | false => exact ⟨ba + y, rfl, by omega, by omega⟩
      refine ⟨T, _, _, .int c, rfl, rfl, SqL.of eT, gc, L, _, _, rfl, rfl, s8 _ _ eL7, ?_, ?_⟩
      · rw [List.length_map, la]
        exact small1000 (by omega)
      · refine ⟨_, _, n5 + 1 + 1, as ++ [c], rfl, by omega, by omega, (D7.same s8).keep (upd_ne nLd.1.symm) (upd_ne nLd.2.symm), ?_, ?_, ?_, ?_⟩
        · intro b o b1 b2 hb
          rw [upd_ne (ne_of_none hb fL)]
          exact s8 _ _ (((k5.trans k6).trans k7) b o b1 b2 hb)
        · rw [upd_same, List.map_append]
          rfl
        · rw [List.length_append, la]
          rfl
        · intro z hz
          rcases List.mem_append.mp hz with hz | hz
          · exact ha z hz
          · rw [List.mem_singleton] at hz
            rw [hz]
            exact hcH
    · rintro σ H5 ⟨y6, y7, n5, as, rfl, a1, a2, D5, k5, eL5, la, ha⟩
      refine ⟨.ref L, rfl, L, _, rfl, .inl ⟨SqL.of eL5, fun r nr => ?_⟩⟩
      exact q _ n5 r as (by omega) (by omega) (D5.same (same_upd nr)) (k5.trans (Keep.same (same_upd nr))) (k5.free D5 nr) upd_same (by omega) (by omega) ha
end
/-! ### heights_after -/
abbrev sAfter : Stmt := topS 1
abbrev nAfter : List Str := ["ring", "place"]
theorem scAfter : FnScope nAfter ["ring", "place"] (defScope sAfter) := ⟨rfl, rfl, rfl, by decide +kernel, rfl, by decide +kernel, by decide +kernel⟩
section
variable {P : Program} {w : World} {K : PySem.W.Frag} {mg : Str → Option Value} {base : Heap}
def spAfter (K : PySem.W.Frag) : Sp := fun vs H Q _ => ∃ (a : Addr) (hs : List Int) (i : Nat), vs = [.ref a, .int (i : Int)] ∧ SqT K H a (hs.map V.int) ∧ i < hs.length ∧ hs.length ≤ 1000 ∧
  ∀ p H', Same H H' → SqT K H' p ((after hs i).map V.int) → Q (.ref p) H'
theorem ok_after {f : Addr} {fd : FuncData} {k : Nat} (F : Fun K "heights_after" "heights_after" sAfter f fd) : FnOk P w K mg base CX0 (k + 1) f fd ["ring", "place"] (spAfter K) := by
  refine F.ok scAfter (fun vs H Q E h => ?_) (fun cdv A outer s H vs Q E hr h => ?_)
  · obtain ⟨a, hs, i, rfl, _⟩ := h
    rfl
  · obtain ⟨a, hs, i, rfl, hS, hi, hl, q⟩ := h
    refine ⟨_, pss_one (ps_ret (pe_op op_catW (pe_slice sl_tupW (pv 0) (po_some (pe_op op_add (pv 1) pe_int)) po_none) (pe_slice sl_tupW (pv 0) po_none (po_some (pv 1))))), ?_⟩
    refine ⟨.ref a, rfl, .int (i : Int), rfl, _, _, rfl, rfl, _, rfl, a, _, rfl, hS, fun p1 H1 s1 e1 => ?_⟩
    rw [show cutV (hs.map V.int) (some ((i : Int) + 1)) none = (hs.drop (i + 1)).map V.int by
      rw [List.map_drop]
      exact cut_from _ (i + 1)] at e1
    refine ⟨.ref a, rfl, .int (i : Int), rfl, _, rfl, a, _, rfl, Same.tupq s1 hS, fun p2 H2 s2 e2 => ?_⟩
    rw [show cutV (hs.map V.int) none (some (i : Int)) = (hs.take i).map V.int by
      rw [List.map_take]
      exact cut_to _ i] at e2
    refine ⟨p1, p2, _, _, rfl, rfl, Same.tupq s2 e1, e2, ?_, fun p H' s3 e3 => ?_⟩
    · rw [List.length_map, List.length_map, List.length_drop, List.length_take]
      exact Nat.le_of_lt (small1000 (by omega))
    · rw [← List.map_append] at e3
      exact q p H' ((s1.trans s2).trans s3) e3
end
/-! ### passage_places -/
abbrev sPass : Stmt := topS 3
abbrev sBegins : Stmt := topS 4
abbrev nPass : List Str := ["ring", "low", "high", "place"]
abbrev nBegins : List Str := ["ring", "place", "low", "high", "height"]
theorem scPass : FnScope nPass ["ring", "low", "high"] (defScope sPass) := ⟨rfl, rfl, rfl, by decide +kernel, rfl, by decide +kernel, by decide +kernel⟩
theorem scBegins : FnScope nBegins ["ring", "place", "low", "high"] (defScope sBegins) := ⟨rfl, rfl, rfl, by decide +kernel, rfl, by decide +kernel, by decide +kernel⟩
section
variable {P : Program} {w : World} {K : PySem.W.Frag} {mg : Str → Option Value} {base : Heap}
def spBegins (K : PySem.W.Frag) : Sp := fun vs H Q _ => ∃ (a : Addr) (hs : List Int) (i : Nat) (lo hi : Int), vs = [.ref a, .int (i : Int), .int lo, .int hi] ∧ SqT K H a (hs.map V.int) ∧ i < hs.length ∧ hs.length ≤ 1000 ∧
  ∀ H', Same H H' → Q (.bl (begins hs lo hi i)) H'
theorem ok_begins {f fA : Addr} {fd fdA : FuncData} {k : Nat} (F : Fun K "begins_passage" "begins_passage" sBegins f fd)
    (FA : Fun K "heights_after" "heights_after" sAfter fA fdA) (bA : Binds K fdA ["ring", "place"] []) (gA : mg "heights_after" = some (.ref fA)) :
    FnOk P w K mg base CX0 (k + 2) f fd ["ring", "place", "low", "high"] (spBegins K) := by
  have GA : FnOk P w K mg base CX0 (k + 1) fA fdA ["ring", "place"] (spAfter K) := ok_after FA
  refine F.ok scBegins (fun vs H Q E h => ?_) (fun cdv A outer s H vs Q E hr h => ?_)
  · obtain ⟨a, hs, i, lo, hi, rfl, _⟩ := h
    rfl
  · obtain ⟨a, hs, i, lo, hi, rfl, hS, hil, hl, q⟩ := h
    refine ⟨_, pss_cons (ps_if (pt_cmpR op_gt (pe_ix ix_tup (pv 0) (pv 1) (fun _ _ => rfl)) (pv 2) (nomark _)) (pss_one (ps_ret pe_bl)) pss_nil)
      (pss_cons (ps_for PassesOwn.never rfl (pi_tup (pe_call GA hr (by rfl) gA FA.kp bA .nil pass0 (pa_cons (pv 0) (pa_cons (pv 1) pa_nil)))) (pg_name (i := 4) scBegins.nd rfl (.inl rfl))
        (pss_cons (ps_if (pt_cmpR op_ge (pv 4) (pv 3) (nomark _)) (pss_one (ps_ret pe_bl)) pss_nil)
        (pss_one (ps_if (pt_cmpR op_le (pv 4) (pv 2) (nomark _)) (pss_one (ps_ret pe_bl)) pss_nil))))
      (pss_one (ps_ret pe_bl))), ?_⟩
    obtain ⟨h0, g0⟩ : ∃ h0, hs[i]? = some h0 := ⟨hs[i], List.getElem?_eq_getElem hil⟩
    have d0 : hs.getD i 0 = h0 := getD_of g0
    refine ⟨.ref a, rfl, .int (i : Int), rfl, a, _, _, .int h0, rfl, rfl, hS, atI_of rfl g0, .int lo, rfl, _, _, rfl, rfl, _, rfl, ite2 (fun e => ?_) (fun e => ?_)⟩
    · have hv : begins hs lo hi i = false := by
        unfold begins
        rw [d0, if_pos (of_decide_eq_true e)]
      rw [← hv]
      exact q _ (Same.refl _)
    have hlo : ¬ lo < h0 := fun z => e (decide_eq_true z)
    refine ⟨.ref a, rfl, .int (i : Int), rfl, a, hs, i, rfl, hS, hil, hl, fun p H1 s1 e1 => ?_⟩
    refine ⟨p, rfl, ⟨_, e1⟩, ?_⟩
    refine for_tup (K := K) (a := p) (xs := (after hs i).map V.int) (fun j σ H2 => ∃ y : Option V, σ = [some (.ref a), some (.int (i : Int)), some (.int lo), some (.int hi), y] ∧ H2 = H1 ∧ ∀ (j' : Nat) (x : Int), j' < j → (after hs i)[j']? = some x → outP lo hi x = false) ?_ ?_ ?_ ?_
    · exact ⟨none, rfl, rfl, fun j' _ h => absurd h (Nat.not_lt_zero _)⟩
    · rintro j σ H2 _ ⟨_, _, rfl, _⟩
      exact e1
    · rintro j x σ H2 hx ⟨y, rfl, rfl, hall⟩
      obtain ⟨c, hc, rfl⟩ := get_map_int hx
      refine ⟨.int c, rfl, .int hi, rfl, _, _, rfl, rfl, _, rfl, ite2 (fun e1 => ?_) (fun e1 => ?_)⟩
      · have hv : begins hs lo hi i = true := by
          unfold begins
          rw [d0, if_neg hlo, find_some hall hc (by unfold outP; rw [e1, Bool.true_or])]
          exact e1
        rw [← hv]
        exact q _ s1
      · have n1 : decide (hi ≤ c) = false := by
          cases h : decide (hi ≤ c) with
          | true => exact absurd h e1
          | false => rfl
        refine ⟨.int c, rfl, .int lo, rfl, _, _, rfl, rfl, _, rfl, ite2 (fun e2 => ?_) (fun e2 => ?_)⟩
        · have hv : begins hs lo hi i = false := by
            unfold begins
            rw [d0, if_neg hlo, find_some hall hc (by unfold outP; rw [e2, Bool.or_true])]
            exact n1
          rw [← hv]
          exact q _ s1
        · have n2 : decide (c ≤ lo) = false := by
            cases h : decide (c ≤ lo) with
            | true => exact absurd h e2
            | false => rfl
          refine ⟨some (.int c), rfl, rfl, ?_⟩
          intro j' x hj hz
          by_cases hjj : j' < j
          · exact hall j' x hjj hz
          · have : j' = j := by omega
            subst this
            rw [hc] at hz
            cases hz
            unfold outP
            rw [n1, n2]
            rfl
    · rintro σ H2 ⟨y, rfl, rfl, hall⟩
      have hv : begins hs lo hi i = false := by
        unfold begins
        rw [d0, if_neg hlo, find_none fun j' x hx => hall j' x (by rw [List.length_map]; exact (List.getElem?_eq_some_iff.mp hx).1) hx]
      rw [← hv]
      exact q _ s1
def spPass (K : PySem.W.Frag) : Sp := fun vs H Q _ => ∃ (a : Addr) (hs : List Int) (lo hi : Int), vs = [.ref a, .int lo, .int hi] ∧ SqT K H a (hs.map V.int) ∧ hs.length ≤ 1000 ∧
  ∀ p H', Same H H' → H p = none → H' p = some (.tup ((natInts (passOf hs lo hi)).map V.int)) → Q (.ref p) H'
theorem ok_pass {f fT fA : Addr} {fd fdT fdA : FuncData} {k : Nat} (F : Fun K "passage_places" "passage_places" sPass f fd)
    (FT : Fun K "begins_passage" "begins_passage" sBegins fT fdT) (bT : Binds K fdT ["ring", "place", "low", "high"] []) (gT : mg "begins_passage" = some (.ref fT))
    (FA : Fun K "heights_after" "heights_after" sAfter fA fdA) (bA : Binds K fdA ["ring", "place"] []) (gA : mg "heights_after" = some (.ref fA))
    (ml : mg "len" = none) (mr : mg "range" = none) (mt : mg "tuple" = none) :
    FnOk P w K mg base CX0 (k + 3) f fd ["ring", "low", "high"] (spPass K) := by
  have GT : FnOk P w K mg base CX0 (k + 2) fT fdT ["ring", "place", "low", "high"] (spBegins K) := ok_begins FT FA bA gA
  refine F.ok scPass (fun vs H Q E h => ?_) (fun cdv A outer s H vs Q E hr h => ?_)
  · obtain ⟨a, hs, lo, hi, rfl, _⟩ := h
    rfl
  · obtain ⟨a, hs, lo, hi, rfl, hS, hl, q⟩ := h
    refine ⟨_, pss_one (ps_ret (pe_callTy call_tuple_of (by rfl) mt (by decide +kernel) (pa_cons (pe_lc (own := [("place", 3)]) (g := gName 3) (by rfl) scPass.nd
        (pi_range1 (by rfl) mr (pa_cons (pe_callB call_len_seq (by rfl) ml PySem.boot_len (pa_cons (pv 0) pa_nil)) pa_nil))
        (blkOk_by (own := [("place", 3)]) (N := nPass) (sc := defScope sPass) (by decide +kernel))
        (fun _ _ _ _ _ => pg_name (i := 3) scPass.nd rfl (Or.inl rfl))
        (fun _ _ _ _ _ => pts_one (pt_val (pe_call GT hr (by rfl) gT FT.kp bT .nil pass0 (pa_cons (pv 0) (pa_cons (pv 3) (pa_cons (pv 1) (pa_cons (pv 2) pa_nil)))))))
        (fun _ _ _ _ _ => pv 3)) pa_nil))), ?_⟩
    refine ⟨.ref a, rfl, a, _, rfl, .inr hS, _, rfl, ?_, ?_, fun D nD => ?_⟩
    · rw [List.length_map]
      omega
    · rw [List.length_map]
      omega
    have el : (((hs.map V.int).length : Nat) : Int).toNat = hs.length := by
      rw [List.length_map]
      omega
    rw [el]
    refine lc_range (lo := 0) (n := hs.length) (fun j H2 => Same H H2 ∧ H2 D = some (.lst ((natInts (((List.range hs.length).take j).filter (begins hs lo hi))).map V.int))) ?_ ?_ ?_
    · exact ⟨same_upd nD, upd_same⟩
    · rintro j H2 hj ⟨s2, e2⟩
      have ej : (0 : Int) + (j : Int) = (j : Int) := Int.zero_add _
      rw [ej]
      refine ⟨rfl, .ref a, rfl, .int (j : Int), rfl, .int lo, rfl, .int hi, rfl, a, hs, j, lo, hi, rfl, Same.tupq s2 hS, hj, hl, fun H3 s3 => ?_⟩
      refine ⟨_, rfl, ?_⟩
      have fs := filter_take_succ (p := begins hs lo hi) hj
      cases ht : begins hs lo hi j with
      | true =>
        rw [ht, if_pos rfl] at fs
        refine ⟨.int (j : Int), rfl, _, s3 _ _ e2, ?_, ?_, ?_⟩
        · rw [List.length_map]
          unfold natInts
          rw [List.length_map]
          refine small1000 (Nat.le_trans (List.length_filter_le _ _) ?_)
          rw [List.length_take, List.length_range]
          omega
        · intro b o e
          rw [upd_ne (ne_of_none e nD)]
          exact s3 _ _ (s2 _ _ e)
        · rw [upd_same, fs, natInts_app, List.map_append]
          rfl
      | false =>
        rw [ht, if_neg Bool.false_ne_true, List.append_nil] at fs
        refine ⟨s2.trans s3, ?_⟩
        rw [fs]
        exact s3 _ _ e2
    · rintro H2 ⟨s2, e2⟩
      rw [List.take_of_length_le (by rw [List.length_range]; exact Nat.le_refl _)] at e2
      refine ⟨D, _, rfl, .inl ⟨SqL.of e2, fun p np => ?_⟩⟩
      exact q p _ (s2.trans (same_upd np)) (s2.free np) upd_same
end
/-! ### count_passages -/
abbrev sCount : Stmt := topS 5
abbrev nCount : List Str := ["ring", "low", "high"]
theorem scCount : FnScope nCount nCount (defScope sCount) := ⟨rfl, rfl, rfl, by decide +kernel, rfl, by decide +kernel, by decide +kernel⟩
section
variable {P : Program} {w : World} {K : PySem.W.Frag} {mg : Str → Option Value} {base : Heap}
def spCount (K : PySem.W.Frag) : Sp := fun vs H Q _ => ∃ (a : Addr) (hs : List Int) (lo hi : Int), vs = [.ref a, .int lo, .int hi] ∧ SqT K H a (hs.map V.int) ∧ hs.length ≤ 1000 ∧ lo < hi ∧
  ∀ H', Same H H' → Q (.int ((cyc (marks hs lo hi) : Nat) : Int)) H'
theorem ok_count {f fP fT fA : Addr} {fd fdP fdT fdA : FuncData} {k : Nat} (F : Fun K "count_passages" "count_passages" sCount f fd)
    (FP : Fun K "passage_places" "passage_places" sPass fP fdP) (bP : Binds K fdP ["ring", "low", "high"] []) (gP : mg "passage_places" = some (.ref fP))
    (FT : Fun K "begins_passage" "begins_passage" sBegins fT fdT) (bT : Binds K fdT ["ring", "place", "low", "high"] []) (gT : mg "begins_passage" = some (.ref fT))
    (FA : Fun K "heights_after" "heights_after" sAfter fA fdA) (bA : Binds K fdA ["ring", "place"] []) (gA : mg "heights_after" = some (.ref fA))
    (ml : mg "len" = none) (mr : mg "range" = none) (mt : mg "tuple" = none) :
    FnOk P w K mg base CX0 (k + 4) f fd ["ring", "low", "high"] (spCount K) := by
  have GP : FnOk P w K mg base CX0 (k + 3) fP fdP ["ring", "low", "high"] (spPass K) := ok_pass FP FT bT gT FA bA gA ml mr mt
  refine F.ok scCount (fun vs H Q E h => ?_) (fun cdv A outer s H vs Q E hr h => ?_)
  · obtain ⟨a, hs, lo, hi, rfl, _⟩ := h
    rfl
  · obtain ⟨a, hs, lo, hi, rfl, hS, hl, hlh, q⟩ := h
    refine ⟨_, pss_one (ps_ret (pe_callB call_len_seq (by rfl) ml PySem.boot_len (pa_cons (pe_call GP hr (by rfl) gP FP.kp bP .nil pass0 (pa_cons (pv 0) (pa_cons (pv 1) (pa_cons (pv 2) pa_nil)))) pa_nil))), ?_⟩
    refine ⟨.ref a, rfl, .int lo, rfl, .int hi, rfl, a, hs, lo, hi, rfl, hS, hl, fun p H1 s1 np ep => ?_⟩
    refine ⟨p, _, rfl, .inr (SqT.of ep), ?_⟩
    have e : ((natInts (passOf hs lo hi)).map V.int).length = cyc (marks hs lo hi) := by
      rw [List.length_map, ← pass_count hlh]
      exact List.length_map ..
    rw [e]
    exact q _ s1
end
/-! ### the law's own count -/
abbrev sMany : Stmt := topS 10
abbrev nMany : List Str := ["_law_ring_here", "_law_low", "_law_high", "_law_marks", "_law_height", "_law_k"]
theorem scMany : FnScope nMany ["_law_ring_here", "_law_low", "_law_high"] (defScope sMany) := ⟨rfl, rfl, rfl, by decide +kernel, rfl, by decide +kernel, by decide +kernel⟩
section
variable {P : Program} {w : World} {K : PySem.W.Frag} {mg : Str → Option Value} {base : Heap}
def spManyT (K : PySem.W.Frag) : Sp := fun vs H Q _ => ∃ (a : Addr) (hs : List Int) (lo hi : Int), vs = [.ref a, .int lo, .int hi] ∧ SqT K H a (hs.map V.int) ∧ hs.length ≤ 1000 ∧
  ∀ H', Same H H' → Q (.int ((cyc (marks hs lo hi) : Nat) : Int)) H'
theorem ok_manyT {f : Addr} {fd : FuncData} {k : Nat} (F : Fun K "_law_many" "_law_many" sMany f fd) (ml : mg "len" = none) (mr : mg "range" = none) :
    FnOk P w K mg base CX0 (k + 1) f fd ["_law_ring_here", "_law_low", "_law_high"] (spManyT K) := by
  refine F.ok scMany (fun vs H Q E h => ?_) (fun cdv A outer s H vs Q E hr h => ?_)
  · obtain ⟨a, hs, lo, hi, rfl, _⟩ := h
    rfl
  · obtain ⟨a, hs, lo, hi, rfl, hS, hl, q⟩ := h
    refine ⟨_, pss_cons (ps_set (i := 3) scMany.nd rfl (.inr rfl) (pe_lc (own := [("_law_height", 4)]) (g := gName 4) (by rfl) scMany.nd (pi_tup (pv 0))
        (blkOk_by (own := [("_law_height", 4)]) (N := nMany) (sc := defScope sMany) (by decide +kernel))
        (fun _ _ _ _ _ => pg_name (i := 4) scMany.nd rfl (Or.inl rfl))
        (fun _ _ _ _ _ => pts_one (PW.pt (pw_or (pt_cmpR op_le (pv 4) (pv 1) (nomark _)) (pw_or1 (pt_cmpR op_ge (pv 4) (pv 2) (nomark _))))))
        (fun _ _ _ _ _ => pe_cmpR op_ge (pv 4) (pv 2) (nomark _))))
      (pss_one (ps_ret (pe_callB call_len_seq (by rfl) ml PySem.boot_len (pa_cons (pe_lc (own := [("_law_k", 5)]) (g := gName 5) (by rfl) scMany.nd
        (pi_range1 (by rfl) mr (pa_cons (pe_callB call_len_seq (by rfl) ml PySem.boot_len (pa_cons (pv 3) pa_nil)) pa_nil))
        (blkOk_by (own := [("_law_k", 5)]) (N := nMany) (sc := defScope sMany) (by decide +kernel))
        (fun _ _ _ _ _ => pg_name (i := 5) scMany.nd rfl (Or.inl rfl))
        (fun _ _ _ _ _ => pts_one (PW.pt (pw_and (pt_val (pe_ix (ixL K) (pv 3) (pv 5) (fun _ _ => rfl))) (pw_and1 (pt_not (pt_val (pe_ix (ixL K) (pv 3) (pe_op op_sub (pv 5) pe_int) (fun _ _ => rfl))))))))
        (fun _ _ _ _ _ => pv 5)) pa_nil)))), ?_⟩
    refine ⟨.ref a, rfl, a, rfl, ⟨_, hS⟩, fun D nD => ?_⟩
    refine lc_tup (K := K) (a := a) (xs := hs.map V.int) (fun j H2 => Same H H2 ∧ H2 D = some (.lst ((marks (hs.take j) lo hi).map V.bl))) ?_ ?_ ?_ ?_
    · exact ⟨same_upd nD, upd_same⟩
    · rintro j H2 _ ⟨s2, _⟩
      exact Same.tupq s2 hS
    · rintro j x H2 hx ⟨s2, e2⟩
      obtain ⟨c, hc, rfl⟩ := get_map_int hx
      have hj : j < hs.length := (List.getElem?_eq_some_iff.mp hc).1
      have mt := marks_take (lo := lo) (hi := hi) hc
      have put : outP lo hi c = true → ∃ acc, H2 D = some (.lst acc) ∧ acc.length < sizeLine ∧ Same H (upd H2 D (.lst (acc ++ [.bl (decide (hi ≤ c))]))) ∧
          (upd H2 D (.lst (acc ++ [.bl (decide (hi ≤ c))]))) D = some (.lst ((marks (hs.take (j + 1)) lo hi).map V.bl)) := by
        intro ho
        rw [if_pos ho] at mt
        refine ⟨_, e2, ?_, ?_, ?_⟩
        · rw [List.length_map]
          refine small1000 (Nat.le_trans (marks_len _ _ _) ?_)
          rw [List.length_take]
          omega
        · intro b o z
          rw [upd_ne (ne_of_none z nD)]
          exact s2 _ _ z
        · rw [upd_same, mt, List.map_append]
          rfl
      refine ⟨rfl, .int c, rfl, .int lo, rfl, _, _, rfl, rfl, _, rfl, ite2 (fun e => ?_) (fun e => ?_)⟩
      · exact ⟨.int c, rfl, .int hi, rfl, _, _, rfl, rfl, put (by unfold outP; rw [e, Bool.or_true])⟩
      · refine ⟨.int c, rfl, .int hi, rfl, _, _, rfl, rfl, _, rfl, ite2 (fun e1 => ?_) (fun e1 => ?_)⟩
        · exact ⟨.int c, rfl, .int hi, rfl, _, _, rfl, rfl, put (by unfold outP; rw [e1, Bool.true_or])⟩
        · have ho : ¬ outP lo hi c = true := by
            unfold outP
            intro z
            rcases Bool.or_eq_true_iff.mp z with z | z
            · exact e1 z
            · exact e z
          rw [if_neg ho, List.append_nil] at mt
          refine ⟨s2, ?_⟩
          rw [mt]
          exact e2
    · rintro H2 ⟨s2, e2⟩
      rw [List.length_map, List.take_length] at e2
      generalize hms : marks hs lo hi = ms at e2
      have lms : ms.length ≤ 1000 := by
        rw [← hms]
        exact Nat.le_trans (marks_len _ _ _) hl
      have hlm : (ms.map V.bl).length = ms.length := List.length_map ..
      refine ⟨.ref D, rfl, D, _, rfl, .inl (SqL.of e2), _, rfl, by omega, by omega, fun D2 nD2 => ?_⟩
      have el : (((ms.map V.bl).length : Nat) : Int).toNat = ms.length := by omega
      rw [el]
      refine lc_range (lo := 0) (n := ms.length) (fun j H3 => Same H2 H3 ∧ H3 D2 = some (.lst ((natInts (((List.range ms.length).take j).filter (riseAt ms))).map V.int))) ?_ ?_ ?_
      · exact ⟨same_upd nD2, upd_same⟩
      · rintro j H3 hj ⟨s3, e3⟩
        have ej : (0 : Int) + (j : Int) = (j : Int) := Int.zero_add _
        rw [ej]
        have eD : H3 D = _ := s3 _ _ e2
        have fs := filter_take_succ (p := riseAt ms) hj
        have no : riseAt ms j = false → Same H2 H3 ∧ H3 D2 = some (.lst ((natInts (((List.range ms.length).take (j + 1)).filter (riseAt ms))).map V.int)) := by
          intro hr
          rw [hr, if_neg Bool.false_ne_true, List.append_nil] at fs
          refine ⟨s3, ?_⟩
          rw [fs]
          exact e3
        refine ⟨rfl, .ref D, rfl, .int (j : Int), rfl, D, _, _, _, rfl, rfl, SqL.of eD, atI_nat (bl_get hj), _, rfl, ite2 (fun e => ?_) (fun e => ?_)⟩
        · refine ⟨.ref D, rfl, .int (j : Int), rfl, _, _, rfl, rfl, D, _, _, _, rfl, rfl, SqL.of eD, bl_prev hj, _, rfl, ite2 (fun e1 => ?_) (fun e1 => ?_)⟩
          · have hr : riseAt ms j = true := by
              unfold riseAt
              rw [e, e1]
              rfl
            rw [hr, if_pos rfl] at fs
            refine ⟨.int (j : Int), rfl, _, e3, ?_, ?_, ?_⟩
            · rw [List.length_map]
              unfold natInts
              rw [List.length_map]
              refine small1000 (Nat.le_trans (List.length_filter_le _ _) ?_)
              rw [List.length_take, List.length_range]
              omega
            · intro b o z
              rw [upd_ne (ne_of_none z nD2)]
              exact s3 _ _ z
            · rw [upd_same, fs, natInts_app, List.map_append]
              rfl
          · refine no ?_
            unfold riseAt
            cases h : prevB ms j with
            | true => exact Bool.and_false _
            | false =>
              rw [h] at e1
              exact absurd rfl e1
        · refine no ?_
          unfold riseAt
          cases h : ms.getD j false with
          | true => exact absurd h e
          | false => rfl
      · rintro H3 ⟨s3, e3⟩
        rw [List.take_of_length_le (by rw [List.length_range]; exact Nat.le_refl _)] at e3
        refine ⟨D2, _, rfl, .inl (SqL.of e3), ?_⟩
        have e : ((natInts ((List.range ms.length).filter (riseAt ms))).map V.int).length = cyc ms := by
          rw [List.length_map, ← rise_count]
          exact List.length_map ..
        rw [e, ← hms]
        exact q _ (s2.trans s3)
def spManyL (K : PySem.W.Frag) : Sp := fun vs H Q _ => ∃ (a : Addr) (hs : List Int) (lo hi : Int), vs = [.ref a, .int lo, .int hi] ∧ SqL K H a (hs.map V.int) ∧ hs.length ≤ 1000 ∧
  ∀ H', Same H H' → Q (.int ((cyc (marks hs lo hi) : Nat) : Int)) H'
theorem ok_manyL {f : Addr} {fd : FuncData} {k : Nat} (F : Fun K "_law_many" "_law_many" sMany f fd) (ml : mg "len" = none) (mr : mg "range" = none) :
    FnOk P w K mg base CX0 (k + 1) f fd ["_law_ring_here", "_law_low", "_law_high"] (spManyL K) := by
  refine F.ok scMany (fun vs H Q E h => ?_) (fun cdv A outer s H vs Q E hr h => ?_)
  · obtain ⟨a, hs, lo, hi, rfl, _⟩ := h
    rfl
  · obtain ⟨a, hs, lo, hi, rfl, hS, hl, q⟩ := h
    refine ⟨_, pss_cons (ps_set (i := 3) scMany.nd rfl (.inr rfl) (pe_lc (own := [("_law_height", 4)]) (g := gName 4) (by rfl) scMany.nd (pi_list (pv 0))
        (blkOk_by (own := [("_law_height", 4)]) (N := nMany) (sc := defScope sMany) (by decide +kernel))
        (fun _ _ _ _ _ => pg_name (i := 4) scMany.nd rfl (Or.inl rfl))
        (fun _ _ _ _ _ => pts_one (PW.pt (pw_or (pt_cmpR op_le (pv 4) (pv 1) (nomark _)) (pw_or1 (pt_cmpR op_ge (pv 4) (pv 2) (nomark _))))))
        (fun _ _ _ _ _ => pe_cmpR op_ge (pv 4) (pv 2) (nomark _))))
      (pss_one (ps_ret (pe_callB call_len_seq (by rfl) ml PySem.boot_len (pa_cons (pe_lc (own := [("_law_k", 5)]) (g := gName 5) (by rfl) scMany.nd
        (pi_range1 (by rfl) mr (pa_cons (pe_callB call_len_seq (by rfl) ml PySem.boot_len (pa_cons (pv 3) pa_nil)) pa_nil))
        (blkOk_by (own := [("_law_k", 5)]) (N := nMany) (sc := defScope sMany) (by decide +kernel))
        (fun _ _ _ _ _ => pg_name (i := 5) scMany.nd rfl (Or.inl rfl))
        (fun _ _ _ _ _ => pts_one (PW.pt (pw_and (pt_val (pe_ix (ixL K) (pv 3) (pv 5) (fun _ _ => rfl))) (pw_and1 (pt_not (pt_val (pe_ix (ixL K) (pv 3) (pe_op op_sub (pv 5) pe_int) (fun _ _ => rfl))))))))
        (fun _ _ _ _ _ => pv 5)) pa_nil)))), ?_⟩
    refine ⟨.ref a, rfl, a, rfl, ⟨_, hS⟩, fun D nD => ?_⟩
    refine lc_list (K := K) (a := a) (xs := hs.map V.int) (fun j H2 => Same H H2 ∧ H2 D = some (.lst ((marks (hs.take j) lo hi).map V.bl))) ?_ ?_ ?_ ?_
    · exact ⟨same_upd nD, upd_same⟩
    · rintro j H2 _ ⟨s2, _⟩
      exact Same.seq s2 hS
    · rintro j x H2 hx ⟨s2, e2⟩
      obtain ⟨c, hc, rfl⟩ := get_map_int hx
      have hj : j < hs.length := (List.getElem?_eq_some_iff.mp hc).1
      have mt := marks_take (lo := lo) (hi := hi) hc
      have put : outP lo hi c = true → ∃ acc, H2 D = some (.lst acc) ∧ acc.length < sizeLine ∧ Same H (upd H2 D (.lst (acc ++ [.bl (decide (hi ≤ c))]))) ∧
          (upd H2 D (.lst (acc ++ [.bl (decide (hi ≤ c))]))) D = some (.lst ((marks (hs.take (j + 1)) lo hi).map V.bl)) := by
        intro ho
        rw [if_pos ho] at mt
        refine ⟨_, e2, ?_, ?_, ?_⟩
        · rw [List.length_map]
          refine small1000 (Nat.le_trans (marks_len _ _ _) ?_)
          rw [List.length_take]
          omega
        · intro b o z
          rw [upd_ne (ne_of_none z nD)]
          exact s2 _ _ z
        · rw [upd_same, mt, List.map_append]
          rfl
      refine ⟨rfl, .int c, rfl, .int lo, rfl, _, _, rfl, rfl, _, rfl, ite2 (fun e => ?_) (fun e => ?_)⟩
      · exact ⟨.int c, rfl, .int hi, rfl, _, _, rfl, rfl, put (by unfold outP; rw [e, Bool.or_true])⟩
      · refine ⟨.int c, rfl, .int hi, rfl, _, _, rfl, rfl, _, rfl, ite2 (fun e1 => ?_) (fun e1 => ?_)⟩
        · exact ⟨.int c, rfl, .int hi, rfl, _, _, rfl, rfl, put (by unfold outP; rw [e1, Bool.true_or])⟩
        · have ho : ¬ outP lo hi c = true := by
            unfold outP
            intro z
            rcases Bool.or_eq_true_iff.mp z with z | z
            · exact e1 z
            · exact e z
          rw [if_neg ho, List.append_nil] at mt
          refine ⟨s2, ?_⟩
          rw [mt]
          exact e2
    · rintro H2 ⟨s2, e2⟩
      rw [List.length_map, List.take_length] at e2
      generalize hms : marks hs lo hi = ms at e2
      have lms : ms.length ≤ 1000 := by
        rw [← hms]
        exact Nat.le_trans (marks_len _ _ _) hl
      have hlm : (ms.map V.bl).length = ms.length := List.length_map ..
      refine ⟨.ref D, rfl, D, _, rfl, .inl (SqL.of e2), _, rfl, by omega, by omega, fun D2 nD2 => ?_⟩
      have el : (((ms.map V.bl).length : Nat) : Int).toNat = ms.length := by omega
      rw [el]
      refine lc_range (lo := 0) (n := ms.length) (fun j H3 => Same H2 H3 ∧ H3 D2 = some (.lst ((natInts (((List.range ms.length).take j).filter (riseAt ms))).map V.int))) ?_ ?_ ?_
      · exact ⟨same_upd nD2, upd_same⟩
      · rintro j H3 hj ⟨s3, e3⟩
        have ej : (0 : Int) + (j : Int) = (j : Int) := Int.zero_add _
        rw [ej]
        have eD : H3 D = _ := s3 _ _ e2
        have fs := filter_take_succ (p := riseAt ms) hj
        have no : riseAt ms j = false → Same H2 H3 ∧ H3 D2 = some (.lst ((natInts (((List.range ms.length).take (j + 1)).filter (riseAt ms))).map V.int)) := by
          intro hr
          rw [hr, if_neg Bool.false_ne_true, List.append_nil] at fs
          refine ⟨s3, ?_⟩
          rw [fs]
          exact e3
        refine ⟨rfl, .ref D, rfl, .int (j : Int), rfl, D, _, _, _, rfl, rfl, SqL.of eD, atI_nat (bl_get hj), _, rfl, ite2 (fun e => ?_) (fun e => ?_)⟩
        · refine ⟨.ref D, rfl, .int (j : Int), rfl, _, _, rfl, rfl, D, _, _, _, rfl, rfl, SqL.of eD, bl_prev hj, _, rfl, ite2 (fun e1 => ?_) (fun e1 => ?_)⟩
          · have hr : riseAt ms j = true := by
              unfold riseAt
              rw [e, e1]
              rfl
            rw [hr, if_pos rfl] at fs
            refine ⟨.int (j : Int), rfl, _, e3, ?_, ?_, ?_⟩
            · rw [List.length_map]
              unfold natInts
              rw [List.length_map]
              refine small1000 (Nat.le_trans (List.length_filter_le _ _) ?_)
              rw [List.length_take, List.length_range]
              omega
            · intro b o z
              rw [upd_ne (ne_of_none z nD2)]
              exact s3 _ _ z
            · rw [upd_same, fs, natInts_app, List.map_append]
              rfl
          · refine no ?_
            unfold riseAt
            cases h : prevB ms j with
            | true => exact Bool.and_false _
            | false =>
              rw [h] at e1
              exact absurd rfl e1
        · refine no ?_
          unfold riseAt
          cases h : ms.getD j false with
          | true => exact absurd h e
          | false => rfl
      · rintro H3 ⟨s3, e3⟩
        rw [List.take_of_length_le (by rw [List.length_range]; exact Nat.le_refl _)] at e3
        refine ⟨D2, _, rfl, .inl (SqL.of e3), ?_⟩
        have e : ((natInts ((List.range ms.length).filter (riseAt ms))).map V.int).length = cyc ms := by
          rw [List.length_map, ← rise_count]
          exact List.length_map ..
        rw [e, ← hms]
        exact q _ (s2.trans s3)
end
end R09

set_option Elab.async false
set_option linter.all false
set_option maxRecDepth 100000
namespace R09
open PySem PySem.Spec PyProof.Rows L2 RS
/-! ### the law -/
abbrev sLaw : Stmt := topS 11
abbrev nLaw : List Str := ["_law_script", "_law_deck_here", "_law_turn", "_law_ring_here", "_law_some", "_law_at", "_law_other", "_law_k", "_law_low", "_law_high", "_law_due", "_law_back", "_law_height"]
theorem scLaw : FnScope nLaw ["_law_script"] (defScope sLaw) := ⟨rfl, rfl, rfl, by decide +kernel, rfl, by decide +kernel, by decide +kernel⟩
section
variable {P : Program} {w : World} {K : PySem.W.Frag} {mg : Str → Option Value} {base : Heap}
def spLaw (K : PySem.W.Frag) : Sp := fun vs H Q _ => ∃ (a : Addr) (ns : List Int), vs = [.ref a] ∧ SqL K H a (ns.map V.int) ∧ ∀ H', Q (.bl true) H'
set_option maxHeartbeats 1000000 in
theorem ok_law {f fK fD fR fC fP fB fA fM : Addr} {fd fdK fdD fdR fdC fdP fdB fdA fdM : FuncData} (F : Fun K "law" "law" sLaw f fd)
    (FK : Fun K "_law_deck" "_law_deck" sDeck fK fdK) (bK : Binds K fdK ["_law_script"] []) (gK : mg "_law_deck" = some (.ref fK))
    (FD : Fun K "_law_draw" "_law_draw" sDraw fD fdD) (bD : Binds K fdD ["_law_deck_here", "_law_bound"] []) (gD : mg "_law_draw" = some (.ref fD))
    (FR : Fun K "_law_ring" "_law_ring" sRing fR fdR) (bR : Binds K fdR ["_law_deck_here", "_law_most"] []) (gR : mg "_law_ring" = some (.ref fR))
    (FC : Fun K "count_passages" "count_passages" sCount fC fdC) (bC : Binds K fdC ["ring", "low", "high"] []) (gC : mg "count_passages" = some (.ref fC))
    (FP : Fun K "passage_places" "passage_places" sPass fP fdP) (bP : Binds K fdP ["ring", "low", "high"] []) (gP : mg "passage_places" = some (.ref fP))
    (FB : Fun K "begins_passage" "begins_passage" sBegins fB fdB) (bB : Binds K fdB ["ring", "place", "low", "high"] []) (gB : mg "begins_passage" = some (.ref fB))
    (FA : Fun K "heights_after" "heights_after" sAfter fA fdA) (bA : Binds K fdA ["ring", "place"] []) (gA : mg "heights_after" = some (.ref fA))
    (FM : Fun K "_law_many" "_law_many" sMany fM fdM) (bM : Binds K fdM ["_law_ring_here", "_law_low", "_law_high"] []) (gM : mg "_law_many" = some (.ref fM))
    (ml : mg "len" = none) (mr : mg "range" = none) (mt : mg "tuple" = none) (ma : mg "abs" = none) (mp : mg "repr" = none)
    (mx : mg "max" = none) (mli : mg "list" = none) (mi : mg "int" = none) (mse : mg "set" = none) (mso : mg "sorted" = none) :
    FnG P w K mg base CX0 5 f fd ["_law_script"] (spLaw K) := by
  have GK : FnOk P w K mg base CX0 4 fK fdK ["_law_script"] (spDeck K) := ok_deck FK ma
  have GD : FnOk P w K mg base CX0 4 fD fdD ["_law_deck_here", "_law_bound"] spDraw := ok_draw FD ml mx
  have GR : FnOk P w K mg base CX0 4 fR fdR ["_law_deck_here", "_law_most"] spRing := ok_ring FR FD bD gD ml mr mt mx mi
  have GC : FnOk P w K mg base CX0 4 fC fdC ["ring", "low", "high"] (spCount K) := ok_count FC FP bP gP FB bB gB FA bA gA ml mr mt
  have GT : FnOk P w K mg base CX0 4 fM fdM ["_law_ring_here", "_law_low", "_law_high"] (spManyT K) := ok_manyT FM ml mr
  have GL : FnOk P w K mg base CX0 4 fM fdM ["_law_ring_here", "_law_low", "_law_high"] (spManyL K) := ok_manyL FM ml mr
  refine okG F scLaw (fun vs H Q E h => ?_) (fun cdv A outer s H vs Q E hgd hr h => ?_)
  · obtain ⟨a, ns, rfl, _⟩ := h
    rfl
  · obtain ⟨a, ns, rfl, hS, q⟩ := h
    refine ⟨_, pss_cons (ps_set (i := 1) scLaw.nd rfl (.inl rfl) (pe_call GK hr (by rfl) gK FK.kp bK .nil pass0 (pa_cons (pv 0) pa_nil)))
      (pss_cons (ps_for PassesOwn.never rfl (pi_range1 (by rfl) mr (pa_cons pe_int pa_nil)) (pg_name (i := 2) scLaw.nd rfl (.inl rfl))
        (pss_cons (ps_set (i := 3) scLaw.nd rfl (.inl rfl) (pe_call GR hr (by rfl) gR FR.kp bR .nil pass0 (pa_cons (pv 1) (pa_cons pe_int pa_nil))))
        (pss_cons (ps_set (i := 4) scLaw.nd rfl (.inl rfl) (pe_callB (cr_sortedSet rfl) (by rfl) mso (by decide +kernel) (pa_cons (pe_callTy (cr_setI rfl) (by rfl) mse (by decide +kernel) (pa_cons
            (pe_op op_cat (pe_op op_cat (pe_callTy call_list_of (by rfl) mli (by decide +kernel) (pa_cons (pv 3) pa_nil))
              (pe_lc (own := [("_law_height", 12)]) (g := gName 12) (tt := tYes) (by rfl) scLaw.nd (pi_tup (pv 3))
                (blkOk_by (own := [("_law_height", 12)]) (N := nLaw) (sc := defScope sLaw) (by decide +kernel))
                (fun _ _ _ _ _ => pg_name (i := 12) scLaw.nd rfl (Or.inl rfl)) (fun _ _ _ _ _ => pts_nil) (fun _ _ _ _ _ => pe_op op_sub (pv 12) pe_int)))
              (pe_lst (pa_cons (pe_op op_sub pe_int (pe_op op_pow pe_int pe_int)) (pa_cons (pe_op op_pow pe_int pe_int) pa_nil)))) pa_nil)) pa_nil)))
        (pss_cons (ps_set (i := 5) scLaw.nd rfl (.inl rfl) (pe_call GD hr (by rfl) gD FD.kp bD .nil pass0 (pa_cons (pv 1) (pa_cons (pe_callB call_len_seq (by rfl) ml PySem.boot_len (pa_cons (pv 3) pa_nil)) pa_nil))))
        (pss_cons (ps_set (i := 6) scLaw.nd rfl (.inl rfl) (pe_op op_catW (pe_slice sl_tupW (pv 3) (po_some (pv 5)) po_none) (pe_slice sl_tupW (pv 3) po_none (po_some (pv 5)))))
        (pss_one (ps_for PassesOwn.never rfl (pi_range1 (by rfl) mr (pa_cons pe_int pa_nil)) (pg_name (i := 7) scLaw.nd rfl (.inl rfl))
          (pss_cons (ps_set (i := 8) scLaw.nd rfl (.inl rfl) (pe_ix ix_list (pv 4) (pe_call GD hr (by rfl) gD FD.kp bD .nil pass0 (pa_cons (pv 1) (pa_cons (pe_callB call_len_seq (by rfl) ml PySem.boot_len (pa_cons (pv 4) pa_nil)) pa_nil))) (fun _ _ => rfl)))
          (pss_cons (ps_set (i := 9) scLaw.nd rfl (.inl rfl) (pe_ix ix_list (pe_lst (pa_cons (pe_op op_add (pv 8) pe_int)
              (pa_cons (pe_callB (call_max2 rfl) (by rfl) mx boot_max (pa_cons (pe_op op_add (pv 8) pe_int) (pa_cons (pe_ix ix_list (pv 4) (pe_call GD hr (by rfl) gD FD.kp bD .nil pass0 (pa_cons (pv 1) (pa_cons (pe_callB call_len_seq (by rfl) ml PySem.boot_len (pa_cons (pv 4) pa_nil)) pa_nil))) (fun _ _ => rfl)) pa_nil))) pa_nil)))
              (pe_call GD hr (by rfl) gD FD.kp bD .nil pass0 (pa_cons (pv 1) (pa_cons pe_int pa_nil))) (fun _ _ => rfl)))
          (pss_cons (ps_set (i := 10) scLaw.nd rfl (.inl rfl) (pe_call GT hr (by rfl) gM FM.kp bM .nil pass0 (pa_cons (pv 3) (pa_cons (pv 8) (pa_cons (pv 9) pa_nil)))))
          (pss_cons (ps_set (i := 11) scLaw.nd rfl (.inl rfl) (pe_call GL hr (by rfl) gM FM.kp bM .nil pass0 (pa_cons
              (pe_lc (own := [("_law_height", 12)]) (g := gName 12) (tt := tYes) (by rfl) scLaw.nd (pi_tup (pv 3))
                (blkOk_by (own := [("_law_height", 12)]) (N := nLaw) (sc := defScope sLaw) (by decide +kernel))
                (fun _ _ _ _ _ => pg_name (i := 12) scLaw.nd rfl (Or.inl rfl)) (fun _ _ _ _ _ => pts_nil) (fun _ _ _ _ _ => pe_op op_sub pe_int (pv 12)))
              (pa_cons (pe_op op_sub pe_int (pv 9)) (pa_cons (pe_op op_sub pe_int (pv 8)) pa_nil)))))
          (pss_one (ps_if (pt_cmpR op_ne (pe_callB (call_repr hgd hr.units) (by rfl) mp boot_repr (pa_cons (pe_lst
                (pa_cons (pe_call GC hr (by rfl) gC FC.kp bC .nil pass0 (pa_cons (pv 3) (pa_cons (pv 8) (pa_cons (pv 9) pa_nil))))
                (pa_cons (pe_call GC hr (by rfl) gC FC.kp bC .nil pass0 (pa_cons (pv 6) (pa_cons (pv 8) (pa_cons (pv 9) pa_nil))))
                (pa_cons (pv 11) pa_nil)))) pa_nil))
              (pe_callB (call_repr hgd hr.units) (by rfl) mp boot_repr (pa_cons (pe_op op_rep (pe_lst (pa_cons (pv 10) pa_nil)) pe_int) pa_nil)) (nomark _))
            (pss_one (ps_ret pe_bl)) pss_nil)))))))))))))
      (pss_one (ps_ret pe_bl))), ?_⟩
    refine ⟨.ref a, rfl, a, ns, rfl, hS, fun H1 d l sm nd nl D => ?_⟩
    refine ⟨10, rfl, by decide, by decide, ?_⟩
    refine for_range (lo := 0) (n := 10) (fun i σ H2 => ∃ (y2 y3 y4 y5 y6 y7 y8 y9 y10 y11 y12 : Option V) (n2 : Int),
      σ = [some (.ref a), some (.ref d), y2, y3, y4, y5, y6, y7, y8, y9, y10, y11, y12] ∧ n2 ≤ 200 * (i : Int) ∧ Deck H2 d l n2) ?_ ?_ ?_
    · exact ⟨none, none, none, none, none, none, none, none, none, none, none, 0, rfl, by decide, D⟩
    · intro i σ H2 hi hP
      obtain ⟨y2, y3, y4, y5, y6, y7, y8, y9, y10, y11, y12, n2, rfl, hn2, D2⟩ := hP
      refine ⟨.ref d, rfl, d, l, n2, 24, rfl, D2, by omega, by decide, by decide, fun H3 n3 r hs n31 n32 D3 k3 nr er l1 l2 hh => ?_⟩
      have l24 : hs.length ≤ 24 := by omega
      -- some
      refine ⟨.ref r, rfl, r, _, rfl, .inr (SqT.of er), fun A1 nA1 => ?_⟩
      generalize hH4 : upd H3 A1 (.lst (hs.map V.int)) = H4
      have s4 : Same H3 H4 := hH4 ▸ same_upd nA1
      have eA1 : H4 A1 = some (.lst (hs.map V.int)) := hH4 ▸ upd_same
      refine ⟨.ref r, rfl, r, rfl, ⟨_, SqT.of (s4 _ _ er)⟩, fun A2 nA2 => ?_⟩
      refine lc_tup (K := K) (a := r) (xs := hs.map V.int) (fun j H5 => Same H4 H5 ∧ H5 A2 = some (.lst (((hs.map fun h => h - 1).take j).map V.int))) ?_ ?_ ?_ ?_
      · exact ⟨same_upd nA2, upd_same⟩
      · rintro j H5 _ ⟨s5, _⟩
        exact SqT.of (s5 _ _ (s4 _ _ er))
      · rintro j x H5 hx ⟨s5, e5⟩
        obtain ⟨c, hc, rfl⟩ := get_map_int hx
        have hj : j < hs.length := (List.getElem?_eq_some_iff.mp hc).1
        refine ⟨rfl, .int c, rfl, _, _, rfl, rfl, _, e5, ?_, ?_, ?_⟩
        · rw [List.length_map, List.length_take]
          exact small1000 (by omega)
        · intro b o z
          rw [upd_ne (ne_of_none z nA2)]
          exact s5 _ _ z
        · rw [upd_same]
          refine congrArg (fun z => some (HO.lst z)) (take_succ_map ?_)
          rw [List.getElem?_map, hc]
          rfl
      rintro H5 ⟨s5, e5⟩
      rw [List.take_of_length_le (by rw [List.length_map, List.length_map]; exact Nat.le_refl _)] at e5
      refine ⟨A1, A2, _, _, rfl, rfl, s5 _ _ eA1, e5, ?_, fun A3 nA3 => ?_⟩
      · rw [List.length_map, List.length_map, List.length_map]
        exact Nat.le_of_lt (small1000 (by omega))
      generalize hH6 : upd H5 A3 (.lst (hs.map V.int ++ (hs.map fun h => h - 1).map V.int)) = H6
      have s6 : Same H5 H6 := hH6 ▸ same_upd nA3
      have e6 : H6 A3 = some (.lst ((hs ++ hs.map fun h => h - 1).map V.int)) := by
        rw [← hH6, upd_same, List.map_append]
      refine ⟨10, 29, rfl, rfl, ⟨by decide, by decide, by decide⟩, _, _, rfl, rfl, 10, 29, rfl, rfl, ⟨by decide, by decide, by decide⟩, by show 2 ≤ sizeLine; decide, fun A4 nA4 => ?_⟩
      generalize hH7 : upd H6 A4 (.lst [.int (0 - 10 ^ (29 : Int).toNat), .int (10 ^ (29 : Int).toNat)]) = H7
      have s7 : Same H6 H7 := hH7 ▸ same_upd nA4
      have e7 : H7 A4 = some (.lst (([0 - 10 ^ (29 : Int).toNat, 10 ^ (29 : Int).toNat] : List Int).map V.int)) := hH7 ▸ upd_same
      generalize hxs : ([0 - 10 ^ (29 : Int).toNat, 10 ^ (29 : Int).toNat] : List Int) = xs at e7
      have lxs : xs.length = 2 := by
        rw [← hxs]
        rfl
      refine ⟨A3, A4, _, _, rfl, rfl, s7 _ _ e6, e7, ?_, fun A5 nA5 => ?_⟩
      · rw [List.length_map, List.length_map, List.length_append, List.length_map, lxs]
        exact Nat.le_of_lt (small1000 (by omega))
      rw [← List.map_append]
      generalize hcs : (hs ++ hs.map fun h => h - 1) ++ xs = cs
      have lcs : 2 ≤ cs.length ∧ cs.length ≤ 50 := by
        rw [← hcs, List.length_append, List.length_append, List.length_map]
        omega
      have sA : Same H3 H7 := ((s4.trans s5).trans s6).trans s7
      have s8 := same_upd (o := .lst (cs.map V.int)) nA5
      refine ⟨A5, cs, rfl, .inl (.inl (.inl upd_same)), by omega, fun A6 cc nA6 hcc => ?_⟩
      refine ⟨A6, _, cc, rfl, upd_same, by omega, fun ns' L rising memb lenn nL => ?_⟩
      have sB : Same H3 (upd (upd H7 A5 (.lst (cs.map V.int))) A6 (SetO w A6 (fun j => decide (j ∈ cs)) cc)) := (sA.trans s8).trans (same_upd nA6)
      have fL3 : H3 L = none := sB.free nL
      have ns1 : 1 ≤ ns'.length := by
        obtain ⟨z, hz⟩ : ∃ z, z ∈ cs := ⟨cs[0]'(by omega), List.getElem_mem _⟩
        have : z ∈ ns' := (memb z).mpr (decide_eq_true hz)
        exact List.length_pos_of_mem this
      have s9 := sB.trans (same_upd (o := .lst (ns'.map V.int)) nL)
      have eL : (upd (upd (upd H7 A5 (.lst (cs.map V.int))) A6 (SetO w A6 (fun j => decide (j ∈ cs)) cc)) L (.lst (ns'.map V.int))) L = some (.lst (ns'.map V.int)) := upd_same
      have nLd := D3.free_ne fL3
      have hlm : (ns'.map V.int).length = ns'.length := List.length_map ..
      have hlr : (hs.map V.int).length = hs.length := List.length_map ..
      have lim0 : (0 : Int) < (((ns'.map V.int).length : Nat) : Int) := by omega
      have lim1 : (((ns'.map V.int).length : Nat) : Int) < 1000000000000 := by omega
      -- at, other
      refine ⟨.ref d, rfl, .ref r, rfl, r, _, rfl, .inr (SqT.of (s9 _ _ er)), d, l, n3, _, rfl, D3.same s9, by omega, by omega, by omega, fun H10 v v0 v1 D10 k10 => ?_⟩
      obtain ⟨at_, rfl⟩ : ∃ j : Nat, v = (j : Int) := ⟨v.toNat, (Int.toNat_of_nonneg v0).symm⟩
      have er10 : H10 r = some (.tup (hs.map V.int)) := k10.tup (D3.same s9) (s9 _ _ er)
      have eL10 : H10 L = some (.lst (ns'.map V.int)) := k10 L _ nLd.1 nLd.2 eL
      refine ⟨.ref r, rfl, _, rfl, _, rfl, r, _, rfl, SqT.of er10, fun p1 H11 s11 e11 => ?_⟩
      rw [show cutV (hs.map V.int) (some (at_ : Int)) none = (hs.drop at_).map V.int by
        rw [List.map_drop]
        exact cut_from _ at_] at e11
      refine ⟨.ref r, rfl, _, rfl, _, rfl, r, _, rfl, SqT.of (s11 _ _ er10), fun p2 H12 s12 e12 => ?_⟩
      rw [show cutV (hs.map V.int) none (some (at_ : Int)) = (hs.take at_).map V.int by
        rw [List.map_take]
        exact cut_to _ at_] at e12
      refine ⟨p1, p2, _, _, rfl, rfl, Same.tupq s12 e11, e12, ?_, fun o_ H13 s13 e13 => ?_⟩
      · rw [List.length_map, List.length_map, List.length_drop, List.length_take]
        exact Nat.le_of_lt (small1000 (by omega))
      rw [← List.map_append] at e13
      have sC : Same H10 H13 := (s11.trans s12).trans s13
      have lot : (hs.drop at_ ++ hs.take at_).length ≤ 24 := by
        rw [List.length_append, List.length_drop, List.length_take]
        omega
      have rot : ∀ lo hi : Int, cyc (marks (hs.drop at_ ++ hs.take at_) lo hi) = cyc (marks hs lo hi) := by
        intro lo hi
        rw [marks_app, cyc_rot, ← marks_app, List.take_append_drop]
      generalize hot : hs.drop at_ ++ hs.take at_ = ot at e13 lot rot
      -- ten thresholds
      refine ⟨10, rfl, by decide, by decide, ?_⟩
      have keepT : ∀ {d' l' : Addr} {n' : Int} {Ha Hb : Hp} {p : Addr} {xs : List V}, Deck Ha d' l' n' → Keep d' l' Ha Hb → SqT K Ha p xs → SqT K Hb p xs := by
        intro d' l' n' Ha Hb p xs Dk kk h
        obtain ⟨cs', c1, _⟩ := Dk.cards
        rcases h with (h | ⟨o, h⟩) | h
        · exact .inl (.inl (kk.tup Dk h))
        · refine .inl (.inr ⟨o, kk p _ ?_ ?_ h⟩)
          · rintro rfl
            rw [Dk.top] at h
            cases h
          · rintro rfl
            rw [c1] at h
            cases h
        · exact .inr h
      refine for_range (lo := 0) (n := 10) (fun j σ H14 => ∃ (z7 z8 z9 z10 z11 z12 : Option V) (n4 : Int),
        σ = [some (.ref a), some (.ref d), some (.int (0 + (i : Nat))), some (.ref r), some (.ref L), some (.int (at_ : Int)), some (.ref o_), z7, z8, z9, z10, z11, z12] ∧
        n4 ≤ n3 + 1 + 3 * (j : Int) ∧ Deck H14 d l n4 ∧ H14 r = some (.tup (hs.map V.int)) ∧ H14 L = some (.lst (ns'.map V.int)) ∧ SqT K H14 o_ (ot.map V.int)) ?_ ?_ ?_
      · exact ⟨_, _, _, _, _, _, n3 + 1, rfl, by omega, D10.same sC, sC _ _ er10, sC _ _ eL10, e13⟩
      · rintro j σ H14 hj ⟨z7, z8, z9, z10, z11, z12, n4, rfl, hn4, D14, er14, eL14, eo14⟩
        -- low
        refine ⟨.ref L, rfl, .ref d, rfl, .ref L, rfl, L, _, rfl, .inl (SqL.of eL14), d, l, n4, _, rfl, D14, by omega, lim0, lim1, fun H15 u5 a5 b5 D15 k15 => ?_⟩
        have eL15 : H15 L = some (.lst (ns'.map V.int)) := k15 L _ nLd.1 nLd.2 eL14
        obtain ⟨j5, rfl⟩ : ∃ j : Nat, u5 = (j : Int) := ⟨u5.toNat, (Int.toNat_of_nonneg a5).symm⟩
        obtain ⟨lo, g5⟩ : ∃ c, ns'[j5]? = some c := ⟨_, List.getElem?_eq_getElem (by omega)⟩
        refine ⟨L, _, _, .int lo, rfl, rfl, SqL.of eL15, atI_nat (map_get g5), ?_⟩
        -- high
        refine ⟨.int lo, rfl, _, _, rfl, rfl, .int lo, rfl, _, _, rfl, rfl, .ref L, rfl, .ref d, rfl, .ref L, rfl, L, _, rfl, .inl (SqL.of eL15), d, l, n4 + 1, _, rfl, D15, by omega, lim0, lim1, fun H16 u6 a6 b6 D16 k16 => ?_⟩
        have eL16 : H16 L = some (.lst (ns'.map V.int)) := k16 L _ nLd.1 nLd.2 eL15
        obtain ⟨j6, rfl⟩ : ∃ j : Nat, u6 = (j : Int) := ⟨u6.toNat, (Int.toNat_of_nonneg a6).symm⟩
        obtain ⟨h6, g6⟩ : ∃ c, ns'[j6]? = some c := ⟨_, List.getElem?_eq_getElem (by omega)⟩
        refine ⟨L, _, _, .int h6, rfl, rfl, SqL.of eL16, atI_nat (map_get g6), _, _, rfl, by show 2 ≤ sizeLine; decide, fun A7 nA7 => ?_⟩
        generalize hH17 : upd H16 A7 (.lst [.int (lo + 1), .int (if h6 > lo + 1 then h6 else lo + 1)]) = H17
        generalize hmx : (if h6 > lo + 1 then h6 else lo + 1) = mxv
        have mx1 : lo < mxv := by
          rw [← hmx]
          split <;> omega
        have s17 : Same H16 H17 := hH17 ▸ same_upd nA7
        have e17 : H17 A7 = some (.lst ([lo + 1, mxv].map V.int)) := by
          rw [← hH17, upd_same, hmx]
          rfl
        have n7 := D16.free_ne nA7
        refine ⟨.ref d, rfl, d, l, n4 + 1 + 1, 2, rfl, D16.same s17, by omega, by decide, by decide, fun H18 u8 a8 b8 D18 k18 => ?_⟩
        have e18 : H18 A7 = some (.lst ([lo + 1, mxv].map V.int)) := k18 A7 _ n7.1 n7.2 e17
        obtain ⟨j8, rfl⟩ : ∃ j : Nat, u8 = (j : Int) := ⟨u8.toNat, (Int.toNat_of_nonneg a8).symm⟩
        obtain ⟨hi_, g8, hlh⟩ : ∃ c, [lo + 1, mxv][j8]? = some c ∧ lo < c := by
          have : j8 = 0 ∨ j8 = 1 := by omega
          rcases this with rfl | rfl
          · exact ⟨lo + 1, rfl, by omega⟩
          · exact ⟨mxv, rfl, mx1⟩
        refine ⟨A7, _, _, .int hi_, rfl, rfl, SqL.of e18, atI_nat (map_get g8), ?_⟩
        have er18 : H18 r = some (.tup (hs.map V.int)) := k18.tup (D16.same s17) (s17 _ _ (k16.tup D15 (k15.tup D14 er14)))
        have eo18 : SqT K H18 o_ (ot.map V.int) := keepT (D16.same s17) k18 (Same.tupq s17 (keepT D15 k16 (keepT D14 k15 eo14)))
        have eL18 : H18 L = some (.lst (ns'.map V.int)) := k18 L _ nLd.1 nLd.2 (s17 _ _ eL16)
        -- due
        refine ⟨.ref r, rfl, .int lo, rfl, .int hi_, rfl, r, hs, lo, hi_, rfl, SqT.of er18, by omega, fun H19 s19 => ?_⟩
        -- back
        have er19 := s19 _ _ er18
        refine ⟨.ref r, rfl, r, rfl, ⟨_, SqT.of er19⟩, fun A8 nA8 => ?_⟩
        refine lc_tup (K := K) (a := r) (xs := hs.map V.int) (fun j H5 => Same H19 H5 ∧ H5 A8 = some (.lst (((hs.map fun h => 0 - h).take j).map V.int))) ?_ ?_ ?_ ?_
        · exact ⟨same_upd nA8, upd_same⟩
        · rintro jj H5 _ ⟨s5, _⟩
          exact SqT.of (s5 _ _ er19)
        · rintro jj x H5 hx ⟨s5, e5⟩
          obtain ⟨c, hc, rfl⟩ := get_map_int hx
          have hj : jj < hs.length := (List.getElem?_eq_some_iff.mp hc).1
          refine ⟨rfl, .int c, rfl, _, _, rfl, rfl, _, e5, ?_, ?_, ?_⟩
          · rw [List.length_map, List.length_take]
            exact small1000 (by omega)
          · intro b o z
            rw [upd_ne (ne_of_none z nA8)]
            exact s5 _ _ z
          · rw [upd_same]
            refine congrArg (fun z => some (HO.lst z)) (take_succ_map ?_)
            rw [List.getElem?_map, hc]
            rfl
        rintro H20 ⟨s20, e20⟩
        rw [List.take_of_length_le (by rw [List.length_map, List.length_map]; exact Nat.le_refl _)] at e20
        refine ⟨.int hi_, rfl, _, _, rfl, rfl, .int lo, rfl, _, _, rfl, rfl, A8, (hs.map fun h => 0 - h), 0 - hi_, 0 - lo, rfl, SqL.of e20, by rw [List.length_map]; omega, fun H21 s21 => ?_⟩
        rw [marks_neg hs hlh, cyc_not]
        have sD : Same H18 H21 := (s19.trans s20).trans s21
        refine ⟨.ref r, rfl, .int lo, rfl, .int hi_, rfl, r, hs, lo, hi_, rfl, SqT.of (sD _ _ er18), by omega, hlh, fun H22 s22 => ?_⟩
        refine ⟨.ref o_, rfl, .int lo, rfl, .int hi_, rfl, o_, ot, lo, hi_, rfl, Same.tupq (sD.trans s22) eo18, by omega, hlh, fun H23 s23 => ?_⟩
        rw [rot]
        have cb : cyc (marks hs lo hi_) ≤ 24 := Nat.le_trans (cyc_le _) (Nat.le_trans (marks_len _ _ _) l24)
        generalize cyc (marks hs lo hi_) = cy at cb
        refine ⟨_, rfl, by show 3 ≤ sizeLine; decide, fun M1 nM1 => ?_⟩
        generalize hH24 : upd H23 M1 (.lst [.int (cy : Int), .int (cy : Int), .int (cy : Int)]) = H24
        have s24 : Same H23 H24 := hH24 ▸ same_upd nM1
        have e24 : H24 M1 = some (.lst (([(cy : Int), (cy : Int), (cy : Int)] : List Int).map V.int)) := hH24 ▸ upd_same
        have ff : Fine (.list (dInts [(cy : Int), (cy : Int), (cy : Int)])) := fine_lst (by
          intro n hn
          have : n = (cy : Int) := by simpa using hn
          rw [this]
          exact big_of ⟨by omega, by omega⟩) (by simp)
        refine ⟨.ref M1, _, rfl, .lst (SqL.of e24) (dpInts _), ff, _, rfl, by show 1 ≤ sizeLine; decide, fun M2 nM2 => ?_⟩
        generalize hH25 : upd H24 M2 (.lst [.int (cy : Int)]) = H25
        have s25 : Same H24 H25 := hH25 ▸ same_upd nM2
        have e25 : H25 M2 = some (.lst [.int (cy : Int)]) := hH25 ▸ upd_same
        refine ⟨M2, 3, _, rfl, rfl, e25, by decide, by decide, by show 1 * 3 ≤ sizeLine; decide, fun M3 nM3 => ?_⟩
        generalize hH26 : upd H25 M3 (.lst (List.replicate (3 : Int).toNat [V.int (cy : Int)]).flatten) = H26
        have s26 : Same H25 H26 := hH26 ▸ same_upd nM3
        have e26 : H26 M3 = some (.lst (([(cy : Int), (cy : Int), (cy : Int)] : List Int).map V.int)) := hH26 ▸ upd_same
        refine ⟨.ref M3, _, rfl, .lst (SqL.of e26) (dpInts _), ff, rfl, _, rfl, iteNS rfl ?_⟩
        have sE : Same H18 H26 := ((((sD.trans s22).trans s23).trans s24).trans s25).trans s26
        exact ⟨_, _, _, _, _, _, n4 + 1 + 1 + 1, rfl, by omega, D18.same sE, sE _ _ er18, sE _ _ eL18, Same.tupq sE eo18⟩
      · rintro σ H14 ⟨z7, z8, z9, z10, z11, z12, n4, rfl, hn4, D14, er14, eL14, eo14⟩
        exact ⟨_, _, _, _, _, _, _, _, _, _, _, n4, rfl, by omega, D14⟩
    · intro σ H2 hP
      exact q _
end
end R09

set_option Elab.async false
set_option linter.all false
set_option maxRecDepth 100000
namespace R09
open PySem PySem.Spec PyProof.Rows L2 RS
/-! ### the end -/
theorem all_mk {w : World} {K : PySem.W.Frag} {h : Heap} {mg : Str → Option Value} {fa : Addr} (X : K.In h) (G : h.Ns mainGlobals mg) (hfa : mg "law" = some (.ref fa))
    (dK : DefAt K "_law_deck" sDeck)
    (dD : DefAt K "_law_draw" sDraw)
    (dR : DefAt K "_law_ring" sRing)
    (dC : DefAt K "count_passages" sCount)
    (dP : DefAt K "passage_places" sPass)
    (dB : DefAt K "begins_passage" sBegins)
    (dA : DefAt K "heights_after" sAfter)
    (dM : DefAt K "_law_many" sMany)
    (dL : DefAt K "law" sLaw)
    (z_len : PySem.W.nsIn K mainGlobals "len" = some none)
    (z_range : PySem.W.nsIn K mainGlobals "range" = some none)
    (z_tuple : PySem.W.nsIn K mainGlobals "tuple" = some none)
    (z_abs : PySem.W.nsIn K mainGlobals "abs" = some none)
    (z_repr : PySem.W.nsIn K mainGlobals "repr" = some none)
    (z_max : PySem.W.nsIn K mainGlobals "max" = some none)
    (z_list : PySem.W.nsIn K mainGlobals "list" = some none)
    (z_int : PySem.W.nsIn K mainGlobals "int" = some none)
    (z_set : PySem.W.nsIn K mainGlobals "set" = some none)
    (z_sorted : PySem.W.nsIn K mainGlobals "sorted" = some none)
    : ∃ fd : FuncData, (∀ (s : Shared) (u : Value), BindsTo s fd ⟨[u], []⟩ [("_law_script", u)]) ∧
      ∀ base : Heap, K.In base → base.Ns mainGlobals mg → FnG PySem.Challenge.rw_ringswings_k09_passages_counted.prog w K mg base CX0 5 fa fd ["_law_script"] (spLaw K) := by
  obtain ⟨fK, fdK, FK, gK, _⟩ := dK.get X G
  have bK := FK.binds (ps := ["_law_script"]) fun _ _ _ _ _ _ us hl => match us, hl with | [_], _ => rfl
  obtain ⟨fD, fdD, FD, gD, _⟩ := dD.get X G
  have bD := FD.binds (ps := ["_law_deck_here", "_law_bound"]) fun _ _ _ _ _ _ us hl => match us, hl with | [_, _], _ => rfl
  obtain ⟨fR, fdR, FR, gR, _⟩ := dR.get X G
  have bR := FR.binds (ps := ["_law_deck_here", "_law_most"]) fun _ _ _ _ _ _ us hl => match us, hl with | [_, _], _ => rfl
  obtain ⟨fC, fdC, FC, gC, _⟩ := dC.get X G
  have bC := FC.binds (ps := ["ring", "low", "high"]) fun _ _ _ _ _ _ us hl => match us, hl with | [_, _, _], _ => rfl
  obtain ⟨fP, fdP, FP, gP, _⟩ := dP.get X G
  have bP := FP.binds (ps := ["ring", "low", "high"]) fun _ _ _ _ _ _ us hl => match us, hl with | [_, _, _], _ => rfl
  obtain ⟨fB, fdB, FB, gB, _⟩ := dB.get X G
  have bB := FB.binds (ps := ["ring", "place", "low", "high"]) fun _ _ _ _ _ _ us hl => match us, hl with | [_, _, _, _], _ => rfl
  obtain ⟨fA, fdA, FA, gA, _⟩ := dA.get X G
  have bA := FA.binds (ps := ["ring", "place"]) fun _ _ _ _ _ _ us hl => match us, hl with | [_, _], _ => rfl
  obtain ⟨fM, fdM, FM, gM, _⟩ := dM.get X G
  have bM := FM.binds (ps := ["_law_ring_here", "_law_low", "_law_high"]) fun _ _ _ _ _ _ us hl => match us, hl with | [_, _, _], _ => rfl
  obtain ⟨fL, fdL, FL, gL, kV, dc, pm, an, cd, ct, efd⟩ := dL.get X G
  have e := hfa.symm.trans gL
  cases e
  subst efd
  exact ⟨_, fun s u => .of_eq rfl, fun base _ _ => ok_law FL FK bK gK FD bD gD FR bR gR FC bC gC FP bP gP FB bB gB FA bA gA FM bM gM (PySem.W.mg_none_of X G z_len) (PySem.W.mg_none_of X G z_range) (PySem.W.mg_none_of X G z_tuple) (PySem.W.mg_none_of X G z_abs) (PySem.W.mg_none_of X G z_repr) (PySem.W.mg_none_of X G z_max) (PySem.W.mg_none_of X G z_list) (PySem.W.mg_none_of X G z_int) (PySem.W.mg_none_of X G z_set) (PySem.W.mg_none_of X G z_sorted)⟩
end R09
open PySem PySem.W PyProof.Rows
set_option maxHeartbeats 0 in
theorem PySem.Challenge.cw_ringswings_k09_passages_counted_holds : PySem.Challenge.rw_ringswings_k09_passages_counted.Holds := by
  w_on; o_law; k_head; (case hw => w_witness2)
  k_fill
  refine RS.walk_ofG (l := PySem.Challenge.rw_ringswings_k09_passages_counted) (n := 63) (k := 5) (x := "_law_script") (sp := R09.spLaw) rfl (by decide) rfl ⟨rfl, by decide, by decide⟩ (fun w h Y => PySem.W.kIn_of Y) ?F (fun _ _ a ns hl hS => ⟨a, ns, rfl, hS, fun _ => rfl⟩)
  case F =>
    intro w mg fa h KX G hmg
    refine' R09.all_mk KX G hmg (RS.def_mk ?a0 ?l0 ?c0 ?k0) (RS.def_mk ?a1 ?l1 ?c1 ?k1) (RS.def_mk ?a2 ?l2 ?c2 ?k2) (RS.def_mk ?a3 ?l3 ?c3 ?k3) (RS.def_mk ?a4 ?l4 ?c4 ?k4) (RS.def_mk ?a5 ?l5 ?c5 ?k5) (RS.def_mk ?a6 ?l6 ?c6 ?k6) (RS.def_mk ?a7 ?l7 ?c7 ?k7) (RS.def_mk ?a8 ?l8 ?c8 ?k8) ?z0 ?z1 ?z2 ?z3 ?z4 ?z5 ?z6 ?z7 ?z8 ?z9
    (case a0 => k_is); (case l0 => k_is); (case c0 => k_is); (case k0 => k_is)
    (case a1 => k_is); (case l1 => k_is); (case c1 => k_is); (case k1 => k_is)
    (case a2 => k_is); (case l2 => k_is); (case c2 => k_is); (case k2 => k_is)
    (case a3 => k_is); (case l3 => k_is); (case c3 => k_is); (case k3 => k_is)
    (case a4 => k_is); (case l4 => k_is); (case c4 => k_is); (case k4 => k_is)
    (case a5 => k_is); (case l5 => k_is); (case c5 => k_is); (case k5 => k_is)
    (case a6 => k_is); (case l6 => k_is); (case c6 => k_is); (case k6 => k_is)
    (case a7 => k_is); (case l7 => k_is); (case c7 => k_is); (case k7 => k_is)
    (case a8 => k_is); (case l8 => k_is); (case c8 => k_is); (case k8 => k_is)
    (case z0 => k_is)
    (case z1 => k_is)
    (case z2 => k_is)
    (case z3 => k_is)
    (case z4 => k_is)
    (case z5 => k_is)
    (case z6 => k_is)
    (case z7 => k_is)
    (case z8 => k_is)
    (case z9 => k_is)
