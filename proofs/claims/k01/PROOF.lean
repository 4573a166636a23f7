import PyProof.Rows.All
import Wide.All
import OpenK.AllK
import Wide.FinOn
import HandS.ForMost
import HandS.ForExc
import HandS.Wide
import HandS.WideMore
import HandS.WideBits
import HandS.EndBits
import HandS.IsInst
import HandS.ExcIs
import HandS.HotCalls
import HandS.StrMore
import HandS.Style
import HandS.TupAny
import HandS.SortInts
import PySem.Challenge.RW_corebank_k01_divide_rounded
set_option Elab.async false
set_option linter.all false
set_option maxRecDepth 100000
set_option maxHeartbeats 4000000
/-! What all the proofs share: the library's errors, lists joined, the def that tells an error's kinds. -/
namespace Kv
open PySem PySem.Spec PyProof.Rows L2
abbrev Frag := PySem.W.Frag
inductive Er where
  | badValue | badDay | missing | refused | full | notAllowed | damaged
  deriving DecidableEq
def Er.nm : Er → Str
  | .badValue => "BadValue" | .badDay => "BadDay" | .missing => "Missing" | .refused => "Refused" | .full => "Full" | .notAllowed => "NotAllowed" | .damaged => "Damaged"
def Er.every : List Er := [.badValue, .badDay, .missing, .refused, .full, .notAllowed, .damaged]
theorem Er.mem (e : Er) : e ∈ Er.every := by cases e <;> decide
abbrev veChain : List Value := [.type "ValueError", .type "Exception", .type "BaseException", .type "object"]
/-- what the written part must say of one error class -/
def errOne (K : Frag) (a : Er → Addr) (b : Addr) (e : Er) : Bool :=
  PySem.W.excIn K (a e) veChain "ValueError.__new__" && PySem.W.keepIn K (.ref (a e)) && (PySem.W.subIn K (.ref (a e)) (.type "BaseException") == some true) && (PySem.W.typeIn K (.ref (a e)) == some (.type "type")) &&
  (PySem.W.findIn K (.ref (a e)) "__getattribute__" == some (some (.builtin "BaseException.__getattribute__"))) && (PySem.W.findIn K (.ref (a e)) "__getattr__" == some none) && PySem.W.hasDictIn K (a e) &&
  (PySem.W.findIn K (.ref (a e)) "__class__" == some (some (.builtin "object.__class__"))) && (PySem.W.mroIn K (a e) (.type "object") == some true) && (PySem.W.exmOne K (.ref (a e)) (.ref b) == some true) &&
  Er.every.all fun d => PySem.W.kitOne K (.ref (a e)) (.ref (a d)) == some (decide (e = d))
def errAll (K : Frag) (a : Er → Addr) (b : Addr) : Bool :=
  (PySem.W.specialIn K (.builtin "object.__class__") "__get__" == some (some (.builtin "getset_descriptor.__get__"))) && (PySem.W.takesIn K (.builtin "object.__class__") == some true) && Er.every.all (errOne K a b)
structure Errs (K : Frag) (mg : Str → Option Value) where
  exa : Er → Addr
  exg : ∀ e, mg e.nm = some (.ref (exa e))
  a_BankError : Addr
  g_BankError : mg "BankError" = some (.ref a_BankError)
  exAll : errAll K exa a_BankError = true
namespace Errs
variable {K : Frag} {mg : Str → Option Value} (T : Errs K mg)
theorem one (e : Er) : errOne K T.exa T.a_BankError e = true := by
  have h := T.exAll
  unfold errAll at h
  simp only [Bool.and_eq_true, List.all_eq_true] at h
  exact h.2 e e.mem
theorem split (e : Er) : PySem.W.excIn K (T.exa e) veChain "ValueError.__new__" = true ∧ PySem.W.keepIn K (.ref (T.exa e)) = true ∧ PySem.W.subIn K (.ref (T.exa e)) (.type "BaseException") = some true ∧ PySem.W.typeIn K (.ref (T.exa e)) = some (.type "type") ∧
    ExcC K (T.exa e) ∧ PySem.W.exmOne K (.ref (T.exa e)) (.ref T.a_BankError) = some true ∧ ∀ d, PySem.W.kitOne K (.ref (T.exa e)) (.ref (T.exa d)) = some (decide (e = d)) := by
  have h := T.one e
  have g := T.exAll
  unfold errOne at h
  unfold errAll at g
  simp only [Bool.and_eq_true, List.all_eq_true, beq_iff_eq] at h g
  obtain ⟨⟨⟨⟨⟨⟨⟨⟨⟨⟨h1, h2⟩, h3⟩, h4⟩, h5⟩, h6⟩, h7⟩, h8⟩, h9⟩, h10⟩, h11⟩ := h
  exact ⟨h1, h2, h3, h4, ⟨h5, h6, h3, h7, h8, g.1.1, g.1.2, h9⟩, h10, fun d => h11 d d.mem⟩
theorem exx (e : Er) : PySem.W.excIn K (T.exa e) veChain "ValueError.__new__" = true := (T.split e).1
theorem exk (e : Er) : PySem.W.keepIn K (.ref (T.exa e)) = true := (T.split e).2.1
theorem exb (e : Er) : PySem.W.subIn K (.ref (T.exa e)) (.type "BaseException") = some true := (T.split e).2.2.1
theorem ext (e : Er) : PySem.W.typeIn K (.ref (T.exa e)) = some (.type "type") := (T.split e).2.2.2.1
theorem exc (e : Er) : ExcC K (T.exa e) := (T.split e).2.2.2.2.1
theorem exm (e : Er) : PySem.W.exmOne K (.ref (T.exa e)) (.ref T.a_BankError) = some true := (T.split e).2.2.2.2.2.1
theorem exi (e d : Er) : PySem.W.kitOne K (.ref (T.exa e)) (.ref (T.exa d)) = some (decide (e = d)) := (T.split e).2.2.2.2.2.2 d
end Errs

/-! ### two lists joined, whatever may be read of them -/
section
variable {X : Cx}
def rCatS (K : Frag) : R2 := fun x y H Q => ∃ l b xs zs, x = .ref l ∧ y = .ref b ∧ SqL K H l xs ∧ SqL K H b zs ∧ xs.length + zs.length ≤ sizeLine ∧ ∀ p, H p = none → Q (.ref p) (upd H p (.lst (xs ++ zs)))
theorem op_catS : OpR X (binaryOp .Add) (rCatS X.K) := by
  intro pins s σ H x y v u Q I rx ry h
  obtain ⟨l, b, xs, zs, e1, e2, hl, hb, hz, q⟩ := h
  subst e1 e2
  cases rx
  cases ry
  obtain ⟨i1, r1, p1, z1⟩ := I.list hl
  obtain ⟨i2, r2, p2, z2⟩ := I.list hb
  obtain ⟨⟨c1, d1, t1, w1⟩, n1, g1, k1, m1, j1⟩ := p1
  obtain ⟨⟨c2, d2, t2, w2⟩, n2, g2, k2, m2, j2⟩ := p2
  dsimp only at k1 m1 j1 k2 m2 j2
  subst k1 m1 j1 k2 m2 j2
  have l1 := r1.length
  have l2 := r2.length
  have fits : i1.toArray.size + i2.toArray.size ≤ sizeLine := by
    rw [List.size_toArray, List.size_toArray]
    omega
  have joined : i1.toArray ++ i2.toArray = (i1 ++ i2).toArray := by simp
  have meets := list_addW l b i1.toArray i2.toArray n1 n2 none none w1 w2 fits
  refine concat_meets (s := s) ⟨_, g1, rfl⟩ ⟨_, g2, rfl⟩ noFill_list_add seq_list_add
    PySem.F.slot_list_add PySem.F.entry_list_add (PySem.F.args_list_add_2 _ _) meets ⟨g1, g2, ?_⟩
  rw [joined]
  exact ⟨.ref _, _, I.lnew (t' := s.toks) (r1.append r2) (by rw [List.length_append]; exact hz), rfl, q _ I.fresh⟩
end

/-! ### a def that is handed the error which a suite holds, and tells its kind -/
section
variable {P : Program} {w : World} {K : Frag} {mg : Str → Option Value} {base : Heap}
structure KindsOk (P : Program) (w : World) (K : Frag) (mg : Str → Option Value) (base : Heap) (T : Errs K mg) (lv : Nat) (f : Addr) (fd : FuncData) : Prop where
  run : ∀ (A : Around) (outer : List Env) (s : Shared) (H : Hp) (args : Args) (us : List Value) (Q : VK) (p : Addr × Obj) (er : Er), L2H.RoomH lv A → L2H.PinOk outer H s p → Zc (.ref (T.exa er)) none p.2 → (∃ vs, p.2.data = .fields vs) →
    Env0 P w K mg base A outer s H → BindsTo s fd args ((["error"] : List Str).zip us) → Vals [.ref p.1] us → (∀ q, H q = none → Q (.ref q) (upd H q (.lst [.str er.nm]))) →
    codeAny (model P w) A (.call (.ref f) args) (CR CX0 outer P w H s Q E0) s
/-- isinstance of an error that every state bears -/
def rIsP (K : Frag) (D a : Addr) : List V → Hp → VK → Prop := fun xs H Q => ∃ (C : Addr) (b : Bool), xs = [.ref a, .ref C] ∧ PySem.W.kitOne K (.ref D) (.ref C) = some b ∧ Q (.bl b) H
theorem call_isP {X : Cx} {D : Addr} {p : Addr × Obj} (hp : p ∈ X.pn) (C : ExcC X.K D) (hz : Zc (.ref D) none p.2) (hf : ∃ vs, p.2.data = .fields vs) : CallR X (.builtin "isinstance") (rIsP X.K D p.1) := by
  intro pins s σ H xs us Q I r h
  obtain ⟨c, b, e1, e, q⟩ := h
  subst e1
  cases r with
  | cons rx rr =>
    cases rr with
    | cons rt rr2 =>
      cases rr2
      cases rx
      cases rt
      have hget := (I.pin p (List.mem_append.mpr (.inl hp))).1
      have J : PySem.W.InstAt s.heap p.1 p.2 D none := by
        obtain ⟨pa, oc, od, oda, osl⟩ := p
        obtain ⟨vs, hv⟩ := hf
        obtain ⟨h1, h2⟩ := hz
        dsimp only at h1 h2 hv hget ⊢
        subst h1 h2 hv
        exact ⟨hget, rfl, rfl, trivial⟩
      have kit := PySem.W.handS_kitx_exc C.hg C.hk C.hs C.hd C.ha C.hn C.ht C.hm (x := p.1) (ox := p.2)
      exact PySem.W.kia_one kit I.kIn J e (fun z => nomatch z) fun tk => ⟨.bl b, H, I.kept (t' := tk) fun _ _ z => z, rfl, q⟩
/-- such a def by its body -/
theorem kinds_of {T : Errs K mg} {lv : Nat} {f : Addr} {fd : FuncData} {st : Stmt} {N : List Str} (F : Fun K "_law_kinds" "_law_kinds" st f fd) (S : FnScope N ["error"] (defScope st))
    (hb : ∀ (cdv : Value) (A : Around) (outer : List Env) (s : Shared) (H : Hp) (Q : VK) (p : Addr × Obj) (er : Er), Zc (.ref (T.exa er)) none p.2 → (∃ vs, p.2.data = .fields vs) → (∀ q, H q = none → Q (.ref q) (upd H q (.lst [.str er.nm]))) →
      ∃ t, PSs (L2H.cxH CX0 P w K mg base N "_law_kinds" (defScope st) f cdv A outer s H E0 p) (defBody st) t ∧ t { nx := fun _ H' => Q .non H', rt := Q } (start N [.ref p.1]) H) :
    KindsOk P w K mg base T (lv + 1) f fd := by
  obtain ⟨oc, od, kV, doc, pm, an, cdv, ct, osl, rfl, lk, hcd⟩ := F.ex
  refine ⟨fun A outer s H args us Q p er hr hpin hz hf e0 hbi r hk => ?_⟩
  have KX : K.In s.heap := e0.mod.kin.keeps fun b o e => (e0.bs b o e).1
  have lim : s.heap.NoLimit := e0.mod.nolimit.keeps fun b o e => (e0.bs b o e).1
  have kinds : ∀ y ∈ (["error"] : List Str).zip us, (defScope st).names.lookup y.1 = some .local ∨ ((defScope st).names.lookup y.1 = some .cell ∧ ((cellsFrom (s.heap.objs.size + 1) (defScope st).names []).lookup y.1).isSome = true) := by
    intro ⟨n, v⟩ hy
    rcases S.par n (List.of_mem_zip hy).1 with z | z
    · exact .inl z
    · exact .inr ⟨z, PySem.W.cellsFrom_some _ _ _ (.inl z)⟩
  refine codeAny_call_function hr.depth (KX _ _ lk) rfl S.co S.gen rfl (PySem.W.codeRec_of KX hcd) (hbi _ _ _ _ ?_)
  refine wpAny_newFunctionEnv_cells S.kind kinds fun env he s1 x => ?_
  subst he
  refine ⟨lim.keeps x.toInCall.keep, codeAny_func ?_⟩
  obtain ⟨t, ht, hq⟩ := hb cdv A outer s H Q p er hz hf hk
  have I := L2H.inv_startH (CX := CX0) (E := E0) S hpin e0 (show ([.ref p.1] : List V).length = (["error"] : List Str).length from rfl) r x
  refine wpAny_mono (ht.run [] s1 _ H _ I hq) (fun fl s' hs => ?_) fun e s' hs => hs
  have fin : ∀ {σ' : L2.St} {H' : Hp} {v : V} {u : Value}, Inv _ [] σ' H' s' → RelV v u → Q v H' → CE outer P w H s Q u s' :=
    fun {σ' H' v u} (J : Inv (L2H.cxH CX0 P w K mg base N "_law_kinds" (defScope st) f cdv A outer s H E0 p) [] σ' H' s') rv qq => ⟨v, H', J.os, J.bare, J.base, J.hok, rv, qq⟩
  cases fl with
  | next =>
    obtain ⟨σ', H', J, qq⟩ := hs
    exact fin (v := V.non) (u := Value.none) J rfl qq
  | ret u =>
    obtain ⟨v, σ', H', J, rv, qq⟩ := hs
    exact fin J rv qq
  | brk =>
    obtain ⟨_, _, _, qq⟩ := hs
    exact qq.elim
  | cont =>
    obtain ⟨_, _, _, qq⟩ := hs
    exact qq.elim
end
section
variable {X : Cx} {CX : CXT} {f : Addr} {fd : FuncData} {lv : Nat} {x : Str} {q pos : Pos} {e : Expr} {te : TE}
/-- kinds(e), e the error that the suite holds -/
def tKinds {K : Frag} {mg : Str → Option Value} (T : Errs K mg) (cls : Value) (d : Option Addr) (a : Addr) (ta : TA) : TE := fun σ H Q => ta σ H fun vs H1 => vs = [.ref a] ∧ d = none ∧ ∃ er, cls = .ref (T.exa er) ∧ ∀ r, H1 r = none → Q (.ref r) (upd H1 r (.lst [.str er.nm]))
theorem pe_kinds {a : Addr} {oe : Obj} {cls : Value} {d : Option Addr} {P : Program} {w : World} {K : Frag} {mg : Str → Option Value} {base : Heap} {T : Errs K mg} {ta : TA} (F : KindsOk P w K mg base T lv f fd) (hz : Zc cls d oe) (hf : ∃ vs, oe.data = .fields vs) (hp : (a, oe) ∈ X.pn) (hr : L2H.RoomH lv X.A) (hg : Gl X x)
    (hm : X.mg x = some (.ref f)) (hk : PySem.W.keepIn K (.ref f) = true) (hb : Binds K fd ["error"] []) (ha : PA X [e] ta) (hP : X.prog = P := by rfl) (hw : X.w = w := by rfl) (hK : X.K = K := by rfl) (hM : X.mg = mg := by rfl) (hB : X.base = base := by rfl) (hdb : (x == ("__debug__" : Str)) = false := by decide)
    (he : starEach (e :: []) X.env = (false, eval e X.env) :: starEach [] X.env := by rfl) (hpl : (backTo pos (starEach [] X.env)).any (·.1) = false := by rfl) :
    PE X (.Call (.Name x q) [e] [] pos) (tKinds T cls d a ta) := by
  subst hP hw hK hM hB
  refine ⟨fun pins s σ H Q I h => ?_⟩
  refine wpAny_Call_Name_kw (ld_glob I hg hm ?_ hdb)
  refine PySem.W.callWith_K (h₀ := X.base) I.ok.mod.kin hk (thn (ha.run pos pins s σ H _ I h) fun us s1 ⟨vs, H1, I1, r, e1, e2, er, e3, k⟩ => ⟨I1.kIn, ?_⟩) he hpl
  subst e1 e2 e3
  have P1 := I1.pin (a, oe) (List.mem_append.mpr (.inl hp))
  have hl : us.length = 1 := r.length.symm
  have b := hb s1 us I1.kIn (by rw [List.append_nil]; exact hl)
  rw [List.append_nil] at b
  have hpin : L2H.PinOk X.stack H1 s1 (a, oe) := ⟨P1.1, P1.2.1, fun hm => (List.mem_cons.mp (I1.stkSub a hm)).elim P1.2.2.1 P1.2.2.2.1, P1.2.2.2.2⟩
  refine wpAny_call (codeAny_mono (F.run _ X.stack s1 H1 ⟨us, []⟩ us Q (a, oe) er hr hpin hz hf I1.env0 b r k) fun r' s' hq => ?_)
  cases r' with
  | error e => exact False.elim hq
  | ok fl =>
    cases fl with
    | ret u => exact I1.after hq
    | next => exact False.elim hq
    | brk => exact False.elim hq
    | cont => exact False.elim hq
end
/-! ### what may be compared -/
theorem sc_ii {a b : Int} : scal (.int a) (.int b) = true := rfl
theorem sc_ss {a b : Str} : scal (.str a) (.str b) = true := rfl
theorem sc_bb {a b : Bool} : scal (.bl a) (.bl b) = true := rfl
theorem sc_nn : scal .non .non = true := rfl
theorem sc_ni {a : Int} : scal .non (.int a) = true := rfl
theorem sc_in {a : Int} : scal (.int a) .non = true := rfl
theorem sc_sn {a : Str} : scal (.str a) .non = true := rfl
theorem sc_ns {a : Str} : scal .non (.str a) = true := rfl
theorem sc_bn {a : Bool} : scal (.bl a) .non = true := rfl
theorem sc_nb {a : Bool} : scal .non (.bl a) = true := rfl
theorem sc_is {a : Int} {b : Str} : scal (.int a) (.str b) = true := rfl
theorem sc_si {a : Int} {b : Str} : scal (.str b) (.int a) = true := rfl
theorem isi_int {K : Frag} {z : Int} {n : String} {b : Bool} {H : Hp} {Q : VK} (h : kitB "int" n = some b) (q : Q (.bl b) H) : rIsi K [.int z, .ty n] H Q := ⟨_, _, .type "int", .type n, b, rfl, .ty _, .base (.int _), kit_ty h, q⟩
theorem isi_bl {K : Frag} {z : Bool} {n : String} {b : Bool} {H : Hp} {Q : VK} (h : kitB "bool" n = some b) (q : Q (.bl b) H) : rIsi K [.bl z, .ty n] H Q := ⟨_, _, .type "bool", .type n, b, rfl, .ty _, .base (.bl _), kit_ty h, q⟩
theorem isi_str {K : Frag} {z : Str} {n : String} {b : Bool} {H : Hp} {Q : VK} (h : kitB "str" n = some b) (q : Q (.bl b) H) : rIsi K [.str z, .ty n] H Q := ⟨_, _, .type "str", .type n, b, rfl, .ty _, .base (.str _), kit_ty h, q⟩
theorem isi_non {K : Frag} {n : String} {b : Bool} {H : Hp} {Q : VK} (h : kitB "NoneType" n = some b) (q : Q (.bl b) H) : rIsi K [.non, .ty n] H Q := ⟨_, _, .type "NoneType", .type n, b, rfl, .ty _, .base .non, kit_ty h, q⟩
/-! ### small words -/
theorem ne_fresh {H : Hp} {p q : Addr} {o : HO} (h : upd H p o q = none) : q ≠ p := by
  intro e
  subst e
  rw [upd_same] at h
  cases h
theorem fresh_was {H : Hp} {p q : Addr} {o : HO} (h : upd H p o q = none) : H q = none := by
  have e := ne_fresh h
  rw [upd_ne e] at h
  exact h
theorem same_upd {H : Hp} {p : Addr} {o : HO} (h : H p = none) : Same H (upd H p o) := fun b u e => by
  rw [upd_ne (ne_of_none e h)]
  exact e
/-- behind a store to what was not there at first -/
theorem same_mut {H H' : Hp} {p : Addr} {o : HO} (h : H p = none) (k : Same H H') : Same H (upd H' p o) := fun b u e => by
  rw [upd_ne (ne_of_none e h)]
  exact k b u e
theorem same_fresh {H H' : Hp} {p : Addr} (k : Same H H') (h : H' p = none) : H p = none := k.free h
theorem same_tup {K : Frag} {H H' : Hp} {a : Addr} {xs : List V} (e : Same H H') (h : SqT K H a xs) : SqT K H' a xs := by
  rcases h with (h | ⟨o, h⟩) | h
  · exact .inl (.inl (e _ _ h))
  · exact .inl (.inr ⟨o, e _ _ h⟩)
  · exact .inr h
theorem bits64 {k : Int} (h1 : -(2 ^ 64) < k) (h2 : k < 2 ^ 64) : Builtin.Int.intBits k ≤ 64 := intBits_le_64 h1 h2
theorem bitsPow {k : Int} {n : Nat} (h0 : 0 < n) (h1 : -(2 ^ n) < k) (h2 : k < 2 ^ n) : Builtin.Int.intBits k ≤ n := by
  have z : k.natAbs < 2 ^ n := by
    have e : ((2 ^ n : Nat) : Int) = (2 : Int) ^ n := by simp
    omega
  unfold Builtin.Int.intBits
  split
  · omega
  · have := PySem.Flt.log2_lt_of h0 z
    omega
theorem bits_mono {i j : Int} (h : i.natAbs ≤ j.natAbs) : Builtin.Int.intBits i ≤ Builtin.Int.intBits j := by
  unfold Builtin.Int.intBits
  by_cases c : i = 0
  · rw [if_pos (beq_iff_eq.mpr c)]
    exact Nat.zero_le _
  · have hj : ¬ j = 0 := by omega
    rw [if_neg (fun z => hj (beq_iff_eq.mp z)), if_neg (fun z => c (beq_iff_eq.mp z))]
    have hi : i.natAbs ≠ 0 := by omega
    have hj' : j.natAbs ≠ 0 := by omega
    have z : i.natAbs.log2 ≤ j.natAbs.log2 := (Nat.le_log2 hj').mpr (Nat.le_trans (Nat.log2_self_le hi) h)
    omega
theorem mulX {i j : Int} {a b : Nat} (h1 : Builtin.Int.intBits i ≤ a) (h2 : Builtin.Int.intBits j ≤ b) (h : a + b ≤ 134217728 := by decide) : CMulX i j := by
  unfold CMulX
  omega
theorem ix_num {K : Frag} {a : Addr} {ns : List Int} {k : Int} {H : Hp} {Q : VK} (hS : SqL K H a (ns.map V.int)) (h : 0 ≤ k ∧ k < (ns.length : Int)) (q : Q (.int (ns.getD k.toNat 0)) H) : rIxL K (.ref a) (.int k) H Q := by
  refine ⟨a, _, k, _, rfl, rfl, hS, ?_, q⟩
  have e : (ns.map V.int)[k.toNat]? = some (V.int (ns.getD k.toNat 0)) := by
    rw [List.getElem?_map, List.getD_eq_getElem?_getD]
    have z : k.toNat < ns.length := by omega
    rw [List.getElem?_eq_getElem z]
    rfl
  exact at_of (j := k.toNat) (by omega) e
theorem ix_at {K : Frag} {a : Addr} {xs : List V} {k : Int} {v : V} {H : Hp} {Q : VK} (hS : SqL K H a xs) (h : 0 ≤ k) (e : xs[k.toNat]? = some v) (q : Q v H) : rIxL K (.ref a) (.int k) H Q :=
  ⟨a, xs, k, v, rfl, rfl, hS, at_of (j := k.toNat) (by omega) e, q⟩
/-- what is known of a number that a law draws -/
theorem num_in {ns : List Int} (hn : ∀ z ∈ ns, 0 ≤ z ∧ z < 10000000000000) (k : Nat) : 0 ≤ ns.getD k 0 ∧ ns.getD k 0 < 10000000000000 := by
  rw [List.getD_eq_getElem?_getD]
  cases e : ns[k]? with
  | none => exact ⟨by decide, by decide⟩
  | some z => exact hn z (List.mem_of_getElem? e)
theorem ix_sign {z : Str} {k : Int} {H : Hp} {Q : VK} (hz : z.length ≤ sizeLine) (h : 0 ≤ k ∧ k < (z.length : Int)) (q : ∀ c, z.cps.toList[k.toNat]? = some c → Q (.str ⟨#[c]⟩) H) : rIxS (.str z) (.int k) H Q := by
  have hl : k.toNat < z.cps.toList.length := by
    rw [Array.length_toList]
    show k.toNat < z.length
    omega
  have e : z.cps.toList[k.toNat]? = some z.cps.toList[k.toNat] := List.getElem?_eq_getElem hl
  refine ⟨z, k, _, rfl, rfl, hz, ?_, q _ e⟩
  unfold atI
  rw [show ixN z.cps.toList.length k = some k.toNat by unfold ixN; rw [if_pos h.1, if_pos (by omega)]]
  exact e
theorem ix_signc {z : Str} {k : Int} {c : Nat} {H : Hp} {Q : VK} (hz : z.length ≤ sizeLine) (h : 0 ≤ k) (e : z.cps.toList[k.toNat]? = some c) (q : Q (.str ⟨#[c]⟩) H) : rIxS (.str z) (.int k) H Q := by
  have hl : k.toNat < z.cps.toList.length := (List.getElem?_eq_some_iff.mp e).1
  refine ⟨z, k, c, rfl, rfl, hz, ?_, q⟩
  unfold atI
  rw [show ixN z.cps.toList.length k = some k.toNat by unfold ixN; rw [if_pos h, if_pos (by omega)]]
  exact e
theorem len_one (c : Nat) : (⟨#[c]⟩ : Str).length = 1 := rfl
theorem ref_num {ns : List Int} {i : Nat} {x : V} (h : (ns.map V.int)[i]? = some x) : ∃ z, ns[i]? = some z ∧ x = .int z := by
  rw [List.getElem?_map] at h
  cases e : ns[i]? with
  | none => rw [e] at h; cases h
  | some z => rw [e] at h; exact ⟨z, rfl, (Option.some.inj h).symm⟩
/-! ### one statement at a time -/
theorem seq_step {t u : TS} {D : Ends} {σ : L2.St} {H : Hp} (h : ∀ U : Ends → L2.St → Hp → Prop, U = u → t { D with nx := U D } σ H) : tSeq t u D σ H := h u rfl
theorem gseq_step {t u : TS} {D : Ends} {i : Nat} {x : V} {σ : L2.St} {H : Hp} (h : ∀ U : Ends → L2.St → Hp → Prop, U = u → t { D with nx := U D } (σ.set i (some x)) H) : gName i x σ H fun σ2 H2 => tSeq t u D σ2 H2 := h u rfl
/-- .. what stands between the two told -/
theorem seq_cut {t u : TS} {D : Ends} {σ : L2.St} {H : Hp} (M : L2.St → Hp → Prop) (h1 : ∀ U : L2.St → Hp → Prop, (∀ σ' H', M σ' H' → U σ' H') → t { D with nx := U } σ H) (h2 : ∀ σ' H', M σ' H' → u D σ' H') : tSeq t u D σ H := h1 (u D) h2
/-! ### a tuple taken apart -/
theorem gtup2 {K : Frag} {p : Addr} {x y : V} {g1 g2 : TG} {σ : L2.St} {H : Hp} {k : L2.St → Hp → Prop} (h : SqT K H p [x, y]) (q : g1 x σ H fun σ1 H1 => g2 y σ1 H1 k) (mono : ∀ v σ H, (∀ Q Q' : L2.St → Hp → Prop, (∀ a b, Q a b → Q' a b) → g1 v σ H Q → g1 v σ H Q') ∧ (∀ Q Q' : L2.St → Hp → Prop, (∀ a b, Q a b → Q' a b) → g2 v σ H Q → g2 v σ H Q')) : gTup K 2 (gCons g1 (gCons g2 gNil)) (.ref p) σ H k :=
  ⟨p, _, rfl, h, rfl, x, [y], rfl, (mono _ _ _).1 _ _ (fun σ1 H1 q1 => ⟨y, [], rfl, (mono _ _ _).2 _ _ (fun _ _ q2 => ⟨rfl, q2⟩) q1⟩) q⟩
theorem gtupN2 {K : Frag} {p : Addr} {x y : V} {i j : Nat} {σ : L2.St} {H : Hp} {k : L2.St → Hp → Prop} (h : SqT K H p [x, y]) (q : k ((σ.set i (some x)).set j (some y)) H) : gTup K 2 (gCons (gName i) (gCons (gName j) gNil)) (.ref p) σ H k :=
  ⟨p, _, rfl, h, rfl, x, [y], rfl, y, [], rfl, rfl, q⟩
theorem gtupN3 {K : Frag} {p : Addr} {x y z : V} {i j l : Nat} {σ : L2.St} {H : Hp} {k : L2.St → Hp → Prop} (h : SqT K H p [x, y, z]) (q : k (((σ.set i (some x)).set j (some y)).set l (some z)) H) : gTup K 3 (gCons (gName i) (gCons (gName j) (gCons (gName l) gNil))) (.ref p) σ H k :=
  ⟨p, _, rfl, h, rfl, x, [y, z], rfl, y, [z], rfl, z, [], rfl, rfl, q⟩
/-! ### lists of texts, lists of ints compared -/
theorem dp_strs {K : Frag} {H : Hp} : ∀ xs : List Str, DpAll K H (xs.map V.str) (xs.map PyData.str)
  | [] => .nil
  | x :: r => .cons (.str x) (dp_strs r)
theorem dp_ints {K : Frag} {H : Hp} : ∀ xs : List Int, DpAll K H (xs.map V.int) (xs.map PyData.int)
  | [] => .nil
  | x :: r => .cons (.int x) (dp_ints r)
theorem eqv_strs : ∀ xs ys : List Str, PyData.eqvAll (xs.map PyData.str) (ys.map PyData.str) = decide (xs = ys)
  | [], [] => by simp [PyData.eqvAll]
  | [], y :: ys => by simp [PyData.eqvAll]
  | x :: xs, [] => by simp [PyData.eqvAll]
  | x :: xs, y :: ys => by
    have ih := eqv_strs xs ys
    simp only [List.map_cons, PyData.eqvAll, PyData.eqv, ih, List.cons.injEq]
    by_cases e : x = y <;> simp [e]
theorem eqv_ints : ∀ xs ys : List Int, PyData.eqvAll (xs.map PyData.int) (ys.map PyData.int) = decide (xs = ys)
  | [], [] => by simp [PyData.eqvAll]
  | [], y :: ys => by simp [PyData.eqvAll]
  | x :: xs, [] => by simp [PyData.eqvAll]
  | x :: xs, y :: ys => by
    have ih := eqv_ints xs ys
    simp only [List.map_cons, PyData.eqvAll, PyData.eqv, ih, List.cons.injEq]
    by_cases e : x = y <;> simp [e]
theorem lay_strs : ∀ xs : List Str, xs.all PyData.strOk = true → PyData.canLayAll0 (xs.map PyData.str) = true
  | [], _ => rfl
  | x :: r, h => by
    rw [List.all_cons, Bool.and_eq_true] at h
    simp only [List.map_cons, PyData.canLayAll0, PyData.canLay0, h.1, lay_strs r h.2, Bool.and_self]
theorem lay_ints : ∀ xs : List Int, PyData.canLayAll0 (xs.map PyData.int) = true
  | [] => rfl
  | x :: r => by simp only [List.map_cons, PyData.canLayAll0, PyData.canLay0, lay_ints r, Bool.and_self]
theorem flat_strs : ∀ xs : List Str, PyData.depthAll (xs.map PyData.str) = 0
  | [] => rfl
  | x :: r => by simp only [List.map_cons, PyData.depthAll, PyData.depth, flat_strs r, Nat.max_self]
theorem flat_ints : ∀ xs : List Int, PyData.depthAll (xs.map PyData.int) = 0
  | [] => rfl
  | x :: r => by simp only [List.map_cons, PyData.depthAll, PyData.depth, flat_ints r, Nat.max_self]
theorem shaped_strs {xs : List Str} (h : xs.all PyData.strOk = true) : SeqAt.shaped (.list (xs.map PyData.str)) = true := by
  unfold SeqAt.shaped
  simp only [PyData.canLay0, lay_strs xs h, PyData.depth, flat_strs, Bool.true_and]
  decide
theorem shaped_ints {xs : List Int} : SeqAt.shaped (.list (xs.map PyData.int)) = true := by
  unfold SeqAt.shaped
  simp only [PyData.canLay0, lay_ints xs, PyData.depth, flat_ints, Bool.true_and]
  decide
theorem ne_strs {K : Frag} {H : Hp} {p q : Addr} {xs ys : List Str} {Q : VK} (hp : SqL K H p (xs.map V.str)) (hq : SqL K H q (ys.map V.str)) (ox : xs.all PyData.strOk = true) (oy : ys.all PyData.strOk = true) (k : Q (.bl (!decide (xs = ys))) H) : rNeD K (.ref p) (.ref q) H Q :=
  ⟨_, _, .lst hp (dp_strs xs), .lst hq (dp_strs ys), shaped_strs ox, shaped_strs oy, by simp only [PyData.eqv, eqv_strs]; exact k⟩
theorem eq_strs {K : Frag} {H : Hp} {p q : Addr} {xs ys : List Str} {Q : VK} (hp : SqL K H p (xs.map V.str)) (hq : SqL K H q (ys.map V.str)) (ox : xs.all PyData.strOk = true) (oy : ys.all PyData.strOk = true) (k : Q (.bl (decide (xs = ys))) H) : rEqD K (.ref p) (.ref q) H Q :=
  ⟨_, _, .lst hp (dp_strs xs), .lst hq (dp_strs ys), shaped_strs ox, shaped_strs oy, by simp only [PyData.eqv, eqv_strs]; exact k⟩
theorem ne_ints {K : Frag} {H : Hp} {p q : Addr} {xs ys : List Int} {Q : VK} (hp : SqL K H p (xs.map V.int)) (hq : SqL K H q (ys.map V.int)) (k : Q (.bl (!decide (xs = ys))) H) : rNeD K (.ref p) (.ref q) H Q :=
  ⟨_, _, .lst hp (dp_ints xs), .lst hq (dp_ints ys), shaped_ints, shaped_ints, by simp only [PyData.eqv, eqv_ints]; exact k⟩
theorem eq_ints {K : Frag} {H : Hp} {p q : Addr} {xs ys : List Int} {Q : VK} (hp : SqL K H p (xs.map V.int)) (hq : SqL K H q (ys.map V.int)) (k : Q (.bl (decide (xs = ys))) H) : rEqD K (.ref p) (.ref q) H Q :=
  ⟨_, _, .lst hp (dp_ints xs), .lst hq (dp_ints ys), shaped_ints, shaped_ints, by simp only [PyData.eqv, eqv_ints]; exact k⟩
/-- kinds as a law compares them -/
theorem ne_kind {K : Frag} {H : Hp} {p q : Addr} {x : Str} {Q : VK} (hp : H p = some (.lst [.str x])) (hq : H q = some (.lst [.str x])) (ox : PyData.strOk x = true) (k : Q (.bl false) H) : rNeD K (.ref p) (.ref q) H Q :=
  ne_strs (xs := [x]) (ys := [x]) (SqL.of hp) (SqL.of hq) (by simp [ox]) (by simp [ox]) (by simpa using k)
/-! ### loops -/
theorem tfor_range1 {ta : TA} {g : TG} {tb : TS} {D : Ends} {σ : L2.St} {H : Hp} {n : Int} (ha : ∀ Q : List V → Hp → Prop, Q [.int n] H → ta σ H Q) (hn : -1000000 ≤ n ∧ n ≤ 1000000) (Pv : Nat → L2.St → Hp → Prop) (h0 : Pv 0 σ H)
    (hs : ∀ (i : Nat) σ' H', (i : Int) < n → Pv i σ' H' → g (.int (i : Int)) σ' H' fun σ2 H2 => tb { D with nx := Pv (i + 1), ct := Pv (i + 1), bk := D.nx } σ2 H2) (hd : ∀ σ' H', Pv n.toNat σ' H' → D.nx σ' H') : tFor (iRng1 ta) g tb D σ H :=
  ha _ ⟨n, rfl, by omega, by omega, for_range (lo := 0) (n := n.toNat) Pv h0 (fun i σ' H' hi p => by
    rw [Int.zero_add]
    exact hs i σ' H' (by omega) p) hd⟩
theorem tfor_range2 {ta : TA} {g : TG} {tb : TS} {D : Ends} {σ : L2.St} {H : Hp} {lo hi : Int} (ha : ∀ Q : List V → Hp → Prop, Q [.int lo, .int hi] H → ta σ H Q) (hn : -1000000 ≤ lo ∧ lo ≤ 1000000 ∧ -1000000 ≤ hi ∧ hi ≤ 1000000) (Pv : Nat → L2.St → Hp → Prop) (h0 : Pv 0 σ H)
    (hs : ∀ (i : Nat) σ' H', lo + (i : Int) < hi → Pv i σ' H' → g (.int (lo + (i : Int))) σ' H' fun σ2 H2 => tb { D with nx := Pv (i + 1), ct := Pv (i + 1), bk := D.nx } σ2 H2) (hd : ∀ σ' H', Pv (hi - lo).toNat σ' H' → D.nx σ' H') : tFor (iRng2 ta) g tb D σ H :=
  ha _ ⟨lo, hi, rfl, ⟨by omega, by omega, by omega, by omega⟩, for_range (lo := lo) (n := (hi - lo).toNat) Pv h0 (fun i σ' H' hi p => hs i σ' H' (by omega) p) hd⟩
theorem tfor_lvar {K : Frag} {j : Nat} {a : Addr} {xs : List V} {g : TG} {tb : TS} {D : Ends} {σ : L2.St} {H : Hp} (hj : σ[j]? = some (some (.ref a))) (hS : SqL K H a xs) (Pv : Nat → L2.St → Hp → Prop) (h0 : Pv 0 σ H) (hl : ∀ i σ' H', i ≤ xs.length → Pv i σ' H' → SqL K H' a xs)
    (hs : ∀ i x σ' H', xs[i]? = some x → Pv i σ' H' → g x σ' H' fun σ2 H2 => tb { D with nx := Pv (i + 1), ct := Pv (i + 1), bk := D.nx } σ2 H2) (hd : ∀ σ' H', Pv xs.length σ' H' → D.nx σ' H') : tFor (iList K (tVar j)) g tb D σ H :=
  ⟨_, hj, a, rfl, ⟨xs, hS⟩, for_list (xs := xs) Pv h0 hl hs hd⟩
theorem tfor_five {K : Frag} {j : Nat} {n : Int} {a : Addr} {xs : List V} {g : TG} {tb : TS} {D : Ends} {σ : L2.St} {H : Hp} (hj : σ[j]? = some (some (.ref a))) (hS : SqL K H a xs) (hz : xs.length ≤ 100000)
    (h : ∀ b H1, Same H H1 → H1 b = some (.lst (.int n :: xs)) → H b = none → ∃ Pv : Nat → L2.St → Hp → Prop, Pv 0 σ H1 ∧ (∀ i σ' H', i ≤ (V.int n :: xs).length → Pv i σ' H' → SqL K H' b (.int n :: xs)) ∧
    (∀ i x σ' H', (V.int n :: xs)[i]? = some x → Pv i σ' H' → g x σ' H' fun σ2 H2 => tb { D with nx := Pv (i + 1), ct := Pv (i + 1), bk := D.nx } σ2 H2) ∧ (∀ σ' H', Pv (V.int n :: xs).length σ' H' → D.nx σ' H')) :
    tFor (iList K (tOp (rCatS K) (tLst (tCons (tC (.int n)) tNil)) (tVar j))) g tb D σ H := by
  refine ⟨by show 1 ≤ sizeLine; decide, fun p hp => ⟨_, hj, p, a, [.int n], xs, rfl, rfl, SqL.of upd_same, (same_upd hp).seq hS, ?_, fun b hb => ?_⟩⟩
  · show 1 + xs.length ≤ sizeLine
    exact Nat.le_trans (show 1 + xs.length ≤ 100001 by omega) (by decide)
  · have s2 : Same H (upd (upd H p (.lst [.int n])) b (.lst ([.int n] ++ xs))) := (same_upd hp).trans (same_upd hb)
    obtain ⟨Pv, h0, hl, hs, hd⟩ := h b _ s2 upd_same (fresh_was hb)
    exact ⟨b, rfl, ⟨_, SqL.of upd_same⟩, for_list (xs := V.int n :: xs) Pv h0 hl hs hd⟩
theorem tfor_list {K : Frag} {tl : TE} {g : TG} {tb : TS} {D : Ends} {σ : L2.St} {H : Hp}
    (h : tl σ H fun x H1 => ∃ a xs, x = .ref a ∧ SqL K H1 a xs ∧ ∃ Pv : Nat → L2.St → Hp → Prop, Pv 0 σ H1 ∧ (∀ i σ' H', i ≤ xs.length → Pv i σ' H' → SqL K H' a xs) ∧
      (∀ i x σ' H', xs[i]? = some x → Pv i σ' H' → g x σ' H' fun σ2 H2 => tb { D with nx := Pv (i + 1), ct := Pv (i + 1), bk := D.nx } σ2 H2) ∧ ∀ σ' H', Pv xs.length σ' H' → D.nx σ' H')
    (mono : ∀ Q Q' : VK, (∀ v H', Q v H' → Q' v H') → tl σ H Q → tl σ H Q') : tFor (iList K tl) g tb D σ H :=
  mono _ _ (fun v H' ⟨a, xs, e, hS, Pv, h0, hl, hs, hd⟩ => ⟨a, e, ⟨xs, hS⟩, for_list (xs := xs) Pv h0 hl hs hd⟩) h
theorem tfor_disp {K : Frag} {ta : TA} (vs : List V) {g : TG} {tb : TS} {D : Ends} {σ : L2.St} {H : Hp} (hz : vs.length ≤ 1000) (ha : ∀ Q : List V → Hp → Prop, (∀ H1, Same H H1 → Q vs H1) → ta σ H Q)
    (h : ∀ b H1, Same H H1 → H1 b = some (.lst vs) → H b = none → ∃ Pv : Nat → L2.St → Hp → Prop, Pv 0 σ H1 ∧ (∀ i σ' H', Pv i σ' H' → SqL K H' b vs) ∧
    (∀ i x σ' H', vs[i]? = some x → Pv i σ' H' → g x σ' H' fun σ2 H2 => tb { D with nx := Pv (i + 1), ct := Pv (i + 1), bk := D.nx } σ2 H2) ∧ (∀ σ' H', Pv vs.length σ' H' → D.nx σ' H')) :
    tFor (iList K (tLst ta)) g tb D σ H :=
  ha _ fun H1 s1 => ⟨Nat.le_trans hz (by decide), fun p hp => by
    obtain ⟨Pv, h0, hl, hs, hd⟩ := h p _ (s1.trans (same_upd hp)) upd_same (s1.free hp)
    exact ⟨p, rfl, ⟨_, SqL.of upd_same⟩, for_list (xs := vs) Pv h0 (fun i σ' H' _ => hl i σ' H') hs hd⟩⟩
/-! ### the law's end -/
def spLaw (K : Frag) : Sp := fun vs H Q _ => ∃ (a : Addr) (ns : List Int), vs = [.ref a] ∧ SqL K H a (ns.map V.int) ∧ ns.length ≤ 63 ∧ (∀ z ∈ ns, Builtin.Int.intBits z ≤ 1048576) ∧ ∀ H', Q (.bl true) H'
theorem walk {l : PySem.W.OpenLaw} {k : Nat} {q : Program} {loose : List Str} {XP : (Str → Option Value) → Heap → Prop} {YP : World → Heap → Prop} {d : DefRec} {K : Params → Frag}
    (hn : l.most = some 63) (hdf : d.params.defaults = []) (hr : Room k callerA) (hY : ∀ (w : World) (h : Heap), YP w h → (K w.params).In h)
    (F : ∀ (w : World) (mg : Str → Option Value) (fa : Addr) (h : Heap), (K w.params).In h → h.Ns mainGlobals mg → mg d.name = some (.ref fa) →
      ∃ fd : FuncData, (∀ (s : Shared) (u : Value), BindsTo s fd ⟨[u], []⟩ [(("script" : Str), u)]) ∧ ∀ base : Heap, (K w.params).In base → base.Ns mainGlobals mg → FnOk l.prog w (K w.params) mg base CX0 k fa fd ["script"] (spLaw (K w.params))) :
    PySem.W.WalkO q loose XP YP l.row.toRowW d [] (fun f vs => PySem.call f vs) :=
  L2.walk_ofB (n := 63) (k := k) (x := "script") (CX := fun _ => CX0) (sp := fun w => spLaw (K w.params)) hn (by decide) hdf hr hY F
    (fun _ _ a ns hl hb _ hS => ⟨a, ns, rfl, hS, hl, hb, fun _ => rfl⟩) fun _ _ _ _ _ z => z
end Kv

set_option Elab.async false
set_option linter.all false
set_option maxRecDepth 100000
set_option maxHeartbeats 4000000
namespace K01
open PySem PySem.Spec PyProof.Rows L2
def top (i : Nat) : Stmt := PySem.Challenge.pw_corebank_k01_divide_rounded.main.body.getD i (.Pass ⟨0, 0, 0, 0⟩)
abbrev s_divide_rounded : Stmt := top 11
abbrev s_round_half : Stmt := top 12
abbrev s_L_numbers : Stmt := top 14
abbrev s_L_kinds : Stmt := top 15
abbrev s_L_is_integer : Stmt := top 16
abbrev s_L_refusal : Stmt := top 17
abbrev s_L_right : Stmt := top 18
abbrev s_L_case : Stmt := top 19
abbrev s_L_word : Stmt := top 20
abbrev s_law : Stmt := top 21
theorem sc_divide_rounded : FnScope ["over", "under", "way", "below", "rest"] ["over", "under", "way"] (defScope s_divide_rounded) := ⟨rfl, rfl, rfl, by decide +kernel, rfl, by decide +kernel, by decide +kernel⟩
theorem sc_round_half : FnScope ["below", "way"] ["below", "way"] (defScope s_round_half) := ⟨rfl, rfl, rfl, by decide +kernel, rfl, by decide +kernel, by decide +kernel⟩
theorem sc_L_numbers : FnScope ["cell", "count", "rest", "numbers", "k", "mixed"] ["cell", "count"] (defScope s_L_numbers) := ⟨rfl, rfl, rfl, by decide +kernel, rfl, by decide +kernel, by decide +kernel⟩
theorem sc_L_kinds : FnScope ["error", "kinds"] ["error"] (defScope s_L_kinds) := ⟨rfl, rfl, rfl, by decide +kernel, rfl, by decide +kernel, by decide +kernel⟩
theorem sc_L_is_integer : FnScope ["told"] ["told"] (defScope s_L_is_integer) := ⟨rfl, rfl, rfl, by decide +kernel, rfl, by decide +kernel, by decide +kernel⟩
theorem sc_L_refusal : FnScope ["over", "under", "way", "e"] ["over", "under", "way"] (defScope s_L_refusal) := ⟨rfl, rfl, rfl, by decide +kernel, rfl, by decide +kernel, by decide +kernel⟩
theorem sc_L_right : FnScope ["over", "under", "way", "told", "gap"] ["over", "under", "way"] (defScope s_L_right) := ⟨rfl, rfl, rfl, by decide +kernel, rfl, by decide +kernel, by decide +kernel⟩
theorem sc_L_case : FnScope ["numbers", "under", "quotient", "rests"] ["numbers"] (defScope s_L_case) := ⟨rfl, rfl, rfl, by decide +kernel, rfl, by decide +kernel, by decide +kernel⟩
theorem sc_L_word : FnScope ["numbers", "letters", "word", "k"] ["numbers"] (defScope s_L_word) := ⟨rfl, rfl, rfl, by decide +kernel, rfl, by decide +kernel, by decide +kernel⟩
theorem sc_law : FnScope ["script", "ways", "cell", "numbers", "over", "under", "way", "at", "turned", "wrong", "word"] ["script"] (defScope s_law) := ⟨rfl, rfl, rfl, by decide +kernel, rfl, by decide +kernel, by decide +kernel⟩
structure Txt (K : PySem.W.Frag) (mg : Str → Option Value) extends Kv.Errs K mg where
  a_divide_rounded : Addr
  d_divide_rounded : FuncData
  g_divide_rounded : mg "divide_rounded" = some (.ref a_divide_rounded)
  F_divide_rounded : Fun K "divide_rounded" "divide_rounded" s_divide_rounded a_divide_rounded d_divide_rounded
  b_divide_rounded : Binds K d_divide_rounded ["over", "under", "way"] []
  a_round_half : Addr
  d_round_half : FuncData
  g_round_half : mg "round_half" = some (.ref a_round_half)
  F_round_half : Fun K "round_half" "round_half" s_round_half a_round_half d_round_half
  b_round_half : Binds K d_round_half ["below", "way"] []
  a__law_numbers : Addr
  d__law_numbers : FuncData
  g__law_numbers : mg "_law_numbers" = some (.ref a__law_numbers)
  F__law_numbers : Fun K "_law_numbers" "_law_numbers" s_L_numbers a__law_numbers d__law_numbers
  b__law_numbers : Binds K d__law_numbers ["cell", "count"] []
  a__law_kinds : Addr
  d__law_kinds : FuncData
  g__law_kinds : mg "_law_kinds" = some (.ref a__law_kinds)
  F__law_kinds : Fun K "_law_kinds" "_law_kinds" s_L_kinds a__law_kinds d__law_kinds
  b__law_kinds : Binds K d__law_kinds ["error"] []
  a__law_is_integer : Addr
  d__law_is_integer : FuncData
  g__law_is_integer : mg "_law_is_integer" = some (.ref a__law_is_integer)
  F__law_is_integer : Fun K "_law_is_integer" "_law_is_integer" s_L_is_integer a__law_is_integer d__law_is_integer
  b__law_is_integer : Binds K d__law_is_integer ["told"] []
  a__law_refusal : Addr
  d__law_refusal : FuncData
  g__law_refusal : mg "_law_refusal" = some (.ref a__law_refusal)
  F__law_refusal : Fun K "_law_refusal" "_law_refusal" s_L_refusal a__law_refusal d__law_refusal
  b__law_refusal : Binds K d__law_refusal ["over", "under", "way"] []
  a__law_right : Addr
  d__law_right : FuncData
  g__law_right : mg "_law_right" = some (.ref a__law_right)
  F__law_right : Fun K "_law_right" "_law_right" s_L_right a__law_right d__law_right
  b__law_right : Binds K d__law_right ["over", "under", "way"] []
  a__law_case : Addr
  d__law_case : FuncData
  g__law_case : mg "_law_case" = some (.ref a__law_case)
  F__law_case : Fun K "_law_case" "_law_case" s_L_case a__law_case d__law_case
  b__law_case : Binds K d__law_case ["numbers"] []
  a__law_word : Addr
  d__law_word : FuncData
  g__law_word : mg "_law_word" = some (.ref a__law_word)
  F__law_word : Fun K "_law_word" "_law_word" s_L_word a__law_word d__law_word
  b__law_word : Binds K d__law_word ["numbers"] []
  a_law : Addr
  d_law : FuncData
  g_law : mg "law" = some (.ref a_law)
  F_law : Fun K "law" "law" s_law a_law d_law
  b_law : Binds K d_law ["script"] []
  a_WAYS : Addr
  g_WAYS : mg "WAYS" = some (.ref a_WAYS)
  r_WAYS : RelV (.ref a_WAYS) (.ref a_WAYS)
  t_WAYS : ∀ H : Hp, SqT K H a_WAYS [.str "down", .str "up", .str "even", .str "away"]
  n_abs : mg "abs" = none
  n_bool : mg "bool" = none
  n_divmod : mg "divmod" = none
  n_int : mg "int" = none
  n_isinstance : mg "isinstance" = none
  n_len : mg "len" = none
  n_range : mg "range" = none
local macro_rules | `(tactic| walk_at "rd") => `(tactic| simp only [L2.start, tSeq, tIfS, tTest, tOp, tVar, tC, tRet, tRetN, tNext, tAsg, gName, tDrop, tCons, tNil, tCB, tB, rI0, rI, rEq, rNe, tAnd, tOr, tNot, tAndV, tOrV, tNotV, tIf, tUn, rU, Kv.sc_ii, Kv.sc_ss, Kv.sc_bb, Kv.sc_nn, Kv.sc_ni, Kv.sc_in, Kv.sc_sn, Kv.sc_ns, Kv.sc_bn, Kv.sc_nb, Kv.sc_is, Kv.sc_si, cxOf, and_assoc, rAppend, Kv.rIsP, L2H.cxH, tCall, tCallS, tTup, tLst, tBM, tBM0, tM0, tM1, tSl, tPart, tNoPart, tAug, ipI, gSub, tPar, tBreak, tCont, Kv.tKinds, tChain,
  CPow, List.map_cons, List.map_nil, List.cons_append, List.nil_append, List.append_nil, List.length_cons, List.length_nil, List.replicate,
  List.getElem?_cons_zero, List.getElem?_cons_succ, List.set_cons_zero, List.set_cons_succ, Option.some.injEq, exists_eq_left', exists_eq_left, exists_eq_right, exists_eq_right', V.int.injEq, V.str.injEq, V.bl.injEq, V.ref.injEq, List.cons.injEq, exists_and_left, exists_and_right, and_true, true_and, and_self, false_and, and_false, or_false, false_or, exists_false, exists_const, reduceCtorEq, Nat.reduceSub, Nat.reduceAdd, Nat.reduceLeDiff, Nat.reduceLT,
  Int.reduceLT, Int.reduceLE, Int.reduceAdd, Int.reduceMul, Int.reduceSub, Int.reducePow, Int.reduceToNat, Int.reduceNeg, Int.reduceAbs, Nat.reducePow, decide_eq_true_eq, Bool.not_true, Bool.not_false, Bool.false_eq_true, ite_true, ite_false, if_true, if_false, decide_true, decide_false, Bool.not_eq_true', decide_eq_false_iff_not, not_true, not_false_eq_true, ne_eq])
local macro_rules | `(tactic| walk_at "st") => `(tactic| ((first | with_reducible refine Kv.seq_step fun U hU => ?_ | with_reducible refine Kv.gseq_step fun U hU => ?_); walk_at "rd"))
local macro_rules | `(tactic| walk_at "nx") => `(tactic| (subst_vars; first | walk_at "st" | walk_at "rd"))
theorem sne_0_1 : (("down" : Str) = "up") = False := eq_false (by decide +kernel)
theorem sne_0_2 : (("down" : Str) = "even") = False := eq_false (by decide +kernel)
theorem sne_0_3 : (("down" : Str) = "away") = False := eq_false (by decide +kernel)
theorem sne_1_0 : (("up" : Str) = "down") = False := eq_false (by decide +kernel)
theorem sne_1_2 : (("up" : Str) = "even") = False := eq_false (by decide +kernel)
theorem sne_1_3 : (("up" : Str) = "away") = False := eq_false (by decide +kernel)
theorem sne_2_0 : (("even" : Str) = "down") = False := eq_false (by decide +kernel)
theorem sne_2_1 : (("even" : Str) = "up") = False := eq_false (by decide +kernel)
theorem sne_2_3 : (("even" : Str) = "away") = False := eq_false (by decide +kernel)
theorem sne_3_0 : (("away" : Str) = "down") = False := eq_false (by decide +kernel)
theorem sne_3_1 : (("away" : Str) = "up") = False := eq_false (by decide +kernel)
theorem sne_3_2 : (("away" : Str) = "even") = False := eq_false (by decide +kernel)
/-! ### the mathematics -/
def rhalf (b : Int) (way : Str) : Int := if way = "even" then b + b % 2 else if b < 0 then b else b + 1
def ways : List Str := ["down", "up", "even", "away"]
/-- what divide_rounded answers where it answers -/
def divA (o u : Int) (way : Str) : Int :=
  if way = "down" ∨ o % u = 0 then o / u else if way = "up" ∨ o % u * 2 > u then o / u + 1 else if o % u * 2 < u then o / u else rhalf (o / u) way
/-- a way with one capital letter, one with one sign more -/
def turns (way : Str) (k : Nat) : Bool := match way.cps.toList[k]? with
  | none => true
  | some c => decide ((cutS way none (some (k : Int)) ++ Txt.upper ⟨#[c]⟩ ++ cutS way (some ((k : Int) + 1)) none) ∉ ways) && decide ((cutS way none (some (k : Int))).length + (Txt.upper ⟨#[c]⟩).length ≤ 100) &&
    decide ((cutS way none (some (k : Int)) ++ Txt.upper ⟨#[c]⟩).length + (cutS way (some ((k : Int) + 1)) none).length ≤ 100)
theorem turns_all : (ways.all fun way => (List.range way.length).all (turns way)) = true := by decide +kernel
def longer (way : Str) (k : Nat) : Bool := match (("deps " : Str).cps.toList)[k]? with
  | none => true
  | some c => decide (way ++ ⟨#[c]⟩ ∉ ways)
theorem longer_all : (ways.all fun way => (List.range 5).all (longer way)) = true := by decide +kernel
theorem blank_all : (ways.all fun way => decide ((" " ++ way : Str) ∉ ways)) = true := by decide +kernel
theorem len_all : (ways.all fun way => decide (1 ≤ way.length) && decide (way.length ≤ 10)) = true := by decide +kernel
theorem mul_facts {u q : Int} (hu : 1 ≤ u) : (0 ≤ q → q ≤ q * u) ∧ (q ≤ 0 → q * u ≤ q) ∧ (q ≤ -1 → q * u ≤ -u) ∧ (0 ≤ q → 0 ≤ q * u) := by
  refine ⟨fun h => ?_, fun h => ?_, fun h => ?_, fun h => Int.mul_nonneg h (by omega)⟩
  · have := Int.mul_le_mul_of_nonneg_left hu h
    omega
  · have := Int.mul_le_mul_of_nonpos_left h hu
    omega
  · have := Int.mul_le_mul_of_nonneg_right h (show 0 ≤ u by omega)
    omega
section
variable {P : Program} {w : World} {K : PySem.W.Frag} {mg : Str → Option Value} {base : Heap}
def spHalf : Sp := fun vs H Q _ => ∃ b way, vs = [.int b, .str way] ∧ Q (.int (rhalf b way)) H
theorem ok_round_half (T : Txt K mg) : FnOk P w K mg base CX0 1 T.a_round_half T.d_round_half ["below", "way"] spHalf := by
  refine T.F_round_half.ok sc_round_half (fun vs H Q E h => by obtain ⟨_, _, rfl, _⟩ := h; rfl) (fun cdv A outer s H vs Q E hr h => ?_)
  refine ⟨_, 
      (pss_cons (ps_if (pt_cmpR op_eq (pv 1) pe_str (nomark _)) 
        (pss_one (ps_ret (pe_op op_add (pv 0) (pe_op op_mod (pv 0) pe_int)))) pss_nil)
      (pss_one (ps_ret (pe_ifExp (pt_cmpR op_lt (pv 0) pe_int (nomark _)) (pv 0) (pe_op op_add (pv 0) pe_int))))), ?_⟩
  obtain ⟨b, way, rfl, h⟩ := h
  walk_at "rd"
  unfold rhalf at h
  split at h
  · rename_i c
    rw [if_pos c]
    exact h
  · rename_i c
    rw [if_neg c]
    split at h
    · rename_i c
      rw [if_pos c]
      exact h
    · rename_i c
      rw [if_neg c]
      exact h
def spDiv (T : Txt K mg) : Sp := fun vs H Q E => ∃ o u way, vs = [.int o, .int u, .str way] ∧ Builtin.Int.intBits o ≤ 4000 ∧ Builtin.Int.intBits u ≤ 4000 ∧ (1 ≤ u ∧ way ∈ ways → ∀ H', Same H H' → Q (.int (divA o u way)) H') ∧ (u < 1 ∨ way ∉ ways → E (.ref (T.exa .badValue)) none H)
theorem in_ways (way : Str) : inV (.str way) [.str "down", .str "up", .str "even", .str "away"] = decide (way ∈ ways) := by
  unfold inV ways
  simp [eqV, Bool.beq_eq_decide_eq, eq_comm]
theorem ok_divide_rounded (T : Txt K mg) : FnOk P w K mg base (L2.CX P w) 2 T.a_divide_rounded T.d_divide_rounded ["over", "under", "way"] (spDiv T) := by
  refine T.F_divide_rounded.okX sc_divide_rounded (fun vs H Q E h => by obtain ⟨_, _, _, rfl, _⟩ := h; rfl) (fun cdv A outer s H vs Q E hr h => ?_)
  refine ⟨_, 
      (pss_cons (ps_if (pt_cmpR op_lt (pv 1) pe_int (nomark _)) 
        (pss_one (ps_raise rfl (takes_of rfl rfl rfl rfl) (pmk_own PySem.F.excBase_ValueError (T.exx .badValue) (T.exg .badValue) (T.exk .badValue) (raises_own (T.exb .badValue) (T.ext .badValue)) (by rfl)))) pss_nil)
      (pss_cons (ps_if (pt_cmpR op_notIn_seq (pv 2) (pe_glob (by rfl) T.g_WAYS T.r_WAYS) (by rfl)) 
        (pss_one (ps_raise rfl (takes_of rfl rfl rfl rfl) (pmk_own PySem.F.excBase_ValueError (T.exx .badValue) (T.exg .badValue) (T.exk .badValue) (raises_own (T.exb .badValue) (T.ext .badValue)) (by rfl)))) pss_nil)
      (pss_cons (ps_asg (pe_callB call_divmodW (by rfl) T.n_divmod (by decide +kernel) (pa_cons (pv 0) (pa_cons (pv 1) pa_nil))) (pg_tup (n := 2) (by rfl) (pgs_cons (pg_name (i := 3) sc_divide_rounded.nd rfl (Or.inl rfl)) (pgs_cons (pg_name (i := 4) sc_divide_rounded.nd rfl (Or.inl rfl)) pgs_nil))))
      (pss_cons (ps_if (PW.pt (pw_or (pt_cmpR op_eq (pv 2) pe_str (nomark _)) (pw_or1 (pt_cmpR op_eq (pv 4) pe_int (nomark _))))) 
        (pss_one (ps_ret (pv 3))) pss_nil)
      (pss_cons (ps_if (PW.pt (pw_or (pt_cmpR op_eq (pv 2) pe_str (nomark _)) (pw_or1 (pt_cmpR op_gt (pe_op op_mulX pe_int (pv 4)) (pv 1) (nomark _))))) 
        (pss_one (ps_ret (pe_op op_add (pv 3) pe_int))) pss_nil)
      (pss_cons (ps_if (pt_cmpR op_lt (pe_op op_mulX pe_int (pv 4)) (pv 1) (nomark _)) 
        (pss_one (ps_ret (pv 3))) pss_nil)
      (pss_one (ps_ret (pe_call (ok_round_half T) (hr.mono (by decide : 1 ≤ _)) (by rfl) T.g_round_half T.F_round_half.kp T.b_round_half .nil pass0 (pa_cons (pv 3) (pa_cons (pv 2) pa_nil))))))))))), ?_⟩
  obtain ⟨o, u, way, rfl, b1, b2, hq, he⟩ := h
  walk_at "rd"
  by_cases c1 : u < 1
  · rw [if_pos c1]
    exact he (.inl c1)
  · rw [if_neg c1]
    refine ⟨T.a_WAYS, _, rfl, .inr (T.t_WAYS H), rfl, by decide, ?_⟩
    rw [in_ways]
    walk_at "rd"
    by_cases c2 : way ∈ ways
    · have hq := hq ⟨by omega, c2⟩
      rw [if_neg (fun z => z c2)]
      refine ⟨divp_ok (by omega) (by omega), fun p hp => Kv.gtupN2 (SqT.of upd_same) ?_⟩
      walk_at "rd"
      have hq := hq _ (Kv.same_upd (o := .tup [.int (o / u), .int (o % u)]) hp)
      have r0 : 0 ≤ o % u := Int.emod_nonneg _ (by omega)
      have r1 : o % u < u := Int.emod_lt_of_pos _ (by omega)
      have b3 : Builtin.Int.intBits (o % u) ≤ 4000 := by
        have z := Kv.bits_mono (i := o % u) (j := u) (by omega)
        omega
      have hm : CMulX 2 (o % u) := Kv.mulX (a := 2) (by decide) b3
      unfold divA at hq
      by_cases d1 : way = "down"
      · rw [if_pos (.inl d1)] at hq
        rw [if_pos d1]
        exact hq
      rw [if_neg d1]
      by_cases d2 : o % u = 0
      · rw [if_pos (.inr d2)] at hq
        rw [if_pos d2]
        exact hq
      rw [if_neg d2]
      rw [if_neg (fun z => z.elim d1 d2)] at hq
      by_cases d3 : way = "up"
      · rw [if_pos (.inl d3)] at hq
        rw [if_pos d3]
        exact hq
      rw [if_neg d3]
      refine ⟨hm, ?_⟩
      by_cases d4 : u < 2 * (o % u)
      · rw [if_pos (.inr (by omega))] at hq
        rw [if_pos d4]
        exact hq
      rw [if_neg d4]
      rw [if_neg (fun z => z.elim d3 (by omega))] at hq
      refine ⟨hm, ?_⟩
      by_cases d5 : 2 * (o % u) < u
      · rw [if_pos (by omega)] at hq
        rw [if_pos d5]
        exact hq
      rw [if_neg d5]
      rw [if_neg (by omega)] at hq
      exact ⟨_, _, rfl, hq⟩
    · rw [if_pos c2]
      exact he (.inr c2)
/-- the numbers that a law makes of one cell: so many, none below 0, none beyond 10 ^ 13 -/
def spNumbers : Sp := fun vs H Q _ => ∃ c n, vs = [.int c, .int n] ∧ Builtin.Int.intBits c ≤ 1048576 ∧ 0 ≤ n ∧ n ≤ 1000 ∧
  ∀ (ns : List Int) p H', (ns.length : Int) = n → (∀ z ∈ ns, 0 ≤ z ∧ z < 10000000000000) → Same H H' → H p = none → H' p = some (.lst (ns.map V.int)) → Q (.ref p) H'
def invNumbers (c n : Int) (p : Addr) (H : Hp) : Nat → L2.St → Hp → Prop := fun i σ' H' => ∃ (rest : Int) (ns : List Int) (x y : Option V), σ' = [some (.int c), some (.int n), some (.int rest), some (.ref p), x, y] ∧ 0 ≤ rest ∧ Builtin.Int.intBits rest ≤ 1048576 ∧
  ns.length = i ∧ (∀ z ∈ ns, 0 ≤ z ∧ z < 10000000000000) ∧ Same H H' ∧ H' p = some (.lst (ns.map V.int))
theorem ok_L_numbers (T : Txt K mg) : FnOk P w K mg base CX0 1 T.a__law_numbers T.d__law_numbers ["cell", "count"] spNumbers := by
  refine T.F__law_numbers.ok sc_L_numbers (fun vs H Q E h => by obtain ⟨_, _, rfl, _⟩ := h; rfl) (fun cdv A outer s H vs Q E hr h => ?_)
  refine ⟨_, 
      (pss_cons (ps_set (i := 2) sc_L_numbers.nd rfl (Or.inl rfl) pe_int)
      (pss_cons (ps_if (pt_cmpR op_ge (pv 0) (pe_op op_pow pe_int pe_int) (nomark _)) 
        (pss_one (ps_set (i := 2) sc_L_numbers.nd rfl (Or.inl rfl) (pe_op op_fdivW (pv 0) (pe_op op_pow pe_int pe_int)))) pss_nil)
      (pss_cons (ps_set (i := 3) sc_L_numbers.nd rfl (Or.inl rfl) (pe_lst pa_nil))
      (pss_cons (ps_for PassesOwn.never rfl (pi_range1 (by rfl) T.n_range (pa_cons (pv 1) pa_nil)) (pg_name (i := 4) sc_L_numbers.nd rfl (Or.inl rfl)) 
        (pss_one (ps_if (pt_cmpR op_gt (pv 2) pe_int (nomark _)) 
          (pss_cons (ps_expr (pe_bm PySem.F.plainAttrs_list PySem.F.slot_list_append PySem.F.type_list_append mt_append (pv 3) (pa_cons (pe_op op_mod (pe_callTy call_int1 (by rfl) T.n_int (by decide +kernel) (pa_cons (pv 2) pa_nil)) (pe_op op_pow pe_int pe_int)) pa_nil)))
          (pss_one (ps_set (i := 2) sc_L_numbers.nd rfl (Or.inl rfl) (pe_op op_fdivW (pv 2) (pe_op op_pow pe_int pe_int))))) 
          (pss_cons (ps_set (i := 5) sc_L_numbers.nd rfl (Or.inl rfl) (pe_op op_mod (pe_callTy call_int1 (by rfl) T.n_int (by decide +kernel) (pa_cons (pe_op op_add (pe_op op_add (pe_op op_mulX (pv 0) pe_int) (pe_op op_mulX (pv 4) pe_int)) pe_int) pa_nil)) pe_int))
          (pss_cons (ps_set (i := 5) sc_L_numbers.nd rfl (Or.inl rfl) (pe_op op_mod (pe_callTy call_int1 (by rfl) T.n_int (by decide +kernel) (pa_cons (pe_op op_add (pe_op op_add (pe_op op_mulX (pv 5) (pv 5)) (pe_op op_mulX pe_int (pv 4))) pe_int) pa_nil)) pe_int))
          (pss_one (ps_expr (pe_bm PySem.F.plainAttrs_list PySem.F.slot_list_append PySem.F.type_list_append mt_append (pv 3) (pa_cons (pe_op op_add (pe_op op_mulX (pe_op op_mod (pe_callTy call_int1 (by rfl) T.n_int (by decide +kernel) (pa_cons (pe_op op_add (pe_op op_mulX (pv 5) (pv 5)) (pv 5)) pa_nil)) pe_int) pe_int) (pv 4)) pa_nil)))))))))
      (pss_one (ps_ret (pv 3))))))), ?_⟩
  obtain ⟨c, n, rfl, bc, n0, n1, hq⟩ := h
  walk_at "rd"
  split
  all_goals
    first
      | refine ⟨⟨by decide, by decide⟩, by decide, fun p hp => ?_⟩
      | refine ⟨by decide, fun p hp => ?_⟩
    refine Kv.tfor_range1 (n := n) (fun Q h => by walk_at "rd"; exact h) (by omega)
      (invNumbers c n p H)
      ?_ ?_ ?_
  case isTrue.refine_1 =>
    refine ⟨_, [], _, _, rfl, by omega, ?_, rfl, fun z hz => by simp at hz, Kv.same_upd hp, upd_same⟩
    exact Nat.le_trans (Kv.bits_mono (by omega)) bc
  case isFalse.refine_1 => exact ⟨_, [], _, _, rfl, by omega, by decide, rfl, fun z hz => by simp at hz, Kv.same_upd hp, upd_same⟩
  case isTrue.refine_3 | isFalse.refine_3 =>
    rintro σ' H' ⟨rest, ns, x, y, rfl, r0, rb, hl, hz, hs, hp'⟩
    walk_at "rd"
    exact hq ns p H' (by omega) hz hs hp hp'
  case isTrue.refine_2 | isFalse.refine_2 =>
    rintro i σ' H' hi ⟨rest, ns, x, y, rfl, r0, rb, hl, hz, hs, hp'⟩
    have hsz : (ns.map V.int).length < sizeLine := by
      rw [List.length_map]
      exact Nat.lt_of_lt_of_le (show ns.length < 1001 by omega) (by decide)
    have more : ∀ v : Int, 0 ≤ v → v < 10000000000000 → (∀ z ∈ ns ++ [v], 0 ≤ z ∧ z < 10000000000000) := by
      intro v h0 h1 z hm
      rcases List.mem_append.mp hm with hm | hm
      · exact hz z hm
      · rw [List.mem_singleton.mp hm]
        exact ⟨h0, h1⟩
    have fin : ∀ v : Int, (upd H' p (HO.lst (ns.map V.int ++ [.int v]))) p = some (.lst ((ns ++ [v]).map V.int)) := by
      intro v
      rw [upd_same, List.map_append]
      rfl
    walk_at "rd"
    by_cases c1 : 0 < rest
    · rw [if_pos c1]
      refine ⟨.inl ⟨rfl, _, SqL.of hp'⟩, _, hp', hsz, ⟨by decide, by decide⟩, ?_⟩
      refine ⟨rest / 10000000000000, ns ++ [rest % 10000000000000], _, _, rfl, Int.ediv_nonneg r0 (by decide), Nat.le_trans (Kv.bits_mono (by omega)) rb, by simp [hl], more _ (Int.emod_nonneg _ (by decide)) (Int.emod_lt_of_pos _ (by decide)), Kv.same_mut hp hs, fin _⟩
    · rw [if_neg c1]
      have bi : Builtin.Int.intBits (i : Int) ≤ 64 := Kv.bits64 (by omega) (by omega)
      refine ⟨Kv.mulX bc (b := 64) (by decide), Kv.mulX bi (b := 64) (by decide), ?_⟩
      generalize hm1 : (c * 48271 + (i : Int) * 69621 + 1013) % 2147483647 = m1
      have m10 : 0 ≤ m1 := by rw [← hm1]; exact Int.emod_nonneg _ (by decide)
      have m11 : m1 < 2147483647 := by rw [← hm1]; exact Int.emod_lt_of_pos _ (by decide)
      have bm1 : Builtin.Int.intBits m1 ≤ 64 := Kv.bits64 (by omega) (by omega)
      refine ⟨Kv.mulX bm1 bm1, Kv.mulX (a := 64) (by decide) bi, ?_⟩
      generalize hm2 : (m1 * m1 + 8191 * (i : Int) + 77) % 2147483629 = m2
      have m20 : 0 ≤ m2 := by rw [← hm2]; exact Int.emod_nonneg _ (by decide)
      have m21 : m2 < 2147483629 := by rw [← hm2]; exact Int.emod_lt_of_pos _ (by decide)
      have bm2 : Builtin.Int.intBits m2 ≤ 64 := Kv.bits64 (by omega) (by omega)
      generalize hm3 : (m2 * m2 + m2) % 2147483587 = m3
      have m30 : 0 ≤ m3 := by rw [← hm3]; exact Int.emod_nonneg _ (by decide)
      have m31 : m3 < 2147483587 := by rw [← hm3]; exact Int.emod_lt_of_pos _ (by decide)
      have bm3 : Builtin.Int.intBits m3 ≤ 64 := Kv.bits64 (by omega) (by omega)
      refine ⟨.inl ⟨rfl, _, SqL.of hp'⟩, Kv.mulX bm2 bm2, Kv.mulX bm3 (b := 64) (by decide), _, hp', hsz, ?_⟩
      exact ⟨rest, ns ++ [m3 * 4001 + i], _, _, rfl, r0, rb, by simp [hl], more _ (by omega) (by omega), Kv.same_mut hp hs, fin _⟩

theorem ok_L_kinds (T : Txt K mg) : Kv.KindsOk P w K mg base T.toErrs 1 T.a__law_kinds T.d__law_kinds := by
  refine Kv.kinds_of T.F__law_kinds sc_L_kinds (fun cdv A outer s H Q p er hz hf h => ?_)
  refine ⟨_, 
      (pss_cons (ps_set (i := 1) sc_L_kinds.nd rfl (Or.inl rfl) (pe_lst pa_nil))
      (pss_cons (ps_if (pt_val (pe_callB (Kv.call_isP List.mem_cons_self (T.exc er) hz hf) (by rfl) T.n_isinstance (by decide +kernel) (pa_cons (pv 0) (pa_cons (pe_glob (v := .ref (T.exa .badValue)) (by rfl) (T.exg .badValue) rfl) pa_nil)))) 
        (pss_one (ps_expr (pe_bm PySem.F.plainAttrs_list PySem.F.slot_list_append PySem.F.type_list_append mt_append (pv 1) (pa_cons pe_str pa_nil)))) pss_nil)
      (pss_cons (ps_if (pt_val (pe_callB (Kv.call_isP List.mem_cons_self (T.exc er) hz hf) (by rfl) T.n_isinstance (by decide +kernel) (pa_cons (pv 0) (pa_cons (pe_glob (v := .ref (T.exa .badDay)) (by rfl) (T.exg .badDay) rfl) pa_nil)))) 
        (pss_one (ps_expr (pe_bm PySem.F.plainAttrs_list PySem.F.slot_list_append PySem.F.type_list_append mt_append (pv 1) (pa_cons pe_str pa_nil)))) pss_nil)
      (pss_cons (ps_if (pt_val (pe_callB (Kv.call_isP List.mem_cons_self (T.exc er) hz hf) (by rfl) T.n_isinstance (by decide +kernel) (pa_cons (pv 0) (pa_cons (pe_glob (v := .ref (T.exa .missing)) (by rfl) (T.exg .missing) rfl) pa_nil)))) 
        (pss_one (ps_expr (pe_bm PySem.F.plainAttrs_list PySem.F.slot_list_append PySem.F.type_list_append mt_append (pv 1) (pa_cons pe_str pa_nil)))) pss_nil)
      (pss_cons (ps_if (pt_val (pe_callB (Kv.call_isP List.mem_cons_self (T.exc er) hz hf) (by rfl) T.n_isinstance (by decide +kernel) (pa_cons (pv 0) (pa_cons (pe_glob (v := .ref (T.exa .refused)) (by rfl) (T.exg .refused) rfl) pa_nil)))) 
        (pss_one (ps_expr (pe_bm PySem.F.plainAttrs_list PySem.F.slot_list_append PySem.F.type_list_append mt_append (pv 1) (pa_cons pe_str pa_nil)))) pss_nil)
      (pss_cons (ps_if (pt_val (pe_callB (Kv.call_isP List.mem_cons_self (T.exc er) hz hf) (by rfl) T.n_isinstance (by decide +kernel) (pa_cons (pv 0) (pa_cons (pe_glob (v := .ref (T.exa .full)) (by rfl) (T.exg .full) rfl) pa_nil)))) 
        (pss_one (ps_expr (pe_bm PySem.F.plainAttrs_list PySem.F.slot_list_append PySem.F.type_list_append mt_append (pv 1) (pa_cons pe_str pa_nil)))) pss_nil)
      (pss_cons (ps_if (pt_val (pe_callB (Kv.call_isP List.mem_cons_self (T.exc er) hz hf) (by rfl) T.n_isinstance (by decide +kernel) (pa_cons (pv 0) (pa_cons (pe_glob (v := .ref (T.exa .notAllowed)) (by rfl) (T.exg .notAllowed) rfl) pa_nil)))) 
        (pss_one (ps_expr (pe_bm PySem.F.plainAttrs_list PySem.F.slot_list_append PySem.F.type_list_append mt_append (pv 1) (pa_cons pe_str pa_nil)))) pss_nil)
      (pss_cons (ps_if (pt_val (pe_callB (Kv.call_isP List.mem_cons_self (T.exc er) hz hf) (by rfl) T.n_isinstance (by decide +kernel) (pa_cons (pv 0) (pa_cons (pe_glob (v := .ref (T.exa .damaged)) (by rfl) (T.exg .damaged) rfl) pa_nil)))) 
        (pss_one (ps_expr (pe_bm PySem.F.plainAttrs_list PySem.F.slot_list_append PySem.F.type_list_append mt_append (pv 1) (pa_cons pe_str pa_nil)))) pss_nil)
      (pss_one (ps_ret (pv 1))))))))))), ?_⟩
  have hi := fun d => T.exi er d
  refine Kv.seq_step fun U hU => ?_
  walk_at "rd"
  refine ⟨by decide, fun l hl => ?_⟩
  rw [hU]
  cases er
  all_goals
    iterate 7
      refine Kv.seq_step fun U hU => ?_
      walk_at "rd"
      refine ⟨_, hi _, ?_⟩
      first
        | rw [if_neg (by decide)]
        | (rw [if_pos (by decide)]
           refine ⟨.inl ⟨rfl, _, SqL.of upd_same⟩, _, upd_same, by decide, ?_⟩
           rw [upd_upd])
      rw [hU]
    walk_at "rd"
    exact h l hl

def spIsInteger : Sp := fun vs H Q _ => ∃ z, vs = [.int z] ∧ Q (.bl true) H
theorem ok_L_is_integer (T : Txt K mg) : FnOk P w K mg base CX0 1 T.a__law_is_integer T.d__law_is_integer ["told"] spIsInteger := by
  refine T.F__law_is_integer.ok sc_L_is_integer (fun vs H Q E h => by obtain ⟨_, rfl, _⟩ := h; rfl) (fun cdv A outer s H vs Q E hr h => ?_)
  refine ⟨_, 
      (pss_one (ps_ret (pe_and (pe_callB call_isi (by rfl) T.n_isinstance (by decide +kernel) (pa_cons (pv 0) (pa_cons (pe_bltn (v := .ty "int") (by rfl) T.n_int (by decide +kernel) rfl) pa_nil))) (pe_one (pe_not (pe_callB call_isi (by rfl) T.n_isinstance (by decide +kernel) (pa_cons (pv 0) (pa_cons (pe_bltn (v := .ty "bool") (by rfl) T.n_bool (by decide +kernel) rfl) pa_nil)))))))), ?_⟩
  obtain ⟨z, rfl, h⟩ := h
  walk_at "rd"
  refine Kv.isi_int (b := true) (by decide +kernel) ?_
  walk_at "rd"
  refine Kv.isi_int (b := false) (by decide +kernel) ?_
  walk_at "rd"
  exact h

def spRefusal : Sp := fun vs H Q _ => ∃ o u way, vs = [.int o, .int u, .str way] ∧ Builtin.Int.intBits o ≤ 4000 ∧ Builtin.Int.intBits u ≤ 4000 ∧ (u < 1 ∨ way ∉ ways) ∧
  ∀ p H', Same H H' → H p = none → H' p = some (.lst [.str "BadValue"]) → Q (.ref p) H'
theorem ok_L_refusal (T : Txt K mg) : FnOk P w K mg base CX0 3 T.a__law_refusal T.d__law_refusal ["over", "under", "way"] spRefusal := by
  refine T.F__law_refusal.ok sc_L_refusal (fun vs H Q E h => by obtain ⟨_, _, _, rfl, _⟩ := h; rfl) (fun cdv A outer s H vs Q E hr h => ?_)
  refine ⟨_, 
      (pss_cons (ps_try_as (i := 3) rfl rfl sc_L_refusal.nd rfl rfl ⟨rfl, by decide, .inl T.g_BankError⟩ takes0 (fun W pn xe tk hpo => by exact (
          (pss_one (ps_expr (pe_callS (ok_divide_rounded T) (hr.mono (by decide : 2 ≤ _)) (by rfl) T.g_divide_rounded T.F_divide_rounded.kp T.b_divide_rounded (fun σ => passAt tk σ) (pa_cons (pv 0) (pa_cons (pv 1) (pa_cons (pv 2) pa_nil)))))))) (fun a oe cls d pn hz hf => by exact (
          (pss_one (ps_ret (Kv.pe_kinds (ok_L_kinds T) hz hf List.mem_cons_self ⟨(hr.mono (by decide : 1 ≤ _)).dp, (hr.mono (by decide : 1 ≤ _)).un⟩ (by rfl) T.g__law_kinds T.F__law_kinds.kp T.b__law_kinds (pa_cons (pv 3) pa_nil)))))))
      (pss_one (ps_ret (pe_lst pa_nil)))), ?_⟩
  obtain ⟨o, u, way, rfl, b1, b2, hb, hq⟩ := h
  walk_at "st"
  refine ⟨o, u, way, rfl, b1, b2, fun z => absurd z (fun z => hb.elim (by omega) (fun y => y z.2)), fun _ => ⟨true, T.exm _, fun _ a ha => ?_, fun z => nomatch z⟩⟩
  walk_at "rd"
  exact ⟨.badValue, rfl, fun p hp => hq p _ (Kv.same_upd hp) hp upd_same⟩
def spRight : Sp := fun vs H Q _ => ∃ o u way, vs = [.int o, .int u, .str way] ∧ -(2 ^ 100) < o ∧ o < 2 ^ 100 ∧ 1 ≤ u ∧ u < 2 ^ 50 ∧ way ∈ ways ∧ ∀ H', Same H H' → Q (.bl true) H'
theorem ok_L_right (T : Txt K mg) : FnOk P w K mg base CX0 3 T.a__law_right T.d__law_right ["over", "under", "way"] spRight := by
  refine T.F__law_right.ok sc_L_right (fun vs H Q E h => by obtain ⟨_, _, _, rfl, _⟩ := h; rfl) (fun cdv A outer s H vs Q E hr h => ?_)
  refine ⟨_, 
      (pss_cons (ps_set (i := 3) sc_L_right.nd rfl (Or.inl rfl) (pe_call (ok_divide_rounded T) (hr.mono (by decide : 2 ≤ _)) (by rfl) T.g_divide_rounded T.F_divide_rounded.kp T.b_divide_rounded .nil passL (pa_cons (pv 0) (pa_cons (pv 1) (pa_cons (pv 2) pa_nil)))))
      (pss_cons (ps_if (pt_not (pt_val (pe_call (ok_L_is_integer T) (hr.mono (by decide : 1 ≤ _)) (by rfl) T.g__law_is_integer T.F__law_is_integer.kp T.b__law_is_integer .nil pass0 (pa_cons (pv 3) pa_nil)))) 
        (pss_one (ps_ret pe_bl)) pss_nil)
      (pss_cons (ps_set (i := 4) sc_L_right.nd rfl (Or.inl rfl) (pe_op op_sub (pe_op op_mulX (pv 3) (pv 1)) (pv 0)))
      (pss_cons (ps_if (pt_cmpR op_eq (pv 2) pe_str (nomark _)) 
        (pss_one (ps_ret (pe_and (pe_cmpR op_lt (pe_op op_sub pe_int (pv 1)) (pv 4) (nomark _)) (pe_one (pe_cmpR op_le (pv 4) pe_int (nomark _)))))) pss_nil)
      (pss_cons (ps_if (pt_cmpR op_eq (pv 2) pe_str (nomark _)) 
        (pss_one (ps_ret (pe_and (pe_cmpR op_le pe_int (pv 4) (nomark _)) (pe_one (pe_cmpR op_lt (pv 4) (pv 1) (nomark _)))))) pss_nil)
      (pss_cons (ps_if (pt_cmpR op_ne (pe_op op_mulX pe_int (pe_callB call_abs (by rfl) T.n_abs (by decide +kernel) (pa_cons (pv 4) pa_nil))) (pv 1) (nomark _)) 
        (pss_one (ps_ret (pe_cmpR op_lt (pe_op op_mulX pe_int (pe_callB call_abs (by rfl) T.n_abs (by decide +kernel) (pa_cons (pv 4) pa_nil))) (pv 1) (nomark _)))) pss_nil)
      (pss_cons (ps_if (pt_cmpR op_eq (pv 2) pe_str (nomark _)) 
        (pss_one (ps_ret (pe_cmpR op_eq (pe_op op_mod (pe_callTy call_int1 (by rfl) T.n_int (by decide +kernel) (pa_cons (pv 3) pa_nil)) pe_int) pe_int (nomark _)))) pss_nil)
      (pss_one (ps_ret (pe_cmpR op_gt (pe_callB call_abs (by rfl) T.n_abs (by decide +kernel) (pa_cons (pe_op op_mulX (pv 3) (pv 1)) pa_nil)) (pe_callB call_abs (by rfl) T.n_abs (by decide +kernel) (pa_cons (pv 0) pa_nil)) (nomark _))))))))))), ?_⟩
  obtain ⟨o, u, way, rfl, o1, o2, u1, u2, hw, hq⟩ := h
  have bo : Builtin.Int.intBits o ≤ 100 := Kv.bitsPow (by decide) o1 o2
  have bu : Builtin.Int.intBits u ≤ 64 := Kv.bits64 (by omega) (by omega)
  walk_at "st"
  refine ⟨o, u, way, rfl, by omega, by omega, fun _ H' hs => ?_, fun z => (z.elim (by omega) (fun y => y hw)).elim⟩
  have hq := hq H' hs
  walk_at "nx"
  refine ⟨_, rfl, ?_⟩
  walk_at "nx"
  have ed := Int.emod_add_mul_ediv o u
  have r0 : 0 ≤ o % u := Int.emod_nonneg _ (by omega)
  have r1 : o % u < u := Int.emod_lt_of_pos _ (by omega)
  have mf := mul_facts (q := o / u) u1
  unfold ways at hw
  simp only [List.mem_cons, List.not_mem_nil, or_false] at hw
  unfold divA rhalf
  rw [Int.mul_comm] at ed
  generalize o / u = d at *
  generalize o % u = r at *
  have d1 : -(2 ^ 101) < d := by omega
  have d2 : d < 2 ^ 101 := by omega
  have bd : ∀ x : Int, -(2 ^ 101) ≤ x - d → x - d ≤ 2 → CMulX x u := fun x h1 h2 => Kv.mulX (a := 102) (Kv.bitsPow (by decide) (by omega) (by omega)) bu
  have b2 : ∀ x : Int, -u ≤ x → x ≤ u → CMulX 2 x := fun x h1 h2 => Kv.mulX (a := 2) (by decide) (Kv.bits64 (by omega) (by omega))
  have tr : ∀ p : Prop, [Decidable p] → p → Q (V.bl (decide p)) H' := fun p _ hp => by rw [decide_eq_true hp]; exact hq
  rcases hw with rfl | rfl | rfl | rfl
  · simp only [true_or, if_true]
    refine ⟨bd _ (by omega) (by omega), ?_⟩
    rw [if_pos (by omega)]
    exact tr _ (by omega)
  · simp only [sne_1_0, false_or, true_or, if_true, if_false]
    refine ⟨?_, ?_⟩
    · split <;> exact bd _ (by omega) (by omega)
    · split
      · rw [if_pos (by omega)]
        exact tr _ (by omega)
      · rw [Int.add_mul, Int.one_mul, if_pos (by omega)]
        exact tr _ (by omega)
  · simp only [sne_2_0, sne_2_1, false_or, if_true, if_false]
    by_cases c0 : r = 0
    · simp only [if_pos c0]
      refine ⟨bd _ (by omega) (by omega), b2 _ (by split <;> omega) (by split <;> omega), ?_⟩
      rw [if_pos (by split <;> omega)]
      exact ⟨b2 _ (by split <;> omega) (by split <;> omega), tr _ (by split <;> omega)⟩
    simp only [if_neg c0]
    by_cases c1 : r * 2 > u
    · simp only [if_pos c1]
      refine ⟨bd _ (by omega) (by omega), ?_⟩
      rw [Int.add_mul, Int.one_mul]
      refine ⟨b2 _ (by split <;> omega) (by split <;> omega), ?_⟩
      rw [if_pos (by split <;> omega)]
      exact ⟨b2 _ (by split <;> omega) (by split <;> omega), tr _ (by split <;> omega)⟩
    simp only [if_neg c1]
    by_cases c2 : r * 2 < u
    · simp only [if_pos c2]
      refine ⟨bd _ (by omega) (by omega), ?_⟩
      refine ⟨b2 _ (by split <;> omega) (by split <;> omega), ?_⟩
      rw [if_pos (by split <;> omega)]
      exact ⟨b2 _ (by split <;> omega) (by split <;> omega), tr _ (by split <;> omega)⟩
    simp only [if_neg c2]
    refine ⟨bd _ (by omega) (by omega), ?_⟩
    rw [Int.add_mul]
    have ev : d % 2 * u = 0 ∧ d % 2 = 0 ∨ d % 2 * u = u ∧ d % 2 = 1 := by
      rcases (by omega : d % 2 = 0 ∨ d % 2 = 1) with e | e <;> rw [e] <;> simp
    refine ⟨b2 _ (by split <;> omega) (by split <;> omega), ?_⟩
    rw [if_neg (by split <;> omega)]
    exact tr _ (by omega)
  · simp only [sne_3_0, sne_3_1, sne_3_2, false_or, if_true, if_false]
    by_cases c0 : r = 0
    · simp only [if_pos c0]
      refine ⟨bd _ (by omega) (by omega), b2 _ (by split <;> omega) (by split <;> omega), ?_⟩
      rw [if_pos (by split <;> omega)]
      exact ⟨b2 _ (by split <;> omega) (by split <;> omega), tr _ (by split <;> omega)⟩
    simp only [if_neg c0]
    by_cases c1 : r * 2 > u
    · simp only [if_pos c1]
      refine ⟨bd _ (by omega) (by omega), ?_⟩
      rw [Int.add_mul, Int.one_mul]
      refine ⟨b2 _ (by split <;> omega) (by split <;> omega), ?_⟩
      rw [if_pos (by split <;> omega)]
      exact ⟨b2 _ (by split <;> omega) (by split <;> omega), tr _ (by split <;> omega)⟩
    simp only [if_neg c1]
    by_cases c2 : r * 2 < u
    · simp only [if_pos c2]
      refine ⟨bd _ (by omega) (by omega), ?_⟩
      refine ⟨b2 _ (by split <;> omega) (by split <;> omega), ?_⟩
      rw [if_pos (by split <;> omega)]
      exact ⟨b2 _ (by split <;> omega) (by split <;> omega), tr _ (by split <;> omega)⟩
    simp only [if_neg c2]
    by_cases c3 : d < 0
    · simp only [if_pos c3]
      refine ⟨bd _ (by omega) (by omega), b2 _ (by split <;> omega) (by split <;> omega), ?_⟩
      rw [if_neg (by split <;> omega)]
      exact ⟨bd _ (by omega) (by omega), tr _ (by split <;> split <;> omega)⟩
    · simp only [if_neg c3]
      refine ⟨bd _ (by omega) (by omega), ?_⟩
      rw [Int.add_mul, Int.one_mul]
      refine ⟨b2 _ (by split <;> omega) (by split <;> omega), ?_⟩
      rw [if_neg (by split <;> omega)]
      exact ⟨bd _ (by omega) (by omega), tr _ (by split <;> split <;> omega)⟩
def spCase (K : PySem.W.Frag) : Sp := fun vs H Q _ => ∃ (a : Addr) (ns : List Int), vs = [.ref a] ∧ SqL K H a (ns.map V.int) ∧ 14 ≤ ns.length ∧ (∀ z ∈ ns, 0 ≤ z ∧ z < 10000000000000) ∧
  ∀ p o u H', -(2 ^ 100) < o → o < 2 ^ 100 → 1 ≤ u → u < 2 ^ 50 → Same H H' → H p = none → H' p = some (.tup [.int o, .int u]) → Q (.ref p) H'
def midCase (a : Addr) (H : Hp) : L2.St → Hp → Prop := fun σ' H' => ∃ u, σ' = [some (.ref a), some (.int u), none, none] ∧ 1 ≤ u ∧ u ≤ 10000000000000 ∧ H' = H
def midCase2 (a : Addr) (H : Hp) : L2.St → Hp → Prop := fun σ' H' => ∃ u d, σ' = [some (.ref a), some (.int u), some (.int d), none] ∧ 1 ≤ u ∧ u ≤ 10000000000000 ∧ -1000000000000 ≤ d ∧ d ≤ 1000000000000 ∧ H' = H
theorem ok_L_case (T : Txt K mg) : FnOk P w K mg base CX0 1 T.a__law_case T.d__law_case ["numbers"] (spCase K) := by
  refine T.F__law_case.ok sc_L_case (fun vs H Q E h => by obtain ⟨_, _, rfl, _⟩ := h; rfl) (fun cdv A outer s H vs Q E hr h => ?_)
  refine ⟨_, 
      (pss_cons (ps_set (i := 1) sc_L_case.nd rfl (Or.inl rfl) (pe_op op_add pe_int (pe_op op_mod (pe_ix ix_list (pv 0) pe_int (fun _ _ => rfl)) pe_int)))
      (pss_cons (ps_if (pt_cmpR op_eq (pe_op op_mod (pe_ix ix_list (pv 0) pe_int (fun _ _ => rfl)) pe_int) pe_int (nomark _)) 
        (pss_one (ps_set (i := 1) sc_L_case.nd rfl (Or.inl rfl) (pe_op op_add pe_int (pe_op op_mod (pe_ix ix_list (pv 0) pe_int (fun _ _ => rfl)) pe_int)))) pss_nil)
      (pss_cons (ps_if (pt_cmpR op_eq (pe_op op_mod (pe_ix ix_list (pv 0) pe_int (fun _ _ => rfl)) pe_int) pe_int (nomark _)) 
        (pss_one (ps_set (i := 1) sc_L_case.nd rfl (Or.inl rfl) (pe_op op_add pe_int (pe_ix ix_list (pv 0) pe_int (fun _ _ => rfl))))) pss_nil)
      (pss_cons (ps_set (i := 2) sc_L_case.nd rfl (Or.inl rfl) (pe_op op_sub (pe_op op_mod (pe_ix ix_list (pv 0) pe_int (fun _ _ => rfl)) pe_int) pe_int))
      (pss_cons (ps_if (pt_cmpR op_eq (pe_op op_mod (pe_ix ix_list (pv 0) pe_int (fun _ _ => rfl)) pe_int) pe_int (nomark _)) 
        (pss_one (ps_set (i := 2) sc_L_case.nd rfl (Or.inl rfl) (pe_op op_sub (pe_op op_mod (pe_ix ix_list (pv 0) pe_int (fun _ _ => rfl)) (pe_op op_add (pe_op op_mulX pe_int (pe_op op_pow pe_int pe_int)) pe_int)) (pe_op op_pow pe_int pe_int)))) pss_nil)
      (pss_cons (ps_set (i := 3) sc_L_case.nd rfl (Or.inl rfl) (pe_lst (pa_cons pe_int (pa_cons (pe_op op_fdivW (pv 1) pe_int) (pa_cons (pe_op op_fdivW (pe_op op_add (pv 1) pe_int) pe_int) (pa_cons (pe_op op_sub (pe_op op_fdivW (pv 1) pe_int) pe_int) (pa_cons (pe_op op_add (pe_op op_fdivW (pv 1) pe_int) pe_int) (pa_cons (pe_ix ix_list (pv 0) pe_int (fun _ _ => rfl)) pa_nil))))))))
      (pss_one (ps_ret (pe_tup (pa_cons (pe_op op_add (pe_op op_mulX (pv 1) (pv 2)) (pe_op op_mod (pe_callTy call_int1 (by rfl) T.n_int (by decide +kernel) (pa_cons (pe_ix ix_list (pv 3) (pe_op op_mod (pe_ix ix_list (pv 0) pe_int (fun _ _ => rfl)) pe_int) (fun _ _ => rfl)) pa_nil)) (pv 1))) (pa_cons (pv 1) pa_nil))))))))))), ?_⟩
  obtain ⟨a, ns, rfl, hS, hl, hn, hq⟩ := h
  refine Kv.seq_cut (midCase a H) (fun U hU => ?_) ?_
  · walk_at "rd"
    refine Kv.ix_num hS (by omega) ?_
    walk_at "rd"
    exact hU _ _ ⟨_, rfl, by omega, by omega, rfl⟩
  rintro σ' H' ⟨u, rfl, u1, u2, rfl⟩
  refine Kv.seq_cut (midCase a H') (fun U hU => ?_) ?_
  · walk_at "rd"
    refine Kv.ix_num hS (by omega) ?_
    walk_at "rd"
    split
    · refine Kv.ix_num hS (by omega) ?_
      walk_at "rd"
      exact hU _ _ ⟨_, rfl, by omega, by omega, rfl⟩
    · exact hU _ _ ⟨_, rfl, by omega, by omega, rfl⟩
  rintro σ' H ⟨u, rfl, u1, u2, rfl⟩
  refine Kv.seq_cut (midCase a H) (fun U hU => ?_) ?_
  · walk_at "rd"
    refine Kv.ix_num hS (by omega) ?_
    walk_at "rd"
    have := Kv.num_in hn 0
    split
    · refine Kv.ix_num hS (by omega) ?_
      walk_at "rd"
      exact hU _ _ ⟨_, rfl, by show 1 ≤ 1 + ns.getD 0 0; omega, by show 1 + ns.getD 0 0 ≤ _; omega, rfl⟩
    · exact hU _ _ ⟨_, rfl, by omega, by omega, rfl⟩
  rintro σ' H' ⟨u, rfl, u1, u2, rfl⟩
  refine Kv.seq_cut (midCase2 a H') (fun U hU => ?_) ?_
  · walk_at "rd"
    refine Kv.ix_num hS (by omega) ?_
    walk_at "rd"
    exact hU _ _ ⟨_, _, rfl, u1, u2, by omega, by omega, rfl⟩
  rintro σ' H ⟨u, d, rfl, u1, u2, d1, d2, rfl⟩
  refine Kv.seq_cut (midCase2 a H) (fun U hU => ?_) ?_
  · walk_at "rd"
    refine Kv.ix_num hS (by omega) ?_
    walk_at "rd"
    split
    · refine Kv.ix_num hS (by omega) ?_
      walk_at "rd"
      refine ⟨Kv.mulX (a := 64) (b := 64) (by decide) (by decide), ?_⟩
      exact hU _ _ ⟨_, _, rfl, u1, u2, by have := Kv.num_in hn 2; show -1000000000000 ≤ ns.getD 2 0 % 2000000000001 - 1000000000000; omega, by have := Kv.num_in hn 2; show ns.getD 2 0 % 2000000000001 - 1000000000000 ≤ _; omega, rfl⟩
    · exact hU _ _ ⟨_, _, rfl, u1, u2, by omega, by omega, rfl⟩
  rintro σ' H' ⟨u, d, rfl, u1, u2, d1, d2, rfl⟩
  walk_at "st"
  have c2 : ∀ x : Int, CDivW x 2 := fun x => ⟨by decide, by decide⟩
  refine ⟨c2 _, c2 _, c2 _, c2 _, Kv.ix_num hS (by omega) ⟨by decide, fun l hl2 => ?_⟩⟩
  walk_at "nx"
  have hS2 := (Kv.same_upd (o := .lst [.int 0, .int (u / 2), .int ((u + 1) / 2), .int (u / 2 - 1), .int (u / 2 + 1), .int (ns.getD 4 0)]) hl2).seq hS
  refine ⟨Kv.mulX (a := 64) (b := 64) (Kv.bits64 (by omega) (by omega)) (Kv.bits64 (by omega) (by omega)), Kv.ix_num hS2 (by omega) ?_⟩
  walk_at "rd"
  have n4 := Kv.num_in hn 4
  have six : ∃ x, ([.int 0, .int (u / 2), .int ((u + 1) / 2), .int (u / 2 - 1), .int (u / 2 + 1), .int (ns.getD 4 0)] : List V)[(ns.getD 5 0 % 6).toNat]? = some (.int x) := by
    have h6 : (ns.getD 5 0 % 6).toNat < 6 := by omega
    generalize (ns.getD 5 0 % 6).toNat = k at h6
    rcases (by omega : k = 0 ∨ k = 1 ∨ k = 2 ∨ k = 3 ∨ k = 4 ∨ k = 5) with e | e | e | e | e | e <;> subst e <;> exact ⟨_, rfl⟩
  obtain ⟨x, hx⟩ := six
  refine Kv.ix_at (SqL.of upd_same) (by omega) hx ?_
  walk_at "rd"
  refine ⟨by omega, by decide, fun p hp => ?_⟩
  have x0 : 0 ≤ x % u := Int.emod_nonneg _ (by omega)
  have x1 : x % u < u := Int.emod_lt_of_pos _ (by omega)
  have m1 : u * d ≤ 10000000000000 * 1000000000000 := by
    have a1 := Int.mul_le_mul_of_nonneg_left d2 (show 0 ≤ u by omega)
    have a2 := Int.mul_le_mul_of_nonneg_right u2 (show (0 : Int) ≤ 1000000000000 by decide)
    omega
  have m2 : -(10000000000000 * 1000000000000) ≤ u * d := by
    have a1 := Int.mul_le_mul_of_nonneg_left d1 (show 0 ≤ u by omega)
    have a2 := Int.mul_le_mul_of_nonneg_right u2 (show (0 : Int) ≤ 1000000000000 by decide)
    omega
  exact hq p _ _ _ (by omega) (by omega) u1 (by omega) ((Kv.same_upd hl2).trans (Kv.same_upd hp)) (Kv.fresh_was hp) upd_same
/-- some word -/
def spWord (K : PySem.W.Frag) : Sp := fun vs H Q _ => ∃ (a : Addr) (ns : List Int), vs = [.ref a] ∧ SqL K H a (ns.map V.int) ∧ 14 ≤ ns.length ∧ (∀ z ∈ ns, 0 ≤ z ∧ z < 10000000000000) ∧ ∀ z, Q (.str z) H
def invWord (a : Addr) (H : Hp) (le : Str) : Nat → L2.St → Hp → Prop := fun i σ' H' => ∃ (z : Str) (k : Option V), σ' = [some (.ref a), some (.str le), some (.str z), k] ∧ z.length = i ∧ H' = H
theorem ok_L_word (T : Txt K mg) : FnOk P w K mg base CX0 1 T.a__law_word T.d__law_word ["numbers"] (spWord K) := by
  refine T.F__law_word.ok sc_L_word (fun vs H Q E h => by obtain ⟨_, _, rfl, _⟩ := h; rfl) (fun cdv A outer s H vs Q E hr h => ?_)
  refine ⟨_, 
      (pss_cons (ps_set (i := 1) sc_L_word.nd rfl (Or.inl rfl) pe_str)
      (pss_cons (ps_set (i := 2) sc_L_word.nd rfl (Or.inl rfl) pe_str)
      (pss_cons (ps_for PassesOwn.never rfl (pi_range1 (by rfl) T.n_range (pa_cons (pe_op op_mod (pe_ix ix_list (pv 0) pe_int (fun _ _ => rfl)) pe_int) pa_nil)) (pg_name (i := 3) sc_L_word.nd rfl (Or.inl rfl)) 
        (pss_one (ps_set (i := 2) sc_L_word.nd rfl (Or.inl rfl) (pe_op op_add_str (pv 2) (pe_ix ix_str (pv 1) (pe_op op_mod (pe_ix ix_list (pv 0) (pe_op op_add pe_int (pv 3)) (fun _ _ => rfl)) pe_int) (fun _ _ => rfl))))))
      (pss_one (ps_ret (pv 2)))))), ?_⟩
  obtain ⟨a, ns, rfl, hS, hl, hn, hq⟩ := h
  walk_at "rd"
  refine Kv.tfor_range1 (n := ns.getD 6 0 % 7) (fun Q h => by walk_at "rd"; refine Kv.ix_num hS (by omega) ?_; walk_at "rd"; exact h) (by omega) (invWord a H _) ⟨_, _, rfl, rfl, rfl⟩ ?_ ?_
  · rintro i σ' H' hi ⟨z, k, rfl, hz, rfl⟩
    walk_at "rd"
    refine Kv.ix_num hS (by omega) ?_
    walk_at "rd"
    refine Kv.ix_sign (by decide +kernel) ⟨by omega, by have e : ("abcdefghijklmnopqrstuvwxyz" : Str).length = 26 := (by decide +kernel); rw [e]; omega⟩ fun c _ => ?_
    walk_at "rd"
    refine ⟨Nat.le_trans (show z.length + 1 ≤ 100 by omega) (by decide), _, _, rfl, ?_, rfl⟩
    rw [PySem.Str.length_append, hz]
    rfl
  · rintro σ' H' ⟨z, k, rfl, hz, rfl⟩
    walk_at "rd"
    exact hq _
def invLaw (a wl : Addr) (H1 : Hp) : Nat → L2.St → Hp → Prop := fun _ σ' H' => ∃ v2 v3 v4 v5 v6 v7 v8 v9 v10 : Option V, σ' = [some (.ref a), some (.ref wl), v2, v3, v4, v5, v6, v7, v8, v9, v10] ∧ Same H1 H'
def invWays (a wl nl : Addr) (o u : Int) (H1 : Hp) : Nat → L2.St → Hp → Prop := fun _ σ' H' => ∃ v2 v6 v7 v8 v9 v10 : Option V, σ' = [some (.ref a), some (.ref wl), v2, some (.ref nl), some (.int o), some (.int u), v6, v7, v8, v9, v10] ∧ Same H1 H'
def invWrong (a wl nl : Addr) (o u : Int) (way : Str) (k : Int) (z : Str) (H1 : Hp) : Nat → L2.St → Hp → Prop := fun _ σ' H' => ∃ v2 v9 v10 : Option V, σ' = [some (.ref a), some (.ref wl), v2, some (.ref nl), some (.int o), some (.int u), some (.str way), some (.int k), some (.str z), v9, v10] ∧ Same H1 H'
theorem ok_law (T : Txt K mg) : FnOk P w K mg base CX0 4 T.a_law T.d_law ["script"] (Kv.spLaw K) := by
  refine T.F_law.ok sc_law (fun vs H Q E h => ?_) (fun cdv A outer s H vs Q E hr h => ?_)
  · obtain ⟨a, ns, rfl, _⟩ := h
    rfl
  refine ⟨_, 
      (pss_cons (ps_set (i := 1) sc_law.nd rfl (Or.inl rfl) (pe_lst (pa_cons pe_str (pa_cons pe_str (pa_cons pe_str (pa_cons pe_str pa_nil))))))
      (pss_cons (ps_for PassesOwn.never rfl (pi_list (pe_op Kv.op_catS (pe_lst (pa_cons pe_int pa_nil)) (pv 0))) (pg_name (i := 2) sc_law.nd rfl (Or.inl rfl)) 
        (pss_cons (ps_set (i := 3) sc_law.nd rfl (Or.inl rfl) (pe_call (ok_L_numbers T) (hr.mono (by decide : 1 ≤ _)) (by rfl) T.g__law_numbers T.F__law_numbers.kp T.b__law_numbers .nil pass0 (pa_cons (pv 2) (pa_cons pe_int pa_nil))))
        (pss_cons (ps_asg (pe_call (ok_L_case T) (hr.mono (by decide : 1 ≤ _)) (by rfl) T.g__law_case T.F__law_case.kp T.b__law_case .nil pass0 (pa_cons (pv 3) pa_nil)) (pg_tup (n := 2) (by rfl) (pgs_cons (pg_name (i := 4) sc_law.nd rfl (Or.inl rfl)) (pgs_cons (pg_name (i := 5) sc_law.nd rfl (Or.inl rfl)) pgs_nil))))
        (pss_cons (ps_for PassesOwn.never rfl (pi_list (pv 1)) (pg_name (i := 6) sc_law.nd rfl (Or.inl rfl)) 
          (pss_cons (ps_if (pt_not (pt_val (pe_call (ok_L_right T) (hr.mono (by decide : 3 ≤ _)) (by rfl) T.g__law_right T.F__law_right.kp T.b__law_right .nil pass0 (pa_cons (pv 4) (pa_cons (pv 5) (pa_cons (pv 6) pa_nil)))))) 
            (pss_one (ps_ret pe_bl)) pss_nil)
          (pss_cons (ps_if (PW.pt (pw_or (pt_cmpR (op_neD hr.units) (pe_call (ok_L_refusal T) (hr.mono (by decide : 3 ≤ _)) (by rfl) T.g__law_refusal T.F__law_refusal.kp T.b__law_refusal .nil pass0 (pa_cons (pv 4) (pa_cons pe_int (pa_cons (pv 6) pa_nil)))) (pe_lst (pa_cons pe_str pa_nil)) (nomark _)) (pw_or1 (pt_cmpR (op_neD hr.units) (pe_call (ok_L_refusal T) (hr.mono (by decide : 3 ≤ _)) (by rfl) T.g__law_refusal T.F__law_refusal.kp T.b__law_refusal .nil pass0 (pa_cons (pv 4) (pa_cons (pe_op op_sub pe_int (pv 5)) (pa_cons (pv 6) pa_nil)))) (pe_lst (pa_cons pe_str pa_nil)) (nomark _))))) 
            (pss_one (ps_ret pe_bl)) pss_nil)
          (pss_cons (ps_set (i := 7) sc_law.nd rfl (Or.inl rfl) (pe_op op_mod (pe_ix ix_list (pv 3) pe_int (fun _ _ => rfl)) (pe_callB call_len_str (by rfl) T.n_len PySem.boot_len (pa_cons (pv 6) pa_nil))))
          (pss_cons (ps_set (i := 8) sc_law.nd rfl (Or.inl rfl) (pe_op op_add_str (pe_op op_add_str (pe_slice sl_str (pv 6) po_none (po_some (pv 7))) (pe_upper (pe_ix ix_str (pv 6) (pv 7) (fun _ _ => rfl)))) (pe_slice sl_str (pv 6) (po_some (pe_op op_add (pv 7) pe_int)) po_none)))
          (pss_one (ps_for PassesOwn.never rfl (pi_list (pe_lst (pa_cons (pe_op op_add_str (pv 6) (pe_ix ix_str pe_str (pe_op op_mod (pe_ix ix_list (pv 3) pe_int (fun _ _ => rfl)) pe_int) (fun _ _ => rfl))) (pa_cons (pv 8) (pa_cons (pe_op op_add_str pe_str (pv 6)) pa_nil))))) (pg_name (i := 9) sc_law.nd rfl (Or.inl rfl)) 
            (pss_one (ps_if (pt_cmpR (op_neD hr.units) (pe_call (ok_L_refusal T) (hr.mono (by decide : 3 ≤ _)) (by rfl) T.g__law_refusal T.F__law_refusal.kp T.b__law_refusal .nil pass0 (pa_cons (pv 4) (pa_cons (pv 5) (pa_cons (pv 9) pa_nil)))) (pe_lst (pa_cons pe_str pa_nil)) (nomark _)) 
              (pss_one (ps_ret pe_bl)) pss_nil)))))))))
        (pss_cons (ps_set (i := 10) sc_law.nd rfl (Or.inl rfl) (pe_call (ok_L_word T) (hr.mono (by decide : 1 ≤ _)) (by rfl) T.g__law_word T.F__law_word.kp T.b__law_word .nil pass0 (pa_cons (pv 3) pa_nil)))
        (pss_one (ps_if (pt_cmpR op_in_seq (pv 10) (pv 1) (by rfl)) 
          (pss_one (ps_if (pt_not (pt_val (pe_call (ok_L_right T) (hr.mono (by decide : 3 ≤ _)) (by rfl) T.g__law_right T.F__law_right.kp T.b__law_right .nil pass0 (pa_cons (pv 4) (pa_cons (pv 5) (pa_cons (pv 10) pa_nil)))))) 
            (pss_one (ps_ret pe_bl)) pss_nil)) 
          (pss_one (ps_if (pt_cmpR (op_neD hr.units) (pe_call (ok_L_refusal T) (hr.mono (by decide : 3 ≤ _)) (by rfl) T.g__law_refusal T.F__law_refusal.kp T.b__law_refusal .nil pass0 (pa_cons (pv 4) (pa_cons (pv 5) (pa_cons (pv 10) pa_nil)))) (pe_lst (pa_cons pe_str pa_nil)) (nomark _)) 
            (pss_one (ps_ret pe_bl)) pss_nil)))))))))
      (pss_one (ps_ret pe_bl)))), ?_⟩
  obtain ⟨a, ns, rfl, hS, hl, hb, hq⟩ := h
  walk_at "st"
  refine ⟨by decide, fun wl hwl => ?_⟩
  subst_vars
  refine Kv.seq_step fun U hU => ?_
  refine Kv.tfor_five (K := K) (a := a) (xs := ns.map V.int) rfl ((Kv.same_upd hwl).seq hS) (by rw [List.length_map]; omega) fun cl H1 s1 hc1 fc => ?_
  refine ⟨invLaw a wl H1, ⟨_, _, _, _, _, _, _, _, _, rfl, Same.refl _⟩, ?_, ?_, ?_⟩
  · rintro i σ' H' _ ⟨_, _, _, _, _, _, _, _, _, rfl, hs⟩
    exact SqL.of (hs _ _ hc1)
  · rintro i x σ' H' hx ⟨_, _, _, _, _, _, _, _, _, rfl, hs⟩
    obtain ⟨z, hz, bz⟩ : ∃ z, x = .int z ∧ Builtin.Int.intBits z ≤ 1048576 := by
      cases i with
      | zero => exact ⟨5, (Option.some.inj hx).symm, by decide⟩
      | succ j =>
        obtain ⟨z, e1, e2⟩ := Kv.ref_num (ns := ns) (i := j) hx
        exact ⟨z, e2, hb z (List.mem_of_getElem? e1)⟩
    subst hz
    have hwl2 : H' wl = some (.lst [.str "down", .str "up", .str "even", .str "away"]) := hs _ _ (s1 _ _ upd_same)
    walk_at "st"
    refine ⟨z, 14, rfl, bz, by decide, by decide, fun ms nl H2 ml mr s2 f2 hn2 => ?_⟩
    walk_at "nx"
    refine ⟨nl, ms, rfl, SqL.of hn2, by omega, mr, fun p o u H3 o1 o2 u1 u2 s3 f3 hp3 => Kv.gtupN2 (SqT.of hp3) ?_⟩
    walk_at "nx"
    have s4 : Same H' H3 := s2.trans s3
    have bo : Builtin.Int.intBits o ≤ 100 := Kv.bitsPow (by decide) o1 o2
    have bu : Builtin.Int.intBits u ≤ 64 := Kv.bits64 (by omega) (by omega)
    have bn : Builtin.Int.intBits (0 - u) ≤ 64 := Kv.bits64 (by omega) (by omega)
    refine Kv.tfor_lvar (xs := [.str "down", .str "up", .str "even", .str "away"]) rfl (SqL.of (s4 _ _ hwl2)) (invWays a wl nl o u H3) ⟨_, _, _, _, _, _, rfl, Same.refl _⟩ ?_ ?_ ?_
    · rintro j σ' H4 _ ⟨_, _, _, _, _, _, rfl, s5⟩
      exact SqL.of (s5 _ _ (s4 _ _ hwl2))
    · rintro j x σ' H4 hx ⟨_, _, _, _, _, _, rfl, s5⟩
      obtain ⟨way, rfl, hway⟩ : ∃ way, x = .str way ∧ way ∈ ways := by
        have h4 : j < 4 := (List.getElem?_eq_some_iff.mp hx).1
        rcases (by omega : j = 0 ∨ j = 1 ∨ j = 2 ∨ j = 3) with e | e | e | e <;> subst e <;> exact ⟨_, (Option.some.inj hx).symm, by simp [ways]⟩
      walk_at "st"
      refine ⟨o, u, way, rfl, o1, o2, u1, u2, hway, fun H5 s6 => ?_⟩
      walk_at "nx"
      refine ⟨o, 0, way, rfl, by omega, by decide, .inl (by decide), fun p1 H6 s7 f7 hp7 => ⟨by decide, fun p2 hp8 => Kv.ne_kind (Kv.same_upd hp8 _ _ hp7) upd_same (by decide +kernel) ?_⟩⟩
      walk_at "rd"
      refine ⟨o, 0 - u, way, rfl, by omega, by omega, .inl (by omega), fun p3 H8 s9 f9 hp9 => ⟨by decide, fun p4 hp10 => Kv.ne_kind (Kv.same_upd hp10 _ _ hp9) upd_same (by decide +kernel) ?_⟩⟩
      walk_at "nx"
      have sx : Same H' (upd H8 p4 (HO.lst [V.str "BadValue"])) := s4.trans (s5.trans (s6.trans (s7.trans ((Kv.same_upd hp8).trans (s9.trans (Kv.same_upd hp10))))))
      have sy : Same H3 (upd H8 p4 (HO.lst [V.str "BadValue"])) := s5.trans (s6.trans (s7.trans ((Kv.same_upd hp8).trans (s9.trans (Kv.same_upd hp10)))))
      generalize upd H8 p4 (HO.lst [V.str (Str.ofString "BadValue")]) = H9 at *
      have hnl : SqL K H9 nl (ms.map V.int) := SqL.of (sy _ _ (s3 _ _ hn2))
      have wlen : 1 ≤ way.length ∧ way.length ≤ 10 := by
        have z := List.all_eq_true.mp len_all way hway
        simpa using z
      have k0 : 0 ≤ ms.getD 12 0 % (way.length : Int) := Int.emod_nonneg _ (by omega)
      have k1 : ms.getD 12 0 % (way.length : Int) < (way.length : Int) := Int.emod_lt_of_pos _ (by omega)
      refine Kv.ix_num hnl (by omega) ?_
      walk_at "rd"
      refine ⟨Nat.le_trans wlen.2 (by decide), by omega, ?_⟩
      obtain ⟨k, hk⟩ := Int.eq_ofNat_of_zero_le k0
      rw [hk] at k1 ⊢
      refine ⟨way, rfl, Nat.le_trans wlen.2 (by decide), ?_⟩
      refine Kv.ix_sign (Nat.le_trans wlen.2 (by decide)) ⟨by omega, k1⟩ fun c hc => ?_
      walk_at "rd"
      have tb := List.all_eq_true.mp (List.all_eq_true.mp turns_all way hway) k (List.mem_range.mpr (by omega))
      unfold turns at tb
      rw [show way.cps.toList[k]? = some c from hc] at tb
      simp only [Bool.and_eq_true, decide_eq_true_eq] at tb
      obtain ⟨⟨t1, t2⟩, t3⟩ := tb
      refine ⟨⟨_, rfl⟩, Nat.le_trans (show 1 ≤ 100 by decide) (by decide), Nat.le_trans t2 (by decide), way, rfl, Nat.le_trans wlen.2 (by decide), ?_⟩
      walk_at "rd"
      refine ⟨Nat.le_trans t3 (by decide), ?_⟩
      generalize cutS way none (some (k : Int)) ++ Txt.upper ⟨#[c]⟩ ++ cutS way (some ((k : Int) + 1)) none = turned at t1
      have k50 : 0 ≤ ms.getD 13 0 % 5 := by omega
      have k51 : (ms.getD 13 0 % 5).toNat < 5 := by omega
      have k52 : (ms.getD 13 0 % 5).toNat < (("deps " : Str).cps.toList).length := Nat.lt_of_lt_of_le k51 (by decide +kernel)
      obtain ⟨c5, hc5⟩ : ∃ c, (("deps " : Str).cps.toList)[(ms.getD 13 0 % 5).toNat]? = some c := ⟨_, List.getElem?_eq_getElem k52⟩
      have lb := List.all_eq_true.mp (List.all_eq_true.mp longer_all way hway) _ (List.mem_range.mpr k51)
      unfold longer at lb
      rw [hc5] at lb
      have lb : way ++ ⟨#[c5]⟩ ∉ ways := of_decide_eq_true lb
      have bb : (" " ++ way : Str) ∉ ways := of_decide_eq_true (List.all_eq_true.mp blank_all way hway)
      refine Kv.tfor_disp [.str (way ++ ⟨#[c5]⟩), .str turned, .str (" " ++ way)] (by show 3 ≤ 1000; decide) (fun Q2 hq2 => ?_) fun b H10 s11 hb2 fb => ?_
      · walk_at "rd"
        refine Kv.ix_num hnl (by omega) ?_
        walk_at "rd"
        refine Kv.ix_signc (by decide +kernel) k50 hc5 ?_
        walk_at "rd"
        refine ⟨Nat.le_trans (show way.length + 1 ≤ 100 by omega) (by decide), Nat.le_trans (show 1 + way.length ≤ 100 by omega) (by decide), hq2 _ (Same.refl _)⟩
      · refine ⟨invWrong a wl nl o u way k turned H10, ⟨_, _, _, rfl, Same.refl _⟩, ?_, ?_, ?_⟩
        · rintro i2 σ' H11 ⟨_, _, _, rfl, s12⟩
          exact SqL.of (s12 _ _ hb2)
        · rintro i2 x σ' H11 hx2 ⟨_, _, _, rfl, s12⟩
          obtain ⟨wrong, rfl, hwr⟩ : ∃ wrong, x = .str wrong ∧ wrong ∉ ways := by
            have h3 : i2 < 3 := (List.getElem?_eq_some_iff.mp hx2).1
            rcases (by omega : i2 = 0 ∨ i2 = 1 ∨ i2 = 2) with e | e | e <;> subst e
            · exact ⟨_, (Option.some.inj hx2).symm, lb⟩
            · exact ⟨_, (Option.some.inj hx2).symm, t1⟩
            · exact ⟨_, (Option.some.inj hx2).symm, bb⟩
          walk_at "rd"
          refine ⟨o, u, wrong, rfl, by omega, by omega, .inr hwr, fun p1 H12 s13 f13 hp13 => ⟨by decide, fun p2 hp14 => Kv.ne_kind (Kv.same_upd hp14 _ _ hp13) upd_same (by decide +kernel) ?_⟩⟩
          walk_at "rd"
          exact ⟨_, _, _, rfl, s12.trans (s13.trans (Kv.same_upd hp14))⟩
        · rintro σ' H11 ⟨_, _, _, rfl, s12⟩
          exact ⟨_, _, _, _, _, _, rfl, sy.trans (s11.trans s12)⟩
    · rintro σ' H4 ⟨_, _, _, _, _, _, rfl, s5⟩
      walk_at "nx"
      have hnl : SqL K H4 nl (ms.map V.int) := SqL.of (s5 _ _ (s3 _ _ hn2))
      refine ⟨nl, ms, rfl, hnl, by omega, mr, fun word => ?_⟩
      walk_at "nx"
      refine ⟨wl, _, rfl, .inl (SqL.of (s5 _ _ (s4 _ _ hwl2))), rfl, by decide, ?_⟩
      rw [in_ways]
      walk_at "rd"
      by_cases hw : word ∈ ways
      · rw [if_pos hw]
        refine ⟨o, u, word, rfl, o1, o2, u1, u2, hw, fun H5 s6 => ?_⟩
        walk_at "rd"
        exact ⟨_, _, _, _, _, _, _, _, _, rfl, hs.trans (s4.trans (s5.trans s6))⟩
      · rw [if_neg hw]
        refine ⟨o, u, word, rfl, by omega, by omega, .inr hw, fun p1 H12 s13 f13 hp13 => ⟨by decide, fun p2 hp14 => Kv.ne_kind (Kv.same_upd hp14 _ _ hp13) upd_same (by decide +kernel) ?_⟩⟩
        walk_at "rd"
        exact ⟨_, _, _, _, _, _, _, _, _, rfl, hs.trans (s4.trans (s5.trans (s13.trans (Kv.same_upd hp14))))⟩
  · rintro σ' H' ⟨_, _, _, _, _, _, _, _, _, rfl, hs⟩
    walk_at "nx"
    exact hq _
end
theorem txt_mk {K : PySem.W.Frag} {mg : Str → Option Value} {h : Heap} (X : K.In h) (G : h.Ns mainGlobals mg)
    {C_BadValue : Addr}
    {C_BadDay : Addr}
    {C_Missing : Addr}
    {C_Refused : Addr}
    {C_Full : Addr}
    {C_NotAllowed : Addr}
    {C_Damaged : Addr}
    {C_BankError : Addr}
    {f_divide_rounded : Addr} {od_divide_rounded an_divide_rounded : Option Addr} {sl_divide_rounded : Array (Option Value)} {oc_divide_rounded kV_divide_rounded dc_divide_rounded pm_divide_rounded cd_divide_rounded ct_divide_rounded : Value}
    {f_round_half : Addr} {od_round_half an_round_half : Option Addr} {sl_round_half : Array (Option Value)} {oc_round_half kV_round_half dc_round_half pm_round_half cd_round_half ct_round_half : Value}
    {f__law_numbers : Addr} {od__law_numbers an__law_numbers : Option Addr} {sl__law_numbers : Array (Option Value)} {oc__law_numbers kV__law_numbers dc__law_numbers pm__law_numbers cd__law_numbers ct__law_numbers : Value}
    {f__law_kinds : Addr} {od__law_kinds an__law_kinds : Option Addr} {sl__law_kinds : Array (Option Value)} {oc__law_kinds kV__law_kinds dc__law_kinds pm__law_kinds cd__law_kinds ct__law_kinds : Value}
    {f__law_is_integer : Addr} {od__law_is_integer an__law_is_integer : Option Addr} {sl__law_is_integer : Array (Option Value)} {oc__law_is_integer kV__law_is_integer dc__law_is_integer pm__law_is_integer cd__law_is_integer ct__law_is_integer : Value}
    {f__law_refusal : Addr} {od__law_refusal an__law_refusal : Option Addr} {sl__law_refusal : Array (Option Value)} {oc__law_refusal kV__law_refusal dc__law_refusal pm__law_refusal cd__law_refusal ct__law_refusal : Value}
    {f__law_right : Addr} {od__law_right an__law_right : Option Addr} {sl__law_right : Array (Option Value)} {oc__law_right kV__law_right dc__law_right pm__law_right cd__law_right ct__law_right : Value}
    {f__law_case : Addr} {od__law_case an__law_case : Option Addr} {sl__law_case : Array (Option Value)} {oc__law_case kV__law_case dc__law_case pm__law_case cd__law_case ct__law_case : Value}
    {f__law_word : Addr} {od__law_word an__law_word : Option Addr} {sl__law_word : Array (Option Value)} {oc__law_word kV__law_word dc__law_word pm__law_word cd__law_word ct__law_word : Value}
    {f_law : Addr} {od_law an_law : Option Addr} {sl_law : Array (Option Value)} {oc_law kV_law dc_law pm_law cd_law ct_law : Value}
    {t_WAYS : Addr} {td_WAYS : Option Addr} {ti_WAYS : Array Value} {tn_WAYS : Nat} {ts_WAYS : Array (Option Value)}
    (e_BadValue : PySem.W.nsIn K mainGlobals "BadValue" = some (some (.ref C_BadValue)))
    (e_BadDay : PySem.W.nsIn K mainGlobals "BadDay" = some (some (.ref C_BadDay)))
    (e_Missing : PySem.W.nsIn K mainGlobals "Missing" = some (some (.ref C_Missing)))
    (e_Refused : PySem.W.nsIn K mainGlobals "Refused" = some (some (.ref C_Refused)))
    (e_Full : PySem.W.nsIn K mainGlobals "Full" = some (some (.ref C_Full)))
    (e_NotAllowed : PySem.W.nsIn K mainGlobals "NotAllowed" = some (some (.ref C_NotAllowed)))
    (e_Damaged : PySem.W.nsIn K mainGlobals "Damaged" = some (some (.ref C_Damaged)))
    (e_BankError : PySem.W.nsIn K mainGlobals "BankError" = some (some (.ref C_BankError)))
    (eAll : Kv.errAll K (fun e => match e with | .badValue => C_BadValue | .badDay => C_BadDay | .missing => C_Missing | .refused => C_Refused | .full => C_Full | .notAllowed => C_NotAllowed | .damaged => C_Damaged) C_BankError = true)
    (a_divide_rounded : PySem.W.nsIn K mainGlobals "divide_rounded" = some (some (.ref f_divide_rounded)))
    (l_divide_rounded : K.lookup f_divide_rounded = some ⟨oc_divide_rounded, od_divide_rounded, .func (PySem.W.fnOf "divide_rounded" "divide_rounded" (defArgs s_divide_rounded) (defBody s_divide_rounded) (defScope s_divide_rounded) .none kV_divide_rounded dc_divide_rounded pm_divide_rounded an_divide_rounded cd_divide_rounded ct_divide_rounded), sl_divide_rounded⟩)
    (c_divide_rounded : PySem.W.codeIn K cd_divide_rounded "divide_rounded" = true)
    (k_divide_rounded : PySem.W.keepIn K (.ref f_divide_rounded) = true)
    (a_round_half : PySem.W.nsIn K mainGlobals "round_half" = some (some (.ref f_round_half)))
    (l_round_half : K.lookup f_round_half = some ⟨oc_round_half, od_round_half, .func (PySem.W.fnOf "round_half" "round_half" (defArgs s_round_half) (defBody s_round_half) (defScope s_round_half) .none kV_round_half dc_round_half pm_round_half an_round_half cd_round_half ct_round_half), sl_round_half⟩)
    (c_round_half : PySem.W.codeIn K cd_round_half "round_half" = true)
    (k_round_half : PySem.W.keepIn K (.ref f_round_half) = true)
    (a__law_numbers : PySem.W.nsIn K mainGlobals "_law_numbers" = some (some (.ref f__law_numbers)))
    (l__law_numbers : K.lookup f__law_numbers = some ⟨oc__law_numbers, od__law_numbers, .func (PySem.W.fnOf "_law_numbers" "_law_numbers" (defArgs s_L_numbers) (defBody s_L_numbers) (defScope s_L_numbers) .none kV__law_numbers dc__law_numbers pm__law_numbers an__law_numbers cd__law_numbers ct__law_numbers), sl__law_numbers⟩)
    (c__law_numbers : PySem.W.codeIn K cd__law_numbers "_law_numbers" = true)
    (k__law_numbers : PySem.W.keepIn K (.ref f__law_numbers) = true)
    (a__law_kinds : PySem.W.nsIn K mainGlobals "_law_kinds" = some (some (.ref f__law_kinds)))
    (l__law_kinds : K.lookup f__law_kinds = some ⟨oc__law_kinds, od__law_kinds, .func (PySem.W.fnOf "_law_kinds" "_law_kinds" (defArgs s_L_kinds) (defBody s_L_kinds) (defScope s_L_kinds) .none kV__law_kinds dc__law_kinds pm__law_kinds an__law_kinds cd__law_kinds ct__law_kinds), sl__law_kinds⟩)
    (c__law_kinds : PySem.W.codeIn K cd__law_kinds "_law_kinds" = true)
    (k__law_kinds : PySem.W.keepIn K (.ref f__law_kinds) = true)
    (a__law_is_integer : PySem.W.nsIn K mainGlobals "_law_is_integer" = some (some (.ref f__law_is_integer)))
    (l__law_is_integer : K.lookup f__law_is_integer = some ⟨oc__law_is_integer, od__law_is_integer, .func (PySem.W.fnOf "_law_is_integer" "_law_is_integer" (defArgs s_L_is_integer) (defBody s_L_is_integer) (defScope s_L_is_integer) .none kV__law_is_integer dc__law_is_integer pm__law_is_integer an__law_is_integer cd__law_is_integer ct__law_is_integer), sl__law_is_integer⟩)
    (c__law_is_integer : PySem.W.codeIn K cd__law_is_integer "_law_is_integer" = true)
    (k__law_is_integer : PySem.W.keepIn K (.ref f__law_is_integer) = true)
    (a__law_refusal : PySem.W.nsIn K mainGlobals "_law_refusal" = some (some (.ref f__law_refusal)))
    (l__law_refusal : K.lookup f__law_refusal = some ⟨oc__law_refusal, od__law_refusal, .func (PySem.W.fnOf "_law_refusal" "_law_refusal" (defArgs s_L_refusal) (defBody s_L_refusal) (defScope s_L_refusal) .none kV__law_refusal dc__law_refusal pm__law_refusal an__law_refusal cd__law_refusal ct__law_refusal), sl__law_refusal⟩)
    (c__law_refusal : PySem.W.codeIn K cd__law_refusal "_law_refusal" = true)
    (k__law_refusal : PySem.W.keepIn K (.ref f__law_refusal) = true)
    (a__law_right : PySem.W.nsIn K mainGlobals "_law_right" = some (some (.ref f__law_right)))
    (l__law_right : K.lookup f__law_right = some ⟨oc__law_right, od__law_right, .func (PySem.W.fnOf "_law_right" "_law_right" (defArgs s_L_right) (defBody s_L_right) (defScope s_L_right) .none kV__law_right dc__law_right pm__law_right an__law_right cd__law_right ct__law_right), sl__law_right⟩)
    (c__law_right : PySem.W.codeIn K cd__law_right "_law_right" = true)
    (k__law_right : PySem.W.keepIn K (.ref f__law_right) = true)
    (a__law_case : PySem.W.nsIn K mainGlobals "_law_case" = some (some (.ref f__law_case)))
    (l__law_case : K.lookup f__law_case = some ⟨oc__law_case, od__law_case, .func (PySem.W.fnOf "_law_case" "_law_case" (defArgs s_L_case) (defBody s_L_case) (defScope s_L_case) .none kV__law_case dc__law_case pm__law_case an__law_case cd__law_case ct__law_case), sl__law_case⟩)
    (c__law_case : PySem.W.codeIn K cd__law_case "_law_case" = true)
    (k__law_case : PySem.W.keepIn K (.ref f__law_case) = true)
    (a__law_word : PySem.W.nsIn K mainGlobals "_law_word" = some (some (.ref f__law_word)))
    (l__law_word : K.lookup f__law_word = some ⟨oc__law_word, od__law_word, .func (PySem.W.fnOf "_law_word" "_law_word" (defArgs s_L_word) (defBody s_L_word) (defScope s_L_word) .none kV__law_word dc__law_word pm__law_word an__law_word cd__law_word ct__law_word), sl__law_word⟩)
    (c__law_word : PySem.W.codeIn K cd__law_word "_law_word" = true)
    (k__law_word : PySem.W.keepIn K (.ref f__law_word) = true)
    (a_law : PySem.W.nsIn K mainGlobals "law" = some (some (.ref f_law)))
    (l_law : K.lookup f_law = some ⟨oc_law, od_law, .func (PySem.W.fnOf "law" "law" (defArgs s_law) (defBody s_law) (defScope s_law) .none kV_law dc_law pm_law an_law cd_law ct_law), sl_law⟩)
    (c_law : PySem.W.codeIn K cd_law "law" = true)
    (k_law : PySem.W.keepIn K (.ref f_law) = true)
    (v_WAYS : PySem.W.nsIn K mainGlobals "WAYS" = some (some (.ref t_WAYS)))
    (vl_WAYS : K.lookup t_WAYS = some ⟨.type "tuple", td_WAYS, .seq ti_WAYS tn_WAYS, ts_WAYS⟩)
    (vz_WAYS : ti_WAYS.size ≤ sizeLine)
    (vr_WAYS : Vals ([.str "down", .str "up", .str "even", .str "away"] : List V) ti_WAYS.toList)
    (n_abs : PySem.W.nsIn K mainGlobals "abs" = some none)
    (n_bool : PySem.W.nsIn K mainGlobals "bool" = some none)
    (n_divmod : PySem.W.nsIn K mainGlobals "divmod" = some none)
    (n_int : PySem.W.nsIn K mainGlobals "int" = some none)
    (n_isinstance : PySem.W.nsIn K mainGlobals "isinstance" = some none)
    (n_len : PySem.W.nsIn K mainGlobals "len" = some none)
    (n_range : PySem.W.nsIn K mainGlobals "range" = some none) :
    ∃ T : Txt K mg, T.d_law = PySem.W.fnOf "law" "law" (defArgs s_law) (defBody s_law) (defScope s_law) .none kV_law dc_law pm_law an_law cd_law ct_law :=
  ⟨{ exa := fun e => match e with | .badValue => C_BadValue | .badDay => C_BadDay | .missing => C_Missing | .refused => C_Refused | .full => C_Full | .notAllowed => C_NotAllowed | .damaged => C_Damaged,
       exg := fun e => by cases e <;> first | exact PySem.W.mg_of X G e_BadValue | exact PySem.W.mg_of X G e_BadDay | exact PySem.W.mg_of X G e_Missing | exact PySem.W.mg_of X G e_Refused | exact PySem.W.mg_of X G e_Full | exact PySem.W.mg_of X G e_NotAllowed | exact PySem.W.mg_of X G e_Damaged,
       a_BankError := C_BankError,
       g_BankError := PySem.W.mg_of X G e_BankError,
       exAll := eAll,
       a_divide_rounded := f_divide_rounded,
       d_divide_rounded := PySem.W.fnOf "divide_rounded" "divide_rounded" (defArgs s_divide_rounded) (defBody s_divide_rounded) (defScope s_divide_rounded) .none kV_divide_rounded dc_divide_rounded pm_divide_rounded an_divide_rounded cd_divide_rounded ct_divide_rounded,
       g_divide_rounded := PySem.W.mg_of X G a_divide_rounded,
       F_divide_rounded := fun_mk (st := s_divide_rounded) l_divide_rounded c_divide_rounded k_divide_rounded,
       b_divide_rounded := (fun_mk (st := s_divide_rounded) l_divide_rounded c_divide_rounded k_divide_rounded).binds (ps := ["over", "under", "way"]) fun _ _ _ _ _ _ us hl => match us, hl with | [_, _, _], _ => rfl,
       a_round_half := f_round_half,
       d_round_half := PySem.W.fnOf "round_half" "round_half" (defArgs s_round_half) (defBody s_round_half) (defScope s_round_half) .none kV_round_half dc_round_half pm_round_half an_round_half cd_round_half ct_round_half,
       g_round_half := PySem.W.mg_of X G a_round_half,
       F_round_half := fun_mk (st := s_round_half) l_round_half c_round_half k_round_half,
       b_round_half := (fun_mk (st := s_round_half) l_round_half c_round_half k_round_half).binds (ps := ["below", "way"]) fun _ _ _ _ _ _ us hl => match us, hl with | [_, _], _ => rfl,
       a__law_numbers := f__law_numbers,
       d__law_numbers := PySem.W.fnOf "_law_numbers" "_law_numbers" (defArgs s_L_numbers) (defBody s_L_numbers) (defScope s_L_numbers) .none kV__law_numbers dc__law_numbers pm__law_numbers an__law_numbers cd__law_numbers ct__law_numbers,
       g__law_numbers := PySem.W.mg_of X G a__law_numbers,
       F__law_numbers := fun_mk (st := s_L_numbers) l__law_numbers c__law_numbers k__law_numbers,
       b__law_numbers := (fun_mk (st := s_L_numbers) l__law_numbers c__law_numbers k__law_numbers).binds (ps := ["cell", "count"]) fun _ _ _ _ _ _ us hl => match us, hl with | [_, _], _ => rfl,
       a__law_kinds := f__law_kinds,
       d__law_kinds := PySem.W.fnOf "_law_kinds" "_law_kinds" (defArgs s_L_kinds) (defBody s_L_kinds) (defScope s_L_kinds) .none kV__law_kinds dc__law_kinds pm__law_kinds an__law_kinds cd__law_kinds ct__law_kinds,
       g__law_kinds := PySem.W.mg_of X G a__law_kinds,
       F__law_kinds := fun_mk (st := s_L_kinds) l__law_kinds c__law_kinds k__law_kinds,
       b__law_kinds := (fun_mk (st := s_L_kinds) l__law_kinds c__law_kinds k__law_kinds).binds (ps := ["error"]) fun _ _ _ _ _ _ us hl => match us, hl with | [_], _ => rfl,
       a__law_is_integer := f__law_is_integer,
       d__law_is_integer := PySem.W.fnOf "_law_is_integer" "_law_is_integer" (defArgs s_L_is_integer) (defBody s_L_is_integer) (defScope s_L_is_integer) .none kV__law_is_integer dc__law_is_integer pm__law_is_integer an__law_is_integer cd__law_is_integer ct__law_is_integer,
       g__law_is_integer := PySem.W.mg_of X G a__law_is_integer,
       F__law_is_integer := fun_mk (st := s_L_is_integer) l__law_is_integer c__law_is_integer k__law_is_integer,
       b__law_is_integer := (fun_mk (st := s_L_is_integer) l__law_is_integer c__law_is_integer k__law_is_integer).binds (ps := ["told"]) fun _ _ _ _ _ _ us hl => match us, hl with | [_], _ => rfl,
       a__law_refusal := f__law_refusal,
       d__law_refusal := PySem.W.fnOf "_law_refusal" "_law_refusal" (defArgs s_L_refusal) (defBody s_L_refusal) (defScope s_L_refusal) .none kV__law_refusal dc__law_refusal pm__law_refusal an__law_refusal cd__law_refusal ct__law_refusal,
       g__law_refusal := PySem.W.mg_of X G a__law_refusal,
       F__law_refusal := fun_mk (st := s_L_refusal) l__law_refusal c__law_refusal k__law_refusal,
       b__law_refusal := (fun_mk (st := s_L_refusal) l__law_refusal c__law_refusal k__law_refusal).binds (ps := ["over", "under", "way"]) fun _ _ _ _ _ _ us hl => match us, hl with | [_, _, _], _ => rfl,
       a__law_right := f__law_right,
       d__law_right := PySem.W.fnOf "_law_right" "_law_right" (defArgs s_L_right) (defBody s_L_right) (defScope s_L_right) .none kV__law_right dc__law_right pm__law_right an__law_right cd__law_right ct__law_right,
       g__law_right := PySem.W.mg_of X G a__law_right,
       F__law_right := fun_mk (st := s_L_right) l__law_right c__law_right k__law_right,
       b__law_right := (fun_mk (st := s_L_right) l__law_right c__law_right k__law_right).binds (ps := ["over", "under", "way"]) fun _ _ _ _ _ _ us hl => match us, hl with | [_, _, _], _ => rfl,
       a__law_case := f__law_case,
       d__law_case := PySem.W.fnOf "_law_case" "_law_case" (defArgs s_L_case) (defBody s_L_case) (defScope s_L_case) .none kV__law_case dc__law_case pm__law_case an__law_case cd__law_case ct__law_case,
       g__law_case := PySem.W.mg_of X G a__law_case,
       F__law_case := fun_mk (st := s_L_case) l__law_case c__law_case k__law_case,
       b__law_case := (fun_mk (st := s_L_case) l__law_case c__law_case k__law_case).binds (ps := ["numbers"]) fun _ _ _ _ _ _ us hl => match us, hl with | [_], _ => rfl,
       a__law_word := f__law_word,
       d__law_word := PySem.W.fnOf "_law_word" "_law_word" (defArgs s_L_word) (defBody s_L_word) (defScope s_L_word) .none kV__law_word dc__law_word pm__law_word an__law_word cd__law_word ct__law_word,
       g__law_word := PySem.W.mg_of X G a__law_word,
       F__law_word := fun_mk (st := s_L_word) l__law_word c__law_word k__law_word,
       b__law_word := (fun_mk (st := s_L_word) l__law_word c__law_word k__law_word).binds (ps := ["numbers"]) fun _ _ _ _ _ _ us hl => match us, hl with | [_], _ => rfl,
       a_law := f_law,
       d_law := PySem.W.fnOf "law" "law" (defArgs s_law) (defBody s_law) (defScope s_law) .none kV_law dc_law pm_law an_law cd_law ct_law,
       g_law := PySem.W.mg_of X G a_law,
       F_law := fun_mk (st := s_law) l_law c_law k_law,
       b_law := (fun_mk (st := s_law) l_law c_law k_law).binds (ps := ["script"]) fun _ _ _ _ _ _ us hl => match us, hl with | [_], _ => rfl,
       a_WAYS := t_WAYS,
       g_WAYS := PySem.W.mg_of X G v_WAYS,
       r_WAYS := rfl,
       t_WAYS := fun H => Or.inr ⟨_, _, _, vl_WAYS, rfl, rfl, vz_WAYS, vr_WAYS⟩,
       n_abs := PySem.W.mg_none_of X G n_abs,
       n_bool := PySem.W.mg_none_of X G n_bool,
       n_divmod := PySem.W.mg_none_of X G n_divmod,
       n_int := PySem.W.mg_none_of X G n_int,
       n_isinstance := PySem.W.mg_none_of X G n_isinstance,
       n_len := PySem.W.mg_none_of X G n_len,
       n_range := PySem.W.mg_none_of X G n_range }, rfl⟩
end K01
open PySem PySem.W PyProof.Rows
set_option maxRecDepth 100000 in
set_option maxHeartbeats 0 in
theorem PySem.Challenge.cw_corebank_k01_divide_rounded_holds : PySem.Challenge.rw_corebank_k01_divide_rounded.Holds := by
  w_on; o_law; k_head; (case hw => w_witness2)
  k_fill
  refine Kv.walk (l := PySem.Challenge.rw_corebank_k01_divide_rounded) (k := 4) rfl rfl ⟨rfl, by decide, by decide⟩ (fun w h Y => PySem.W.kIn_of Y) ?F
  case F =>
    intro w mg fa h KX G hmg
    obtain ⟨T, hT⟩ : ∃ T : K01.Txt _ mg, ∃ a b c d e f, T.d_law = PySem.W.fnOf "law" "law" (L2.defArgs K01.s_law) (L2.defBody K01.s_law) (L2.defScope K01.s_law) .none a b c d e f := by
      refine' (fun z => ⟨z.choose, _, _, _, _, _, _, z.choose_spec⟩) (K01.txt_mk KX G ?e_BadValue ?e_BadDay ?e_Missing ?e_Refused ?e_Full ?e_NotAllowed ?e_Damaged ?e_BankError ?eAll ?a_divide_rounded ?l_divide_rounded ?c_divide_rounded ?k_divide_rounded ?a_round_half ?l_round_half ?c_round_half ?k_round_half ?a__law_numbers ?l__law_numbers ?c__law_numbers ?k__law_numbers ?a__law_kinds ?l__law_kinds ?c__law_kinds ?k__law_kinds ?a__law_is_integer ?l__law_is_integer ?c__law_is_integer ?k__law_is_integer ?a__law_refusal ?l__law_refusal ?c__law_refusal ?k__law_refusal ?a__law_right ?l__law_right ?c__law_right ?k__law_right ?a__law_case ?l__law_case ?c__law_case ?k__law_case ?a__law_word ?l__law_word ?c__law_word ?k__law_word ?a_law ?l_law ?c_law ?k_law ?v_WAYS ?vl_WAYS ?vz_WAYS ?vr_WAYS ?n_abs ?n_bool ?n_divmod ?n_int ?n_isinstance ?n_len ?n_range)
      (case e_BadValue => k_is)
      (case e_BadDay => k_is)
      (case e_Missing => k_is)
      (case e_Refused => k_is)
      (case e_Full => k_is)
      (case e_NotAllowed => k_is)
      (case e_Damaged => k_is)
      (case e_BankError => k_is)
      (case eAll => first | rfl | with_unfolding_all rfl | kernel_rfl)
      (case a_divide_rounded => k_is)
      (case l_divide_rounded => k_is)
      (case c_divide_rounded => k_is)
      (case k_divide_rounded => k_is)
      (case a_round_half => k_is)
      (case l_round_half => k_is)
      (case c_round_half => k_is)
      (case k_round_half => k_is)
      (case a__law_numbers => k_is)
      (case l__law_numbers => k_is)
      (case c__law_numbers => k_is)
      (case k__law_numbers => k_is)
      (case a__law_kinds => k_is)
      (case l__law_kinds => k_is)
      (case c__law_kinds => k_is)
      (case k__law_kinds => k_is)
      (case a__law_is_integer => k_is)
      (case l__law_is_integer => k_is)
      (case c__law_is_integer => k_is)
      (case k__law_is_integer => k_is)
      (case a__law_refusal => k_is)
      (case l__law_refusal => k_is)
      (case c__law_refusal => k_is)
      (case k__law_refusal => k_is)
      (case a__law_right => k_is)
      (case l__law_right => k_is)
      (case c__law_right => k_is)
      (case k__law_right => k_is)
      (case a__law_case => k_is)
      (case l__law_case => k_is)
      (case c__law_case => k_is)
      (case k__law_case => k_is)
      (case a__law_word => k_is)
      (case l__law_word => k_is)
      (case c__law_word => k_is)
      (case k__law_word => k_is)
      (case a_law => k_is)
      (case l_law => k_is)
      (case c_law => k_is)
      (case k_law => k_is)
      (case v_WAYS => k_is)
      (case vl_WAYS => k_is)
      (case vz_WAYS => decide)
      (case vr_WAYS => exact (.cons ⟨_, rfl⟩ (.cons ⟨_, rfl⟩ (.cons ⟨_, rfl⟩ (.cons ⟨_, rfl⟩ .nil)))))
      (case n_abs => k_is)
      (case n_bool => k_is)
      (case n_divmod => k_is)
      (case n_int => k_is)
      (case n_isinstance => k_is)
      (case n_len => k_is)
      (case n_range => k_is)
    obtain ⟨_, _, _, _, _, _, hT⟩ := hT
    have ea : fa = T.a_law := by
      have z := hmg.symm.trans T.g_law
      cases z; rfl
    subst ea
    exact ⟨T.d_law, fun s u => by rw [hT]; exact .of_eq rfl, fun base _ _ => K01.ok_law T⟩
#print axioms PySem.Challenge.cw_corebank_k01_divide_rounded_holds
