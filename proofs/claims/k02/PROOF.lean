import PyProof.Rows.All
import Wide.All
import OpenK.AllK
import Wide.FinOn
import HandS.ForMost
import HandS.ForExc
import HandS.Wide
import HandS.WideMore
import HandS.WideBits
import HandS.EndBits
import HandS.IsInst
import HandS.ExcIs
import HandS.HotCalls
import HandS.StrMore
import HandS.Style
import HandS.TupAny
import HandS.SortInts
import HandS.SortKw
import HandS.Walk
import HandS.SortRule
import HandS.TupLe
import HandS.Codes
import PySem.Challenge.RW_corebank_k02_format_and_parse_agree
set_option Elab.async false
set_option linter.all false
set_option maxRecDepth 100000
set_option maxHeartbeats 4000000
/-! What all the proofs share: the library's errors, lists joined, the def that tells an error's kinds. -/
namespace Kv
open PySem PySem.Spec PyProof.Rows L2
abbrev Frag := PySem.W.Frag
inductive Er where
  | badValue | badDay | missing | refused | full | notAllowed | damaged
  deriving DecidableEq
def Er.nm : Er → Str
  | .badValue => "BadValue" | .badDay => "BadDay" | .missing => "Missing" | .refused => "Refused" | .full => "Full" | .notAllowed => "NotAllowed" | .damaged => "Damaged"
def Er.every : List Er := [.badValue, .badDay, .missing, .refused, .full, .notAllowed, .damaged]
theorem Er.mem (e : Er) : e ∈ Er.every := by cases e <;> decide
abbrev veChain : List Value := [.type "ValueError", .type "Exception", .type "BaseException", .type "object"]
/-- what the written part must say of one error class -/
def errOne (K : Frag) (a : Er → Addr) (b : Addr) (e : Er) : Bool :=
  PySem.W.excIn K (a e) veChain "ValueError.__new__" && PySem.W.keepIn K (.ref (a e)) && (PySem.W.subIn K (.ref (a e)) (.type "BaseException") == some true) && (PySem.W.typeIn K (.ref (a e)) == some (.type "type")) &&
  (PySem.W.findIn K (.ref (a e)) "__getattribute__" == some (some (.builtin "BaseException.__getattribute__"))) && (PySem.W.findIn K (.ref (a e)) "__getattr__" == some none) && PySem.W.hasDictIn K (a e) &&
  (PySem.W.findIn K (.ref (a e)) "__class__" == some (some (.builtin "object.__class__"))) && (PySem.W.mroIn K (a e) (.type "object") == some true) && (PySem.W.exmOne K (.ref (a e)) (.ref b) == some true) &&
  Er.every.all fun d => PySem.W.kitOne K (.ref (a e)) (.ref (a d)) == some (decide (e = d))
def errAll (K : Frag) (a : Er → Addr) (b : Addr) : Bool :=
  (PySem.W.specialIn K (.builtin "object.__class__") "__get__" == some (some (.builtin "getset_descriptor.__get__"))) && (PySem.W.takesIn K (.builtin "object.__class__") == some true) && Er.every.all (errOne K a b)
structure Errs (K : Frag) (mg : Str → Option Value) where
  exa : Er → Addr
  exg : ∀ e, mg e.nm = some (.ref (exa e))
  a_BankError : Addr
  g_BankError : mg "BankError" = some (.ref a_BankError)
  exAll : errAll K exa a_BankError = true
namespace Errs
variable {K : Frag} {mg : Str → Option Value} (T : Errs K mg)
theorem one (e : Er) : errOne K T.exa T.a_BankError e = true := by
  have h := T.exAll
  unfold errAll at h
  simp only [Bool.and_eq_true, List.all_eq_true] at h
  exact h.2 e e.mem
theorem split (e : Er) : PySem.W.excIn K (T.exa e) veChain "ValueError.__new__" = true ∧ PySem.W.keepIn K (.ref (T.exa e)) = true ∧ PySem.W.subIn K (.ref (T.exa e)) (.type "BaseException") = some true ∧ PySem.W.typeIn K (.ref (T.exa e)) = some (.type "type") ∧
    ExcC K (T.exa e) ∧ PySem.W.exmOne K (.ref (T.exa e)) (.ref T.a_BankError) = some true ∧ ∀ d, PySem.W.kitOne K (.ref (T.exa e)) (.ref (T.exa d)) = some (decide (e = d)) := by
  have h := T.one e
  have g := T.exAll
  unfold errOne at h
  unfold errAll at g
  simp only [Bool.and_eq_true, List.all_eq_true, beq_iff_eq] at h g
  obtain ⟨⟨⟨⟨⟨⟨⟨⟨⟨⟨h1, h2⟩, h3⟩, h4⟩, h5⟩, h6⟩, h7⟩, h8⟩, h9⟩, h10⟩, h11⟩ := h
  exact ⟨h1, h2, h3, h4, ⟨h5, h6, h3, h7, h8, g.1.1, g.1.2, h9⟩, h10, fun d => h11 d d.mem⟩
theorem exx (e : Er) : PySem.W.excIn K (T.exa e) veChain "ValueError.__new__" = true := (T.split e).1
theorem exk (e : Er) : PySem.W.keepIn K (.ref (T.exa e)) = true := (T.split e).2.1
theorem exb (e : Er) : PySem.W.subIn K (.ref (T.exa e)) (.type "BaseException") = some true := (T.split e).2.2.1
theorem ext (e : Er) : PySem.W.typeIn K (.ref (T.exa e)) = some (.type "type") := (T.split e).2.2.2.1
theorem exc (e : Er) : ExcC K (T.exa e) := (T.split e).2.2.2.2.1
theorem exm (e : Er) : PySem.W.exmOne K (.ref (T.exa e)) (.ref T.a_BankError) = some true := (T.split e).2.2.2.2.2.1
theorem exi (e d : Er) : PySem.W.kitOne K (.ref (T.exa e)) (.ref (T.exa d)) = some (decide (e = d)) := (T.split e).2.2.2.2.2.2 d
end Errs

/-- .. where the text has some of the classes alone -/
def errAllP (K : Frag) (a : Er → Addr) (b : Addr) (es : List Er) : Bool :=
  (PySem.W.specialIn K (.builtin "object.__class__") "__get__" == some (some (.builtin "getset_descriptor.__get__"))) && (PySem.W.takesIn K (.builtin "object.__class__") == some true) && es.all fun e =>
  PySem.W.excIn K (a e) veChain "ValueError.__new__" && PySem.W.keepIn K (.ref (a e)) && (PySem.W.subIn K (.ref (a e)) (.type "BaseException") == some true) && (PySem.W.typeIn K (.ref (a e)) == some (.type "type")) &&
  (PySem.W.exmOne K (.ref (a e)) (.ref b) == some true)
structure ErrsP (K : Frag) (mg : Str → Option Value) (es : List Er) where
  exa : Er → Addr
  exgP : ∀ e, e ∈ es → mg e.nm = some (.ref (exa e))
  a_BankError : Addr
  g_BankError : mg "BankError" = some (.ref a_BankError)
  exAll : errAllP K exa a_BankError es = true
namespace ErrsP
variable {K : Frag} {mg : Str → Option Value} {es : List Er} (T : ErrsP K mg es)
theorem split (e : Er) (he : e ∈ es) : PySem.W.excIn K (T.exa e) veChain "ValueError.__new__" = true ∧ PySem.W.keepIn K (.ref (T.exa e)) = true ∧ PySem.W.subIn K (.ref (T.exa e)) (.type "BaseException") = some true ∧ PySem.W.typeIn K (.ref (T.exa e)) = some (.type "type") ∧
    PySem.W.exmOne K (.ref (T.exa e)) (.ref T.a_BankError) = some true := by
  have g := T.exAll
  unfold errAllP at g
  simp only [Bool.and_eq_true, List.all_eq_true, beq_iff_eq] at g
  obtain ⟨⟨⟨⟨h1, h2⟩, h3⟩, h4⟩, h5⟩ := g.2 e he
  exact ⟨h1, h2, h3, h4, h5⟩
theorem exg (e : Er) (he : e ∈ es := by decide) : mg e.nm = some (.ref (T.exa e)) := T.exgP e he
theorem exx (e : Er) (he : e ∈ es := by decide) : PySem.W.excIn K (T.exa e) veChain "ValueError.__new__" = true := (T.split e he).1
theorem exk (e : Er) (he : e ∈ es := by decide) : PySem.W.keepIn K (.ref (T.exa e)) = true := (T.split e he).2.1
theorem exb (e : Er) (he : e ∈ es := by decide) : PySem.W.subIn K (.ref (T.exa e)) (.type "BaseException") = some true := (T.split e he).2.2.1
theorem ext (e : Er) (he : e ∈ es := by decide) : PySem.W.typeIn K (.ref (T.exa e)) = some (.type "type") := (T.split e he).2.2.2.1
theorem exm (e : Er) (he : e ∈ es := by decide) : PySem.W.exmOne K (.ref (T.exa e)) (.ref T.a_BankError) = some true := (T.split e he).2.2.2.2
end ErrsP

/-! ### two lists joined, whatever may be read of them -/
section
variable {X : Cx}
def rCatS (K : Frag) : R2 := fun x y H Q => ∃ l b xs zs, x = .ref l ∧ y = .ref b ∧ SqL K H l xs ∧ SqL K H b zs ∧ xs.length + zs.length ≤ sizeLine ∧ ∀ p, H p = none → Q (.ref p) (upd H p (.lst (xs ++ zs)))
theorem op_catS : OpR X (binaryOp .Add) (rCatS X.K) := by
  intro pins s σ H x y v u Q I rx ry h
  obtain ⟨l, b, xs, zs, e1, e2, hl, hb, hz, q⟩ := h
  subst e1 e2
  cases rx
  cases ry
  obtain ⟨i1, r1, p1, z1⟩ := I.list hl
  obtain ⟨i2, r2, p2, z2⟩ := I.list hb
  obtain ⟨⟨c1, d1, t1, w1⟩, n1, g1, k1, m1, j1⟩ := p1
  obtain ⟨⟨c2, d2, t2, w2⟩, n2, g2, k2, m2, j2⟩ := p2
  dsimp only at k1 m1 j1 k2 m2 j2
  subst k1 m1 j1 k2 m2 j2
  have l1 := r1.length
  have l2 := r2.length
  have fits : i1.toArray.size + i2.toArray.size ≤ sizeLine := by
    rw [List.size_toArray, List.size_toArray]
    omega
  have joined : i1.toArray ++ i2.toArray = (i1 ++ i2).toArray := by simp
  have meets := list_addW l b i1.toArray i2.toArray n1 n2 none none w1 w2 fits
  refine concat_meets (s := s) ⟨_, g1, rfl⟩ ⟨_, g2, rfl⟩ noFill_list_add seq_list_add
    PySem.F.slot_list_add PySem.F.entry_list_add (PySem.F.args_list_add_2 _ _) meets ⟨g1, g2, ?_⟩
  rw [joined]
  exact ⟨.ref _, _, I.lnew (t' := s.toks) (r1.append r2) (by rw [List.length_append]; exact hz), rfl, q _ I.fresh⟩
end

/-! ### a def that is handed the error which a suite holds, and tells its kind -/
section
variable {P : Program} {w : World} {K : Frag} {mg : Str → Option Value} {base : Heap}
structure KindsOk (P : Program) (w : World) (K : Frag) (mg : Str → Option Value) (base : Heap) (T : Errs K mg) (lv : Nat) (f : Addr) (fd : FuncData) : Prop where
  run : ∀ (A : Around) (outer : List Env) (s : Shared) (H : Hp) (args : Args) (us : List Value) (Q : VK) (p : Addr × Obj) (er : Er), L2H.RoomH lv A → L2H.PinOk outer H s p → Zc (.ref (T.exa er)) none p.2 → (∃ vs, p.2.data = .fields vs) →
    Env0 P w K mg base A outer s H → BindsTo s fd args ((["error"] : List Str).zip us) → Vals [.ref p.1] us → (∀ q, H q = none → Q (.ref q) (upd H q (.lst [.str er.nm]))) →
    codeAny (model P w) A (.call (.ref f) args) (CR CX0 outer P w H s Q E0) s
/-- isinstance of an error that every state bears -/
def rIsP (K : Frag) (D a : Addr) : List V → Hp → VK → Prop := fun xs H Q => ∃ (C : Addr) (b : Bool), xs = [.ref a, .ref C] ∧ PySem.W.kitOne K (.ref D) (.ref C) = some b ∧ Q (.bl b) H
theorem call_isP {X : Cx} {D : Addr} {p : Addr × Obj} (hp : p ∈ X.pn) (C : ExcC X.K D) (hz : Zc (.ref D) none p.2) (hf : ∃ vs, p.2.data = .fields vs) : CallR X (.builtin "isinstance") (rIsP X.K D p.1) := by
  intro pins s σ H xs us Q I r h
  obtain ⟨c, b, e1, e, q⟩ := h
  subst e1
  cases r with
  | cons rx rr =>
    cases rr with
    | cons rt rr2 =>
      cases rr2
      cases rx
      cases rt
      have hget := (I.pin p (List.mem_append.mpr (.inl hp))).1
      have J : PySem.W.InstAt s.heap p.1 p.2 D none := by
        obtain ⟨pa, oc, od, oda, osl⟩ := p
        obtain ⟨vs, hv⟩ := hf
        obtain ⟨h1, h2⟩ := hz
        dsimp only at h1 h2 hv hget ⊢
        subst h1 h2 hv
        exact ⟨hget, rfl, rfl, trivial⟩
      have kit := PySem.W.handS_kitx_exc C.hg C.hk C.hs C.hd C.ha C.hn C.ht C.hm (x := p.1) (ox := p.2)
      exact PySem.W.kia_one kit I.kIn J e (fun z => nomatch z) fun tk => ⟨.bl b, H, I.kept (t' := tk) fun _ _ z => z, rfl, q⟩
/-- such a def by its body -/
theorem kinds_of {T : Errs K mg} {lv : Nat} {f : Addr} {fd : FuncData} {st : Stmt} {N : List Str} (F : Fun K "_law_kinds" "_law_kinds" st f fd) (S : FnScope N ["error"] (defScope st))
    (hb : ∀ (cdv : Value) (A : Around) (outer : List Env) (s : Shared) (H : Hp) (Q : VK) (p : Addr × Obj) (er : Er), Zc (.ref (T.exa er)) none p.2 → (∃ vs, p.2.data = .fields vs) → (∀ q, H q = none → Q (.ref q) (upd H q (.lst [.str er.nm]))) →
      ∃ t, PSs (L2H.cxH CX0 P w K mg base N "_law_kinds" (defScope st) f cdv A outer s H E0 p) (defBody st) t ∧ t { nx := fun _ H' => Q .non H', rt := Q } (start N [.ref p.1]) H) :
    KindsOk P w K mg base T (lv + 1) f fd := by
  obtain ⟨oc, od, kV, doc, pm, an, cdv, ct, osl, rfl, lk, hcd⟩ := F.ex
  refine ⟨fun A outer s H args us Q p er hr hpin hz hf e0 hbi r hk => ?_⟩
  have KX : K.In s.heap := e0.mod.kin.keeps fun b o e => (e0.bs b o e).1
  have lim : s.heap.NoLimit := e0.mod.nolimit.keeps fun b o e => (e0.bs b o e).1
  have kinds : ∀ y ∈ (["error"] : List Str).zip us, (defScope st).names.lookup y.1 = some .local ∨ ((defScope st).names.lookup y.1 = some .cell ∧ ((cellsFrom (s.heap.objs.size + 1) (defScope st).names []).lookup y.1).isSome = true) := by
    intro ⟨n, v⟩ hy
    rcases S.par n (List.of_mem_zip hy).1 with z | z
    · exact .inl z
    · exact .inr ⟨z, PySem.W.cellsFrom_some _ _ _ (.inl z)⟩
  refine codeAny_call_function hr.depth (KX _ _ lk) rfl S.co S.gen rfl (PySem.W.codeRec_of KX hcd) (hbi _ _ _ _ ?_)
  refine wpAny_newFunctionEnv_cells S.kind kinds fun env he s1 x => ?_
  subst he
  refine ⟨lim.keeps x.toInCall.keep, codeAny_func ?_⟩
  obtain ⟨t, ht, hq⟩ := hb cdv A outer s H Q p er hz hf hk
  have I := L2H.inv_startH (CX := CX0) (E := E0) S hpin e0 (show ([.ref p.1] : List V).length = (["error"] : List Str).length from rfl) r x
  refine wpAny_mono (ht.run [] s1 _ H _ I hq) (fun fl s' hs => ?_) fun e s' hs => hs
  have fin : ∀ {σ' : L2.St} {H' : Hp} {v : V} {u : Value}, Inv _ [] σ' H' s' → RelV v u → Q v H' → CE outer P w H s Q u s' :=
    fun {σ' H' v u} (J : Inv (L2H.cxH CX0 P w K mg base N "_law_kinds" (defScope st) f cdv A outer s H E0 p) [] σ' H' s') rv qq => ⟨v, H', J.os, J.bare, J.base, J.hok, rv, qq⟩
  cases fl with
  | next =>
    obtain ⟨σ', H', J, qq⟩ := hs
    exact fin (v := V.non) (u := Value.none) J rfl qq
  | ret u =>
    obtain ⟨v, σ', H', J, rv, qq⟩ := hs
    exact fin J rv qq
  | brk =>
    obtain ⟨_, _, _, qq⟩ := hs
    exact qq.elim
  | cont =>
    obtain ⟨_, _, _, qq⟩ := hs
    exact qq.elim
end
section
variable {X : Cx} {CX : CXT} {f : Addr} {fd : FuncData} {lv : Nat} {x : Str} {q pos : Pos} {e : Expr} {te : TE}
/-- kinds(e), e the error that the suite holds -/
def tKinds {K : Frag} {mg : Str → Option Value} (T : Errs K mg) (cls : Value) (d : Option Addr) (a : Addr) (ta : TA) : TE := fun σ H Q => ta σ H fun vs H1 => vs = [.ref a] ∧ d = none ∧ ∃ er, cls = .ref (T.exa er) ∧ ∀ r, H1 r = none → Q (.ref r) (upd H1 r (.lst [.str er.nm]))
theorem pe_kinds {a : Addr} {oe : Obj} {cls : Value} {d : Option Addr} {P : Program} {w : World} {K : Frag} {mg : Str → Option Value} {base : Heap} {T : Errs K mg} {ta : TA} (F : KindsOk P w K mg base T lv f fd) (hz : Zc cls d oe) (hf : ∃ vs, oe.data = .fields vs) (hp : (a, oe) ∈ X.pn) (hr : L2H.RoomH lv X.A) (hg : Gl X x)
    (hm : X.mg x = some (.ref f)) (hk : PySem.W.keepIn K (.ref f) = true) (hb : Binds K fd ["error"] []) (ha : PA X [e] ta) (hP : X.prog = P := by rfl) (hw : X.w = w := by rfl) (hK : X.K = K := by rfl) (hM : X.mg = mg := by rfl) (hB : X.base = base := by rfl) (hdb : (x == ("__debug__" : Str)) = false := by decide)
    (he : starEach (e :: []) X.env = (false, eval e X.env) :: starEach [] X.env := by rfl) (hpl : (backTo pos (starEach [] X.env)).any (·.1) = false := by rfl) :
    PE X (.Call (.Name x q) [e] [] pos) (tKinds T cls d a ta) := by
  subst hP hw hK hM hB
  refine ⟨fun pins s σ H Q I h => ?_⟩
  refine wpAny_Call_Name_kw (ld_glob I hg hm ?_ hdb)
  refine PySem.W.callWith_K (h₀ := X.base) I.ok.mod.kin hk (thn (ha.run pos pins s σ H _ I h) fun us s1 ⟨vs, H1, I1, r, e1, e2, er, e3, k⟩ => ⟨I1.kIn, ?_⟩) he hpl
  subst e1 e2 e3
  have P1 := I1.pin (a, oe) (List.mem_append.mpr (.inl hp))
  have hl : us.length = 1 := r.length.symm
  have b := hb s1 us I1.kIn (by rw [List.append_nil]; exact hl)
  rw [List.append_nil] at b
  have hpin : L2H.PinOk X.stack H1 s1 (a, oe) := ⟨P1.1, P1.2.1, fun hm => (List.mem_cons.mp (I1.stkSub a hm)).elim P1.2.2.1 P1.2.2.2.1, P1.2.2.2.2⟩
  refine wpAny_call (codeAny_mono (F.run _ X.stack s1 H1 ⟨us, []⟩ us Q (a, oe) er hr hpin hz hf I1.env0 b r k) fun r' s' hq => ?_)
  cases r' with
  | error e => exact False.elim hq
  | ok fl =>
    cases fl with
    | ret u => exact I1.after hq
    | next => exact False.elim hq
    | brk => exact False.elim hq
    | cont => exact False.elim hq
end
/-! ### what may be compared -/
theorem sc_ii {a b : Int} : scal (.int a) (.int b) = true := rfl
theorem sc_ss {a b : Str} : scal (.str a) (.str b) = true := rfl
theorem sc_bb {a b : Bool} : scal (.bl a) (.bl b) = true := rfl
theorem sc_nn : scal .non .non = true := rfl
theorem sc_ni {a : Int} : scal .non (.int a) = true := rfl
theorem sc_in {a : Int} : scal (.int a) .non = true := rfl
theorem sc_sn {a : Str} : scal (.str a) .non = true := rfl
theorem sc_ns {a : Str} : scal .non (.str a) = true := rfl
theorem sc_bn {a : Bool} : scal (.bl a) .non = true := rfl
theorem sc_nb {a : Bool} : scal .non (.bl a) = true := rfl
theorem sc_is {a : Int} {b : Str} : scal (.int a) (.str b) = true := rfl
theorem sc_si {a : Int} {b : Str} : scal (.str b) (.int a) = true := rfl
theorem isi_int {K : Frag} {z : Int} {n : String} {b : Bool} {H : Hp} {Q : VK} (h : kitB "int" n = some b) (q : Q (.bl b) H) : rIsi K [.int z, .ty n] H Q := ⟨_, _, .type "int", .type n, b, rfl, .ty _, .base (.int _), kit_ty h, q⟩
theorem isi_bl {K : Frag} {z : Bool} {n : String} {b : Bool} {H : Hp} {Q : VK} (h : kitB "bool" n = some b) (q : Q (.bl b) H) : rIsi K [.bl z, .ty n] H Q := ⟨_, _, .type "bool", .type n, b, rfl, .ty _, .base (.bl _), kit_ty h, q⟩
theorem isi_str {K : Frag} {z : Str} {n : String} {b : Bool} {H : Hp} {Q : VK} (h : kitB "str" n = some b) (q : Q (.bl b) H) : rIsi K [.str z, .ty n] H Q := ⟨_, _, .type "str", .type n, b, rfl, .ty _, .base (.str _), kit_ty h, q⟩
theorem isi_tup {K : Frag} {a : Addr} {xs : List V} {n : String} {b : Bool} {H : Hp} {Q : VK} (e : H a = some (.tup xs)) (h : kitB "tuple" n = some b) (q : Q (.bl b) H) : rIsi K [.ref a, .ty n] H Q := ⟨_, _, .type "tuple", .type n, b, rfl, .ty _, .base (.tup e), kit_ty h, q⟩
theorem isi_lst {K : Frag} {a : Addr} {xs : List V} {n : String} {b : Bool} {H : Hp} {Q : VK} (e : H a = some (.lst xs)) (h : kitB "list" n = some b) (q : Q (.bl b) H) : rIsi K [.ref a, .ty n] H Q := ⟨_, _, .type "list", .type n, b, rfl, .ty _, .base (.lst e), kit_ty h, q⟩
theorem isi_non {K : Frag} {n : String} {b : Bool} {H : Hp} {Q : VK} (h : kitB "NoneType" n = some b) (q : Q (.bl b) H) : rIsi K [.non, .ty n] H Q := ⟨_, _, .type "NoneType", .type n, b, rfl, .ty _, .base .non, kit_ty h, q⟩
/-! ### [i] >= [j] -/
section listge
open PySem PySem.SeqAt PySem.MeetsSeq PySem.MeetsSeq2 PySem.MeetsSeq3
open PySem.AutoSeq1 (wpAny_loadPart')
/-- a list stands there -/
def Lat (s : Shared) (a : Addr) (xs : Array Value) (n : Nat) (dd : Option Addr) (sl : Array (Option Value)) : Prop := s.heap.get? a = some { cls := .type "list", dict := dd, data := .seq xs n, slots := sl }
theorem ge_two (a b : Addr) (xs ys : Array Value) (n m : Nat) (d1 d2 : Option Addr) (s1 s2 : Array (Option Value)) (hx : xs.size = 1) (hy : ys.size = 1) :
    Meets (Builtin.«list.__eq__.loop» ⟨[.ref a, .ref b, rawInt 1, rawInt 5], []⟩) (fun _ R s => Lat s a xs n d1 s1 ∧ Lat s b ys m d2 s2 ∧ R (.ok (.ret (.bool true))) s) := by
  rintro prog w A R ⟨hh, gg, dp, tk, oo⟩ ⟨ha, hb, k⟩
  unfold Lat at ha hb
  have e1 : xs[(1 : Int).toNat]? = none := by simp [hx]
  have e2 : ys[(1 : Int).toNat]? = none := by simp [hy]
  wp_walk using wpAny_loadPart' ha, wpAny_loadPart' hb
  rw [e1]
  wp_walk using wpAny_loadPart' ha, wpAny_loadPart' hb
  rw [hx, hy]
  exact k
theorem ge_one (a b : Addr) (xs ys : Array Value) (v u : Value) (n m : Nat) (d1 d2 : Option Addr) (s1 s2 : Array (Option Value)) (e r : Bool) (hx : xs.size = 1) (hy : ys.size = 1) (hv : xs[(0 : Int).toNat]? = some v) (hu : ys[(0 : Int).toNat]? = some u) :
    Meets (Builtin.«list.__eq__.loop» ⟨[.ref a, .ref b, rawInt 0, rawInt 5], []⟩) (fun A R s => Lat s a xs n d1 s1 ∧ Lat s b ys m d2 s2 ∧ EqAt A.in1 s v u e ∧ (e = false → Ob.RcOp .GtE A.in1 s v u r) ∧ R (.ok (.ret (.bool (e || r)))) s) := by
  rintro prog w A R ⟨hh, gg, dp, tk, oo⟩ ⟨ha, hb, he, hr, k⟩
  unfold Lat at ha hb
  wp_walk using wpAny_loadPart' ha, wpAny_loadPart' hb
  rw [hv, hu]
  refine wpAny_bind (he prog w _ _ ?_)
  cases e with
  | true =>
    wp_walk
    exact ⟨plainId_quiet plain_eq_loop _, codeAny_builtin entry_eq_loop (by
      rw [Around.under_plainId plain_eq_loop _]
      exact ge_two a b xs ys n m d1 d2 s1 s2 hx hy prog w A R _ ⟨ha, hb, k⟩)⟩
  | false =>
    wp_walk using wpAny_loadPart' ha, wpAny_loadPart' hb
    rw [hv, hu]
    refine wpAny_bind (hr rfl prog w _ _ ?_)
    wp_walk
    exact k
theorem ge_call (a b : Addr) (xs ys : Array Value) (v u : Value) (n m : Nat) (d1 d2 : Option Addr) (s1 s2 : Array (Option Value)) (e r : Bool) (hx : xs.size = 1) (hy : ys.size = 1) (hv : xs[(0 : Int).toNat]? = some v) (hu : ys[(0 : Int).toNat]? = some u) :
    Meets (Builtin.«list.__ge__» ⟨[.ref a, .ref b], []⟩) (fun A R s => Lat s a xs n d1 s1 ∧ Lat s b ys m d2 s2 ∧ EqAt A.in1 s v u e ∧ (e = false → Ob.RcOp .GtE A.in1 s v u r) ∧ R (.ok (.ret (.bool (e || r)))) s) := by
  rintro prog w A R ⟨hh, gg, dp, tk, oo⟩ ⟨ha, hb, he, hr, k⟩
  have sub := AutoSeq1.sub_list_list
  have ha' := ha
  have hb' := hb
  unfold Lat at ha' hb'
  wp_walk using wpAny_loadPart' ha', wpAny_loadPart' hb'
  exact ⟨plainId_quiet plain_eq_loop _, codeAny_builtin entry_eq_loop (by
    rw [Around.under_plainId plain_eq_loop _]
    exact ge_one a b xs ys v u n m d1 d2 s1 s2 e r hx hy hv hu prog w A R _ ⟨ha, hb, he, hr, k⟩)⟩
theorem lge_slot : Slot "list" (cmpInfo .GtE).2.1 "list.__ge__" :=
  .of (owner := "list") (n := "__ge__") (by rw [typeLookup_type, builtinLookup_eq_fast]; kernel_rfl) (by decide +kernel) (by decide +kernel) (by decide +kernel)
    (by exact .inl (by decide +kernel)) (by rw [isSubtype_type]; kernel_rfl)
theorem lge_entry : entryFor table "list.__ge__" = some Builtin.«list.__ge__» := entryFor_of_tree (by kernel_rfl)
theorem lge_args (a b : Value) : argsOk "list.__ge__" ⟨[a, b], []⟩ := by
  unfold argsOk
  rw [signature?_of (id := "list.__ge__") (n := ['_', '_', 'e', 'g', '_', '_']) (o := ['t', 's', 'i', 'l']) (by kernel_rfl) F.owner_list]
  kernel_rfl
end listge
section
open PySem PySem.Spec PyProof.Rows L2
variable {X : Cx}
/-- [i] >= [j] -/
def rGeL (K : Frag) : R2 := fun x y H Q => ∃ a b i j, x = .ref a ∧ y = .ref b ∧ SqL K H a [.int i] ∧ SqL K H b [.int j] ∧ Q (.bl (decide (j ≤ i))) H
theorem op_geL (hu : X.A.units < cLine) : OpR X (compareOp .GtE) (rGeL X.K) := by
  intro pins s σ H x y v u Q I rx ry h
  obtain ⟨a, b, i, j, rfl, rfl, ha, hb, q⟩ := h
  cases rx
  cases ry
  obtain ⟨its, r1, p1, z1⟩ := I.list ha
  obtain ⟨its2, r2, p2, z2⟩ := I.list hb
  cases r1 with
  | cons rv r1 =>
    cases r1
    cases r2 with
    | cons ru r2 =>
      cases r2
      obtain ⟨t1, rfl⟩ := rv
      obtain ⟨t2, rfl⟩ := ru
      obtain ⟨⟨c1, d1, q1, w1⟩, n1, g1, k1, m1, j1⟩ := p1
      obtain ⟨⟨c2, d2, q2, w2⟩, n2, g2, k2, m2, j2⟩ := p2
      dsimp only at k1 m1 j1 k2 m2 j2
      subst k1 m1 j1 k2 m2 j2
      have both : (i == j || decide (j ≤ i)) = decide (j ≤ i) := by
        by_cases c : i = j
        · subst c; simp
        · simp [c]
      have meets := ge_call a b #[.int i t1] #[.int j t2] (.int i t1) (.int j t2) n1 n2 none none w1 w2 (i == j) (decide (j ≤ i)) rfl rfl rfl rfl
      rw [both] at meets
      exact richCompare_meets_room (op := .GtE) ⟨_, g1, rfl⟩ ⟨_, g2, rfl⟩ lge_slot lge_entry (lge_args _ _) meets ⟨g1, g2, PySem.SeqAt.EqAt.int_int _ _ _ _, fun _ => Ob.RcOp.ge_int _ _ _ _, ⟨(fun x => nomatch x), ⟨.bl _, H, I, rfl, q⟩⟩⟩ hu
end
/-! ### xs[i] ahead of a store in place -/
section
variable {X : Cx}
def rGetL (K : Frag) : V → V → Hp → VK → Prop := fun o i H Q => ∃ p xs k v, o = .ref p ∧ i = .int k ∧ SqL K H p xs ∧ 0 ≤ k ∧ xs[k.toNat]? = some v ∧ Q v H
theorem get_list : PGet X (rGetL X.K) := by
  intro pins s σ H o i ov iv Q I ro ri h
  obtain ⟨p, xs, k, v, rfl, rfl, hq, k0, e, q⟩ := h
  cases ro
  obtain ⟨t, rfl⟩ := ri
  obtain ⟨its, r, pl, hz⟩ := I.list hq
  obtain ⟨u, eu, ru⟩ := r.get e
  have hl := r.length
  have hn := line63
  have hi := (List.getElem?_eq_some_iff.mp e).1
  exact getItem_listL pl.isList k0 (by omega) eu ⟨v, H, I, ru, q⟩
end
/-! ### in a comprehension's block, in an except suite: what is read is told by the outer K -/
theorem pe_bmK (K : Frag) {X : Cx} {T name id : String} {r : V → List V → Hp → VK → Prop} {o e : Expr} {es : List Expr} {to : TE} {t : TA} {apos cpos : Pos} (pa : PlainAttrs T) (slot : Slot T name id) (hty : typeOf (.builtin id) = pure (.type "method_descriptor")) (hm : MtR X id r) (ho : PE X o to) (ha : PA X (e :: es) t)
    (hbase : attributeBase o name X.env (eval o X.env) = eval o X.env := by rfl)
    (hfew : ((backTo cpos (starEach (e :: es) X.env)).all (fun x => !x.1) && (backToKw cpos (keywordEach [] X.env)).all (fun x => x.1.isSome)
      && decide ((e :: es).length + ([] : List Keyword).length + (if ([] : List Keyword).isEmpty then 0 else 1) < 30)) = true := by rfl)
    (hline : (apos.endLine == cpos.line) = true := by rfl) (hs : starEach (e :: es) X.env = (false, eval e X.env) :: starEach es X.env := by rfl) (hplain : (backTo cpos (starEach es X.env)).any (·.1) = false := by rfl) (h : X.K = K := by rfl) :
    PE X (.Call (.Attribute o name apos) (e :: es) [] cpos) (tBM K T r to t) := by subst h; exact pe_bm pa slot hty hm ho ha hbase hfew hline hs hplain
theorem call_lenK (K : Frag) {X : Cx} (h : X.K = K := by rfl) : CallR X (.builtin "len") (fun xs H Q => ∃ p ys, xs = [.ref p] ∧ (SqL K H p ys ∨ SqT K H p ys) ∧ Q (.int (ys.length : Nat)) H) := by subst h; exact call_len_seq
theorem ixl (K : Frag) {X : Cx} (h : X.K = K := by rfl) : IxR X (rIxL K) := by subst h; exact ix_list
theorem ixt (K : Frag) {X : Cx} (h : X.K = K := by rfl) : IxR X (rIxT K) := by subst h; exact ix_tup
theorem cdiv_1 {i : Int} : CDivW i 1 = True := eq_true ⟨by decide, by decide⟩
theorem cdiv_2 {i : Int} : CDivW i 2 = True := eq_true ⟨by decide, by decide⟩
theorem cdiv_3 {i : Int} : CDivW i 3 = True := eq_true ⟨by decide, by decide⟩
theorem cdiv_4 {i : Int} : CDivW i 4 = True := eq_true ⟨by decide, by decide⟩
theorem cdiv_5 {i : Int} : CDivW i 5 = True := eq_true ⟨by decide, by decide⟩
theorem cdiv_6 {i : Int} : CDivW i 6 = True := eq_true ⟨by decide, by decide⟩
theorem cdiv_7 {i : Int} : CDivW i 7 = True := eq_true ⟨by decide, by decide⟩
theorem cdiv_8 {i : Int} : CDivW i 8 = True := eq_true ⟨by decide, by decide⟩
theorem cdiv_9 {i : Int} : CDivW i 9 = True := eq_true ⟨by decide, by decide⟩
theorem cdiv_10 {i : Int} : CDivW i 10 = True := eq_true ⟨by decide, by decide⟩
theorem cdiv_11 {i : Int} : CDivW i 11 = True := eq_true ⟨by decide, by decide⟩
theorem cdiv_12 {i : Int} : CDivW i 12 = True := eq_true ⟨by decide, by decide⟩
theorem cdiv_13 {i : Int} : CDivW i 13 = True := eq_true ⟨by decide, by decide⟩
theorem cdiv_14 {i : Int} : CDivW i 14 = True := eq_true ⟨by decide, by decide⟩
theorem cdiv_16 {i : Int} : CDivW i 16 = True := eq_true ⟨by decide, by decide⟩
theorem cdiv_20 {i : Int} : CDivW i 20 = True := eq_true ⟨by decide, by decide⟩
theorem cdiv_30 {i : Int} : CDivW i 30 = True := eq_true ⟨by decide, by decide⟩
theorem cdiv_50 {i : Int} : CDivW i 50 = True := eq_true ⟨by decide, by decide⟩
theorem cdiv_60 {i : Int} : CDivW i 60 = True := eq_true ⟨by decide, by decide⟩
theorem cdiv_64 {i : Int} : CDivW i 64 = True := eq_true ⟨by decide, by decide⟩
theorem cdiv_100 {i : Int} : CDivW i 100 = True := eq_true ⟨by decide, by decide⟩
theorem cdiv_400 {i : Int} : CDivW i 400 = True := eq_true ⟨by decide, by decide⟩
theorem cdiv_1000 {i : Int} : CDivW i 1000 = True := eq_true ⟨by decide, by decide⟩
theorem cdiv_2000 {i : Int} : CDivW i 2000 = True := eq_true ⟨by decide, by decide⟩
theorem cdiv_10000 {i : Int} : CDivW i 10000 = True := eq_true ⟨by decide, by decide⟩
theorem cdiv_1000000 {i : Int} : CDivW i 1000000 = True := eq_true ⟨by decide, by decide⟩
theorem sz_0 : (0 ≤ sizeLine) = True := eq_true (by decide)
theorem szl_0 : (0 < sizeLine) = True := eq_true (by decide)
theorem sz_1 : (1 ≤ sizeLine) = True := eq_true (by decide)
theorem szl_1 : (1 < sizeLine) = True := eq_true (by decide)
theorem sz_2 : (2 ≤ sizeLine) = True := eq_true (by decide)
theorem szl_2 : (2 < sizeLine) = True := eq_true (by decide)
theorem sz_3 : (3 ≤ sizeLine) = True := eq_true (by decide)
theorem szl_3 : (3 < sizeLine) = True := eq_true (by decide)
theorem sz_4 : (4 ≤ sizeLine) = True := eq_true (by decide)
theorem szl_4 : (4 < sizeLine) = True := eq_true (by decide)
theorem sz_5 : (5 ≤ sizeLine) = True := eq_true (by decide)
theorem szl_5 : (5 < sizeLine) = True := eq_true (by decide)
theorem sz_6 : (6 ≤ sizeLine) = True := eq_true (by decide)
theorem szl_6 : (6 < sizeLine) = True := eq_true (by decide)
theorem sz_7 : (7 ≤ sizeLine) = True := eq_true (by decide)
theorem szl_7 : (7 < sizeLine) = True := eq_true (by decide)
theorem sz_8 : (8 ≤ sizeLine) = True := eq_true (by decide)
theorem szl_8 : (8 < sizeLine) = True := eq_true (by decide)
theorem sz_9 : (9 ≤ sizeLine) = True := eq_true (by decide)
theorem szl_9 : (9 < sizeLine) = True := eq_true (by decide)
theorem sz_10 : (10 ≤ sizeLine) = True := eq_true (by decide)
theorem szl_10 : (10 < sizeLine) = True := eq_true (by decide)
theorem sz_11 : (11 ≤ sizeLine) = True := eq_true (by decide)
theorem szl_11 : (11 < sizeLine) = True := eq_true (by decide)
theorem sz_12 : (12 ≤ sizeLine) = True := eq_true (by decide)
theorem szl_12 : (12 < sizeLine) = True := eq_true (by decide)
theorem sz_13 : (13 ≤ sizeLine) = True := eq_true (by decide)
theorem szl_13 : (13 < sizeLine) = True := eq_true (by decide)
theorem sz_14 : (14 ≤ sizeLine) = True := eq_true (by decide)
theorem szl_14 : (14 < sizeLine) = True := eq_true (by decide)
theorem sz_15 : (15 ≤ sizeLine) = True := eq_true (by decide)
theorem szl_15 : (15 < sizeLine) = True := eq_true (by decide)
theorem sz_16 : (16 ≤ sizeLine) = True := eq_true (by decide)
theorem szl_16 : (16 < sizeLine) = True := eq_true (by decide)
theorem sz_17 : (17 ≤ sizeLine) = True := eq_true (by decide)
theorem szl_17 : (17 < sizeLine) = True := eq_true (by decide)
theorem sz_18 : (18 ≤ sizeLine) = True := eq_true (by decide)
theorem szl_18 : (18 < sizeLine) = True := eq_true (by decide)
theorem sz_19 : (19 ≤ sizeLine) = True := eq_true (by decide)
theorem szl_19 : (19 < sizeLine) = True := eq_true (by decide)
theorem sz_20 : (20 ≤ sizeLine) = True := eq_true (by decide)
theorem szl_20 : (20 < sizeLine) = True := eq_true (by decide)
theorem sz_21 : (21 ≤ sizeLine) = True := eq_true (by decide)
theorem szl_21 : (21 < sizeLine) = True := eq_true (by decide)
theorem sz_22 : (22 ≤ sizeLine) = True := eq_true (by decide)
theorem szl_22 : (22 < sizeLine) = True := eq_true (by decide)
theorem sz_23 : (23 ≤ sizeLine) = True := eq_true (by decide)
theorem szl_23 : (23 < sizeLine) = True := eq_true (by decide)
theorem sz_24 : (24 ≤ sizeLine) = True := eq_true (by decide)
theorem szl_24 : (24 < sizeLine) = True := eq_true (by decide)
theorem sz_25 : (25 ≤ sizeLine) = True := eq_true (by decide)
theorem szl_25 : (25 < sizeLine) = True := eq_true (by decide)
theorem sz_26 : (26 ≤ sizeLine) = True := eq_true (by decide)
theorem szl_26 : (26 < sizeLine) = True := eq_true (by decide)
theorem cdivw {i j : Int} (h0 : 0 < j) (h1 : j < 18446744073709551616) : CDivW i j := by
  refine ⟨h0, ?_⟩
  have z : j.natAbs < 2 ^ 64 := by omega
  have := PySem.Flt.log2_lt_of (by decide : 0 < 64) z
  omega
/-! ### small words -/
theorem ne_fresh {H : Hp} {p q : Addr} {o : HO} (h : upd H p o q = none) : q ≠ p := by
  intro e
  subst e
  rw [upd_same] at h
  cases h
theorem fresh_was {H : Hp} {p q : Addr} {o : HO} (h : upd H p o q = none) : H q = none := by
  have e := ne_fresh h
  rw [upd_ne e] at h
  exact h
theorem same_upd {H : Hp} {p : Addr} {o : HO} (h : H p = none) : Same H (upd H p o) := fun b u e => by
  rw [upd_ne (ne_of_none e h)]
  exact e
/-- behind a store to what was not there at first -/
theorem same_mut {H H' : Hp} {p : Addr} {o : HO} (h : H p = none) (k : Same H H') : Same H (upd H' p o) := fun b u e => by
  rw [upd_ne (ne_of_none e h)]
  exact k b u e
theorem same_fresh {H H' : Hp} {p : Addr} (k : Same H H') (h : H' p = none) : H p = none := k.free h
theorem same_tup {K : Frag} {H H' : Hp} {a : Addr} {xs : List V} (e : Same H H') (h : SqT K H a xs) : SqT K H' a xs := by
  rcases h with (h | ⟨o, h⟩) | h
  · exact .inl (.inl (e _ _ h))
  · exact .inl (.inr ⟨o, e _ _ h⟩)
  · exact .inr h
/-- a tuple stays where a list is written -/
theorem tup_keep {H : Hp} {r a : Addr} {xs ys zs : List V} (hr : H r = some (.tup ys)) (ha : H a = some (.lst xs)) : (upd H a (.lst zs)) r = some (.tup ys) := by
  rw [upd_ne (ne_of hr ha (by intro z; cases z))]
  exact hr
theorem bits64 {k : Int} (h1 : -(2 ^ 64) < k) (h2 : k < 2 ^ 64) : Builtin.Int.intBits k ≤ 64 := intBits_le_64 h1 h2
theorem bitsPow {k : Int} {n : Nat} (h0 : 0 < n) (h1 : -(2 ^ n) < k) (h2 : k < 2 ^ n) : Builtin.Int.intBits k ≤ n := by
  have z : k.natAbs < 2 ^ n := by
    have e : ((2 ^ n : Nat) : Int) = (2 : Int) ^ n := by simp
    omega
  unfold Builtin.Int.intBits
  split
  · omega
  · have := PySem.Flt.log2_lt_of h0 z
    omega
theorem bits_mono {i j : Int} (h : i.natAbs ≤ j.natAbs) : Builtin.Int.intBits i ≤ Builtin.Int.intBits j := by
  unfold Builtin.Int.intBits
  by_cases c : i = 0
  · rw [if_pos (beq_iff_eq.mpr c)]
    exact Nat.zero_le _
  · have hj : ¬ j = 0 := by omega
    rw [if_neg (fun z => hj (beq_iff_eq.mp z)), if_neg (fun z => c (beq_iff_eq.mp z))]
    have hi : i.natAbs ≠ 0 := by omega
    have hj' : j.natAbs ≠ 0 := by omega
    have z : i.natAbs.log2 ≤ j.natAbs.log2 := (Nat.le_log2 hj').mpr (Nat.le_trans (Nat.log2_self_le hi) h)
    omega
theorem mulX {i j : Int} {a b : Nat} (h1 : Builtin.Int.intBits i ≤ a) (h2 : Builtin.Int.intBits j ≤ b) (h : a + b ≤ 134217728 := by decide) : CMulX i j := by
  unfold CMulX
  omega
theorem ix_num {K : Frag} {a : Addr} {ns : List Int} {k : Int} {H : Hp} {Q : VK} (hS : SqL K H a (ns.map V.int)) (h : 0 ≤ k ∧ k < (ns.length : Int)) (q : Q (.int (ns.getD k.toNat 0)) H) : rIxL K (.ref a) (.int k) H Q := by
  refine ⟨a, _, k, _, rfl, rfl, hS, ?_, q⟩
  have e : (ns.map V.int)[k.toNat]? = some (V.int (ns.getD k.toNat 0)) := by
    rw [List.getElem?_map, List.getD_eq_getElem?_getD]
    have z : k.toNat < ns.length := by omega
    rw [List.getElem?_eq_getElem z]
    rfl
  exact at_of (j := k.toNat) (by omega) e
theorem ix_at {K : Frag} {a : Addr} {xs : List V} {k : Int} {v : V} {H : Hp} {Q : VK} (hS : SqL K H a xs) (h : 0 ≤ k) (e : xs[k.toNat]? = some v) (q : Q v H) : rIxL K (.ref a) (.int k) H Q :=
  ⟨a, xs, k, v, rfl, rfl, hS, at_of (j := k.toNat) (by omega) e, q⟩
theorem inV_ints {d : Int} : ∀ hs : List Int, inV (.int d) (hs.map V.int) = decide (d ∈ hs)
  | [] => by simp [inV]
  | x :: r => by
    have ih := inV_ints (d := d) r
    unfold inV at ih ⊢
    rw [List.map_cons, List.any_cons, ih]
    by_cases e : x = d
    · subst e; simp [eqV]
    · have e2 : ¬d = x := fun z => e z.symm
      simp [eqV, e, e2]
theorem flat_int (hs : List Int) : (hs.map V.int).all flatV = true := by
  rw [List.all_map]
  exact List.all_eq_true.mpr fun _ _ => rfl
theorem in_ints {K : Frag} {d : Int} {a : Addr} {hs : List Int} {H : Hp} {Q : VK} (hS : SqL K H a (hs.map V.int)) (q : Q (.bl (decide (d ∈ hs))) H) : rIn K false (.int d) (.ref a) H Q :=
  ⟨a, _, rfl, .inl hS, rfl, flat_int hs, by rw [inV_ints]; exact q⟩
theorem nin_ints {K : Frag} {d : Int} {a : Addr} {hs : List Int} {H : Hp} {Q : VK} (hS : SqL K H a (hs.map V.int)) (q : Q (.bl (!decide (d ∈ hs))) H) : rIn K true (.int d) (.ref a) H Q :=
  ⟨a, _, rfl, .inl hS, rfl, flat_int hs, by rw [inV_ints]; exact q⟩
/-- what is known of a number that a law draws -/
theorem num_in {ns : List Int} (hn : ∀ z ∈ ns, 0 ≤ z ∧ z < 10000000000000) (k : Nat) : 0 ≤ ns.getD k 0 ∧ ns.getD k 0 < 10000000000000 := by
  rw [List.getD_eq_getElem?_getD]
  cases e : ns[k]? with
  | none => exact ⟨by decide, by decide⟩
  | some z => exact hn z (List.mem_of_getElem? e)
theorem ix_sign {z : Str} {k : Int} {H : Hp} {Q : VK} (hz : z.length ≤ sizeLine) (h : 0 ≤ k ∧ k < (z.length : Int)) (q : ∀ c, z.cps.toList[k.toNat]? = some c → Q (.str ⟨#[c]⟩) H) : rIxS (.str z) (.int k) H Q := by
  have hl : k.toNat < z.cps.toList.length := by
    rw [Array.length_toList]
    show k.toNat < z.length
    omega
  have e : z.cps.toList[k.toNat]? = some z.cps.toList[k.toNat] := List.getElem?_eq_getElem hl
  refine ⟨z, k, _, rfl, rfl, hz, ?_, q _ e⟩
  unfold atI
  rw [show ixN z.cps.toList.length k = some k.toNat by unfold ixN; rw [if_pos h.1, if_pos (by omega)]]
  exact e
theorem ix_signc {z : Str} {k : Int} {c : Nat} {H : Hp} {Q : VK} (hz : z.length ≤ sizeLine) (h : 0 ≤ k) (e : z.cps.toList[k.toNat]? = some c) (q : Q (.str ⟨#[c]⟩) H) : rIxS (.str z) (.int k) H Q := by
  have hl : k.toNat < z.cps.toList.length := (List.getElem?_eq_some_iff.mp e).1
  refine ⟨z, k, c, rfl, rfl, hz, ?_, q⟩
  unfold atI
  rw [show ixN z.cps.toList.length k = some k.toNat by unfold ixN; rw [if_pos h, if_pos (by omega)]]
  exact e
theorem len_one (c : Nat) : (⟨#[c]⟩ : Str).length = 1 := rfl
theorem ref_num {ns : List Int} {i : Nat} {x : V} (h : (ns.map V.int)[i]? = some x) : ∃ z, ns[i]? = some z ∧ x = .int z := by
  rw [List.getElem?_map] at h
  cases e : ns[i]? with
  | none => rw [e] at h; cases h
  | some z => rw [e] at h; exact ⟨z, rfl, (Option.some.inj h).symm⟩
/-! ### one statement at a time -/
theorem seq_step {t u : TS} {D : Ends} {σ : L2.St} {H : Hp} (h : ∀ U : Ends → L2.St → Hp → Prop, U = u → t { D with nx := U D } σ H) : tSeq t u D σ H := h u rfl
theorem gseq_step {t u : TS} {D : Ends} {i : Nat} {x : V} {σ : L2.St} {H : Hp} (h : ∀ U : Ends → L2.St → Hp → Prop, U = u → t { D with nx := U D } (σ.set i (some x)) H) : gName i x σ H fun σ2 H2 => tSeq t u D σ2 H2 := h u rfl
/-- .. what stands between the two told -/
theorem seq_cut {t u : TS} {D : Ends} {σ : L2.St} {H : Hp} (M : L2.St → Hp → Prop) (h1 : ∀ U : L2.St → Hp → Prop, (∀ σ' H', M σ' H' → U σ' H') → t { D with nx := U } σ H) (h2 : ∀ σ' H', M σ' H' → u D σ' H') : tSeq t u D σ H := h1 (u D) h2
/-! ### a tuple taken apart -/
theorem gtup2 {K : Frag} {p : Addr} {x y : V} {g1 g2 : TG} {σ : L2.St} {H : Hp} {k : L2.St → Hp → Prop} (h : SqT K H p [x, y]) (q : g1 x σ H fun σ1 H1 => g2 y σ1 H1 k) (mono : ∀ v σ H, (∀ Q Q' : L2.St → Hp → Prop, (∀ a b, Q a b → Q' a b) → g1 v σ H Q → g1 v σ H Q') ∧ (∀ Q Q' : L2.St → Hp → Prop, (∀ a b, Q a b → Q' a b) → g2 v σ H Q → g2 v σ H Q')) : gTup K 2 (gCons g1 (gCons g2 gNil)) (.ref p) σ H k :=
  ⟨p, _, rfl, h, rfl, x, [y], rfl, (mono _ _ _).1 _ _ (fun σ1 H1 q1 => ⟨y, [], rfl, (mono _ _ _).2 _ _ (fun _ _ q2 => ⟨rfl, q2⟩) q1⟩) q⟩
theorem gtupN2 {K : Frag} {p : Addr} {x y : V} {i j : Nat} {σ : L2.St} {H : Hp} {k : L2.St → Hp → Prop} (h : SqT K H p [x, y]) (q : k ((σ.set i (some x)).set j (some y)) H) : gTup K 2 (gCons (gName i) (gCons (gName j) gNil)) (.ref p) σ H k :=
  ⟨p, _, rfl, h, rfl, x, [y], rfl, y, [], rfl, rfl, q⟩
theorem gtupN3 {K : Frag} {p : Addr} {x y z : V} {i j l : Nat} {σ : L2.St} {H : Hp} {k : L2.St → Hp → Prop} (h : SqT K H p [x, y, z]) (q : k (((σ.set i (some x)).set j (some y)).set l (some z)) H) : gTup K 3 (gCons (gName i) (gCons (gName j) (gCons (gName l) gNil))) (.ref p) σ H k :=
  ⟨p, _, rfl, h, rfl, x, [y, z], rfl, y, [z], rfl, z, [], rfl, rfl, q⟩
/-! ### lists of texts, lists of ints compared -/
theorem dp_strs {K : Frag} {H : Hp} : ∀ xs : List Str, DpAll K H (xs.map V.str) (xs.map PyData.str)
  | [] => .nil
  | x :: r => .cons (.str x) (dp_strs r)
theorem dp_ints {K : Frag} {H : Hp} : ∀ xs : List Int, DpAll K H (xs.map V.int) (xs.map PyData.int)
  | [] => .nil
  | x :: r => .cons (.int x) (dp_ints r)
theorem eqv_strs : ∀ xs ys : List Str, PyData.eqvAll (xs.map PyData.str) (ys.map PyData.str) = decide (xs = ys)
  | [], [] => by simp [PyData.eqvAll]
  | [], y :: ys => by simp [PyData.eqvAll]
  | x :: xs, [] => by simp [PyData.eqvAll]
  | x :: xs, y :: ys => by
    have ih := eqv_strs xs ys
    simp only [List.map_cons, PyData.eqvAll, PyData.eqv, ih, List.cons.injEq]
    by_cases e : x = y <;> simp [e]
theorem eqv_ints : ∀ xs ys : List Int, PyData.eqvAll (xs.map PyData.int) (ys.map PyData.int) = decide (xs = ys)
  | [], [] => by simp [PyData.eqvAll]
  | [], y :: ys => by simp [PyData.eqvAll]
  | x :: xs, [] => by simp [PyData.eqvAll]
  | x :: xs, y :: ys => by
    have ih := eqv_ints xs ys
    simp only [List.map_cons, PyData.eqvAll, PyData.eqv, ih, List.cons.injEq]
    by_cases e : x = y <;> simp [e]
theorem lay_strs : ∀ xs : List Str, xs.all PyData.strOk = true → PyData.canLayAll0 (xs.map PyData.str) = true
  | [], _ => rfl
  | x :: r, h => by
    rw [List.all_cons, Bool.and_eq_true] at h
    simp only [List.map_cons, PyData.canLayAll0, PyData.canLay0, h.1, lay_strs r h.2, Bool.and_self]
theorem lay_ints : ∀ xs : List Int, PyData.canLayAll0 (xs.map PyData.int) = true
  | [] => rfl
  | x :: r => by simp only [List.map_cons, PyData.canLayAll0, PyData.canLay0, lay_ints r, Bool.and_self]
theorem flat_strs : ∀ xs : List Str, PyData.depthAll (xs.map PyData.str) = 0
  | [] => rfl
  | x :: r => by simp only [List.map_cons, PyData.depthAll, PyData.depth, flat_strs r, Nat.max_self]
theorem flat_ints : ∀ xs : List Int, PyData.depthAll (xs.map PyData.int) = 0
  | [] => rfl
  | x :: r => by simp only [List.map_cons, PyData.depthAll, PyData.depth, flat_ints r, Nat.max_self]
theorem shaped_strs {xs : List Str} (h : xs.all PyData.strOk = true) : SeqAt.shaped (.list (xs.map PyData.str)) = true := by
  unfold SeqAt.shaped
  simp only [PyData.canLay0, lay_strs xs h, PyData.depth, flat_strs, Bool.true_and]
  decide
theorem shaped_ints {xs : List Int} : SeqAt.shaped (.list (xs.map PyData.int)) = true := by
  unfold SeqAt.shaped
  simp only [PyData.canLay0, lay_ints xs, PyData.depth, flat_ints, Bool.true_and]
  decide
theorem ne_strs {K : Frag} {H : Hp} {p q : Addr} {xs ys : List Str} {Q : VK} (hp : SqL K H p (xs.map V.str)) (hq : SqL K H q (ys.map V.str)) (ox : xs.all PyData.strOk = true) (oy : ys.all PyData.strOk = true) (k : Q (.bl (!decide (xs = ys))) H) : rNeD K (.ref p) (.ref q) H Q :=
  ⟨_, _, .lst hp (dp_strs xs), .lst hq (dp_strs ys), shaped_strs ox, shaped_strs oy, by simp only [PyData.eqv, eqv_strs]; exact k⟩
theorem eq_strs {K : Frag} {H : Hp} {p q : Addr} {xs ys : List Str} {Q : VK} (hp : SqL K H p (xs.map V.str)) (hq : SqL K H q (ys.map V.str)) (ox : xs.all PyData.strOk = true) (oy : ys.all PyData.strOk = true) (k : Q (.bl (decide (xs = ys))) H) : rEqD K (.ref p) (.ref q) H Q :=
  ⟨_, _, .lst hp (dp_strs xs), .lst hq (dp_strs ys), shaped_strs ox, shaped_strs oy, by simp only [PyData.eqv, eqv_strs]; exact k⟩
theorem ne_ints {K : Frag} {H : Hp} {p q : Addr} {xs ys : List Int} {Q : VK} (hp : SqL K H p (xs.map V.int)) (hq : SqL K H q (ys.map V.int)) (k : Q (.bl (!decide (xs = ys))) H) : rNeD K (.ref p) (.ref q) H Q :=
  ⟨_, _, .lst hp (dp_ints xs), .lst hq (dp_ints ys), shaped_ints, shaped_ints, by simp only [PyData.eqv, eqv_ints]; exact k⟩
theorem eq_ints {K : Frag} {H : Hp} {p q : Addr} {xs ys : List Int} {Q : VK} (hp : SqL K H p (xs.map V.int)) (hq : SqL K H q (ys.map V.int)) (k : Q (.bl (decide (xs = ys))) H) : rEqD K (.ref p) (.ref q) H Q :=
  ⟨_, _, .lst hp (dp_ints xs), .lst hq (dp_ints ys), shaped_ints, shaped_ints, by simp only [PyData.eqv, eqv_ints]; exact k⟩
/-- kinds as a law compares them -/
theorem ne_kind {K : Frag} {H : Hp} {p q : Addr} {x : Str} {Q : VK} (hp : H p = some (.lst [.str x])) (hq : H q = some (.lst [.str x])) (ox : PyData.strOk x = true) (k : Q (.bl false) H) : rNeD K (.ref p) (.ref q) H Q :=
  ne_strs (xs := [x]) (ys := [x]) (SqL.of hp) (SqL.of hq) (by simp [ox]) (by simp [ox]) (by simpa using k)
theorem shaped_of {d : PyData} (h1 : PyData.canLay0 d = true) (h2 : d.depth ≤ 64) : SeqAt.shaped d = true := by
  unfold SeqAt.shaped
  rw [h1, Bool.true_and]
  exact decide_eq_true h2
/-- two that say the same -/
theorem ne_same {K : Frag} {H : Hp} {x y : V} {d : PyData} {Q : VK} (hx : Dp K H x d) (hy : Dp K H y d) (hs : SeqAt.shaped d = true) (he : PyData.eqv d d = true) (k : Q (.bl false) H) : rNeD K x y H Q :=
  ⟨d, d, hx, hy, hs, hs, by rw [he]; exact k⟩
theorem eq_same {K : Frag} {H : Hp} {x y : V} {d : PyData} {Q : VK} (hx : Dp K H x d) (hy : Dp K H y d) (hs : SeqAt.shaped d = true) (he : PyData.eqv d d = true) (k : Q (.bl true) H) : rEqD K x y H Q :=
  ⟨d, d, hx, hy, hs, hs, by rw [he]; exact k⟩
theorem dp_3 {K : Frag} {H : Hp} {t : Addr} {a b c : Int} (ht : SqT K H t [.int a, .int b, .int c]) : Dp K H (.ref t) (.tuple [.int a, .int b, .int c]) :=
  .tup ht (.cons (.int _) (.cons (.int _) (.cons (.int _) .nil)))
theorem dp_pair {K : Frag} {H : Hp} {t l : Addr} {x y : V} {d e : PyData} (ht : SqT K H t [x, .ref l]) (hx : Dp K H x d) (hl : SqL K H l [y]) (hy : Dp K H y e) : Dp K H (.ref t) (.tuple [d, .list [e]]) :=
  .tup ht (.cons hx (.cons (.lst hl (.cons hy .nil)) .nil))
/-! ### loops -/
theorem tfor_range1 {ta : TA} {g : TG} {tb : TS} {D : Ends} {σ : L2.St} {H : Hp} {n : Int} (ha : ∀ Q : List V → Hp → Prop, Q [.int n] H → ta σ H Q) (hn : -1000000 ≤ n ∧ n ≤ 1000000) (Pv : Nat → L2.St → Hp → Prop) (h0 : Pv 0 σ H)
    (hs : ∀ (i : Nat) σ' H', (i : Int) < n → Pv i σ' H' → g (.int (i : Int)) σ' H' fun σ2 H2 => tb { D with nx := Pv (i + 1), ct := Pv (i + 1), bk := D.nx } σ2 H2) (hd : ∀ σ' H', Pv n.toNat σ' H' → D.nx σ' H') : tFor (iRng1 ta) g tb D σ H :=
  ha _ ⟨n, rfl, by omega, by omega, for_range (lo := 0) (n := n.toNat) Pv h0 (fun i σ' H' hi p => by
    rw [Int.zero_add]
    exact hs i σ' H' (by omega) p) hd⟩
theorem tfor_range2 {ta : TA} {g : TG} {tb : TS} {D : Ends} {σ : L2.St} {H : Hp} {lo hi : Int} (ha : ∀ Q : List V → Hp → Prop, Q [.int lo, .int hi] H → ta σ H Q) (hn : -1000000 ≤ lo ∧ lo ≤ 1000000 ∧ -1000000 ≤ hi ∧ hi ≤ 1000000) (Pv : Nat → L2.St → Hp → Prop) (h0 : Pv 0 σ H)
    (hs : ∀ (i : Nat) σ' H', lo + (i : Int) < hi → Pv i σ' H' → g (.int (lo + (i : Int))) σ' H' fun σ2 H2 => tb { D with nx := Pv (i + 1), ct := Pv (i + 1), bk := D.nx } σ2 H2) (hd : ∀ σ' H', Pv (hi - lo).toNat σ' H' → D.nx σ' H') : tFor (iRng2 ta) g tb D σ H :=
  ha _ ⟨lo, hi, rfl, ⟨by omega, by omega, by omega, by omega⟩, for_range (lo := lo) (n := (hi - lo).toNat) Pv h0 (fun i σ' H' hi p => hs i σ' H' (by omega) p) hd⟩
theorem tfor_lvar {K : Frag} {j : Nat} {a : Addr} {xs : List V} {g : TG} {tb : TS} {D : Ends} {σ : L2.St} {H : Hp} (hj : σ[j]? = some (some (.ref a))) (hS : SqL K H a xs) (Pv : Nat → L2.St → Hp → Prop) (h0 : Pv 0 σ H) (hl : ∀ i σ' H', i ≤ xs.length → Pv i σ' H' → SqL K H' a xs)
    (hs : ∀ i x σ' H', xs[i]? = some x → Pv i σ' H' → g x σ' H' fun σ2 H2 => tb { D with nx := Pv (i + 1), ct := Pv (i + 1), bk := D.nx } σ2 H2) (hd : ∀ σ' H', Pv xs.length σ' H' → D.nx σ' H') : tFor (iList K (tVar j)) g tb D σ H :=
  ⟨_, hj, a, rfl, ⟨xs, hS⟩, for_list (xs := xs) Pv h0 hl hs hd⟩
theorem tfor_five {K : Frag} {j : Nat} {n : Int} {a : Addr} {xs : List V} {g : TG} {tb : TS} {D : Ends} {σ : L2.St} {H : Hp} (hj : σ[j]? = some (some (.ref a))) (hS : SqL K H a xs) (hz : xs.length ≤ 100000)
    (h : ∀ b H1, Same H H1 → H1 b = some (.lst (.int n :: xs)) → H b = none → ∃ Pv : Nat → L2.St → Hp → Prop, Pv 0 σ H1 ∧ (∀ i σ' H', i ≤ (V.int n :: xs).length → Pv i σ' H' → SqL K H' b (.int n :: xs)) ∧
    (∀ i x σ' H', (V.int n :: xs)[i]? = some x → Pv i σ' H' → g x σ' H' fun σ2 H2 => tb { D with nx := Pv (i + 1), ct := Pv (i + 1), bk := D.nx } σ2 H2) ∧ (∀ σ' H', Pv (V.int n :: xs).length σ' H' → D.nx σ' H')) :
    tFor (iList K (tOp (rCatS K) (tLst (tCons (tC (.int n)) tNil)) (tVar j))) g tb D σ H := by
  refine ⟨by show 1 ≤ sizeLine; decide, fun p hp => ⟨_, hj, p, a, [.int n], xs, rfl, rfl, SqL.of upd_same, (same_upd hp).seq hS, ?_, fun b hb => ?_⟩⟩
  · show 1 + xs.length ≤ sizeLine
    exact Nat.le_trans (show 1 + xs.length ≤ 100001 by omega) (by decide)
  · have s2 : Same H (upd (upd H p (.lst [.int n])) b (.lst ([.int n] ++ xs))) := (same_upd hp).trans (same_upd hb)
    obtain ⟨Pv, h0, hl, hs, hd⟩ := h b _ s2 upd_same (fresh_was hb)
    exact ⟨b, rfl, ⟨_, SqL.of upd_same⟩, for_list (xs := V.int n :: xs) Pv h0 hl hs hd⟩
theorem tfor_list {K : Frag} {tl : TE} {g : TG} {tb : TS} {D : Ends} {σ : L2.St} {H : Hp}
    (h : tl σ H fun x H1 => ∃ a xs, x = .ref a ∧ SqL K H1 a xs ∧ ∃ Pv : Nat → L2.St → Hp → Prop, Pv 0 σ H1 ∧ (∀ i σ' H', i ≤ xs.length → Pv i σ' H' → SqL K H' a xs) ∧
      (∀ i x σ' H', xs[i]? = some x → Pv i σ' H' → g x σ' H' fun σ2 H2 => tb { D with nx := Pv (i + 1), ct := Pv (i + 1), bk := D.nx } σ2 H2) ∧ ∀ σ' H', Pv xs.length σ' H' → D.nx σ' H')
    (mono : ∀ Q Q' : VK, (∀ v H', Q v H' → Q' v H') → tl σ H Q → tl σ H Q') : tFor (iList K tl) g tb D σ H :=
  mono _ _ (fun v H' ⟨a, xs, e, hS, Pv, h0, hl, hs, hd⟩ => ⟨a, e, ⟨xs, hS⟩, for_list (xs := xs) Pv h0 hl hs hd⟩) h
theorem tfor_disp {K : Frag} {ta : TA} (vs : List V) {g : TG} {tb : TS} {D : Ends} {σ : L2.St} {H : Hp} (hz : vs.length ≤ 1000) (ha : ∀ Q : List V → Hp → Prop, (∀ H1, Same H H1 → Q vs H1) → ta σ H Q)
    (h : ∀ b H1, Same H H1 → H1 b = some (.lst vs) → H b = none → ∃ Pv : Nat → L2.St → Hp → Prop, Pv 0 σ H1 ∧ (∀ i σ' H', Pv i σ' H' → SqL K H' b vs) ∧
    (∀ i x σ' H', vs[i]? = some x → Pv i σ' H' → g x σ' H' fun σ2 H2 => tb { D with nx := Pv (i + 1), ct := Pv (i + 1), bk := D.nx } σ2 H2) ∧ (∀ σ' H', Pv vs.length σ' H' → D.nx σ' H')) :
    tFor (iList K (tLst ta)) g tb D σ H :=
  ha _ fun H1 s1 => ⟨Nat.le_trans hz (by decide), fun p hp => by
    obtain ⟨Pv, h0, hl, hs, hd⟩ := h p _ (s1.trans (same_upd hp)) upd_same (s1.free hp)
    exact ⟨p, rfl, ⟨_, SqL.of upd_same⟩, for_list (xs := vs) Pv h0 (fun i σ' H' _ => hl i σ' H') hs hd⟩⟩
/-! ### any walk -/
def ForGoal (J : It) (g : TG) (tb : TS) (D : Ends) (σ : L2.St) (H : Hp) : Prop :=
  ∃ W : Nat → Nat → L2.St → Hp → Prop, (∃ m, W 0 m σ H) ∧ ∀ i m σ H, W i m σ H →
      (J.stop i H ∧ D.nx σ H) ∨ (J.go i H ∧ ∃ N : L2.St → Hp → Prop, (∀ σ' H', N σ' H' → ∃ m', m' < m ∧ W (i + 1) m' σ' H') ∧ ∀ x H', J.yld i H x H' → g x σ H' fun σ2 H2 => tb { D with nx := N, ct := N, bk := D.nx } σ2 H2)
theorem tFor_eq {wi : TI} {g : TG} {tb : TS} {D : Ends} {σ : L2.St} {H : Hp} : tFor wi g tb D σ H = wi σ H fun J H1 => ForGoal J g tb D σ H1 := rfl
theorem for_go {J : It} {n : Nat} {G : Hp → Prop} {Y : Nat → Hp → V → Hp → Prop} (w : Walk J n G Y) {g : TG} {tb : TS} {D : Ends} {σ : L2.St} {H : Hp} (Pv : Nat → L2.St → Hp → Prop) (h0 : Pv 0 σ H) (hG : ∀ i σ H, i ≤ n → Pv i σ H → G H)
    (hs : ∀ i x σ H H', i < n → Pv i σ H → Y i H x H' → g x σ H' fun σ2 H2 => tb { D with nx := Pv (i + 1), ct := Pv (i + 1), bk := D.nx } σ2 H2) (hd : ∀ σ H, Pv n σ H → D.nx σ H) : ForGoal J g tb D σ H := for_it w Pv h0 hG hs hd
theorem for_rng {lo : Int} {n : Nat} {g : TG} {tb : TS} {D : Ends} {σ : L2.St} {H : Hp} (Pv : Nat → L2.St → Hp → Prop) (h0 : Pv 0 σ H)
    (hs : ∀ (i : Nat) σ H, i < n → Pv i σ H → g (.int (lo + (i : Int))) σ H fun σ2 H2 => tb { D with nx := Pv (i + 1), ct := Pv (i + 1), bk := D.nx } σ2 H2) (hd : ∀ σ H, Pv n σ H → D.nx σ H) : ForGoal (Itr lo n) g tb D σ H := for_range Pv h0 hs hd
theorem for_rng0 {n : Nat} {g : TG} {tb : TS} {D : Ends} {σ : L2.St} {H : Hp} (Pv : Nat → L2.St → Hp → Prop) (h0 : Pv 0 σ H)
    (hs : ∀ (i : Nat) σ H, i < n → Pv i σ H → g (.int (i : Int)) σ H fun σ2 H2 => tb { D with nx := Pv (i + 1), ct := Pv (i + 1), bk := D.nx } σ2 H2) (hd : ∀ σ H, Pv n σ H → D.nx σ H) : ForGoal (Itr 0 n) g tb D σ H :=
  for_range Pv h0 (fun i σ H hi p => by rw [Int.zero_add]; exact hs i σ H hi p) hd
theorem for_lst {K : Frag} {a : Addr} (xs : List V) {g : TG} {tb : TS} {D : Ends} {σ : L2.St} {H : Hp} (Pv : Nat → L2.St → Hp → Prop) (h0 : Pv 0 σ H) (hl : ∀ i σ H, Pv i σ H → SqL K H a xs)
    (hs : ∀ (i : Nat) x σ H, xs[i]? = some x → Pv i σ H → g x σ H fun σ2 H2 => tb { D with nx := Pv (i + 1), ct := Pv (i + 1), bk := D.nx } σ2 H2) (hd : ∀ σ H, Pv xs.length σ H → D.nx σ H) : ForGoal (Itl K a) g tb D σ H :=
  for_list Pv h0 (fun i σ H _ p => hl i σ H p) hs hd
theorem for_zp {K : Frag} {a b : Addr} (xs ys : List V) (n : Nat) (hn : n = min xs.length ys.length) {g : TG} {tb : TS} {D : Ends} {σ : L2.St} {H : Hp} (Pv : Nat → L2.St → Hp → Prop) (h0 : Pv 0 σ H) (hG : ∀ i σ H, Pv i σ H → SqL K H a xs ∧ SqL K H b ys)
    (hs : ∀ (i : Nat) x y (T : Addr) σ H, i < n → xs[i]? = some x → ys[i]? = some y → Pv i σ H → H T = none → g (.ref T) σ (upd H T (.tup [x, y])) fun σ2 H2 => tb { D with nx := Pv (i + 1), ct := Pv (i + 1), bk := D.nx } σ2 H2) (hd : ∀ σ H, Pv n σ H → D.nx σ H) : ForGoal (Itz K a b) g tb D σ H :=
  for_go (walk_zip hn) Pv h0 (fun i σ H _ p => hG i σ H p) (fun i v σ H H' hi p y => by obtain ⟨T, x, y, rfl, hT, rfl, hx, hy⟩ := y; exact hs i x y T σ H hi hx hy p hT) hd
theorem for_en {K : Frag} {a : Addr} (xs : List V) {g : TG} {tb : TS} {D : Ends} {σ : L2.St} {H : Hp} (Pv : Nat → L2.St → Hp → Prop) (h0 : Pv 0 σ H) (hG : ∀ i σ H, Pv i σ H → SqL K H a xs)
    (hs : ∀ (i : Nat) x (T : Addr) σ H, xs[i]? = some x → Pv i σ H → H T = none → g (.ref T) σ (upd H T (.tup [.int (i : Int), x])) fun σ2 H2 => tb { D with nx := Pv (i + 1), ct := Pv (i + 1), bk := D.nx } σ2 H2) (hd : ∀ σ H, Pv xs.length σ H → D.nx σ H) : ForGoal (Ite K a) g tb D σ H :=
  for_go walk_enum Pv h0 (fun i σ H _ p => hG i σ H p) (fun i v σ H H' hi p y => by obtain ⟨T, x, y, rfl, hT, rfl, hx, hy⟩ := y; cases hx; exact hs i y T σ H hy p hT) hd
/-- the law's own loop, over [n] + script -/
theorem for_cells {K : Frag} {H0 : Hp} {n : Int} {b : Addr} {ns : List Int} {g : TG} {tb : TS} {D : Ends} {σ : L2.St} (hb : H0 b = some (.lst (.int n :: ns.map V.int))) (hn : Builtin.Int.intBits n ≤ 64) (hz : ∀ z ∈ ns, Builtin.Int.intBits z ≤ 1048576) (J : L2.St → Hp → Prop) (h0 : J σ H0) (hl : ∀ σ H, J σ H → Same H0 H)
    (hs : ∀ z σ H, Builtin.Int.intBits z ≤ 1048576 → J σ H → g (.int z) σ H fun σ2 H2 => tb { D with nx := J, ct := J, bk := D.nx } σ2 H2) (hd : ∀ σ H, J σ H → D.nx σ H) : ForGoal (Itl K b) g tb D σ H0 := by
  refine for_lst (.int n :: ns.map V.int) (fun _ => J) h0 (fun _ σ H j => SqL.of (hl σ H j _ _ hb)) (fun i x σ H e j => ?_) hd
  cases i with
  | zero => cases e; exact hs n σ H (Nat.le_trans hn (by decide)) j
  | succ i =>
    obtain ⟨z, e1, rfl⟩ := ref_num (ns := ns) (i := i) e
    exact hs z σ H (hz z (List.mem_of_getElem? e1)) j
theorem tfor_cells {K : Frag} {j : Nat} {n : Int} {a : Addr} {ns : List Int} {g : TG} {tb : TS} {D : Ends} {σ : L2.St} {H0 : Hp} (hj : σ[j]? = some (some (.ref a))) (hS : SqL K H0 a (ns.map V.int)) (hz : ns.length ≤ 63)
    (h : ∀ b H1, Same H0 H1 → H1 b = some (.lst (.int n :: ns.map V.int)) → ForGoal (Itl K b) g tb D σ H1) :
    tFor (iList K (tOp (rCatS K) (tLst (tCons (tC (.int n)) tNil)) (tVar j))) g tb D σ H0 := by
  refine ⟨by show 1 ≤ sizeLine; decide, fun p hp => ⟨_, hj, p, a, [.int n], ns.map V.int, rfl, rfl, SqL.of upd_same, (same_upd hp).seq hS, ?_, fun b hb => ⟨b, rfl, ⟨_, SqL.of upd_same⟩, h b _ ((same_upd hp).trans (same_upd hb)) upd_same⟩⟩⟩
  rw [List.length_map]
  exact Nat.le_trans (show 1 + ns.length ≤ 100 by omega) (by decide)
theorem for_tp {K : Frag} {a : Addr} (xs : List V) {g : TG} {tb : TS} {D : Ends} {σ : L2.St} {H : Hp} (Pv : Nat → L2.St → Hp → Prop) (h0 : Pv 0 σ H) (hl : ∀ i σ H, Pv i σ H → SqT K H a xs)
    (hs : ∀ (i : Nat) x σ H, xs[i]? = some x → Pv i σ H → g x σ H fun σ2 H2 => tb { D with nx := Pv (i + 1), ct := Pv (i + 1), bk := D.nx } σ2 H2) (hd : ∀ σ H, Pv xs.length σ H → D.nx σ H) : ForGoal (Itt K a) g tb D σ H :=
  for_tup Pv h0 (fun i σ H _ p => hl i σ H p) hs hd
theorem while_cps {c : TT} {tb : TS} {D : Ends} {σ : L2.St} {H : Hp} (Pv : L2.St → Hp → Prop) (μ : L2.St → Hp → Nat) (h0 : Pv σ H)
    (hs : ∀ σ' H', Pv σ' H' → ∀ U : Bool → Hp → Prop, (∀ H1, tb { D with nx := fun σ2 H2 => Pv σ2 H2 ∧ μ σ2 H2 < μ σ' H', ct := fun σ2 H2 => Pv σ2 H2 ∧ μ σ2 H2 < μ σ' H', bk := D.nx } σ' H1 → U true H1) → (∀ H1, D.nx σ' H1 → U false H1) → c σ' H' U) : tWhile c tb D σ H := by
  refine ⟨fun m σ H => m = μ σ H ∧ Pv σ H, ⟨_, rfl, h0⟩, ?_⟩
  rintro m σ H ⟨rfl, p⟩
  refine hs σ H p _ (fun H1 h => ?_) (fun H1 h => ?_)
  · show if true = true then _ else _
    rw [if_pos rfl]
    exact ⟨_, fun σ' H' ⟨p', l⟩ => ⟨_, l, rfl, p'⟩, h⟩
  · show if false = true then _ else _
    rw [if_neg (by decide)]
    exact h
def LcGoal (J : It) (g : TG) (tt : TT) (te : TE) (vs : List Nat) (σ : L2.St) (H1 : Hp) (Q : VK) : Prop := ∀ D, H1 D = none → ∃ W : Nat → Nat → Hp → Prop, (∃ m, W 0 m (upd H1 D (.lst []))) ∧ ∀ i m H, W i m H →
  (J.stop i H ∧ Q (.ref D) H) ∨ (J.go i H ∧ ∃ Nx : Hp → Prop, (∀ H', Nx H' → ∃ m', m' < m ∧ W (i + 1) m' H') ∧ ∀ x H', J.yld i H x H' → g x (wipe σ vs) H' fun σ2 H2 => wipe σ2 vs = wipe σ vs ∧ tt σ2 H2 fun b H3 =>
    if b = true then te σ2 H3 fun y H4 => ∃ acc, H4 D = some (.lst acc) ∧ acc.length < sizeLine ∧ Nx (upd H4 D (.lst (acc ++ [y]))) else Nx H3)
theorem tLc_eq {wi : TI} {g : TG} {tt : TT} {te : TE} {vs : List Nat} {σ : L2.St} {H : Hp} {Q : VK} : tLc wi g tt te vs σ H Q = wi σ H fun J H1 => LcGoal J g tt te vs σ H1 Q := rfl
/-- a comprehension without a test; what is told of the i-th item is told in a heap that only grows -/
theorem lc_go {J : It} {n : Nat} {G : Hp → Prop} {Y : Nat → Hp → V → Hp → Prop} (w : Walk J n G Y) {g : TG} {te : TE} {vs : List Nat} {σ : L2.St} {H1 : Hp} {Q : VK} (R : Nat → V → Hp → Prop) (hn : n < sizeLine)
    (hR : ∀ i y H H' D, H1 D = none → (∃ xs, H D = some (.lst xs)) → Same H1 H → R i y H → (∀ b o, b ≠ D → H b = some o → H' b = some o) → R i y H') (hG : ∀ H, Same H1 H → G H)
    (hs : ∀ i x H H' D (U : VK), i < n → H1 D = none → (∃ xs, H D = some (.lst xs)) → Same H1 H → Y i H x H' → (∀ y H4, R i y H4 → Same H H4 → U y H4) → g x (wipe σ vs) H' fun σ2 H2 => wipe σ2 vs = wipe σ vs ∧ te σ2 H2 U)
    (hd : ∀ p ys H, H1 p = none → Same H1 H → ys.length = n → (∀ i y, ys[i]? = some y → R i y H) → H p = some (.lst ys) → Q (.ref p) H) : LcGoal J g tYes te vs σ H1 Q := by
  intro D hD
  refine lc_it w (Pv := fun i H => Same H1 H ∧ ∃ ys : List V, H D = some (.lst ys) ∧ ys.length = i ∧ ∀ (j : Nat) y, ys[j]? = some y → R j y H) ⟨same_upd hD, [], upd_same, rfl, fun j y e => by simp at e⟩ (fun i H hi p => hG H p.1) ?_ ?_
  · rintro i x H H' hi ⟨s1, ys, hy, hl, hr⟩ y
    refine hs i x H H' D _ hi hD ⟨_, hy⟩ s1 y fun y2 H4 r s2 => ?_
    have g0 : ∀ b o, b ≠ D → H b = some o → (upd H4 D (HO.lst (ys ++ [y2]))) b = some o := fun b o hb e => by rw [upd_ne hb]; exact s2 _ _ e
    refine ⟨ys, s2 _ _ hy, by omega, fun b o e => ?_, ys ++ [y2], upd_same, by simp [hl], fun j y3 e => ?_⟩
    · have hb : b ≠ D := ne_of_none e hD
      rw [upd_ne hb]
      exact s2 _ _ (s1 _ _ e)
    · rcases Nat.lt_or_ge j ys.length with hj | hj
      · rw [List.getElem?_append_left hj] at e
        exact hR _ _ H _ D hD ⟨_, hy⟩ s1 (hr _ _ e) g0
      · have hj2 : j = i := by
          have z := (List.getElem?_eq_some_iff.mp e).1
          simp at z
          omega
        subst hj2
        rw [List.getElem?_append_right hj, hl, Nat.sub_self] at e
        cases e
        exact hR _ _ H4 _ D hD ⟨_, s2 _ _ hy⟩ (s1.trans s2) r fun b o hb e => by rw [upd_ne hb]; exact e
  · rintro H ⟨s1, ys, hy, hl, hr⟩
    exact hd D ys H hD s1 hl hr hy
/-- .. where the items are known beforehand -/
theorem lc_pure {J : It} {n : Nat} {G : Hp → Prop} {Y : Nat → Hp → V → Hp → Prop} (w : Walk J n G Y) {g : TG} {te : TE} {vs : List Nat} {σ : L2.St} {H1 : Hp} {Q : VK} (ys : List V) (hl : ys.length = n) (hn : n < sizeLine) (hG : ∀ H, Same H1 H → G H)
    (hs : ∀ (i : Nat) x y H H' (U : VK), ys[i]? = some y → Same H1 H → Y i H x H' → (∀ H4, Same H H4 → U y H4) → g x (wipe σ vs) H' fun σ2 H2 => wipe σ2 vs = wipe σ vs ∧ te σ2 H2 U)
    (hd : ∀ p H, H1 p = none → Same H1 H → H p = some (.lst ys) → Q (.ref p) H) : LcGoal J g tYes te vs σ H1 Q := by
  refine lc_go w (fun i y _ => ys[i]? = some y) hn (fun _ _ _ _ _ _ _ _ r _ => r) hG (fun i x H H' D U hi _ _ s1 y hu => ?_) fun p zs H hp s1 hz hr e => ?_
  · have e : ys[i]? = some ys[i] := List.getElem?_eq_getElem (by omega)
    exact hs i x _ H H' U e s1 y fun H4 s2 => hu _ _ e s2
  · have z : zs = ys := by
      refine List.ext_getElem? fun i => ?_
      rcases Nat.lt_or_ge i zs.length with h | h
      · rw [hr i _ (List.getElem?_eq_getElem h), List.getElem?_eq_getElem h]
      · rw [List.getElem?_eq_none h, List.getElem?_eq_none (by omega)]
    subst z
    exact hd p H hp s1 e
/-- .. with a test, over a list whose items stand for those of ts -/
theorem lc_filter {K : Frag} {α : Type} {a : Addr} {xs : List V} (ts : List α) (hl : xs.length = ts.length) (f : α → Bool) (v : α → V) {g : TG} {tt : TT} {te : TE} {vs : List Nat} {σ : L2.St} {H1 : Hp} {Q : VK} (hn : xs.length < sizeLine) (hS : SqL K H1 a xs)
    (hs : ∀ (i : Nat) x t H (U : VK) (N : Hp → Prop), xs[i]? = some x → ts[i]? = some t → Same H1 H → (f t = true → ∀ H4, Same H H4 → U (v t) H4) → (f t = false → ∀ H4, Same H H4 → N H4) → g x (wipe σ vs) H fun σ2 H2 => wipe σ2 vs = wipe σ vs ∧ tt σ2 H2 fun b H3 => if b = true then te σ2 H3 U else N H3)
    (hd : ∀ p H, H1 p = none → Same H1 H → H p = some (.lst ((ts.filter f).map v)) → Q (.ref p) H) : LcGoal (Itl K a) g tt te vs σ H1 Q := by
  intro D hD
  refine lc_list (xs := xs) (fun i H => Same H1 H ∧ H D = some (.lst (((ts.take i).filter f).map v))) ⟨same_upd hD, by simp [upd_same]⟩ (fun i H _ p => p.1.seq hS) ?_ ?_
  · rintro i x H hx ⟨s1, e⟩
    have hi := (List.getElem?_eq_some_iff.mp hx).1
    obtain ⟨t, ht⟩ : ∃ t, ts[i]? = some t := ⟨_, List.getElem?_eq_getElem (by omega)⟩
    have tk : ts.take (i + 1) = ts.take i ++ [t] := by rw [List.take_add_one, ht]; rfl
    refine hs i x t H _ _ hx ht s1 (fun ft H4 s2 => ⟨_, s2 _ _ e, ?_, fun b o e2 => ?_, ?_⟩) fun ft H4 s2 => ⟨s1.trans s2, ?_⟩
    · refine Nat.lt_of_le_of_lt ?_ hn
      rw [List.length_map]
      exact Nat.le_trans (List.length_filter_le _ _) (by simp; omega)
    · rw [upd_ne (ne_of_none e2 hD)]
      exact s2 _ _ (s1 _ _ e2)
    · rw [upd_same, tk, List.filter_append, List.map_append]
      simp [ft]
    · rw [s2 _ _ e, tk, List.filter_append, List.map_append]
      simp [ft]
  · rintro H ⟨s1, e⟩
    rw [hl, List.take_length] at e
    exact hd D H hD s1 e
theorem ix_last {K : Frag} {a : Addr} {xs : List V} {v : V} {H : Hp} {Q : VK} (hS : SqL K H a xs) (e : xs.getLast? = some v) (q : Q v H) : rIxL K (.ref a) (.int (-1)) H Q := by
  have hn : xs ≠ [] := by intro z; rw [z] at e; cases e
  have hl : xs.length ≠ 0 := fun z => hn (List.length_eq_zero_iff.mp z)
  refine ⟨a, xs, -1, v, rfl, rfl, hS, ?_, q⟩
  unfold atI ixN
  rw [if_neg (by decide), if_pos (by omega), show ((-1 : Int) + (xs.length : Int)).toNat = xs.length - 1 by omega]
  rw [List.getLast?_eq_getElem?] at e
  exact e
theorem ints_of {P : Int → Prop} : ∀ {ys : List V}, (∀ (i : Nat) y, ys[i]? = some y → ∃ v, y = .int v ∧ P v) → ∃ ns : List Int, ys = ns.map V.int ∧ ∀ v ∈ ns, P v
  | [], _ => ⟨[], rfl, fun _ h => by simp at h⟩
  | y :: r, h => by
    obtain ⟨v, rfl, hv⟩ := h 0 y rfl
    obtain ⟨ns, rfl, hn⟩ := ints_of (ys := r) fun i y e => h (i + 1) y e
    exact ⟨v :: ns, rfl, fun w hw => by rcases List.mem_cons.mp hw with rfl | hw; exact hv; exact hn w hw⟩
/-- a comprehension whose items are ints of which P holds -/
theorem lc_ints {J : It} {n : Nat} {G : Hp → Prop} {Y : Nat → Hp → V → Hp → Prop} (w : Walk J n G Y) (P : Int → Prop) {g : TG} {te : TE} {vs : List Nat} {σ : L2.St} {H1 : Hp} {Q : VK} (hn : n < sizeLine) (hG : ∀ H, Same H1 H → G H)
    (hs : ∀ i x H H' (U : VK), i < n → Same H1 H → Y i H x H' → (∀ v H4, P v → Same H H4 → U (.int v) H4) → g x (wipe σ vs) H' fun σ2 H2 => wipe σ2 vs = wipe σ vs ∧ te σ2 H2 U)
    (hd : ∀ p (ns : List Int) H, H1 p = none → Same H1 H → ns.length = n → (∀ v ∈ ns, P v) → H p = some (.lst (ns.map V.int)) → Q (.ref p) H) : LcGoal J g tYes te vs σ H1 Q := by
  refine lc_go w (fun _ y _ => ∃ v, y = .int v ∧ P v) hn (fun _ _ _ _ _ _ _ _ r _ => r) hG (fun i x H H' D U hi _ _ s1 y hu => hs i x H H' U hi s1 y fun v H4 p s2 => hu _ _ ⟨v, rfl, p⟩ s2) fun p ys H hp s1 hl hr e => ?_
  obtain ⟨ns, rfl, hp2⟩ := ints_of hr
  exact hd p ns H hp s1 (by simpa using hl) hp2 e
/-! ### slices -/
theorem cut_from {xs : List V} {k : Int} (hk : 0 ≤ k) : cutV xs (some k) none = xs.drop k.toNat := by
  obtain ⟨j, rfl⟩ := Int.eq_ofNat_of_zero_le hk
  unfold cutV
  rw [HT.sIx_nat, HT.sIx_none, Int.toNat_natCast]
  rcases Nat.le_total j xs.length with h | h
  · rw [Nat.min_eq_left h, List.take_of_length_le (by simp)]
  · rw [Nat.min_eq_right h, List.drop_of_length_le h, List.drop_length, List.take_nil]
theorem cut_to {xs : List V} {k : Int} (hk : 0 ≤ k) : cutV xs none (some k) = xs.take k.toNat := by
  obtain ⟨j, rfl⟩ := Int.eq_ofNat_of_zero_le hk
  unfold cutV
  rw [HT.sIx_nat, HT.sIx_none, Int.toNat_natCast, List.drop_zero, Nat.sub_zero]
  rcases Nat.le_total j xs.length with h | h
  · rw [Nat.min_eq_left h]
  · rw [Nat.min_eq_right h, List.take_of_length_le h, List.take_length]
/-! ### lists whose items tell something -/
inductive All2 {α : Type} (R : V → α → Prop) : List V → List α → Prop
  | nil : All2 R [] []
  | cons {x t xs ts} : R x t → All2 R xs ts → All2 R (x :: xs) (t :: ts)
namespace All2
variable {α : Type} {R S : V → α → Prop}
theorem len {xs : List V} {ts : List α} (h : All2 R xs ts) : xs.length = ts.length := by
  induction h with
  | nil => rfl
  | cons _ _ ih => rw [List.length_cons, List.length_cons, ih]
theorem mono {xs : List V} {ts : List α} (h : All2 R xs ts) (k : ∀ x t, R x t → S x t) : All2 S xs ts := by
  induction h with
  | nil => exact .nil
  | cons r _ ih => exact .cons (k _ _ r) ih
theorem get {xs : List V} {ts : List α} (h : All2 R xs ts) : ∀ {i : Nat} {x : V}, xs[i]? = some x → ∃ t, ts[i]? = some t ∧ R x t := by
  induction h with
  | nil => intro i x e; simp at e
  | cons r _ ih =>
    intro i x e
    cases i with
    | zero => cases e; exact ⟨_, rfl, r⟩
    | succ j => exact ih e
theorem of {xs : List V} : ∀ {ts : List α}, xs.length = ts.length → (∀ (i : Nat) x t, xs[i]? = some x → ts[i]? = some t → R x t) → All2 R xs ts := by
  induction xs with
  | nil => intro ts hl _; cases ts with
    | nil => exact .nil
    | cons _ _ => cases hl
  | cons x xs ih => intro ts hl h; cases ts with
    | nil => cases hl
    | cons t ts => exact .cons (h 0 x t rfl rfl) (ih (by simpa using hl) fun i x t e1 e2 => h (i + 1) x t e1 e2)
theorem snoc {xs : List V} {ts : List α} {x : V} {t : α} (h : All2 R xs ts) (r : R x t) : All2 R (xs ++ [x]) (ts ++ [t]) := by
  induction h with
  | nil => exact .cons r .nil
  | cons r2 _ ih => exact .cons r2 ih
theorem append {xs ys : List V} {ts us : List α} (h : All2 R xs ts) (h2 : All2 R ys us) : All2 R (xs ++ ys) (ts ++ us) := by
  induction h with
  | nil => exact h2
  | cons r _ ih => exact .cons r ih
theorem drop {xs : List V} {ts : List α} (h : All2 R xs ts) : ∀ k, All2 R (xs.drop k) (ts.drop k) := by
  induction h with
  | nil => intro k; rw [List.drop_nil, List.drop_nil]; exact .nil
  | cons r h ih => intro k; cases k with
    | zero => exact .cons r h
    | succ k => exact ih k
theorem take {xs : List V} {ts : List α} (h : All2 R xs ts) : ∀ k, All2 R (xs.take k) (ts.take k) := by
  induction h with
  | nil => intro k; rw [List.take_nil, List.take_nil]; exact .nil
  | cons r h ih => intro k; cases k with
    | zero => exact .nil
    | succ k => exact .cons r (ih k)
end All2
/-- a pair of ints -/
def Pr (K : Frag) (H : Hp) : V → Int × Int → Prop := fun x t => ∃ r, x = .ref r ∧ SqT K H r [.int t.1, .int t.2]
theorem Pr.same {K : Frag} {H H' : Hp} {x : V} {t : Int × Int} (s : Same H H') (h : Pr K H x t) : Pr K H' x t := by
  obtain ⟨r, e, q⟩ := h
  exact ⟨r, e, same_tup s q⟩
/-- a list of pairs of ints -/
def Prs (K : Frag) (H : Hp) (a : Addr) (ts : List (Int × Int)) : Prop := ∃ xs, SqL K H a xs ∧ All2 (Pr K H) xs ts
theorem Prs.same {K : Frag} {H H' : Hp} {a : Addr} {ts : List (Int × Int)} (s : Same H H') (h : Prs K H a ts) : Prs K H' a ts := by
  obtain ⟨xs, q, h⟩ := h
  exact ⟨xs, s.seq q, h.mono fun _ _ => Pr.same s⟩
/-- .. compared -/
def pdP (t : Int × Int) : PyData := .tuple [.int t.1, .int t.2]
theorem dp_prs {K : Frag} {H : Hp} {xs : List V} {ts : List (Int × Int)} (h : All2 (Pr K H) xs ts) : DpAll K H xs (ts.map pdP) := by
  induction h with
  | nil => exact .nil
  | cons r _ ih =>
    obtain ⟨r, rfl, hr⟩ := r
    exact .cons (.tup hr (.cons (.int _) (.cons (.int _) .nil))) ih
theorem Prs.dp {K : Frag} {H : Hp} {a : Addr} {ts : List (Int × Int)} (h : Prs K H a ts) : Dp K H (.ref a) (.list (ts.map pdP)) := by
  obtain ⟨xs, hS, hA⟩ := h
  exact .lst hS (dp_prs hA)
theorem lay_prs : ∀ ts : List (Int × Int), PyData.canLayAll0 (ts.map pdP) = true
  | [] => rfl
  | t :: r => by simp only [List.map_cons, PyData.canLayAll0, lay_prs r, pdP, PyData.canLay0, Bool.and_true]
theorem depth_prs : ∀ ts : List (Int × Int), PyData.depthAll (ts.map pdP) ≤ 1
  | [] => by simp [PyData.depthAll]
  | t :: r => by
    have := depth_prs r
    simp only [List.map_cons, PyData.depthAll, pdP, PyData.depth]
    omega
theorem shaped_prs {ts : List (Int × Int)} : SeqAt.shaped (.list (ts.map pdP)) = true :=
  shaped_of (by simp only [PyData.canLay0]; exact lay_prs ts) (by have := depth_prs ts; simp only [PyData.depth]; omega)
theorem eqv_prs : ∀ ts us : List (Int × Int), PyData.eqvAll (ts.map pdP) (us.map pdP) = decide (ts = us)
  | [], [] => by simp [PyData.eqvAll]
  | [], y :: ys => by simp [PyData.eqvAll]
  | x :: xs, [] => by simp [PyData.eqvAll]
  | x :: xs, y :: ys => by
    have ih := eqv_prs xs ys
    simp only [List.map_cons, PyData.eqvAll, ih, List.cons.injEq, pdP, PyData.eqv, Bool.and_true]
    by_cases e : x = y
    · subst e; simp
    · have : ¬(x.1 = y.1 ∧ x.2 = y.2) := fun z => e (Prod.ext z.1 z.2)
      by_cases e1 : x.1 = y.1 <;> by_cases e2 : x.2 = y.2 <;> simp_all
theorem ne_prs {K : Frag} {H : Hp} {p q : Addr} {ts us : List (Int × Int)} {Q : VK} (hp : Prs K H p ts) (hq : Prs K H q us) (k : Q (.bl (!decide (ts = us))) H) : rNeD K (.ref p) (.ref q) H Q :=
  ⟨_, _, hp.dp, hq.dp, shaped_prs, shaped_prs, by simp only [PyData.eqv, eqv_prs]; exact k⟩
theorem eq_prs {K : Frag} {H : Hp} {p q : Addr} {ts us : List (Int × Int)} {Q : VK} (hp : Prs K H p ts) (hq : Prs K H q us) (k : Q (.bl (decide (ts = us))) H) : rEqD K (.ref p) (.ref q) H Q :=
  ⟨_, _, hp.dp, hq.dp, shaped_prs, shaped_prs, by simp only [PyData.eqv, eqv_prs]; exact k⟩
/-! ### the law's end -/
def spLaw (K : Frag) : Sp := fun vs H Q _ => ∃ (a : Addr) (ns : List Int), vs = [.ref a] ∧ SqL K H a (ns.map V.int) ∧ ns.length ≤ 63 ∧ (∀ z ∈ ns, Builtin.Int.intBits z ≤ 1048576) ∧ ∀ H', Q (.bl true) H'
theorem walk {l : PySem.W.OpenLaw} {k : Nat} {q : Program} {loose : List Str} {XP : (Str → Option Value) → Heap → Prop} {YP : World → Heap → Prop} {d : DefRec} {K : Params → Frag}
    (hn : l.most = some 63) (hdf : d.params.defaults = []) (hr : Room k callerA) (hY : ∀ (w : World) (h : Heap), YP w h → (K w.params).In h)
    (F : ∀ (w : World) (mg : Str → Option Value) (fa : Addr) (h : Heap), (K w.params).In h → h.Ns mainGlobals mg → mg d.name = some (.ref fa) →
      ∃ fd : FuncData, (∀ (s : Shared) (u : Value), BindsTo s fd ⟨[u], []⟩ [(("script" : Str), u)]) ∧ ∀ base : Heap, (K w.params).In base → base.Ns mainGlobals mg → FnOk l.prog w (K w.params) mg base CX0 k fa fd ["script"] (spLaw (K w.params))) :
    PySem.W.WalkO q loose XP YP l.row.toRowW d [] (fun f vs => PySem.call f vs) :=
  L2.walk_ofB (n := 63) (k := k) (x := "script") (CX := fun _ => CX0) (sp := fun w => spLaw (K w.params)) hn (by decide) hdf hr hY F
    (fun _ _ a ns hl hb _ hS => ⟨a, ns, rfl, hS, hl, hb, fun _ => rfl⟩) fun _ _ _ _ _ z => z
end Kv

set_option Elab.async false
set_option linter.all false
set_option maxRecDepth 100000
set_option maxHeartbeats 4000000
namespace K02
open PySem PySem.Spec PyProof.Rows L2
def top (i : Nat) : Stmt := PySem.Challenge.pw_corebank_k02_format_and_parse_agree.main.body.getD i (.Pass ⟨0, 0, 0, 0⟩)
abbrev s_is_amount : Stmt := top 15
abbrev s_check_digits : Stmt := top 16
abbrev s_format_amount : Stmt := top 17
abbrev s_is_whole_part : Stmt := top 18
abbrev s_is_decimal_part : Stmt := top 19
abbrev s_parse_amount : Stmt := top 20
abbrev s_L_numbers : Stmt := top 22
abbrev s_L_kinds : Stmt := top 23
abbrev s_L_is_integer : Stmt := top 24
abbrev s_L_refusals : Stmt := top 25
abbrev s_L_amount : Stmt := top 26
abbrev s_L_text : Stmt := top 27
abbrev s_L_read_back : Stmt := top 28
abbrev s_law : Stmt := top 29
theorem sc_is_amount : FnScope ["number"] ["number"] (defScope s_is_amount) := ⟨rfl, rfl, rfl, by decide +kernel, rfl, by decide +kernel, by decide +kernel⟩
theorem sc_check_digits : FnScope ["digits"] ["digits"] (defScope s_check_digits) := ⟨rfl, rfl, rfl, by decide +kernel, rfl, by decide +kernel, by decide +kernel⟩
theorem sc_format_amount : FnScope ["amount", "digits", "sign", "whole", "rest"] ["amount", "digits"] (defScope s_format_amount) := ⟨rfl, rfl, rfl, by decide +kernel, rfl, by decide +kernel, by decide +kernel⟩
theorem sc_is_whole_part : FnScope ["text"] ["text"] (defScope s_is_whole_part) := ⟨rfl, rfl, rfl, by decide +kernel, rfl, by decide +kernel, by decide +kernel⟩
theorem sc_is_decimal_part : FnScope ["text", "digits"] ["text", "digits"] (defScope s_is_decimal_part) := ⟨rfl, rfl, rfl, by decide +kernel, rfl, by decide +kernel, by decide +kernel⟩
theorem sc_parse_amount : FnScope ["text", "digits", "whole", "point", "decimals", "size"] ["text", "digits"] (defScope s_parse_amount) := ⟨rfl, rfl, rfl, by decide +kernel, rfl, by decide +kernel, by decide +kernel⟩
theorem sc_L_numbers : FnScope ["cell", "count", "rest", "numbers", "k", "mixed"] ["cell", "count"] (defScope s_L_numbers) := ⟨rfl, rfl, rfl, by decide +kernel, rfl, by decide +kernel, by decide +kernel⟩
theorem sc_L_kinds : FnScope ["error", "kinds"] ["error"] (defScope s_L_kinds) := ⟨rfl, rfl, rfl, by decide +kernel, rfl, by decide +kernel, by decide +kernel⟩
theorem sc_L_is_integer : FnScope ["told"] ["told"] (defScope s_L_is_integer) := ⟨rfl, rfl, rfl, by decide +kernel, rfl, by decide +kernel, by decide +kernel⟩
theorem sc_L_refusals : FnScope ["amount", "text", "digits", "kinds", "e"] ["amount", "text", "digits"] (defScope s_L_refusals) := ⟨rfl, rfl, rfl, by decide +kernel, rfl, by decide +kernel, by decide +kernel⟩
theorem sc_L_amount : FnScope ["numbers", "near"] ["numbers"] (defScope s_L_amount) := ⟨rfl, rfl, rfl, by decide +kernel, rfl, by decide +kernel, by decide +kernel⟩
theorem sc_L_text : FnScope ["amount", "digits", "figures", "k", "text"] ["amount", "digits"] (defScope s_L_text) := ⟨rfl, rfl, rfl, by decide +kernel, rfl, by decide +kernel, by decide +kernel⟩
theorem sc_L_read_back : FnScope ["text", "digits", "amount", "told"] ["text", "digits", "amount"] (defScope s_L_read_back) := ⟨rfl, rfl, rfl, by decide +kernel, rfl, by decide +kernel, by decide +kernel⟩
theorem sc_law : FnScope ["script", "cell", "numbers", "digits", "amount", "size", "told", "text", "k", "beyond", "out", "wrong"] ["script"] (defScope s_law) := ⟨rfl, rfl, rfl, by decide +kernel, rfl, by decide +kernel, by decide +kernel⟩
structure Txt (K : PySem.W.Frag) (mg : Str → Option Value) extends Kv.Errs K mg where
  a_is_amount : Addr
  d_is_amount : FuncData
  g_is_amount : mg "is_amount" = some (.ref a_is_amount)
  F_is_amount : Fun K "is_amount" "is_amount" s_is_amount a_is_amount d_is_amount
  b_is_amount : Binds K d_is_amount ["number"] []
  a_check_digits : Addr
  d_check_digits : FuncData
  g_check_digits : mg "check_digits" = some (.ref a_check_digits)
  F_check_digits : Fun K "check_digits" "check_digits" s_check_digits a_check_digits d_check_digits
  b_check_digits : Binds K d_check_digits ["digits"] []
  a_format_amount : Addr
  d_format_amount : FuncData
  g_format_amount : mg "format_amount" = some (.ref a_format_amount)
  F_format_amount : Fun K "format_amount" "format_amount" s_format_amount a_format_amount d_format_amount
  b_format_amount : Binds K d_format_amount ["amount", "digits"] []
  a_is_whole_part : Addr
  d_is_whole_part : FuncData
  g_is_whole_part : mg "is_whole_part" = some (.ref a_is_whole_part)
  F_is_whole_part : Fun K "is_whole_part" "is_whole_part" s_is_whole_part a_is_whole_part d_is_whole_part
  b_is_whole_part : Binds K d_is_whole_part ["text"] []
  a_is_decimal_part : Addr
  d_is_decimal_part : FuncData
  g_is_decimal_part : mg "is_decimal_part" = some (.ref a_is_decimal_part)
  F_is_decimal_part : Fun K "is_decimal_part" "is_decimal_part" s_is_decimal_part a_is_decimal_part d_is_decimal_part
  b_is_decimal_part : Binds K d_is_decimal_part ["text", "digits"] []
  a_parse_amount : Addr
  d_parse_amount : FuncData
  g_parse_amount : mg "parse_amount" = some (.ref a_parse_amount)
  F_parse_amount : Fun K "parse_amount" "parse_amount" s_parse_amount a_parse_amount d_parse_amount
  b_parse_amount : Binds K d_parse_amount ["text", "digits"] []
  a__law_numbers : Addr
  d__law_numbers : FuncData
  g__law_numbers : mg "_law_numbers" = some (.ref a__law_numbers)
  F__law_numbers : Fun K "_law_numbers" "_law_numbers" s_L_numbers a__law_numbers d__law_numbers
  b__law_numbers : Binds K d__law_numbers ["cell", "count"] []
  a__law_kinds : Addr
  d__law_kinds : FuncData
  g__law_kinds : mg "_law_kinds" = some (.ref a__law_kinds)
  F__law_kinds : Fun K "_law_kinds" "_law_kinds" s_L_kinds a__law_kinds d__law_kinds
  b__law_kinds : Binds K d__law_kinds ["error"] []
  a__law_is_integer : Addr
  d__law_is_integer : FuncData
  g__law_is_integer : mg "_law_is_integer" = some (.ref a__law_is_integer)
  F__law_is_integer : Fun K "_law_is_integer" "_law_is_integer" s_L_is_integer a__law_is_integer d__law_is_integer
  b__law_is_integer : Binds K d__law_is_integer ["told"] []
  a__law_refusals : Addr
  d__law_refusals : FuncData
  g__law_refusals : mg "_law_refusals" = some (.ref a__law_refusals)
  F__law_refusals : Fun K "_law_refusals" "_law_refusals" s_L_refusals a__law_refusals d__law_refusals
  b__law_refusals : Binds K d__law_refusals ["amount", "text", "digits"] []
  a__law_amount : Addr
  d__law_amount : FuncData
  g__law_amount : mg "_law_amount" = some (.ref a__law_amount)
  F__law_amount : Fun K "_law_amount" "_law_amount" s_L_amount a__law_amount d__law_amount
  b__law_amount : Binds K d__law_amount ["numbers"] []
  a__law_text : Addr
  d__law_text : FuncData
  g__law_text : mg "_law_text" = some (.ref a__law_text)
  F__law_text : Fun K "_law_text" "_law_text" s_L_text a__law_text d__law_text
  b__law_text : Binds K d__law_text ["amount", "digits"] []
  a__law_read_back : Addr
  d__law_read_back : FuncData
  g__law_read_back : mg "_law_read_back" = some (.ref a__law_read_back)
  F__law_read_back : Fun K "_law_read_back" "_law_read_back" s_L_read_back a__law_read_back d__law_read_back
  b__law_read_back : Binds K d__law_read_back ["text", "digits", "amount"] []
  a_law : Addr
  d_law : FuncData
  g_law : mg "law" = some (.ref a_law)
  F_law : Fun K "law" "law" s_law a_law d_law
  b_law : Binds K d_law ["script"] []
  u_LIMIT : Value
  g_LIMIT : mg "LIMIT" = some u_LIMIT
  r_LIMIT : RelV (.int 1000000000) u_LIMIT
  u_GREAT : Value
  g_GREAT : mg "GREAT" = some u_GREAT
  r_GREAT : RelV (.int 1000000000000) u_GREAT
  u_MOST_DIGITS : Value
  g_MOST_DIGITS : mg "MOST_DIGITS" = some u_MOST_DIGITS
  r_MOST_DIGITS : RelV (.int 3) u_MOST_DIGITS
  a_UNITS : Addr
  g_UNITS : mg "UNITS" = some (.ref a_UNITS)
  r_UNITS : RelV (.ref a_UNITS) (.ref a_UNITS)
  t_UNITS : ∀ H : Hp, SqT K H a_UNITS [.int (1), .int (10), .int (100), .int (1000)]
  u_LONGEST_TEXT : Value
  g_LONGEST_TEXT : mg "LONGEST_TEXT" = some u_LONGEST_TEXT
  r_LONGEST_TEXT : RelV (.int 18) u_LONGEST_TEXT
  n_abs : mg "abs" = none
  n_bool : mg "bool" = none
  n_divmod : mg "divmod" = none
  n_int : mg "int" = none
  n_isinstance : mg "isinstance" = none
  n_len : mg "len" = none
  n_range : mg "range" = none
  n_str : mg "str" = none
local macro_rules | `(tactic| walk_at "rd") => `(tactic| try simp only [L2.start, tSeq, tIfS, tTest, tOp, tVar, tC, tRet, tRetN, tNext, tAsg, gName, tDrop, tCons, tNil, tCB, tB, rI0, rI, rEq, rNe, tAnd, tOr, tNot, tAndV, tOrV, tNotV, tIf, tUn, rU, Kv.sc_ii, Kv.sc_ss, Kv.sc_bb, Kv.sc_nn, Kv.sc_ni, Kv.sc_in, Kv.sc_sn, Kv.sc_ns, Kv.sc_bn, Kv.sc_nb, Kv.sc_is, Kv.sc_si, cxOf, and_assoc, rAppend, Kv.rIsP, L2H.cxH, tCall, tCallS, tTup, tLst, tBM, tBM0, tM0, tM1, tSl, tPart, tNoPart, tAug, ipI, gSub, tPar, tBreak, tCont, Kv.tKinds, tChain, tAugS, rIsB, rNotB, tYes, tCKw, wipe, List.foldl_cons, List.foldl_nil, iList, iTup, iRng1, iRng2, iEnum, iZip, Kv.tFor_eq, Kv.tLc_eq, Kv.sz_0, Kv.szl_0, Kv.sz_1, Kv.szl_1, Kv.sz_2, Kv.szl_2, Kv.sz_3, Kv.szl_3, Kv.sz_4, Kv.szl_4, Kv.sz_5, Kv.szl_5, Kv.sz_6, Kv.szl_6, Kv.sz_7, Kv.szl_7, Kv.sz_8, Kv.szl_8, Kv.sz_9, Kv.szl_9, Kv.sz_10, Kv.szl_10, Kv.sz_11, Kv.szl_11, Kv.sz_12, Kv.szl_12, Kv.sz_13, Kv.szl_13, Kv.sz_14, Kv.szl_14, Kv.sz_15, Kv.szl_15, Kv.sz_16, Kv.szl_16, Kv.sz_17, Kv.szl_17, Kv.sz_18, Kv.szl_18, Kv.sz_19, Kv.szl_19, Kv.sz_20, Kv.szl_20, Kv.sz_21, Kv.szl_21, Kv.sz_22, Kv.szl_22, Kv.sz_23, Kv.szl_23, Kv.sz_24, Kv.szl_24, Kv.sz_25, Kv.szl_25, Kv.sz_26, Kv.szl_26, Kv.cdiv_1, Kv.cdiv_2, Kv.cdiv_3, Kv.cdiv_4, Kv.cdiv_5, Kv.cdiv_6, Kv.cdiv_7, Kv.cdiv_8, Kv.cdiv_9, Kv.cdiv_10, Kv.cdiv_11, Kv.cdiv_12, Kv.cdiv_13, Kv.cdiv_14, Kv.cdiv_16, Kv.cdiv_20, Kv.cdiv_30, Kv.cdiv_50, Kv.cdiv_60, Kv.cdiv_64, Kv.cdiv_100, Kv.cdiv_400, Kv.cdiv_1000, Kv.cdiv_2000, Kv.cdiv_10000, Kv.cdiv_1000000,
  CPow, List.map_cons, List.map_nil, List.cons_append, List.nil_append, List.append_nil, List.length_cons, List.length_nil, List.replicate,
  List.getElem?_cons_zero, List.getElem?_cons_succ, List.set_cons_zero, List.set_cons_succ, Option.some.injEq, exists_eq_left', exists_eq_left, exists_eq_right, exists_eq_right', V.int.injEq, V.str.injEq, V.bl.injEq, V.ref.injEq, List.cons.injEq, exists_and_left, exists_and_right, and_true, true_and, and_self, false_and, and_false, or_false, false_or, exists_false, exists_const, reduceCtorEq, Nat.reduceSub, Nat.reduceAdd, Nat.reduceLeDiff, Nat.reduceLT,
  Int.reduceLT, Int.reduceLE, Int.reduceAdd, Int.reduceMul, Int.reduceSub, Int.reducePow, Int.reduceToNat, Int.reduceNeg, Int.reduceAbs, Nat.reducePow, decide_eq_true_eq, Bool.not_true, Bool.not_false, Bool.false_eq_true, ite_true, ite_false, if_true, if_false, decide_true, decide_false, Bool.not_eq_true', decide_eq_false_iff_not, not_true, not_false_eq_true, ne_eq])
local macro_rules | `(tactic| walk_at "st") => `(tactic| ((first | with_reducible refine Kv.seq_step fun U hU => ?_ | with_reducible refine Kv.gseq_step fun U hU => ?_); walk_at "rd"))
local macro_rules | `(tactic| walk_at "shp") => `(tactic| (refine Kv.shaped_of ?_ ?_ <;> (simp only [PyData.canLay0, PyData.canLayAll0, PyData.depth, PyData.depthAll, Bool.and_true, Bool.true_and]) <;> first | done | decide +kernel | omega))
local macro_rules | `(tactic| walk_at "eqv") => `(tactic| simp [PyData.eqv, PyData.eqvAll])
local macro_rules | `(tactic| walk_at "nx") => `(tactic| (subst_vars; (try dsimp only); first | walk_at "st" | walk_at "rd"))
/-! ### digits: the texts of amounts as lists of signs -/
def fix : Nat → Nat → List Nat
  | 0, _ => []
  | d + 1, m => fix d (m / 10) ++ [48 + m % 10]
theorem fix_len : ∀ d m : Nat, (fix d m).length = d
  | 0, _ => rfl
  | d + 1, m => by
    rw [fix, List.length_append, fix_len d]
    rfl
theorem fix_digits : ∀ d m : Nat, NumText.AllDigits (fix d m)
  | 0, _ => fun c h => by cases h
  | d + 1, m => fun c h => by
    rw [fix] at h
    rcases List.mem_append.mp h with h | h
    · exact fix_digits d (m / 10) c h
    · rw [List.mem_singleton.mp h]
      omega
theorem val_app : ∀ (d : Nat) (p : List Nat) (m : Nat), NumText.digitsVal (p ++ fix d m) = NumText.digitsVal p * 10 ^ d + m % 10 ^ d
  | 0, p, m => by
    rw [fix, List.append_nil, Nat.pow_zero, Nat.mod_one]
    omega
  | d + 1, p, m => by
    have ih := val_app d p (m / 10)
    rw [fix, ← List.append_assoc]
    have s : NumText.digitsVal ((p ++ fix d (m / 10)) ++ [48 + m % 10]) = NumText.digitsVal (p ++ fix d (m / 10)) * 10 + (48 + m % 10 - 48) := by
      unfold NumText.digitsVal
      rw [List.foldl_append]
      rfl
    have e : m % 10 ^ (d + 1) = 10 * (m / 10 % 10 ^ d) + m % 10 := by
      rw [Nat.pow_succ, Nat.mul_comm (10 ^ d) 10, Nat.mod_mul]
      omega
    rw [s, ih, e, Nat.pow_succ, Nat.add_mul, Nat.mul_assoc]
    omega
theorem val_num (d w m : Nat) : NumText.digitsVal (TL.numL w ++ fix d m) = w * 10 ^ d + m % 10 ^ d := by
  rw [val_app, TL.numL_val]
/-- a long one: its head, then so many last digits -/
theorem num_split : ∀ (d n : Nat), 10 ^ d ≤ n → TL.numL n = TL.numL (n / 10 ^ d) ++ fix d n
  | 0, n, _ => by rw [fix, List.append_nil, Nat.pow_zero, Nat.div_one]
  | d + 1, n, h => by
    have p : 0 < 10 ^ d := Nat.pow_pos (by decide)
    rw [Nat.pow_succ] at h
    have ih := num_split d (n / 10) (by rw [Nat.le_div_iff_mul_le (by decide)]; exact h)
    rw [TL.numL_step (by omega), ih, fix, List.append_assoc, Nat.div_div_eq_div_mul, Nat.pow_succ, Nat.mul_comm 10]
/-- a short one, filled with zeros -/
theorem num_fill : ∀ (d m : Nat), m < 10 ^ (d + 1) → List.replicate (d + 1 - (TL.numL m).length) 48 ++ TL.numL m = fix (d + 1) m
  | 0, m, h => by
    rw [Nat.pow_one] at h
    rw [TL.numL_lt h, fix, fix, Nat.mod_eq_of_lt h]
    rfl
  | d + 1, m, h => by
    rcases Nat.lt_or_ge m 10 with c | c
    · have ih := num_fill d 0 (Nat.pow_pos (by decide))
      rw [TL.numL_lt (by decide)] at ih
      rw [TL.numL_lt c, fix, Nat.mod_eq_of_lt c, show m / 10 = 0 by omega, ← ih]
      simp only [List.length_singleton, Nat.add_sub_cancel]
      rw [List.replicate_succ']
    · have ih := num_fill d (m / 10) (by rw [Nat.pow_succ] at h; omega)
      rw [TL.numL_step c, fix, ← ih, List.length_append, List.length_singleton, ← List.append_assoc]
      rw [show d + 1 + 1 - ((TL.numL (m / 10)).length + 1) = d + 1 - (TL.numL (m / 10)).length by omega]
theorem fix_mod : ∀ (d n : Nat), fix d (n % 10 ^ d) = fix d n
  | 0, _ => rfl
  | d + 1, n => by
    have p : 0 < 10 ^ d := Nat.pow_pos (by decide)
    have e : n % 10 ^ (d + 1) = 10 * (n / 10 % 10 ^ d) + n % 10 := by
      rw [Nat.pow_succ, Nat.mul_comm (10 ^ d) 10, Nat.mod_mul]
      omega
    rw [fix, fix, e, show (10 * (n / 10 % 10 ^ d) + n % 10) / 10 = n / 10 % 10 ^ d by omega, fix_mod d (n / 10), show (10 * (n / 10 % 10 ^ d) + n % 10) % 10 = n % 10 by omega]
/-- filled to one digit more than d -/
theorem num_full (d n : Nat) : List.replicate (d + 1 - (TL.numL n).length) 48 ++ TL.numL n = TL.numL (n / 10 ^ d) ++ fix d n := by
  rcases Nat.lt_or_ge n (10 ^ d) with c | c
  · have e := num_fill d n (Nat.lt_of_lt_of_le c (Nat.pow_le_pow_right (by decide) (by omega)))
    rw [e, Nat.div_eq_of_lt c, TL.numL_lt (by decide)]
    have f : ∀ (d n : Nat), n < 10 ^ d → fix (d + 1) n = 48 :: fix d n := by
      intro d
      induction d with
      | zero => intro n h; rw [Nat.pow_zero] at h; rw [show n = 0 by omega]; rfl
      | succ d ih =>
        intro n h
        rw [fix, ih (n / 10) (by rw [Nat.pow_succ] at h; omega)]
        rfl
    rw [f d n c]
    rfl
  · have e := num_split d n c
    have l : d + 1 ≤ (TL.numL n).length := by
      rw [e, List.length_append, fix_len]
      have := List.length_pos_iff.mpr (TL.numL_ne (n / 10 ^ d))
      omega
    rw [Nat.sub_eq_zero_of_le l, List.replicate_zero, List.nil_append, e]
/-- str.zfill, str.ljust with "0" -/
theorem zfill_num {d m : Nat} (h : m < 10 ^ (d + 1)) : Txt.zfill (SX.S (TL.numL m)) ((d + 1 : Nat) : Int) = SX.S (fix (d + 1) m) := by
  have l := TL.numL_len (k := d + 1) (by omega) h
  have hh : ∀ c, (TL.numL m)[0]? = some c → 48 ≤ c ∧ c ≤ 57 := fun c e => TL.numL_digits m c (List.mem_of_getElem? e)
  unfold Txt.zfill
  rw [SX.S_len]
  split
  · rename_i c
    have e := num_fill d m h
    rw [show d + 1 - (TL.numL m).length = 0 by omega, List.replicate_zero, List.nil_append] at e
    rw [e]
  · unfold zfilled
    have z : (SX.S (TL.numL m)).cps[0]? = (TL.numL m)[0]? := by simp [SX.S]
    rw [z]
    split
    · rename_i e; have := hh _ e; omega
    · rename_i e; have := hh _ e; omega
    · unfold Builtin.Str.padded
      rw [← num_fill d m h]
      simp
theorem fix_zero : ∀ k : Nat, fix k 0 = List.replicate k 48
  | 0 => rfl
  | k + 1 => by rw [fix, Nat.zero_div, fix_zero k, List.replicate_succ']
theorem ljust_fix (d j m : Nat) : Txt.ljustF (SX.S (fix j m)) (d : Int) 48 = SX.S (fix j m ++ fix (d - j) 0) := by
  unfold Txt.ljustF
  rw [SX.S_len, fix_len, fix_zero]
  split
  · rename_i c
    rw [show d - j = 0 by omega, List.replicate_zero, List.append_nil]
  · unfold Builtin.Str.padded
    simp
theorem one_digit : ∀ n : _root_.Fin 10, Unicode.isDigit (48 + n.val) = true := by decide +kernel
theorem isdigit_S {a : List Nat} (h : NumText.AllDigits a) (hne : a ≠ []) : Txt.isdigit (SX.S a) = true := by
  unfold Txt.isdigit
  rw [SX.S_len, Bool.and_eq_true]
  refine ⟨decide_eq_true (List.length_pos_iff.mpr hne), ?_⟩
  simp only [SX.S, List.all_toArray, List.all_eq_true]
  intro c hc
  have r := h c hc
  have := one_digit ⟨c - 48, by omega⟩
  rw [show 48 + (c - 48) = c by omega] at this
  exact this
theorem starts_S (c d : Nat) (l : List Nat) : Txt.startswith (SX.S (c :: l)) (SX.S [d]) = decide (c = d) := by
  unfold Txt.startswith
  rw [StrLaws.subAt_eq, SX.S_len, SX.S_len]
  simp
  by_cases e : c = d <;> simp [e]
theorem rmp_hit (l : List Nat) : Txt.removeprefix (SX.S (45 :: l)) (SX.S [45]) = SX.S l := by
  unfold Txt.removeprefix
  rw [StrLaws.subAt_eq, SX.S_len, SX.S_len]
  simp [Txt.affix]
  rw [if_neg (by rw [SX.S_len]; simp)]
  refine TL.ext_tl ?_
  rw [TL.tl_strSub]
  simp [TL.tl]
theorem rmp_miss {c : Nat} (l : List Nat) (h : c ≠ 45) : Txt.removeprefix (SX.S (c :: l)) (SX.S [45]) = SX.S (c :: l) := by
  unfold Txt.removeprefix
  rw [StrLaws.subAt_eq, SX.S_len, SX.S_len]
  simp [Txt.affix, h]
theorem numL_head : ∀ n : Nat, ∃ c l, TL.numL n = c :: l ∧ 48 ≤ c ∧ c ≤ 57 ∧ (n ≠ 0 → c ≠ 48) ∧ (n = 0 → c = 48 ∧ l = []) := by
  intro n
  induction n using Nat.strongRecOn with
  | _ n ih =>
    rcases Nat.lt_or_ge n 10 with h | h
    · exact ⟨48 + n, [], TL.numL_lt h, by omega, by omega, by omega, fun z => ⟨by omega, rfl⟩⟩
    · obtain ⟨c, l, e, h1, h2, h3, _⟩ := ih (n / 10) (by omega)
      exact ⟨c, l ++ [48 + n % 10], by rw [TL.numL_step h, e]; rfl, h1, h2, fun _ => h3 (by omega), by omega⟩
section
variable {X : Cx}
/-- text.ljust(width, sign) -/
theorem mt_ljustF : MtR X "str.ljust" (fun x xs H Q => ∃ (a f : Str) (i : Int), x = .str a ∧ xs = [.int i, .str f] ∧ PadOk i = true ∧ f.length = 1 ∧ Q (.str (Txt.ljustF a i (f.cps.getD 0 0))) H) := by
  intro pins s σ H x xs v us Q I rx rs h
  obtain ⟨a, f, i, rfl, rfl, hp, hf, h⟩ := h
  obtain ⟨t, rfl⟩ := rx
  cases rs with
  | cons r1 rs =>
    cases rs with
    | cons r2 rs =>
      cases rs
      obtain ⟨u, rfl⟩ := r1
      obtain ⟨z, rfl⟩ := r2
      exact PyProof.Rows.ljust_fill hp hf fun t' k => ⟨.str _, H, I.tok k, ⟨t', rfl⟩, h⟩
end

section
variable {P : Program} {w : World} {K : PySem.W.Frag} {mg : Str → Option Value} {base : Heap}
/-- the numbers that a law makes of one cell: so many, none below 0, none beyond 10 ^ 13 -/
def spNumbers : Sp := fun vs H Q _ => ∃ c n, vs = [.int c, .int n] ∧ Builtin.Int.intBits c ≤ 1048576 ∧ 0 ≤ n ∧ n ≤ 1000 ∧
  ∀ (ns : List Int) p H', (ns.length : Int) = n → (∀ z ∈ ns, 0 ≤ z ∧ z < 10000000000000) → Same H H' → H p = none → H' p = some (.lst (ns.map V.int)) → Q (.ref p) H'
def invNumbers (c n : Int) (p : Addr) (H : Hp) : Nat → L2.St → Hp → Prop := fun i σ' H' => ∃ (rest : Int) (ns : List Int) (x y : Option V), σ' = [some (.int c), some (.int n), some (.int rest), some (.ref p), x, y] ∧ 0 ≤ rest ∧ Builtin.Int.intBits rest ≤ 1048576 ∧
  ns.length = i ∧ (∀ z ∈ ns, 0 ≤ z ∧ z < 10000000000000) ∧ Same H H' ∧ H' p = some (.lst (ns.map V.int))
theorem ok_L_numbers (T : Txt K mg) : FnOk P w K mg base CX0 1 T.a__law_numbers T.d__law_numbers ["cell", "count"] spNumbers := by
  refine T.F__law_numbers.ok sc_L_numbers (fun vs H Q E h => by obtain ⟨_, _, rfl, _⟩ := h; rfl) (fun cdv A outer s H vs Q E hr h => ?_)
  refine ⟨_, 
      (pss_cons (ps_set (i := 2) sc_L_numbers.nd rfl (Or.inl rfl) pe_int)
      (pss_cons (ps_if (pt_cmpR op_ge (pv 0) (pe_op op_pow pe_int pe_int) (nomark _)) 
        (pss_one (ps_set (i := 2) sc_L_numbers.nd rfl (Or.inl rfl) (pe_op op_fdivW (pv 0) (pe_op op_pow pe_int pe_int)))) pss_nil)
      (pss_cons (ps_set (i := 3) sc_L_numbers.nd rfl (Or.inl rfl) (pe_lst pa_nil))
      (pss_cons (ps_for PassesOwn.never rfl (pi_range1 (by rfl) T.n_range (pa_cons (pv 1) pa_nil)) (pg_name (i := 4) sc_L_numbers.nd rfl (Or.inl rfl)) 
        (pss_one (ps_if (pt_cmpR op_gt (pv 2) pe_int (nomark _)) 
          (pss_cons (ps_expr (pe_bm PySem.F.plainAttrs_list PySem.F.slot_list_append PySem.F.type_list_append mt_append (pv 3) (pa_cons (pe_op op_mod (pe_callTy call_int1 (by rfl) T.n_int (by decide +kernel) (pa_cons (pv 2) pa_nil)) (pe_op op_pow pe_int pe_int)) pa_nil)))
          (pss_one (ps_set (i := 2) sc_L_numbers.nd rfl (Or.inl rfl) (pe_op op_fdivW (pv 2) (pe_op op_pow pe_int pe_int))))) 
          (pss_cons (ps_set (i := 5) sc_L_numbers.nd rfl (Or.inl rfl) (pe_op op_mod (pe_callTy call_int1 (by rfl) T.n_int (by decide +kernel) (pa_cons (pe_op op_add (pe_op op_add (pe_op op_mulX (pv 0) pe_int) (pe_op op_mulX (pv 4) pe_int)) pe_int) pa_nil)) pe_int))
          (pss_cons (ps_set (i := 5) sc_L_numbers.nd rfl (Or.inl rfl) (pe_op op_mod (pe_callTy call_int1 (by rfl) T.n_int (by decide +kernel) (pa_cons (pe_op op_add (pe_op op_add (pe_op op_mulX (pv 5) (pv 5)) (pe_op op_mulX pe_int (pv 4))) pe_int) pa_nil)) pe_int))
          (pss_one (ps_expr (pe_bm PySem.F.plainAttrs_list PySem.F.slot_list_append PySem.F.type_list_append mt_append (pv 3) (pa_cons (pe_op op_add (pe_op op_mulX (pe_op op_mod (pe_callTy call_int1 (by rfl) T.n_int (by decide +kernel) (pa_cons (pe_op op_add (pe_op op_mulX (pv 5) (pv 5)) (pv 5)) pa_nil)) pe_int) pe_int) (pv 4)) pa_nil)))))))))
      (pss_one (ps_ret (pv 3))))))), ?_⟩
  obtain ⟨c, n, rfl, bc, n0, n1, hq⟩ := h
  walk_at "rd"
  split
  all_goals
    first
      | refine ⟨⟨by decide, by decide⟩, fun p hp => ?_⟩
      | intro p hp
    refine ⟨by omega, by omega, Kv.for_rng0 (invNumbers c n p H) ?_ ?_ ?_⟩
  case isTrue.refine_1 =>
    refine ⟨_, [], _, _, rfl, by omega, ?_, rfl, fun z hz => by simp at hz, Kv.same_upd hp, upd_same⟩
    exact Nat.le_trans (Kv.bits_mono (by omega)) bc
  case isFalse.refine_1 => exact ⟨_, [], _, _, rfl, by omega, by decide, rfl, fun z hz => by simp at hz, Kv.same_upd hp, upd_same⟩
  case isTrue.refine_3 | isFalse.refine_3 =>
    rintro σ' H' ⟨rest, ns, x, y, rfl, r0, rb, hl, hz, hs, hp'⟩
    walk_at "rd"
    exact hq ns p H' (by omega) hz hs hp hp'
  case isTrue.refine_2 | isFalse.refine_2 =>
    rintro i σ' H' hi ⟨rest, ns, x, y, rfl, r0, rb, hl, hz, hs, hp'⟩
    have hsz : (ns.map V.int).length < sizeLine := by
      rw [List.length_map]
      exact Nat.lt_of_lt_of_le (show ns.length < 1001 by omega) (by decide)
    have more : ∀ v : Int, 0 ≤ v → v < 10000000000000 → (∀ z ∈ ns ++ [v], 0 ≤ z ∧ z < 10000000000000) := by
      intro v h0 h1 z hm
      rcases List.mem_append.mp hm with hm | hm
      · exact hz z hm
      · rw [List.mem_singleton.mp hm]
        exact ⟨h0, h1⟩
    have fin : ∀ v : Int, (upd H' p (HO.lst (ns.map V.int ++ [.int v]))) p = some (.lst ((ns ++ [v]).map V.int)) := by
      intro v
      rw [upd_same, List.map_append]
      rfl
    walk_at "rd"
    by_cases c1 : 0 < rest
    · rw [if_pos c1]
      refine ⟨.inl ⟨rfl, _, SqL.of hp'⟩, _, hp', hsz, ⟨by decide, by decide⟩, ?_⟩
      refine ⟨rest / 10000000000000, ns ++ [rest % 10000000000000], _, _, rfl, Int.ediv_nonneg r0 (by decide), Nat.le_trans (Kv.bits_mono (by omega)) rb, by simp [hl], more _ (Int.emod_nonneg _ (by decide)) (Int.emod_lt_of_pos _ (by decide)), Kv.same_mut hp hs, fin _⟩
    · rw [if_neg c1]
      have bi : Builtin.Int.intBits (i : Int) ≤ 64 := Kv.bits64 (by omega) (by omega)
      refine ⟨Kv.mulX bc (b := 64) (by decide), Kv.mulX bi (b := 64) (by decide), ?_⟩
      generalize hm1 : (c * 48271 + (i : Int) * 69621 + 1013) % 2147483647 = m1
      have m10 : 0 ≤ m1 := by rw [← hm1]; exact Int.emod_nonneg _ (by decide)
      have m11 : m1 < 2147483647 := by rw [← hm1]; exact Int.emod_lt_of_pos _ (by decide)
      have bm1 : Builtin.Int.intBits m1 ≤ 64 := Kv.bits64 (by omega) (by omega)
      refine ⟨Kv.mulX bm1 bm1, Kv.mulX (a := 64) (by decide) bi, ?_⟩
      generalize hm2 : (m1 * m1 + 8191 * (i : Int) + 77) % 2147483629 = m2
      have m20 : 0 ≤ m2 := by rw [← hm2]; exact Int.emod_nonneg _ (by decide)
      have m21 : m2 < 2147483629 := by rw [← hm2]; exact Int.emod_lt_of_pos _ (by decide)
      have bm2 : Builtin.Int.intBits m2 ≤ 64 := Kv.bits64 (by omega) (by omega)
      generalize hm3 : (m2 * m2 + m2) % 2147483587 = m3
      have m30 : 0 ≤ m3 := by rw [← hm3]; exact Int.emod_nonneg _ (by decide)
      have m31 : m3 < 2147483587 := by rw [← hm3]; exact Int.emod_lt_of_pos _ (by decide)
      have bm3 : Builtin.Int.intBits m3 ≤ 64 := Kv.bits64 (by omega) (by omega)
      refine ⟨.inl ⟨rfl, _, SqL.of hp'⟩, Kv.mulX bm2 bm2, Kv.mulX bm3 (b := 64) (by decide), _, hp', hsz, ?_⟩
      exact ⟨rest, ns ++ [m3 * 4001 + i], _, _, rfl, r0, rb, by simp [hl], more _ (by omega) (by omega), Kv.same_mut hp hs, fin _⟩

theorem ok_L_kinds (T : Txt K mg) : Kv.KindsOk P w K mg base T.toErrs 1 T.a__law_kinds T.d__law_kinds := by
  refine Kv.kinds_of T.F__law_kinds sc_L_kinds (fun cdv A outer s H Q p er hz hf h => ?_)
  refine ⟨_, 
      (pss_cons (ps_set (i := 1) sc_L_kinds.nd rfl (Or.inl rfl) (pe_lst pa_nil))
      (pss_cons (ps_if (pt_val (pe_callB (Kv.call_isP List.mem_cons_self (T.exc er) hz hf) (by rfl) T.n_isinstance (by decide +kernel) (pa_cons (pv 0) (pa_cons (pe_glob (v := .ref (T.exa .badValue)) (by rfl) (T.exg .badValue) rfl) pa_nil)))) 
        (pss_one (ps_expr (pe_bm PySem.F.plainAttrs_list PySem.F.slot_list_append PySem.F.type_list_append mt_append (pv 1) (pa_cons pe_str pa_nil)))) pss_nil)
      (pss_cons (ps_if (pt_val (pe_callB (Kv.call_isP List.mem_cons_self (T.exc er) hz hf) (by rfl) T.n_isinstance (by decide +kernel) (pa_cons (pv 0) (pa_cons (pe_glob (v := .ref (T.exa .badDay)) (by rfl) (T.exg .badDay) rfl) pa_nil)))) 
        (pss_one (ps_expr (pe_bm PySem.F.plainAttrs_list PySem.F.slot_list_append PySem.F.type_list_append mt_append (pv 1) (pa_cons pe_str pa_nil)))) pss_nil)
      (pss_cons (ps_if (pt_val (pe_callB (Kv.call_isP List.mem_cons_self (T.exc er) hz hf) (by rfl) T.n_isinstance (by decide +kernel) (pa_cons (pv 0) (pa_cons (pe_glob (v := .ref (T.exa .missing)) (by rfl) (T.exg .missing) rfl) pa_nil)))) 
        (pss_one (ps_expr (pe_bm PySem.F.plainAttrs_list PySem.F.slot_list_append PySem.F.type_list_append mt_append (pv 1) (pa_cons pe_str pa_nil)))) pss_nil)
      (pss_cons (ps_if (pt_val (pe_callB (Kv.call_isP List.mem_cons_self (T.exc er) hz hf) (by rfl) T.n_isinstance (by decide +kernel) (pa_cons (pv 0) (pa_cons (pe_glob (v := .ref (T.exa .refused)) (by rfl) (T.exg .refused) rfl) pa_nil)))) 
        (pss_one (ps_expr (pe_bm PySem.F.plainAttrs_list PySem.F.slot_list_append PySem.F.type_list_append mt_append (pv 1) (pa_cons pe_str pa_nil)))) pss_nil)
      (pss_cons (ps_if (pt_val (pe_callB (Kv.call_isP List.mem_cons_self (T.exc er) hz hf) (by rfl) T.n_isinstance (by decide +kernel) (pa_cons (pv 0) (pa_cons (pe_glob (v := .ref (T.exa .full)) (by rfl) (T.exg .full) rfl) pa_nil)))) 
        (pss_one (ps_expr (pe_bm PySem.F.plainAttrs_list PySem.F.slot_list_append PySem.F.type_list_append mt_append (pv 1) (pa_cons pe_str pa_nil)))) pss_nil)
      (pss_cons (ps_if (pt_val (pe_callB (Kv.call_isP List.mem_cons_self (T.exc er) hz hf) (by rfl) T.n_isinstance (by decide +kernel) (pa_cons (pv 0) (pa_cons (pe_glob (v := .ref (T.exa .notAllowed)) (by rfl) (T.exg .notAllowed) rfl) pa_nil)))) 
        (pss_one (ps_expr (pe_bm PySem.F.plainAttrs_list PySem.F.slot_list_append PySem.F.type_list_append mt_append (pv 1) (pa_cons pe_str pa_nil)))) pss_nil)
      (pss_cons (ps_if (pt_val (pe_callB (Kv.call_isP List.mem_cons_self (T.exc er) hz hf) (by rfl) T.n_isinstance (by decide +kernel) (pa_cons (pv 0) (pa_cons (pe_glob (v := .ref (T.exa .damaged)) (by rfl) (T.exg .damaged) rfl) pa_nil)))) 
        (pss_one (ps_expr (pe_bm PySem.F.plainAttrs_list PySem.F.slot_list_append PySem.F.type_list_append mt_append (pv 1) (pa_cons pe_str pa_nil)))) pss_nil)
      (pss_one (ps_ret (pv 1))))))))))), ?_⟩
  have hi := fun d => T.exi er d
  refine Kv.seq_step fun U hU => ?_
  walk_at "rd"
  intro l hl
  rw [hU]
  cases er
  all_goals
    iterate 7
      refine Kv.seq_step fun U hU => ?_
      walk_at "rd"
      refine ⟨_, hi _, ?_⟩
      first
        | rw [if_neg (by decide)]
        | (rw [if_pos (by decide)]
           refine ⟨.inl ⟨rfl, _, SqL.of upd_same⟩, _, upd_same, by decide, ?_⟩
           rw [upd_upd])
      rw [hU]
    walk_at "rd"
    exact h l hl

def spIsInteger : Sp := fun vs H Q _ => ∃ z, vs = [.int z] ∧ Q (.bl true) H
theorem ok_L_is_integer (T : Txt K mg) : FnOk P w K mg base CX0 1 T.a__law_is_integer T.d__law_is_integer ["told"] spIsInteger := by
  refine T.F__law_is_integer.ok sc_L_is_integer (fun vs H Q E h => by obtain ⟨_, rfl, _⟩ := h; rfl) (fun cdv A outer s H vs Q E hr h => ?_)
  refine ⟨_, 
      (pss_one (ps_ret (pe_and (pe_callB call_isi (by rfl) T.n_isinstance (by decide +kernel) (pa_cons (pv 0) (pa_cons (pe_bltn (v := .ty "int") (by rfl) T.n_int (by decide +kernel) rfl) pa_nil))) (pe_one (pe_not (pe_callB call_isi (by rfl) T.n_isinstance (by decide +kernel) (pa_cons (pv 0) (pa_cons (pe_bltn (v := .ty "bool") (by rfl) T.n_bool (by decide +kernel) rfl) pa_nil)))))))), ?_⟩
  obtain ⟨z, rfl, h⟩ := h
  walk_at "rd"
  refine Kv.isi_int (b := true) (by decide +kernel) ?_
  walk_at "rd"
  refine Kv.isi_int (b := false) (by decide +kernel) ?_
  walk_at "rd"
  exact h

/-! ### the project's -/
def spDig (K : PySem.W.Frag) (T : Txt K mg) : Sp := fun vs H Q E => ∃ dg : Int, vs = [.int dg] ∧ (0 ≤ dg → dg ≤ 3 → Q .non H) ∧ (¬(0 ≤ dg ∧ dg ≤ 3) → E (.ref (T.exa .badValue)) none H)
theorem ok_check_digits (T : Txt K mg) : FnOk P w K mg base (L2.CX P w) 1 T.a_check_digits T.d_check_digits ["digits"] (spDig K T) := by
  refine T.F_check_digits.okX sc_check_digits (fun vs H Q E h => by obtain ⟨_, rfl, _⟩ := h; rfl) (fun cdv A outer s H vs Q E hr h => ?_)
  refine ⟨_, 
      (pss_one (ps_if (pt_not (pt_chain op_le op_le pe_int (pv 0) (pe_glob (by rfl) T.g_MOST_DIGITS T.r_MOST_DIGITS))) 
        (pss_one (ps_raise rfl (takes_of rfl rfl rfl rfl) (pmk_own PySem.F.excBase_ValueError (T.exx .badValue) (T.exg .badValue) (T.exk .badValue) (raises_own (T.exb .badValue) (T.ext .badValue)) (by rfl)))) pss_nil)), ?_⟩
  obtain ⟨dg, rfl, hq, he⟩ := h
  walk_at "rd"
  split
  rotate_left
  · exact he (by omega)
  split
  · exact he (by omega)
  · exact hq (by omega) (by omega)
def spIsA : Sp := fun vs H Q _ => ∃ n : Int, vs = [.int n] ∧ Q (.bl (decide (1 ≤ n ∧ n ≤ 1000000000))) H
theorem ok_is_amount (T : Txt K mg) : FnOk P w K mg base CX0 1 T.a_is_amount T.d_is_amount ["number"] spIsA := by
  refine T.F_is_amount.ok sc_is_amount (fun vs H Q E h => by obtain ⟨_, rfl, _⟩ := h; rfl) (fun cdv A outer s H vs Q E hr h => ?_)
  refine ⟨_, 
      (pss_one (ps_ret (pe_chain op_le op_le pe_int (pv 0) (pe_glob (by rfl) T.g_LIMIT T.r_LIMIT)))), ?_⟩
  obtain ⟨n, rfl, hq⟩ := h
  walk_at "rd"
  split
  · rename_i c
    rw [show decide (n ≤ 1000000000) = decide (1 ≤ n ∧ n ≤ 1000000000) from decide_eq_decide.mpr ⟨fun z => ⟨c, z⟩, fun z => z.2⟩]
    exact hq
  · rename_i c
    rw [decide_eq_false (fun z => c z.1)] at hq
    exact hq
def sg (am : Int) : List Nat := if am < 0 then [45] else []
def bdy (n d : Nat) : List Nat := if d = 0 then TL.numL n else TL.numL (n / 10 ^ d) ++ (46 :: fix d n)
def spFmt (K : PySem.W.Frag) (T : Txt K mg) : Sp := fun vs H Q E => ∃ am dg : Int, vs = [.int am, .int dg] ∧ (0 ≤ dg → dg ≤ 3 → -1000000000000 ≤ am → am ≤ 1000000000000 → ∀ H', Same H H' → Q (.str (SX.S (sg am ++ bdy am.natAbs dg.toNat))) H') ∧ (¬(0 ≤ dg ∧ dg ≤ 3 ∧ -1000000000000 ≤ am ∧ am ≤ 1000000000000) → E (.ref (T.exa .badValue)) none H)
def midFmt (am dg : Int) (H : Hp) : L2.St → Hp → Prop := fun σ' H' => ∃ v3 v4 : Option V, σ' = [some (.int am), some (.int dg), some (.str (SX.S (sg am))), v3, v4] ∧ H' = H
theorem ok_format_amount (T : Txt K mg) : FnOk P w K mg base (L2.CX P w) 2 T.a_format_amount T.d_format_amount ["amount", "digits"] (spFmt K T) := by
  refine T.F_format_amount.okX sc_format_amount (fun vs H Q E h => by obtain ⟨_, _, rfl, _⟩ := h; rfl) (fun cdv A outer s H vs Q E hr h => ?_)
  refine ⟨_, 
      (pss_cons (ps_expr (pe_call (ok_check_digits T) (hr.mono (by decide : 1 ≤ _)) (by rfl) T.g_check_digits T.F_check_digits.kp T.b_check_digits .nil (passes_call (takes_of rfl rfl rfl rfl) (fun _ _ _ _ h => h)) (pa_cons (pv 1) pa_nil)))
      (pss_cons (ps_if (pt_not (pt_chain op_le op_le (pe_un un_neg (pe_glob (by rfl) T.g_GREAT T.r_GREAT)) (pv 0) (pe_glob (by rfl) T.g_GREAT T.r_GREAT))) 
        (pss_one (ps_raise rfl (takes_of rfl rfl rfl rfl) (pmk_own PySem.F.excBase_ValueError (T.exx .badValue) (T.exg .badValue) (T.exk .badValue) (raises_own (T.exb .badValue) (T.ext .badValue)) (by rfl)))) pss_nil)
      (pss_cons (ps_set (i := 2) sc_format_amount.nd rfl (Or.inl rfl) (pe_ifExp (pt_cmpR op_lt (pv 0) pe_int (nomark _)) pe_str pe_str))
      (pss_cons (ps_asg (pe_callB call_divmodW (by rfl) T.n_divmod (by decide +kernel) (pa_cons (pe_callB call_abs (by rfl) T.n_abs (by decide +kernel) (pa_cons (pv 0) pa_nil)) (pa_cons (pe_ix ix_tup (pe_glob (by rfl) T.g_UNITS T.r_UNITS) (pv 1) (fun _ _ => rfl)) pa_nil))) (pg_tup (n := 2) (by rfl) (pgs_cons (pg_name (i := 3) sc_format_amount.nd rfl (Or.inl rfl)) (pgs_cons (pg_name (i := 4) sc_format_amount.nd rfl (Or.inl rfl)) pgs_nil))))
      (pss_cons (ps_if (pt_cmpR op_eq (pv 1) pe_int (nomark _)) 
        (pss_one (ps_ret (pe_op op_add_str (pv 2) (pe_callTy call_str_int (by rfl) T.n_str (by decide +kernel) (pa_cons (pv 3) pa_nil))))) pss_nil)
      (pss_one (ps_ret (pe_op op_add_str (pe_op op_add_str (pe_op op_add_str (pv 2) (pe_callTy call_str_int (by rfl) T.n_str (by decide +kernel) (pa_cons (pv 3) pa_nil))) pe_str) (pe_bm PySem.F.plainAttrs_str PySem.F.slot_str_zfill PySem.F.type_str_zfill mt_zfill (pe_callTy call_str_int (by rfl) T.n_str (by decide +kernel) (pa_cons (pv 4) pa_nil)) (pa_cons (pv 1) pa_nil)))))))))), ?_⟩
  obtain ⟨am, dg, rfl, hq, he⟩ := h
  walk_at "st"
  refine ⟨dg, rfl, fun d0 d1 => ?_, fun c => he (fun z => c ⟨z.1, z.2.1⟩)⟩
  walk_at "nx"
  split
  rotate_left
  · exact he (by omega)
  split
  · exact he (by omega)
  subst_vars
  refine Kv.seq_cut (midFmt am dg H) (fun U hU => ?_) ?_
  · walk_at "rd"
    have e1 : Str.ofString "-" = SX.S [45] := rfl
    have e2 : Str.ofString "" = SX.S [] := rfl
    split
    · rename_i c
      exact hU _ _ ⟨_, _, by unfold sg; rw [if_pos c, e1], rfl⟩
    · rename_i c
      exact hU _ _ ⟨_, _, by unfold sg; rw [if_neg c, e2], rfl⟩
  rintro σ' H' ⟨_, _, rfl, rfl⟩
  obtain ⟨d, rfl⟩ := Int.eq_ofNat_of_zero_le d0
  have hun : ([1, 10, 100, 1000] : List Int)[d]? = some (((10 ^ d : Nat)) : Int) := by
    rcases (by omega : d = 0 ∨ d = 1 ∨ d = 2 ∨ d = 3) with rfl | rfl | rfl | rfl <;> rfl
  walk_at "st"
  refine ⟨_, _, _, .int ((10 ^ d : Nat) : Int), rfl, rfl, T.t_UNITS _, by (rcases (by omega : d = 0 ∨ d = 1 ∨ d = 2 ∨ d = 3) with rfl | rfl | rfl | rfl <;> rfl), ?_⟩
  have e10 : 1 ≤ 10 ^ d ∧ 10 ^ d ≤ 1000 := by rcases (by omega : d = 0 ∨ d = 1 ∨ d = 2 ∨ d = 3) with rfl | rfl | rfl | rfl <;> decide
  have habs : (if am < 0 then -am else am) = (am.natAbs : Int) := by split <;> omega
  walk_at "rd"
  rw [habs, ← Int.natCast_ediv, ← Int.natCast_emod]
  refine ⟨⟨by omega, ?_⟩, fun p hp => Kv.gtupN2 (SqT.of upd_same) ?_⟩
  · exact PyProof.noPylong_small (by rw [Int.natAbs_natCast]; omega)
  have s1 := Kv.same_upd (o := .tup [V.int ((am.natAbs / 10 ^ d : Nat) : Int), V.int ((am.natAbs % 10 ^ d : Nat) : Int)]) hp
  have hq := hq d0 d1 (by omega) (by omega) _ s1
  have hbn : am.natAbs ≤ 1000000000000 := by omega
  have dl := Nat.div_le_self am.natAbs (10 ^ d)
  have ml := Nat.mod_lt am.natAbs (show 10 ^ d > 0 by omega)
  have lg : ∀ k : Nat, k ≤ 1000000000000 → (k : Int).natAbs.log2 < 1920 := fun k hk => Nat.lt_of_lt_of_le (PySem.Flt.log2_lt_of (k := 64) (by decide) (by rw [Int.natAbs_natCast]; omega)) (by decide)
  have ll : ∀ k : Nat, k ≤ 1000000000000 → (TL.numL k).length ≤ 13 := fun k hk => TL.numL_len (by decide) (Nat.lt_of_le_of_lt hk (by decide))
  have sl : (sg am).length ≤ 1 := by unfold sg; split <;> simp
  have l1 := ll (am.natAbs / 10 ^ d) (by omega)
  walk_at "rd"
  generalize upd H' p (HO.tup [V.int ((am.natAbs / 10 ^ d : Nat) : Int), V.int ((am.natAbs % 10 ^ d : Nat) : Int)]) = H1 at *
  walk_at "nx"
  rw [SX.num_S, SX.S_cat]
  split
  · rename_i c
    have c : d = 0 := by omega
    subst c
    refine ⟨lg _ (by omega), Nat.le_trans (show _ ≤ 20 by rw [SX.S_len, SX.S_len]; omega) (by decide), ?_⟩
    unfold bdy at hq
    rw [Int.toNat_natCast, if_pos rfl] at hq
    rw [Nat.pow_zero, Nat.div_one]
    exact hq
  rename_i c
  obtain ⟨d', rfl⟩ : ∃ d', d = d' + 1 := ⟨d - 1, by omega⟩
  walk_at "nx"
  have pk : PadOk ((d' + 1 : Nat) : Int) = true := by rcases (by omega : d' = 0 ∨ d' = 1 ∨ d' = 2) with rfl | rfl | rfl <;> decide
  rw [SX.num_S, SX.num_S, zfill_num ml, show Str.ofString "." = SX.S [46] from rfl, SX.S_cat, SX.S_cat, SX.S_cat, fix_mod]
  have fl := fix_len (d' + 1) am.natAbs
  refine ⟨lg _ (by omega), Nat.le_trans (show _ ≤ 40 by simp only [SX.S_len, List.length_append, List.length_singleton]; omega) (by decide), Nat.le_trans (show _ ≤ 40 by simp only [SX.S_len, List.length_append, List.length_singleton]; omega) (by decide), lg _ (by omega), rfl, pk, Nat.le_trans (show _ ≤ 40 by simp only [SX.S_len, List.length_append, List.length_singleton]; omega) (by decide), ?_⟩
  unfold bdy at hq
  rw [Int.toNat_natCast, if_neg (by omega)] at hq
  rw [List.append_assoc, List.append_assoc]
  exact hq
def spWh : Sp := fun vs H Q _ => ∃ n : Nat, vs = [.str (SX.S (TL.numL n))] ∧ Q (.bl true) H
theorem ok_is_whole_part (T : Txt K mg) : FnOk P w K mg base CX0 1 T.a_is_whole_part T.d_is_whole_part ["text"] spWh := by
  refine T.F_is_whole_part.ok sc_is_whole_part (fun vs H Q E h => by obtain ⟨_, rfl, _⟩ := h; rfl) (fun cdv A outer s H vs Q E hr h => ?_)
  refine ⟨_, 
      (pss_one (ps_ret (pe_and (pe_bm0 PySem.F.plainAttrs_str PySem.F.slot_str_isdigit PySem.F.type_str_isdigit mt_isdigit (pv 0)) (pe_one (pe_or (pe_cmpR op_eq (pv 0) pe_str (nomark _)) (pe_one (pe_not (pe_bm PySem.F.plainAttrs_str PySem.F.slot_str_startswith PySem.F.type_str_startswith mt_startswith (pv 0) (pa_cons pe_str pa_nil))))))))), ?_⟩
  obtain ⟨n, rfl, hq⟩ := h
  walk_at "rd"
  have e0 : Str.ofString "0" = SX.S [48] := rfl
  obtain ⟨c, l, e, h1, h2, h3, h4⟩ := numL_head n
  refine ⟨rfl, ?_⟩
  rw [if_pos (isdigit_S (TL.numL_digits n) (TL.numL_ne n)), e0, e]
  by_cases c0 : n = 0
  · obtain ⟨rfl, rfl⟩ := h4 c0
    rw [if_pos rfl]
    exact hq
  · rw [if_neg (fun z => h3 c0 (List.cons.inj (SX.S_inj z)).1), starts_S, decide_eq_false (h3 c0)]
    exact ⟨rfl, hq⟩
def spDe : Sp := fun vs H Q _ => ∃ (j m : Nat) (dg : Int), vs = [.str (SX.S (fix j m)), .int dg] ∧ 1 ≤ j ∧ j ≤ 3 ∧ (j : Int) ≤ dg ∧ Q (.bl true) H
theorem ok_is_decimal_part (T : Txt K mg) : FnOk P w K mg base CX0 1 T.a_is_decimal_part T.d_is_decimal_part ["text", "digits"] spDe := by
  refine T.F_is_decimal_part.ok sc_is_decimal_part (fun vs H Q E h => by obtain ⟨_, _, _, rfl, _⟩ := h; rfl) (fun cdv A outer s H vs Q E hr h => ?_)
  refine ⟨_, 
      (pss_one (ps_ret (pe_and (pe_bm0 PySem.F.plainAttrs_str PySem.F.slot_str_isdigit PySem.F.type_str_isdigit mt_isdigit (pv 0)) (pe_one (pe_cmpR op_le (pe_callB call_len_str (by rfl) T.n_len PySem.boot_len (pa_cons (pv 0) pa_nil)) (pv 1) (nomark _)))))), ?_⟩
  obtain ⟨j, m, dg, rfl, j0, j3, j1, hq⟩ := h
  walk_at "rd"
  refine ⟨rfl, ?_⟩
  have l : (SX.S (fix j m)).length = j := by rw [SX.S_len, fix_len]
  rw [if_pos (isdigit_S (fix_digits j m) (by intro z; have := fix_len j m; rw [z] at this; simp at this; omega)), l, decide_eq_true j1]
  exact ⟨Nat.le_trans j3 (by decide), hq⟩
def pt (neg : Bool) (w j m : Nat) : List Nat := (if neg = true then [45] else []) ++ (TL.numL w ++ (if j = 0 then [] else 46 :: fix j m))
def siz (w j m d : Nat) : Nat := (w * 10 ^ j + m % 10 ^ j) * 10 ^ (d - j)
theorem pt_len (neg : Bool) {w j m d : Nat} (h : j ≤ d) (d3 : d ≤ 3) (hs : siz w j m d < 10000000000000) : (pt neg w j m).length ≤ 18 := by
  have p : 0 < 10 ^ j := Nat.pow_pos (by decide)
  have q : 0 < 10 ^ (d - j) := Nat.pow_pos (by decide)
  have hw : w < 10 ^ 13 := by
    have a := Nat.le_mul_of_pos_right (w * 10 ^ j + m % 10 ^ j) q
    have b := Nat.le_mul_of_pos_right w p
    unfold siz at hs
    have : (10 : Nat) ^ 13 = 10000000000000 := by decide
    omega
  have l := TL.numL_len (k := 13) (by decide) hw
  unfold pt
  rw [List.length_append, List.length_append]
  split <;> split <;> simp [fix_len] <;> omega
def rst (w j m : Nat) : List Nat := TL.numL w ++ (if j = 0 then [] else 46 :: fix j m)
theorem rp_pt (neg : Bool) (w j m : Nat) : Txt.removeprefix (SX.S (pt neg w j m)) (SX.S [45]) = SX.S (rst w j m) := by
  cases neg with
  | true => exact rmp_hit (rst w j m)
  | false =>
    obtain ⟨c, l, e, h1, h2, _, _⟩ := numL_head w
    have : pt false w j m = c :: (l ++ (if j = 0 then [] else 46 :: fix j m)) := by unfold pt; rw [e]; rfl
    rw [this, rmp_miss _ (by omega)]
    unfold rst
    rw [e]
    rfl
theorem sw_pt (neg : Bool) (w j m : Nat) : Txt.startswith (SX.S (pt neg w j m)) (SX.S [45]) = neg := by
  cases neg with
  | true => exact (starts_S 45 45 (rst w j m)).trans rfl
  | false =>
    obtain ⟨c, l, e, h1, h2, _, _⟩ := numL_head w
    have : pt false w j m = c :: (l ++ (if j = 0 then [] else 46 :: fix j m)) := by unfold pt; rw [e]; rfl
    rw [this, starts_S, decide_eq_false (by omega)]
def dot (j : Nat) : List Nat := if j = 0 then [] else [46]
theorem part_pt (w j m : Nat) : Txt.partition (SX.S (rst w j m)) (SX.S [46]) = (SX.S (TL.numL w), SX.S (dot j), SX.S (fix j m)) := by
  have f : 46 ∉ TL.numL w := TL.numL_free (by omega)
  unfold rst dot
  by_cases c : j = 0
  · subst c
    rw [if_pos rfl, if_pos rfl, List.append_nil, SX.partition_none (by decide) (TL.par_none1 f)]
    rfl
  · rw [if_neg c, if_neg c]
    exact SX.partition_some (by decide) (SX.par_head (sep := []) (fix j m) f)
theorem sized {w j m d : Nat} (h : j ≤ d) (d3 : d ≤ 3) (hw : (TL.numL w).length ≤ 18) : intText? (SX.S (TL.numL w) ++ Txt.ljustF (SX.S (fix j m)) (d : Int) 48) = some ((siz w j m d : Nat) : Int) ∧ (SX.S (TL.numL w) ++ Txt.ljustF (SX.S (fix j m)) (d : Int) 48).length ≤ 40 ∧ (SX.S (TL.numL w)).length + (Txt.ljustF (SX.S (fix j m)) (d : Int) 48).length ≤ 40 := by
  rw [ljust_fix, SX.S_cat]
  have l2 : (fix j m ++ fix (d - j) 0).length = d := by rw [List.length_append, fix_len, fix_len]; omega
  have l : (TL.numL w ++ (fix j m ++ fix (d - j) 0)).length ≤ 40 := by rw [List.length_append]; omega
  refine ⟨?_, by rw [SX.S_len]; exact l, by rw [SX.S_len, SX.S_len]; omega⟩
  rw [SX.int_S ?_ ?_ (Nat.le_trans l (by decide)), ← List.append_assoc, val_app, val_num]
  · unfold siz
    rw [Nat.zero_mod, Nat.add_zero]
  · rw [List.all_eq_true]
    intro c hc
    have r : 48 ≤ c ∧ c ≤ 57 := by
      rcases List.mem_append.mp hc with hc | hc
      · exact TL.numL_digits w c hc
      rcases List.mem_append.mp hc with hc | hc
      · exact fix_digits _ _ c hc
      · exact fix_digits _ _ c hc
    rw [Bool.and_eq_true]
    exact ⟨decide_eq_true r.1, decide_eq_true r.2⟩
  · intro z
    exact TL.numL_ne w (List.append_eq_nil_iff.mp z).1
def spParse (K : PySem.W.Frag) (T : Txt K mg) : Sp := fun vs H Q E => ∃ (neg : Bool) (w j m : Nat) (dg : Int), vs = [.str (SX.S (pt neg w j m)), .int dg] ∧ siz w j m dg.toNat < 10000000000000 ∧ (neg = true → siz w j m dg.toNat ≠ 0) ∧
  (0 ≤ dg → dg ≤ 3 → j ≤ dg.toNat ∧ ∀ H', Same H H' → (siz w j m dg.toNat ≤ 1000000000000 → Q (.int (if neg = true then -(siz w j m dg.toNat : Int) else (siz w j m dg.toNat : Int))) H') ∧ (1000000000000 < siz w j m dg.toNat → E (.ref (T.exa .badValue)) none H')) ∧
  (¬(0 ≤ dg ∧ dg ≤ 3) → E (.ref (T.exa .badValue)) none H)
theorem ok_parse_amount (T : Txt K mg) : FnOk P w K mg base (L2.CX P w) 2 T.a_parse_amount T.d_parse_amount ["text", "digits"] (spParse K T) := by
  refine T.F_parse_amount.okX sc_parse_amount (fun vs H Q E h => by obtain ⟨_, _, _, _, _, rfl, _⟩ := h; rfl) (fun cdv A outer s H vs Q E hr h => ?_)
  refine ⟨_, 
      (pss_cons (ps_expr (pe_call (ok_check_digits T) (hr.mono (by decide : 1 ≤ _)) (by rfl) T.g_check_digits T.F_check_digits.kp T.b_check_digits .nil (passes_call (takes_of rfl rfl rfl rfl) (fun _ _ _ _ h => h)) (pa_cons (pv 1) pa_nil)))
      (pss_cons (ps_if (pt_cmpR op_gt (pe_callB call_len_str (by rfl) T.n_len PySem.boot_len (pa_cons (pv 0) pa_nil)) (pe_glob (by rfl) T.g_LONGEST_TEXT T.r_LONGEST_TEXT) (nomark _)) 
        (pss_one (ps_raise rfl (takes_of rfl rfl rfl rfl) (pmk_own PySem.F.excBase_ValueError (T.exx .badValue) (T.exg .badValue) (T.exk .badValue) (raises_own (T.exb .badValue) (T.ext .badValue)) (by rfl)))) pss_nil)
      (pss_cons (ps_asg (pe_partition (pe_bm PySem.F.plainAttrs_str PySem.F.slot_str_removeprefix PySem.F.type_str_removeprefix mt_removeprefix (pv 0) (pa_cons pe_str pa_nil)) pe_str) (pg_tup (n := 3) (by rfl) (pgs_cons (pg_name (i := 2) sc_parse_amount.nd rfl (Or.inl rfl)) (pgs_cons (pg_name (i := 3) sc_parse_amount.nd rfl (Or.inl rfl)) (pgs_cons (pg_name (i := 4) sc_parse_amount.nd rfl (Or.inl rfl)) pgs_nil)))))
      (pss_cons (ps_if (pt_not (pt_val (pe_call (ok_is_whole_part T) (hr.mono (by decide : 1 ≤ _)) (by rfl) T.g_is_whole_part T.F_is_whole_part.kp T.b_is_whole_part .nil pass0 (pa_cons (pv 2) pa_nil)))) 
        (pss_one (ps_raise rfl (takes_of rfl rfl rfl rfl) (pmk_own PySem.F.excBase_ValueError (T.exx .badValue) (T.exg .badValue) (T.exk .badValue) (raises_own (T.exb .badValue) (T.ext .badValue)) (by rfl)))) pss_nil)
      (pss_cons (ps_if (PW.pt (pw_and (pt_cmpR op_ne (pv 3) pe_str (nomark _)) (pw_and1 (pt_not (pt_val (pe_call (ok_is_decimal_part T) (hr.mono (by decide : 1 ≤ _)) (by rfl) T.g_is_decimal_part T.F_is_decimal_part.kp T.b_is_decimal_part .nil pass0 (pa_cons (pv 4) (pa_cons (pv 1) pa_nil)))))))) 
        (pss_one (ps_raise rfl (takes_of rfl rfl rfl rfl) (pmk_own PySem.F.excBase_ValueError (T.exx .badValue) (T.exg .badValue) (T.exk .badValue) (raises_own (T.exb .badValue) (T.ext .badValue)) (by rfl)))) pss_nil)
      (pss_cons (ps_set (i := 5) sc_parse_amount.nd rfl (Or.inl rfl) (pe_callTy call_int_str (by rfl) T.n_int (by decide +kernel) (pa_cons (pe_op op_add_str (pv 2) (pe_bm PySem.F.plainAttrs_str PySem.F.slot_str_ljust PySem.F.type_str_ljust mt_ljustF (pv 4) (pa_cons (pv 1) (pa_cons pe_str pa_nil)))) pa_nil)))
      (pss_cons (ps_if (pt_cmpR op_gt (pv 5) (pe_glob (by rfl) T.g_GREAT T.r_GREAT) (nomark _)) 
        (pss_one (ps_raise rfl (takes_of rfl rfl rfl rfl) (pmk_own PySem.F.excBase_ValueError (T.exx .badValue) (T.exg .badValue) (T.exk .badValue) (raises_own (T.exb .badValue) (T.ext .badValue)) (by rfl)))) pss_nil)
      (pss_cons (ps_if (pt_not (pt_val (pe_bm PySem.F.plainAttrs_str PySem.F.slot_str_startswith PySem.F.type_str_startswith mt_startswith (pv 0) (pa_cons pe_str pa_nil)))) 
        (pss_one (ps_ret (pv 5))) pss_nil)
      (pss_cons (ps_if (pt_cmpR op_eq (pv 5) pe_int (nomark _)) 
        (pss_one (ps_raise rfl (takes_of rfl rfl rfl rfl) (pmk_own PySem.F.excBase_ValueError (T.exx .badValue) (T.exg .badValue) (T.exk .badValue) (raises_own (T.exb .badValue) (T.ext .badValue)) (by rfl)))) pss_nil)
      (pss_one (ps_ret (pe_un un_neg (pv 5))))))))))))), ?_⟩
  obtain ⟨neg, w, j, m, dg, rfl, hsz, hz, hg, he⟩ := h
  walk_at "st"
  refine ⟨dg, rfl, fun d0 d1 => ?_, fun c => he c⟩
  obtain ⟨hj, hqb⟩ := hg d0 d1
  have hl := pt_len neg (d := dg.toNat) hj (by omega) hsz
  walk_at "nx"
  rw [SX.S_len]
  refine ⟨Nat.le_trans hl (by decide), ?_⟩
  rw [if_neg (by omega)]
  walk_at "nx"
  rw [show Str.ofString "-" = SX.S [45] from rfl, show Str.ofString "." = SX.S [46] from rfl, rp_pt, part_pt]
  refine ⟨rfl, ?_, ⟨_, rfl⟩, rfl, ?_, fun p hp => ?_⟩
  · rw [SX.S_len]
    exact Nat.le_trans hl (by decide)
  · rw [SX.S_len]
    have : (rst w j m).length ≤ (pt neg w j m).length := by unfold rst pt; simp only [List.length_append]; omega
    exact Nat.le_trans this (Nat.le_trans hl (by decide))
  dsimp only
  refine Kv.gtupN3 (SqT.of upd_same) ?_
  walk_at "rd"
  have hd : Int.toNat dg ≤ 3 := by omega
  have s1 := Kv.same_upd (o := .tup [V.str (SX.S (TL.numL w)), V.str (SX.S (dot j)), V.str (SX.S (fix j m))]) hp
  obtain ⟨hq, hb⟩ := hqb _ s1
  generalize upd H p (HO.tup [V.str (SX.S (TL.numL w)), V.str (SX.S (dot j)), V.str (SX.S (fix j m))]) = H1 at *
  walk_at "nx"
  refine ⟨w, rfl, ?_⟩
  walk_at "rd"
  have hwl : (TL.numL w).length ≤ 18 := by
    unfold pt at hl
    simp only [List.length_append] at hl
    omega
  obtain ⟨d, rfl⟩ := Int.eq_ofNat_of_zero_le d0
  rw [Int.toNat_natCast] at hj hq hb hd
  obtain ⟨z1, z2, z3⟩ := sized (w := w) (m := m) hj hd hwl
  have pk : PadOk (d : Int) = true := by rcases (by omega : d = 0 ∨ d = 1 ∨ d = 2 ∨ d = 3) with rfl | rfl | rfl | rfl <;> decide
  subst_vars
  refine Kv.seq_cut (fun σ' H' => σ' = [some (.str (SX.S (pt neg w j m))), some (.int (d : Int)), some (.str (SX.S (TL.numL w))), some (.str (SX.S (dot j))), some (.str (SX.S (fix j m))), none] ∧ H' = H1) (fun U hU => ?_) ?_
  · walk_at "rd"
    by_cases j0 : j = 0
    · rw [if_neg (by unfold dot; rw [if_pos j0]; exact fun z => z rfl)]
      exact hU _ _ ⟨rfl, rfl⟩
    · rw [if_pos (by unfold dot; rw [if_neg j0]; exact fun z => by cases (SX.S_inj (b := []) z))]
      refine ⟨j, m, d, rfl, by omega, by omega, by omega, ?_⟩
      walk_at "rd"
      exact hU _ _ ⟨rfl, rfl⟩
  rintro σ' H' ⟨rfl, rfl⟩
  walk_at "st"
  refine ⟨rfl, pk, rfl, Nat.le_trans z3 (by decide), _, z1, Nat.le_trans z2 (by decide), ?_⟩
  walk_at "nx"
  split
  · exact hb (by omega)
  rename_i c1
  have hq := hq (by omega)
  walk_at "nx"
  rw [show Str.ofString "-" = SX.S [45] from rfl, sw_pt]
  refine ⟨rfl, ?_⟩
  cases neg with
  | false =>
    walk_at "rd"
    exact hq
  | true =>
    have hz := hz rfl
    rw [Int.toNat_natCast] at hz
    walk_at "rd"
    walk_at "nx"
    rw [if_neg (by omega)]
    walk_at "nx"
    exact hq
/-! ### the law's own -/
def spRefs (K : PySem.W.Frag) : Sp := fun vs H Q _ => ∃ (am : Int) (neg : Bool) (w j m : Nat) (dg : Int), vs = [.int am, .str (SX.S (pt neg w j m)), .int dg] ∧ siz w j m dg.toNat < 10000000000000 ∧ (neg = true → siz w j m dg.toNat ≠ 0) ∧ ¬(0 ≤ dg ∧ dg ≤ 3 ∧ -1000000000000 ≤ am ∧ am ≤ 1000000000000) ∧ (0 ≤ dg → dg ≤ 3 → j ≤ dg.toNat ∧ 1000000000000 < siz w j m dg.toNat) ∧
  ∀ p q1 q2 H', Same H H' → H' p = some (.lst [.ref q1, .ref q2]) → H' q1 = some (.lst [.str "BadValue"]) → H' q2 = some (.lst [.str "BadValue"]) → Q (.ref p) H'
theorem ok_L_refusals (T : Txt K mg) : FnOk P w K mg base CX0 3 T.a__law_refusals T.d__law_refusals ["amount", "text", "digits"] (spRefs K) := by
  refine T.F__law_refusals.ok sc_L_refusals (fun vs H Q E h => by obtain ⟨_, _, _, _, _, _, rfl, _⟩ := h; rfl) (fun cdv A outer s H vs Q E hr h => ?_)
  refine ⟨_, 
      (pss_cons (ps_set (i := 3) sc_L_refusals.nd rfl (Or.inl rfl) (pe_lst pa_nil))
      (pss_cons (ps_try_as (i := 4) rfl rfl sc_L_refusals.nd rfl rfl ⟨rfl, by decide, .inl T.g_BankError⟩ takes0 (fun W pn xe tk hpo => by exact (
          (pss_one (ps_expr (pe_callS (ok_format_amount T) (hr.mono (by decide : 2 ≤ _)) (by rfl) T.g_format_amount T.F_format_amount.kp T.b_format_amount (fun σ => passAt tk σ) (pa_cons (pv 0) (pa_cons (pv 2) pa_nil))))))) (fun a oe cls d pn hz hf => by exact (
          (pss_one (ps_expr (Kv.pe_bmK K PySem.F.plainAttrs_list PySem.F.slot_list_append PySem.F.type_list_append mt_append (pv 3) (pa_cons (Kv.pe_kinds (ok_L_kinds T) hz hf List.mem_cons_self ⟨(hr.mono (by decide : 1 ≤ _)).dp, (hr.mono (by decide : 1 ≤ _)).un⟩ (by rfl) T.g__law_kinds T.F__law_kinds.kp T.b__law_kinds (pa_cons (pv 4) pa_nil)) pa_nil)))))))
      (pss_cons (ps_try_as (i := 4) rfl rfl sc_L_refusals.nd rfl rfl ⟨rfl, by decide, .inl T.g_BankError⟩ takes0 (fun W pn xe tk hpo => by exact (
          (pss_one (ps_expr (pe_callS (ok_parse_amount T) (hr.mono (by decide : 2 ≤ _)) (by rfl) T.g_parse_amount T.F_parse_amount.kp T.b_parse_amount (fun σ => passAt tk σ) (pa_cons (pv 1) (pa_cons (pv 2) pa_nil))))))) (fun a oe cls d pn hz hf => by exact (
          (pss_one (ps_expr (Kv.pe_bmK K PySem.F.plainAttrs_list PySem.F.slot_list_append PySem.F.type_list_append mt_append (pv 3) (pa_cons (Kv.pe_kinds (ok_L_kinds T) hz hf List.mem_cons_self ⟨(hr.mono (by decide : 1 ≤ _)).dp, (hr.mono (by decide : 1 ≤ _)).un⟩ (by rfl) T.g__law_kinds T.F__law_kinds.kp T.b__law_kinds (pa_cons (pv 4) pa_nil)) pa_nil)))))))
      (pss_one (ps_ret (pv 3)))))), ?_⟩
  obtain ⟨am, neg, w, j, m, dg, rfl, hsz, hz, hf, hp, hq⟩ := h
  walk_at "st"
  intro kl hkl
  walk_at "nx"
  refine ⟨am, dg, rfl, fun a b c d => absurd ⟨a, b, c, d⟩ hf, fun _ => ⟨true, T.exm _, fun _ b hb => ?_, fun z => nomatch z⟩⟩
  walk_at "rd"
  refine ⟨.inl ⟨rfl, _, SqL.of upd_same⟩, _, rfl, fun r1 hr1 => ⟨_, Kv.same_upd hr1 _ _ upd_same, by decide, ?_⟩⟩
  have hne : r1 ≠ kl := fun z => by
    rw [z, upd_same] at hr1
    cases hr1
  have s0 : Same H (upd (upd (upd H kl (HO.lst [])) r1 (HO.lst [V.str (Kv.Er.nm .badValue)])) kl (HO.lst ([] ++ [V.ref r1]))) := Kv.same_mut hkl ((Kv.same_upd hkl).trans (Kv.same_upd hr1))
  have ek : (upd (upd (upd H kl (HO.lst [])) r1 (HO.lst [V.str (Kv.Er.nm .badValue)])) kl (HO.lst ([] ++ [V.ref r1]))) kl = some (.lst [V.ref r1]) := upd_same
  have er : (upd (upd (upd H kl (HO.lst [])) r1 (HO.lst [V.str (Kv.Er.nm .badValue)])) kl (HO.lst ([] ++ [V.ref r1]))) r1 = some (.lst [V.str (Kv.Er.nm .badValue)]) := by rw [upd_ne hne]; exact upd_same
  generalize upd (upd (upd H kl (HO.lst [])) r1 (HO.lst [V.str (Kv.Er.nm .badValue)])) kl (HO.lst ([] ++ [V.ref r1])) = H1 at *
  walk_at "nx"
  refine ⟨neg, w, j, m, dg, rfl, hsz, hz, fun d0 d1 => ⟨(hp d0 d1).1, fun H2 s2 => ⟨fun c => absurd c (by have := (hp d0 d1).2; omega), fun _ => ⟨true, T.exm _, fun _ b hb => ?_, fun z => nomatch z⟩⟩⟩, fun _ => ⟨true, T.exm _, fun _ b hb => ?_, fun z => nomatch z⟩⟩
  · walk_at "rd"
    refine ⟨.inl ⟨rfl, _, SqL.of (s2 _ _ ek)⟩, _, rfl, fun r2 hr2 => ⟨_, Kv.same_upd hr2 _ _ (s2 _ _ ek), (show (1 : Nat) < sizeLine from by decide), ?_⟩⟩
    have n2 : r2 ≠ kl := fun z => by
      rw [z, s2 _ _ ek] at hr2
      cases hr2
    have n1 : r1 ≠ kl := hne
    have e1 := Kv.same_upd (o := .lst [V.str (Kv.Er.nm .badValue)]) hr2 _ _ (s2 _ _ er)
    walk_at "nx"
    exact hq kl r1 r2 _ (Kv.same_mut hkl (s0.trans (s2.trans (Kv.same_upd hr2)))) upd_same (by rw [upd_ne n1]; exact e1) (by rw [upd_ne n2]; exact upd_same)
  · have s2 := Same.refl H1
    walk_at "rd"
    refine ⟨.inl ⟨rfl, _, SqL.of (s2 _ _ ek)⟩, _, rfl, fun r2 hr2 => ⟨_, Kv.same_upd hr2 _ _ (s2 _ _ ek), (show (1 : Nat) < sizeLine from by decide), ?_⟩⟩
    have n2 : r2 ≠ kl := fun z => by
      rw [z, s2 _ _ ek] at hr2
      cases hr2
    have n1 : r1 ≠ kl := hne
    have e1 := Kv.same_upd (o := .lst [V.str (Kv.Er.nm .badValue)]) hr2 _ _ (s2 _ _ er)
    walk_at "nx"
    exact hq kl r1 r2 _ (Kv.same_mut hkl (s0.trans (s2.trans (Kv.same_upd hr2)))) upd_same (by rw [upd_ne n1]; exact e1) (by rw [upd_ne n2]; exact upd_same)
def spAm (K : PySem.W.Frag) : Sp := fun vs H Q _ => ∃ (a : Addr) (ns : List Int), vs = [.ref a] ∧ SqL K H a (ns.map V.int) ∧ ns.length = 6 ∧ (∀ z ∈ ns, 0 ≤ z ∧ z < 10000000000000) ∧ ∀ am, -1000000000000 ≤ am → am ≤ 1000000000000 → Q (.int am) H
def midA (a : Addr) (H : Hp) : L2.St → Hp → Prop := fun σ' H' => ∃ n : Int, σ' = [some (.ref a), some (.int n)] ∧ H' = H ∧ 0 ≤ n ∧ n ≤ 1000000000000
theorem ok_L_amount (T : Txt K mg) : FnOk P w K mg base CX0 1 T.a__law_amount T.d__law_amount ["numbers"] (spAm K) := by
  refine T.F__law_amount.ok sc_L_amount (fun vs H Q E h => by obtain ⟨_, _, rfl, _⟩ := h; rfl) (fun cdv A outer s H vs Q E hr h => ?_)
  refine ⟨_, 
      (pss_cons (ps_set (i := 1) sc_L_amount.nd rfl (Or.inl rfl) (pe_op op_mod (pe_ix ix_list (pv 0) pe_int (fun _ _ => rfl)) pe_int))
      (pss_cons (ps_if (pt_cmpR op_eq (pe_op op_mod (pe_ix ix_list (pv 0) pe_int (fun _ _ => rfl)) pe_int) pe_int (nomark _)) 
        (pss_one (ps_set (i := 1) sc_L_amount.nd rfl (Or.inl rfl) (pe_op op_sub (pe_op op_pow pe_int pe_int) (pv 1)))) pss_nil)
      (pss_cons (ps_if (pt_cmpR op_eq (pe_op op_mod (pe_ix ix_list (pv 0) pe_int (fun _ _ => rfl)) pe_int) pe_int (nomark _)) 
        (pss_one (ps_set (i := 1) sc_L_amount.nd rfl (Or.inl rfl) (pe_op op_mod (pe_ix ix_list (pv 0) pe_int (fun _ _ => rfl)) (pe_op op_add (pe_op op_pow pe_int pe_int) pe_int)))) pss_nil)
      (pss_cons (ps_if (pt_cmpR op_eq (pe_op op_mod (pe_ix ix_list (pv 0) pe_int (fun _ _ => rfl)) pe_int) pe_int (nomark _)) 
        (pss_one (ps_ret (pe_op op_sub pe_int (pv 1)))) pss_nil)
      (pss_one (ps_ret (pv 1))))))), ?_⟩
  obtain ⟨a, ns, rfl, hS, hl, hn, hq⟩ := h
  refine Kv.seq_cut (fun σ' H' => ∃ n : Int, σ' = [some (.ref a), some (.int n)] ∧ H' = H ∧ 0 ≤ n ∧ n ≤ 2000) (fun U hU => ?_) ?_
  · walk_at "rd"
    refine Kv.ix_num hS (by omega) ?_
    walk_at "rd"
    exact hU _ _ ⟨_, rfl, rfl, by omega, by omega⟩
  rintro σ' H' ⟨n, rfl, rfl, n0, n1⟩
  refine Kv.seq_cut (midA a H') (fun U hU => ?_) ?_
  · walk_at "rd"
    refine Kv.ix_num hS (by omega) ?_
    walk_at "rd"
    split
    · exact hU _ _ ⟨_, rfl, rfl, by omega, by omega⟩
    · exact hU _ _ ⟨_, rfl, rfl, by omega, by omega⟩
  rintro σ' H ⟨n, rfl, rfl, n0, n1⟩
  refine Kv.seq_cut (midA a H) (fun U hU => ?_) ?_
  · walk_at "rd"
    refine Kv.ix_num hS (by omega) ?_
    walk_at "rd"
    split
    · refine Kv.ix_num hS (by omega) ?_
      walk_at "rd"
      exact hU _ _ ⟨_, rfl, rfl, by omega, by omega⟩
    · exact hU _ _ ⟨_, rfl, rfl, by omega, by omega⟩
  rintro σ' H' ⟨n, rfl, rfl, n0, n1⟩
  walk_at "rd"
  refine Kv.ix_num hS (by omega) ?_
  walk_at "rd"
  split
  · exact hq _ (by omega) (by omega)
  · walk_at "nx"
    exact hq _ (by omega) (by omega)
def spTxt : Sp := fun vs H Q _ => ∃ (am : Int) (d : Nat), vs = [.int am, .int (d : Int)] ∧ d ≤ 3 ∧ am.natAbs < 10000000000000 ∧ Q (.str (SX.S (sg am ++ bdy am.natAbs d))) H
def invTx (am : Int) (d : Nat) (H : Hp) : Nat → L2.St → Hp → Prop := fun i σ' H' => ∃ (v3 v4 : Option V), σ' = [some (.int am), some (.int (d : Int)), some (.str (SX.S (List.replicate (min i (d + 1 - (TL.numL am.natAbs).length)) 48 ++ TL.numL am.natAbs))), v3, v4] ∧ H' = H
def midT (am : Int) (d : Nat) (H : Hp) : L2.St → Hp → Prop := fun σ' H' => ∃ (v2 v3 : Option V), σ' = [some (.int am), some (.int (d : Int)), v2, v3, some (.str (SX.S (bdy am.natAbs d)))] ∧ H' = H
theorem ok_L_text (T : Txt K mg) : FnOk P w K mg base CX0 1 T.a__law_text T.d__law_text ["amount", "digits"] spTxt := by
  refine T.F__law_text.ok sc_L_text (fun vs H Q E h => by obtain ⟨_, _, rfl, _⟩ := h; rfl) (fun cdv A outer s H vs Q E hr h => ?_)
  refine ⟨_, 
      (pss_cons (ps_set (i := 2) sc_L_text.nd rfl (Or.inl rfl) (pe_callTy call_str_int (by rfl) T.n_str (by decide +kernel) (pa_cons (pe_callB call_abs (by rfl) T.n_abs (by decide +kernel) (pa_cons (pv 0) pa_nil)) pa_nil)))
      (pss_cons (ps_for PassesOwn.never rfl (pi_range1 (by rfl) T.n_range (pa_cons pe_int pa_nil)) (pg_name (i := 3) sc_L_text.nd rfl (Or.inl rfl)) 
        (pss_one (ps_if (pt_cmpR op_le (pe_callB call_len_str (by rfl) T.n_len PySem.boot_len (pa_cons (pv 2) pa_nil)) (pv 1) (nomark _)) 
          (pss_one (ps_set (i := 2) sc_L_text.nd rfl (Or.inl rfl) (pe_op op_add_str pe_str (pv 2)))) pss_nil)))
      (pss_cons (ps_set (i := 4) sc_L_text.nd rfl (Or.inl rfl) (pv 2))
      (pss_cons (ps_if (pt_cmpR op_gt (pv 1) pe_int (nomark _)) 
        (pss_one (ps_set (i := 4) sc_L_text.nd rfl (Or.inl rfl) (pe_op op_add_str (pe_op op_add_str (pe_slice sl_str (pv 2) po_none (po_some (pe_op op_sub (pe_callB call_len_str (by rfl) T.n_len PySem.boot_len (pa_cons (pv 2) pa_nil)) (pv 1)))) pe_str) (pe_slice sl_str (pv 2) (po_some (pe_op op_sub (pe_callB call_len_str (by rfl) T.n_len PySem.boot_len (pa_cons (pv 2) pa_nil)) (pv 1))) po_none)))) pss_nil)
      (pss_cons (ps_if (pt_cmpR op_lt (pv 0) pe_int (nomark _)) 
        (pss_one (ps_ret (pe_op op_add_str pe_str (pv 4)))) pss_nil)
      (pss_one (ps_ret (pv 4)))))))), ?_⟩
  obtain ⟨am, d, rfl, hd, hA, hq⟩ := h
  have ln : (TL.numL am.natAbs).length ≤ 13 := TL.numL_len (by decide) (Nat.lt_of_lt_of_le hA (by decide))
  have habs : (if am < 0 then -am else am) = (am.natAbs : Int) := by split <;> omega
  have fin : ∀ H', Q (.str (SX.S (sg am ++ bdy am.natAbs d))) H → H' = H → Q (.str (SX.S (sg am ++ bdy am.natAbs d))) H' := fun _ z e => by rw [e]; exact z
  walk_at "st"
  rw [habs, SX.num_S]
  refine ⟨Nat.lt_of_lt_of_le (PySem.Flt.log2_lt_of (k := 64) (by decide) (by rw [Int.natAbs_natCast]; omega)) (by decide), ?_⟩
  walk_at "nx"
  refine Kv.for_rng0 (invTx am d H) ⟨_, _, by rw [Nat.zero_min, List.replicate_zero, List.nil_append], rfl⟩ ?_ ?_
  · rintro i σ' H' hi ⟨_, _, rfl, rfl⟩
    walk_at "rd"
    have l0 := List.length_pos_iff.mpr (TL.numL_ne am.natAbs)
    have ll : (SX.S (List.replicate (min i (d + 1 - (TL.numL am.natAbs).length)) 48 ++ TL.numL am.natAbs)).length = min i (d + 1 - (TL.numL am.natAbs).length) + (TL.numL am.natAbs).length := by rw [SX.S_len, List.length_append, List.length_replicate]
    refine ⟨Nat.le_trans (show _ ≤ 40 by rw [ll]; omega) (by decide), ?_⟩
    split
    · rename_i c
      rw [ll] at c
      refine ⟨Nat.le_trans (show _ ≤ 41 by rw [ll]; show 1 + _ ≤ 41; omega) (by decide), ?_⟩
      have e : Str.ofString "0" ++ SX.S (List.replicate (min i (d + 1 - (TL.numL am.natAbs).length)) 48 ++ TL.numL am.natAbs) = SX.S (List.replicate (min (i + 1) (d + 1 - (TL.numL am.natAbs).length)) 48 ++ TL.numL am.natAbs) := by
        rw [show Str.ofString "0" = SX.S [48] from rfl, SX.S_cat, show min (i + 1) (d + 1 - (TL.numL am.natAbs).length) = min i (d + 1 - (TL.numL am.natAbs).length) + 1 by omega, List.replicate_succ]
        rfl
      rw [e]
      exact ⟨_, _, rfl, rfl⟩
    · rename_i c
      rw [ll] at c
      exact ⟨_, _, by rw [show min (i + 1) (d + 1 - (TL.numL am.natAbs).length) = min i (d + 1 - (TL.numL am.natAbs).length) by omega], rfl⟩
  · rintro σ' H' ⟨_, _, rfl, rfl⟩
    have l0 := List.length_pos_iff.mpr (TL.numL_ne am.natAbs)
    have lf := fix_len d am.natAbs
    have lw : (TL.numL (am.natAbs / 10 ^ d)).length ≤ 13 := TL.numL_len (by decide) (Nat.lt_of_le_of_lt (Nat.div_le_self _ _) (Nat.lt_of_lt_of_le hA (by decide)))
    rw [show min 4 (d + 1 - (TL.numL am.natAbs).length) = d + 1 - (TL.numL am.natAbs).length by omega, num_full]
    walk_at "nx"
    subst_vars
    refine Kv.seq_cut (midT am d H') (fun U hU => ?_) ?_
    · have lF : (SX.S (TL.numL (am.natAbs / 10 ^ d) ++ fix d am.natAbs)).length = (TL.numL (am.natAbs / 10 ^ d)).length + d := by rw [SX.S_len, List.length_append, lf]
      have eA : (((SX.S (TL.numL (am.natAbs / 10 ^ d) ++ fix d am.natAbs)).length : Nat) : Int) - (d : Int) = ((TL.numL (am.natAbs / 10 ^ d)).length : Int) := by rw [lF]; omega
      have sz : (SX.S (TL.numL (am.natAbs / 10 ^ d) ++ fix d am.natAbs)).length ≤ sizeLine := Nat.le_trans (show _ ≤ 20 by rw [lF]; omega) (by decide)
      walk_at "rd"
      split
      · rename_i c
        refine ⟨sz, ⟨_, rfl, sz, ?_⟩⟩
        rw [C8.cutS_slice, SX.to_app _ _ eA]
        refine ⟨_, rfl, Nat.le_trans (show _ ≤ 20 by rw [SX.S_len]; show _ + 1 ≤ 20; omega) (by decide), sz, ⟨_, rfl, sz, ?_⟩⟩
        rw [C8.cutS_slice, SX.from_app _ _ eA]
        rw [show Str.ofString "." = SX.S [46] from rfl, SX.S_cat]
        refine ⟨_, rfl, Nat.le_trans (show _ ≤ 40 by rw [SX.S_len, SX.S_len, List.length_append, List.length_singleton, lf]; omega) (by decide), ?_⟩
        rw [SX.S_cat, List.append_assoc]
        have e : TL.numL (am.natAbs / 10 ^ d) ++ ([46] ++ fix d am.natAbs) = bdy am.natAbs d := by
          unfold bdy
          rw [if_neg (by omega)]
          rfl
        rw [e]
        exact hU _ _ ⟨_, _, rfl, rfl⟩
      · rename_i c
        have c : d = 0 := by omega
        subst c
        have e : TL.numL (am.natAbs / 10 ^ 0) ++ fix 0 am.natAbs = bdy am.natAbs 0 := by
          unfold bdy
          rw [if_pos rfl, Nat.pow_zero, Nat.div_one]
          exact List.append_nil _
        rw [e]
        exact hU _ _ ⟨_, _, rfl, rfl⟩
    rintro σ' H1 ⟨_, _, rfl, rfl⟩
    have lb : (bdy am.natAbs d).length ≤ 20 := by
      unfold bdy
      split
      · omega
      · rw [List.length_append, List.length_cons, lf]; omega
    walk_at "st"
    unfold sg at hq
    split
    · rename_i c
      rw [if_pos c] at hq
      rw [show Str.ofString "-" = SX.S [45] from rfl, SX.S_cat]
      exact ⟨Nat.le_trans (show _ ≤ 40 by rw [SX.S_len, SX.S_len, List.length_singleton]; omega) (by decide), hq⟩
    · rename_i c
      rw [if_neg c] at hq
      walk_at "nx"
      exact hq
def spRB (K : PySem.W.Frag) : Sp := fun vs H Q _ => ∃ (am : Int) (neg : Bool) (w j m d : Nat), vs = [.str (SX.S (pt neg w j m)), .int (d : Int), .int am] ∧ d ≤ 3 ∧ j ≤ d ∧ siz w j m d ≤ 1000000000000 ∧ (neg = true → siz w j m d ≠ 0) ∧ am = (if neg = true then -(siz w j m d : Int) else (siz w j m d : Int)) ∧ ∀ H', Same H H' → Q (.bl true) H'
theorem ok_L_read_back (T : Txt K mg) : FnOk P w K mg base CX0 3 T.a__law_read_back T.d__law_read_back ["text", "digits", "amount"] (spRB K) := by
  refine T.F__law_read_back.ok sc_L_read_back (fun vs H Q E h => by obtain ⟨_, _, _, _, _, _, rfl, _⟩ := h; rfl) (fun cdv A outer s H vs Q E hr h => ?_)
  refine ⟨_, 
      (pss_cons (ps_set (i := 3) sc_L_read_back.nd rfl (Or.inl rfl) (pe_call (ok_parse_amount T) (hr.mono (by decide : 2 ≤ _)) (by rfl) T.g_parse_amount T.F_parse_amount.kp T.b_parse_amount .nil passL (pa_cons (pv 0) (pa_cons (pv 1) pa_nil))))
      (pss_one (ps_ret (pe_and (pe_call (ok_L_is_integer T) (hr.mono (by decide : 1 ≤ _)) (by rfl) T.g__law_is_integer T.F__law_is_integer.kp T.b__law_is_integer .nil pass0 (pa_cons (pv 3) pa_nil)) (pe_one (pe_cmpR op_eq (pv 3) (pv 2) (nomark _))))))), ?_⟩
  obtain ⟨am, neg, w, j, m, d, rfl, hd, hj, hs, hz, e, hq⟩ := h
  walk_at "st"
  refine ⟨neg, w, j, m, d, rfl, by rw [Int.toNat_natCast]; omega, by rw [Int.toNat_natCast]; exact hz, fun _ _ => ⟨by rw [Int.toNat_natCast]; exact hj, fun H1 s1 => ⟨fun _ => ?_, fun c => by rw [Int.toNat_natCast] at c; omega⟩⟩, fun c => absurd ⟨by omega, by omega⟩ c⟩
  rw [Int.toNat_natCast, ← e]
  walk_at "nx"
  refine ⟨_, rfl, ?_⟩
  walk_at "rd"
  exact hq _ s1
/-! ### what is read back -/
theorem pt_full (am : Int) (d : Nat) : sg am ++ bdy am.natAbs d = pt (decide (am < 0)) (am.natAbs / 10 ^ d) d am.natAbs := by
  unfold sg bdy pt
  congr 1
  · by_cases c : am < 0 <;> simp [c]
  · by_cases c : d = 0
    · subst c
      rw [if_pos rfl, if_pos rfl, List.append_nil, Nat.pow_zero, Nat.div_one]
    · rw [if_neg c, if_neg c]
theorem siz_full (n d : Nat) : siz (n / 10 ^ d) d n d = n := by
  unfold siz
  rw [Nat.sub_self, Nat.pow_zero, Nat.mul_one, Nat.mul_comm]
  exact Nat.div_add_mod n (10 ^ d)
theorem siz_less {w j m d : Nat} (h : j + 1 ≤ d) (h0 : m % 10 = 0) : siz w j (m / 10) d = siz w (j + 1) m d := by
  have e : m % 10 ^ (j + 1) = 10 * (m / 10 % 10 ^ j) + m % 10 := by
    rw [Nat.pow_succ, Nat.mul_comm (10 ^ j) 10, Nat.mod_mul]
    omega
  unfold siz
  rw [e, h0, show d - j = (d - (j + 1)) + 1 by omega, Nat.pow_succ, Nat.pow_succ, Nat.mul_comm (10 ^ (d - (j + 1))) 10, ← Nat.mul_assoc]
  congr 1
  rw [Nat.add_mul, Nat.mul_assoc, Nat.add_zero, Nat.mul_comm (m / 10 % 10 ^ j) 10]
def hd (neg : Bool) (w : Nat) : List Nat := (if neg = true then [45] else []) ++ TL.numL w
theorem pt_zero (neg : Bool) (w m : Nat) : pt neg w 0 m = hd neg w := by
  unfold pt hd
  rw [if_pos rfl, List.append_nil]
theorem pt_succ (neg : Bool) (w j m : Nat) : pt neg w (j + 1) m = hd neg w ++ (46 :: fix (j + 1) m) := by
  unfold pt hd
  rw [if_neg (Nat.succ_ne_zero j), List.append_assoc]
theorem pt_snoc (neg : Bool) (w j m : Nat) : pt neg w (j + 1) m = (hd neg w ++ (46 :: fix j (m / 10))) ++ [48 + m % 10] := by
  rw [pt_succ, fix]
  simp
theorem hd_len (neg : Bool) {w : Nat} (h : (TL.numL w).length ≤ 13) : (hd neg w).length ≤ 14 := by
  unfold hd
  rw [List.length_append]
  split <;> simp <;> omega
theorem cut_lst {A : List Nat} {c : Nat} {H : Hp} {Q : VK} (h : A.length ≤ 30) (q : Q (.str (SX.S A)) H) : rSlS (.str (SX.S (A ++ [c]))) none (some (((SX.S (A ++ [c])).length : Int) - 1)) H Q := by
  have l : (SX.S (A ++ [c])).length = A.length + 1 := by rw [SX.S_len, List.length_append, List.length_singleton]
  refine ⟨_, rfl, Nat.le_trans (show _ ≤ 31 by rw [l]; omega) (by decide), ?_⟩
  rw [C8.cutS_slice, SX.to_app _ _ (by rw [l]; omega)]
  exact q
theorem sz_lst {A : List Nat} {c : Nat} (h : A.length ≤ 30) : (SX.S (A ++ [c])).length ≤ sizeLine := Nat.le_trans (show _ ≤ 31 by rw [SX.S_len, List.length_append, List.length_singleton]; omega) (by decide)
def invLaw (a : Addr) (H1 : Hp) : L2.St → Hp → Prop := fun σ' H' => (∃ v1 v2 v3 v4 v5 v6 v7 v8 v9 v10 v11 : Option V, σ' = [some (.ref a), v1, v2, v3, v4, v5, v6, v7, v8, v9, v10, v11]) ∧ Same H1 H'
def invS (a : Addr) (z : Int) (nl : Addr) (d : Nat) (am : Int) (H1 : Hp) : Nat → L2.St → Hp → Prop := fun _ σ' H' => ∃ v5 v6 v7 v8 v9 v10 v11 : Option V, σ' = [some (.ref a), some (.int z), some (.ref nl), some (.int (d : Int)), some (.int am), v5, v6, v7, v8, v9, v10, v11] ∧ H' = H1
def invK (a : Addr) (z : Int) (nl : Addr) (d : Nat) (am : Int) (H1 : Hp) : Nat → L2.St → Hp → Prop := fun i σ' H' => ∃ (j m : Nat) (v5 v6 v8 v9 v10 v11 : Option V), σ' = [some (.ref a), some (.int z), some (.ref nl), some (.int (d : Int)), some (.int am), v5, v6, some (.str (SX.S (pt (decide (am < 0)) (am.natAbs / 10 ^ d) j m))), v8, v9, v10, v11] ∧ Same H1 H' ∧ j ≤ d ∧ d ≤ j + i ∧ siz (am.natAbs / 10 ^ d) j m d = am.natAbs
theorem ix_lst {A : List Nat} {c : Nat} {H : Hp} {Q : VK} (h : A.length ≤ 30) (q : Q (.str (SX.S [c])) H) : rIxS (.str (SX.S (A ++ [c]))) (.int (((SX.S (A ++ [c])).length : Int) - 1)) H Q := by
  have l : (SX.S (A ++ [c])).length = A.length + 1 := by rw [SX.S_len, List.length_append, List.length_singleton]
  refine Kv.ix_signc (c := c) (Nat.le_trans (show _ ≤ 31 by rw [l]; omega) (by decide)) (by rw [l]; omega) ?_ q
  rw [l, show (((A.length + 1 : Nat) : Int) - 1).toNat = A.length by omega]
  show (A ++ [c])[A.length]? = some c
  rw [List.getElem?_append_right (Nat.le_refl _), Nat.sub_self]
  rfl
def invO (a : Addr) (z : Int) (nl : Addr) (d : Nat) (am : Int) (tx : Str) (H1 : Hp) : Nat → L2.St → Hp → Prop := fun _ σ' H' => ∃ v5 v6 v8 v9 v10 v11 : Option V, σ' = [some (.ref a), some (.int z), some (.ref nl), some (.int (d : Int)), some (.int am), v5, v6, some (.str tx), v8, v9, v10, v11] ∧ Same H1 H'
theorem ne_bad {H : Hp} {p q1 q2 r r1 r2 : Addr} {Q : VK} (ep : H p = some (.lst [.ref q1, .ref q2])) (e1 : H q1 = some (.lst [.str "BadValue"])) (e2 : H q2 = some (.lst [.str "BadValue"])) (hr1 : H r1 = none) (hr2 : upd H r1 (.lst [.str "BadValue"]) r2 = none) (hr : upd (upd H r1 (.lst [.str "BadValue"])) r2 (.lst [.str "BadValue"]) r = none)
    (k : Q (.bl false) (upd (upd (upd H r1 (.lst [.str "BadValue"])) r2 (.lst [.str "BadValue"])) r (.lst [.ref r1, .ref r2]))) : rNeD K (.ref p) (.ref r) (upd (upd (upd H r1 (.lst [.str "BadValue"])) r2 (.lst [.str "BadValue"])) r (.lst [.ref r1, .ref r2])) Q := by
  have s1 := Kv.same_upd (o := .lst [.str "BadValue"]) hr1
  have s2 := Kv.same_upd (o := .lst [.str "BadValue"]) hr2
  have s3 := Kv.same_upd (o := .lst [.ref r1, .ref r2]) hr
  have s := s1.trans (s2.trans s3)
  exact Kv.ne_same (d := .list [.list [.str "BadValue"], .list [.str "BadValue"]]) (.lst (SqL.of (s _ _ ep)) (.cons (.lst (SqL.of (s _ _ e1)) (.cons (.str _) .nil)) (.cons (.lst (SqL.of (s _ _ e2)) (.cons (.str _) .nil)) .nil)))
    (.lst (SqL.of upd_same) (.cons (.lst (SqL.of (s3 _ _ (s2 _ _ upd_same))) (.cons (.str _) .nil)) (.cons (.lst (SqL.of (s3 _ _ upd_same)) (.cons (.str _) .nil)) .nil))) (by walk_at "shp") (by walk_at "eqv") k
theorem ok_law (T : Txt K mg) : FnOk P w K mg base CX0 4 T.a_law T.d_law ["script"] (Kv.spLaw K) := by
  refine T.F_law.ok sc_law (fun vs H Q E h => ?_) (fun cdv A outer s H vs Q E hr h => ?_)
  · obtain ⟨a, ns, rfl, _⟩ := h
    rfl
  refine ⟨_, 
      (pss_cons (ps_if (PW.pt (pw_or (pt_cmpR op_ne (pe_glob (by rfl) T.g_GREAT T.r_GREAT) (pe_op op_pow pe_int pe_int) (nomark _)) (pw_or1 (pt_cmpR op_ne (pe_glob (by rfl) T.g_LIMIT T.r_LIMIT) (pe_op op_pow pe_int pe_int) (nomark _))))) 
        (pss_one (ps_ret pe_bl)) pss_nil)
      (pss_cons (ps_for PassesOwn.never rfl (pi_list (pe_op Kv.op_catS (pe_lst (pa_cons pe_int pa_nil)) (pv 0))) (pg_name (i := 1) sc_law.nd rfl (Or.inl rfl)) 
        (pss_cons (ps_set (i := 2) sc_law.nd rfl (Or.inl rfl) (pe_call (ok_L_numbers T) (hr.mono (by decide : 1 ≤ _)) (by rfl) T.g__law_numbers T.F__law_numbers.kp T.b__law_numbers .nil pass0 (pa_cons (pv 1) (pa_cons pe_int pa_nil))))
        (pss_cons (ps_set (i := 3) sc_law.nd rfl (Or.inl rfl) (pe_op op_mod (pe_ix ix_list (pv 2) pe_int (fun _ _ => rfl)) pe_int))
        (pss_cons (ps_set (i := 4) sc_law.nd rfl (Or.inl rfl) (pe_call (ok_L_amount T) (hr.mono (by decide : 1 ≤ _)) (by rfl) T.g__law_amount T.F__law_amount.kp T.b__law_amount .nil pass0 (pa_cons (pv 2) pa_nil)))
        (pss_cons (ps_for PassesOwn.never rfl (pi_list (pe_lst (pa_cons pe_int (pa_cons pe_int (pa_cons (pe_op op_pow pe_int pe_int) (pa_cons (pe_op op_add (pe_op op_pow pe_int pe_int) pe_int) (pa_cons (pv 4) (pa_cons (pe_op op_fdivW (pe_callB call_abs (by rfl) T.n_abs (by decide +kernel) (pa_cons (pv 4) pa_nil)) pe_int) pa_nil)))))))) (pg_name (i := 5) sc_law.nd rfl (Or.inl rfl)) 
          (pss_cons (ps_set (i := 6) sc_law.nd rfl (Or.inl rfl) (pe_call (ok_is_amount T) (hr.mono (by decide : 1 ≤ _)) (by rfl) T.g_is_amount T.F_is_amount.kp T.b_is_amount .nil pass0 (pa_cons (pv 5) pa_nil)))
          (pss_one (ps_if (PW.pt (pw_or (pt_not (pt_val (pe_callB call_isi (by rfl) T.n_isinstance (by decide +kernel) (pa_cons (pv 6) (pa_cons (pe_bltn (v := .ty "bool") (by rfl) T.n_bool (by decide +kernel) rfl) pa_nil))))) (pw_or1 (pt_cmpR op_ne (pv 6) (pe_and (pe_cmpR op_le pe_int (pv 5) (nomark _)) (pe_one (pe_cmpR op_le (pv 5) (pe_op op_pow pe_int pe_int) (nomark _)))) (nomark _))))) 
            (pss_one (ps_ret pe_bl)) pss_nil))))
        (pss_cons (ps_set (i := 7) sc_law.nd rfl (Or.inl rfl) (pe_call (ok_L_text T) (hr.mono (by decide : 1 ≤ _)) (by rfl) T.g__law_text T.F__law_text.kp T.b__law_text .nil pass0 (pa_cons (pv 4) (pa_cons (pv 3) pa_nil))))
        (pss_cons (ps_set (i := 6) sc_law.nd rfl (Or.inl rfl) (pe_call (ok_format_amount T) (hr.mono (by decide : 2 ≤ _)) (by rfl) T.g_format_amount T.F_format_amount.kp T.b_format_amount .nil passL (pa_cons (pv 4) (pa_cons (pv 3) pa_nil))))
        (pss_cons (ps_if (PW.pt (pw_or (pt_not (pt_val (pe_callB call_isi (by rfl) T.n_isinstance (by decide +kernel) (pa_cons (pv 6) (pa_cons (pe_bltn (v := .ty "str") (by rfl) T.n_str (by decide +kernel) rfl) pa_nil))))) (pw_or1 (pt_cmpR op_ne (pv 6) (pv 7) (nomark _))))) 
          (pss_one (ps_ret pe_bl)) pss_nil)
        (pss_cons (ps_for PassesOwn.never rfl (pi_range1 (by rfl) T.n_range (pa_cons (pe_op op_add (pv 3) pe_int) pa_nil)) (pg_name (i := 8) sc_law.nd rfl (Or.inl rfl)) 
          (pss_cons (ps_if (pt_not (pt_val (pe_call (ok_L_read_back T) (hr.mono (by decide : 3 ≤ _)) (by rfl) T.g__law_read_back T.F__law_read_back.kp T.b__law_read_back .nil pass0 (pa_cons (pv 7) (pa_cons (pv 3) (pa_cons (pv 4) pa_nil)))))) 
            (pss_one (ps_ret pe_bl)) pss_nil)
          (pss_one (ps_if (PW.pt (pw_and (pt_cmpR op_lt (pv 8) (pv 3) (nomark _)) (pw_and1 (pt_cmpR op_eq (pe_ix ix_str (pv 7) (pe_op op_sub (pe_callB call_len_str (by rfl) T.n_len PySem.boot_len (pa_cons (pv 7) pa_nil)) pe_int) (fun _ _ => rfl)) pe_str (nomark _))))) 
            (pss_cons (ps_set (i := 7) sc_law.nd rfl (Or.inl rfl) (pe_slice sl_str (pv 7) po_none (po_some (pe_op op_sub (pe_callB call_len_str (by rfl) T.n_len PySem.boot_len (pa_cons (pv 7) pa_nil)) pe_int))))
            (pss_one (ps_if (pt_cmpR op_eq (pe_ix ix_str (pv 7) (pe_op op_sub (pe_callB call_len_str (by rfl) T.n_len PySem.boot_len (pa_cons (pv 7) pa_nil)) pe_int) (fun _ _ => rfl)) pe_str (nomark _)) 
              (pss_one (ps_set (i := 7) sc_law.nd rfl (Or.inl rfl) (pe_slice sl_str (pv 7) po_none (po_some (pe_op op_sub (pe_callB call_len_str (by rfl) T.n_len PySem.boot_len (pa_cons (pv 7) pa_nil)) pe_int))))) pss_nil))) pss_nil))))
        (pss_cons (ps_set (i := 9) sc_law.nd rfl (Or.inl rfl) (pe_op op_add (pe_op op_add (pe_op op_pow pe_int pe_int) pe_int) (pe_op op_mod (pe_ix ix_list (pv 2) pe_int (fun _ _ => rfl)) (pe_op op_pow pe_int pe_int))))
        (pss_cons (ps_for PassesOwn.never rfl (pi_list (pe_lst (pa_cons (pe_op op_add (pe_op op_pow pe_int pe_int) pe_int) (pa_cons (pv 9) pa_nil)))) (pg_name (i := 5) sc_law.nd rfl (Or.inl rfl)) 
          (pss_one (ps_for PassesOwn.never rfl (pi_list (pe_lst (pa_cons (pv 5) (pa_cons (pe_op op_sub pe_int (pv 5)) pa_nil)))) (pg_name (i := 10) sc_law.nd rfl (Or.inl rfl)) 
            (pss_one (ps_if (pt_cmpR (op_neD hr.units) (pe_call (ok_L_refusals T) (hr.mono (by decide : 3 ≤ _)) (by rfl) T.g__law_refusals T.F__law_refusals.kp T.b__law_refusals .nil pass0 (pa_cons (pv 10) (pa_cons (pe_call (ok_L_text T) (hr.mono (by decide : 1 ≤ _)) (by rfl) T.g__law_text T.F__law_text.kp T.b__law_text .nil pass0 (pa_cons (pv 10) (pa_cons (pv 3) pa_nil))) (pa_cons (pv 3) pa_nil)))) (pe_lst (pa_cons (pe_lst (pa_cons pe_str pa_nil)) (pa_cons (pe_lst (pa_cons pe_str pa_nil)) pa_nil))) (nomark _)) 
              (pss_one (ps_ret pe_bl)) pss_nil)))))
        (pss_one (ps_for PassesOwn.never rfl (pi_list (pe_lst (pa_cons (pe_un un_neg pe_int) (pa_cons pe_int (pa_cons (pe_op op_sub (pe_op op_sub pe_int pe_int) (pe_op op_mod (pe_ix ix_list (pv 2) pe_int (fun _ _ => rfl)) pe_int)) (pa_cons (pe_op op_add pe_int (pe_op op_mod (pe_ix ix_list (pv 2) pe_int (fun _ _ => rfl)) pe_int)) pa_nil)))))) (pg_name (i := 11) sc_law.nd rfl (Or.inl rfl)) 
          (pss_one (ps_if (pt_cmpR (op_neD hr.units) (pe_call (ok_L_refusals T) (hr.mono (by decide : 3 ≤ _)) (by rfl) T.g__law_refusals T.F__law_refusals.kp T.b__law_refusals .nil pass0 (pa_cons (pv 4) (pa_cons pe_str (pa_cons (pv 11) pa_nil)))) (pe_lst (pa_cons (pe_lst (pa_cons pe_str pa_nil)) (pa_cons (pe_lst (pa_cons pe_str pa_nil)) pa_nil))) (nomark _)) 
            (pss_one (ps_ret pe_bl)) pss_nil)))))))))))))))
      (pss_one (ps_ret pe_bl)))), ?_⟩
  obtain ⟨a, ns, rfl, hS, hl, hb, hq⟩ := h
  walk_at "st"
  subst_vars
  refine Kv.seq_step fun U hU => ?_
  refine Kv.tfor_cells (H0 := H) rfl hS hl fun b H1 s1 hb1 => ?_
  refine Kv.for_cells hb1 (by decide) hb (invLaw a H1) ⟨⟨_, _, _, _, _, _, _, _, _, _, _, rfl⟩, Same.refl _⟩ ?_ ?_ ?_
  · rintro σ' H' ⟨_, hs⟩
    exact hs
  · rintro z σ' H' bz ⟨⟨_, _, _, _, _, _, _, _, _, _, _, rfl⟩, hs⟩
    walk_at "st"
    refine ⟨z, 6, rfl, bz, by decide, by decide, fun ms nl H2 ml mr s2 f2 hn2 => ?_⟩
    have hN : SqL K H2 nl (ms.map V.int) := SqL.of hn2
    have hs2 := hs.trans s2
    clear hs s2 f2
    walk_at "nx"
    refine Kv.ix_num hN (by omega) ?_
    walk_at "rd"
    obtain ⟨d, hdg⟩ := Int.eq_ofNat_of_zero_le (Int.emod_nonneg (ms.getD 0 0) (show (4 : Int) ≠ 0 by decide))
    have d3 := Int.emod_lt_of_pos (ms.getD 0 0) (show (0 : Int) < 4 by decide)
    rw [hdg] at d3 ⊢
    have d3 : d ≤ 3 := by omega
    walk_at "nx"
    refine ⟨nl, ms, rfl, hN, by omega, mr, fun am a0 a1 => ?_⟩
    walk_at "nx"
    intro pl hpl
    have sp := Kv.same_upd (o := .lst [V.int 0, V.int 1, V.int 1000000000, V.int 1000000001, V.int am, V.int ((if am < 0 then -am else am) / 2000)]) hpl
    have epl := upd_same (H := H2) (a := pl) (o := .lst [V.int 0, V.int 1, V.int 1000000000, V.int 1000000001, V.int am, V.int ((if am < 0 then -am else am) / 2000)])
    have its : ∀ x ∈ [V.int 0, V.int 1, V.int 1000000000, V.int 1000000001, V.int am, V.int ((if am < 0 then -am else am) / 2000)], ∃ n, x = V.int n := by
      intro x hx
      simp only [List.mem_cons, List.not_mem_nil, or_false] at hx
      rcases hx with rfl | rfl | rfl | rfl | rfl | rfl <;> exact ⟨_, rfl⟩
    generalize [V.int 0, V.int 1, V.int 1000000000, V.int 1000000001, V.int am, V.int ((if am < 0 then -am else am) / 2000)] = xs at *
    clear hpl
    have hs3 := hs2.trans sp
    have hN3 := sp.seq hN
    generalize upd H2 pl (HO.lst xs) = H3 at *
    refine ⟨⟨_, SqL.of epl⟩, Kv.for_lst xs (invS a z nl d am H3) ⟨_, _, _, _, _, _, _, rfl, rfl⟩ ?_ ?_ ?_⟩
    · rintro i σ' H' ⟨_, _, _, _, _, _, _, rfl, rfl⟩
      exact SqL.of epl
    · rintro i x σ' H' hx ⟨_, _, _, _, _, _, _, rfl, rfl⟩
      obtain ⟨n, rfl⟩ := its x (List.mem_of_getElem? hx)
      walk_at "st"
      refine ⟨n, rfl, ?_⟩
      walk_at "nx"
      refine Kv.isi_bl (b := true) (by decide +kernel) ?_
      walk_at "rd"
      split
      · rename_i c
        rw [if_neg (fun z => z (decide_eq_decide.mpr ⟨fun z => z.2, fun z => ⟨c, z⟩⟩))]
        exact ⟨_, _, _, _, _, _, _, rfl, rfl⟩
      · rename_i c
        rw [if_neg (fun z => z (fun y => c y.1))]
        exact ⟨_, _, _, _, _, _, _, rfl, rfl⟩
    rintro σ' H' ⟨_, _, _, _, _, _, _, rfl, rfl⟩
    have hA : am.natAbs ≤ 1000000000000 := by omega
    walk_at "nx"
    refine ⟨am, d, rfl, d3, by omega, ?_⟩
    walk_at "nx"
    refine ⟨am, d, rfl, fun _ _ _ _ H4 s4 => ?_, fun c => absurd ⟨by omega, by omega, by omega, by omega⟩ c⟩
    rw [Int.toNat_natCast]
    walk_at "nx"
    refine Kv.isi_str (b := true) (by decide +kernel) ?_
    walk_at "rd"
    walk_at "nx"
    rw [pt_full]
    have hs4 := hs3.trans s4
    have hN4 := s4.seq hN3
    refine ⟨by omega, by omega, Kv.for_rng0 (invK a z nl d am H4) ⟨d, am.natAbs, _, _, _, _, _, _, rfl, Same.refl _, Nat.le_refl _, by omega, siz_full _ _⟩ ?_ ?_⟩
    · rintro i σ' H' hi ⟨j, m, _, _, _, _, _, _, rfl, sx, hj, hji, hsz⟩
      walk_at "st"
      refine ⟨am, decide (am < 0), am.natAbs / 10 ^ d, j, m, d, rfl, d3, hj, by omega, fun c => by have := of_decide_eq_true c; omega, by rw [hsz]; by_cases c : am < 0 <;> simp [c] <;> omega, fun H5 s5 => ?_⟩
      have sy := sx.trans s5
      walk_at "nx"
      split
      · rename_i c
        obtain ⟨j, rfl⟩ : ∃ j', j = j' + 1 := ⟨j - 1, by omega⟩
        have lw : (TL.numL (am.natAbs / 10 ^ d)).length ≤ 13 := TL.numL_len (by decide) (Nat.lt_of_le_of_lt (Nat.div_le_self _ _) (Nat.lt_of_le_of_lt hA (by decide)))
        have lh := hd_len (decide (am < 0)) lw
        have lA : (hd (decide (am < 0)) (am.natAbs / 10 ^ d) ++ (46 :: fix j (m / 10))).length ≤ 30 := by
          rw [List.length_append, List.length_cons, fix_len]
          omega
        have back := pt_snoc (decide (am < 0)) (am.natAbs / 10 ^ d) j m
        rw [back]
        refine ⟨sz_lst lA, ix_lst lA ?_⟩
        walk_at "rd"
        split
        · rename_i c0
          have h0 : m % 10 = 0 := by
            have := (List.cons.inj (SX.S_inj (b := [48]) c0)).1
            omega
          have hsz2 := (siz_less (w := am.natAbs / 10 ^ d) (j := j) (m := m) (d := d) hj h0).trans hsz
          refine ⟨sz_lst lA, cut_lst lA ?_⟩
          rcases j with _ | j
          · have e : hd (decide (am < 0)) (am.natAbs / 10 ^ d) ++ (46 :: fix 0 (m / 10)) = hd (decide (am < 0)) (am.natAbs / 10 ^ d) ++ [46] := rfl
            rw [e]
            have lB : (hd (decide (am < 0)) (am.natAbs / 10 ^ d)).length ≤ 30 := by omega
            refine ⟨_, rfl, sz_lst lB, ix_lst lB ⟨rfl, ?_⟩⟩
            rw [if_pos (show V.str (SX.S [46]) = V.str (Str.ofString ".") from rfl)]
            refine ⟨_, rfl, sz_lst lB, cut_lst lB ?_⟩
            rw [← pt_zero (decide (am < 0)) (am.natAbs / 10 ^ d) (m / 10)]
            exact ⟨0, m / 10, _, _, _, _, _, _, rfl, sy, by omega, by omega, hsz2⟩
          · have lB : (hd (decide (am < 0)) (am.natAbs / 10 ^ d) ++ (46 :: fix j (m / 10 / 10))).length ≤ 30 := by
              rw [List.length_append, List.length_cons, fix_len]
              omega
            have back2 := pt_snoc (decide (am < 0)) (am.natAbs / 10 ^ d) j (m / 10)
            rw [← pt_succ, back2]
            refine ⟨_, rfl, sz_lst lB, ix_lst lB ⟨rfl, ?_⟩⟩
            rw [if_neg (fun z => by have := (List.cons.inj (SX.S_inj (b := [46]) (V.str.inj z))).1; omega), ← back2]
            exact ⟨j + 1, m / 10, _, _, _, _, _, _, rfl, sy, by omega, by omega, hsz2⟩
        · rw [← back]
          exact ⟨j + 1, m, _, _, _, _, _, _, rfl, sy, hj, by omega, hsz⟩
      · exact ⟨j, m, _, _, _, _, _, _, rfl, sy, hj, by omega, hsz⟩
    rintro σ' H5 ⟨j, m, _, _, _, _, _, _, rfl, sx, hj, hji, hsz⟩
    have hs5 := hs4.trans sx
    have hN5 := sx.seq hN4
    walk_at "nx"
    refine Kv.ix_num hN5 (by omega) ?_
    walk_at "rd"
    have q0 := Int.emod_nonneg (ms.getD 4 0) (show (1000000000 : Int) ≠ 0 by decide)
    have q1 := Int.emod_lt_of_pos (ms.getD 4 0) (show (0 : Int) < 1000000000 by decide)
    generalize SX.S (pt (decide (am < 0)) (am.natAbs / 10 ^ d) j m) = tx
    walk_at "nx"
    intro pl hpl
    have sp := Kv.same_upd (o := .lst [V.int 1000000000001, V.int (1000000000001 + ms.getD 4 0 % 1000000000)]) hpl
    have epl := upd_same (H := H5) (a := pl) (o := .lst [V.int 1000000000001, V.int (1000000000001 + ms.getD 4 0 % 1000000000)])
    have its : ∀ x ∈ [V.int 1000000000001, V.int (1000000000001 + ms.getD 4 0 % 1000000000)], ∃ n, x = V.int n ∧ 1000000000000 < n ∧ n < 2000000000000 := by
      intro x hx
      simp only [List.mem_cons, List.not_mem_nil, or_false] at hx
      rcases hx with rfl | rfl <;> exact ⟨_, rfl, by omega, by omega⟩
    generalize [V.int 1000000000001, V.int (1000000000001 + ms.getD 4 0 % 1000000000)] = xs at *
    clear hpl
    have hs6 := hs5.trans sp
    have hN6 := sp.seq hN5
    generalize upd H5 pl (HO.lst xs) = H6 at *
    refine ⟨⟨_, SqL.of epl⟩, Kv.for_lst xs (invO a z nl d am tx H6) ⟨_, _, _, _, _, _, rfl, Same.refl _⟩ ?_ ?_ ?_⟩
    · rintro i σ' H' ⟨_, _, _, _, _, _, rfl, sx⟩
      exact SqL.of (sx _ _ epl)
    · rintro i x σ' H' hx ⟨_, _, _, _, _, _, rfl, sx⟩
      obtain ⟨n, rfl, n0, n1⟩ := its x (List.mem_of_getElem? hx)
      walk_at "rd"
      intro p2 hp2
      have sy := sx.trans (Kv.same_upd (o := .lst [V.int n, V.int (0 - n)]) hp2)
      have ep2 := upd_same (H := H') (a := p2) (o := .lst [V.int n, V.int (0 - n)])
      generalize upd H' p2 (HO.lst [V.int n, V.int (0 - n)]) = H7 at *
      refine ⟨⟨_, SqL.of ep2⟩, Kv.for_lst [V.int n, V.int (0 - n)] (invO a z nl d am tx H7) ⟨_, _, _, _, _, _, rfl, Same.refl _⟩ ?_ ?_ ?_⟩
      · rintro i σ' H' ⟨_, _, _, _, _, _, rfl, sx⟩
        exact SqL.of (sx _ _ ep2)
      · rintro i x σ' H8 hx ⟨_, _, _, _, _, _, rfl, sz⟩
        obtain ⟨o, rfl, o0, o1⟩ : ∃ o, x = V.int o ∧ 1000000000000 < o.natAbs ∧ o.natAbs < 2000000000000 := by
          have hx := List.mem_of_getElem? hx
          simp only [List.mem_cons, List.not_mem_nil, or_false] at hx
          rcases hx with rfl | rfl <;> exact ⟨_, rfl, by omega, by omega⟩
        walk_at "rd"
        refine ⟨o, d, rfl, d3, by omega, ?_⟩
        rw [pt_full]
        have sf := siz_full o.natAbs d
        refine ⟨o, decide (o < 0), o.natAbs / 10 ^ d, d, o.natAbs, d, rfl, by rw [Int.toNat_natCast]; omega, fun _ => by rw [Int.toNat_natCast]; omega, by omega, fun _ _ => by rw [Int.toNat_natCast]; exact ⟨Nat.le_refl _, by omega⟩, fun p q1 q2 H9 s9 ep eq1 eq2 => ?_⟩
        intro r1 hr1 r2 hr2 r hr
        exact ne_bad ep eq1 eq2 hr1 hr2 hr (by
          walk_at "rd"
          exact ⟨_, _, _, _, _, _, rfl, sz.trans (s9.trans ((Kv.same_upd hr1).trans ((Kv.same_upd hr2).trans (Kv.same_upd hr))))⟩)
      · rintro σ' H8 ⟨_, _, _, _, _, _, rfl, sz⟩
        walk_at "rd"
        exact ⟨_, _, _, _, _, _, rfl, sy.trans sz⟩
    rintro σ' H7 ⟨_, _, _, _, _, _, rfl, sx⟩
    have hs7 := hs6.trans sx
    have hN7 := sx.seq hN6
    clear its epl sp
    walk_at "nx"
    refine Kv.ix_num hN7 (by omega) ?_
    walk_at "rd"
    refine Kv.ix_num hN7 (by omega) ?_
    walk_at "rd"
    have w0 := Int.emod_nonneg (ms.getD 5 0) (show (1000 : Int) ≠ 0 by decide)
    intro pl hpl
    have sp := Kv.same_upd (o := .lst [V.int (-1), V.int 4, V.int (-1 - ms.getD 5 0 % 1000), V.int (4 + ms.getD 5 0 % 1000)]) hpl
    have epl := upd_same (H := H7) (a := pl) (o := .lst [V.int (-1), V.int 4, V.int (-1 - ms.getD 5 0 % 1000), V.int (4 + ms.getD 5 0 % 1000)])
    have its : ∀ x ∈ [V.int (-1), V.int 4, V.int (-1 - ms.getD 5 0 % 1000), V.int (4 + ms.getD 5 0 % 1000)], ∃ n, x = V.int n ∧ ¬(0 ≤ n ∧ n ≤ 3) := by
      intro x hx
      simp only [List.mem_cons, List.not_mem_nil, or_false] at hx
      rcases hx with rfl | rfl | rfl | rfl <;> exact ⟨_, rfl, by omega⟩
    generalize [V.int (-1), V.int 4, V.int (-1 - ms.getD 5 0 % 1000), V.int (4 + ms.getD 5 0 % 1000)] = xs at *
    clear hpl
    generalize upd H7 pl (HO.lst xs) = H8 at *
    have e0 : Str.ofString "0" = SX.S (pt false 0 0 0) := rfl
    refine ⟨⟨_, SqL.of epl⟩, Kv.for_lst xs (invO a z nl d am tx H8) ⟨_, _, _, _, _, _, rfl, Same.refl _⟩ ?_ ?_ ?_⟩
    · rintro i σ' H' ⟨_, _, _, _, _, _, rfl, sx⟩
      exact SqL.of (sx _ _ epl)
    · rintro i x σ' H' hx ⟨_, _, _, _, _, _, rfl, sz⟩
      obtain ⟨n, rfl, nn⟩ := its x (List.mem_of_getElem? hx)
      walk_at "rd"
      refine ⟨am, false, 0, 0, 0, n, (by rw [e0]), (by simp [siz]), fun c => (by cases c), fun c => nn ⟨c.1, c.2.1⟩, fun c1 c2 => absurd ⟨c1, c2⟩ nn, fun p q1 q2 H9 s9 ep eq1 eq2 => ?_⟩
      intro r1 hr1 r2 hr2 r hr
      exact ne_bad ep eq1 eq2 hr1 hr2 hr (by
        walk_at "rd"
        exact ⟨_, _, _, _, _, _, rfl, sz.trans (s9.trans ((Kv.same_upd hr1).trans ((Kv.same_upd hr2).trans (Kv.same_upd hr))))⟩)
    rintro σ' H9 ⟨_, _, _, _, _, _, rfl, sx⟩
    exact ⟨⟨_, _, _, _, _, _, _, _, _, _, _, rfl⟩, hs7.trans (sp.trans sx)⟩
  · rintro σ' H' ⟨⟨_, _, _, _, _, _, _, _, _, _, _, rfl⟩, hs⟩
    walk_at "nx"
    exact hq _
end
theorem txt_mk {K : PySem.W.Frag} {mg : Str → Option Value} {h : Heap} (X : K.In h) (G : h.Ns mainGlobals mg)
    {C_BadValue : Addr}
    {C_BadDay : Addr}
    {C_Missing : Addr}
    {C_Refused : Addr}
    {C_Full : Addr}
    {C_NotAllowed : Addr}
    {C_Damaged : Addr}
    {C_BankError : Addr}
    {f_is_amount : Addr} {od_is_amount an_is_amount : Option Addr} {sl_is_amount : Array (Option Value)} {oc_is_amount kV_is_amount dc_is_amount pm_is_amount cd_is_amount ct_is_amount : Value}
    {f_check_digits : Addr} {od_check_digits an_check_digits : Option Addr} {sl_check_digits : Array (Option Value)} {oc_check_digits kV_check_digits dc_check_digits pm_check_digits cd_check_digits ct_check_digits : Value}
    {f_format_amount : Addr} {od_format_amount an_format_amount : Option Addr} {sl_format_amount : Array (Option Value)} {oc_format_amount kV_format_amount dc_format_amount pm_format_amount cd_format_amount ct_format_amount : Value}
    {f_is_whole_part : Addr} {od_is_whole_part an_is_whole_part : Option Addr} {sl_is_whole_part : Array (Option Value)} {oc_is_whole_part kV_is_whole_part dc_is_whole_part pm_is_whole_part cd_is_whole_part ct_is_whole_part : Value}
    {f_is_decimal_part : Addr} {od_is_decimal_part an_is_decimal_part : Option Addr} {sl_is_decimal_part : Array (Option Value)} {oc_is_decimal_part kV_is_decimal_part dc_is_decimal_part pm_is_decimal_part cd_is_decimal_part ct_is_decimal_part : Value}
    {f_parse_amount : Addr} {od_parse_amount an_parse_amount : Option Addr} {sl_parse_amount : Array (Option Value)} {oc_parse_amount kV_parse_amount dc_parse_amount pm_parse_amount cd_parse_amount ct_parse_amount : Value}
    {f__law_numbers : Addr} {od__law_numbers an__law_numbers : Option Addr} {sl__law_numbers : Array (Option Value)} {oc__law_numbers kV__law_numbers dc__law_numbers pm__law_numbers cd__law_numbers ct__law_numbers : Value}
    {f__law_kinds : Addr} {od__law_kinds an__law_kinds : Option Addr} {sl__law_kinds : Array (Option Value)} {oc__law_kinds kV__law_kinds dc__law_kinds pm__law_kinds cd__law_kinds ct__law_kinds : Value}
    {f__law_is_integer : Addr} {od__law_is_integer an__law_is_integer : Option Addr} {sl__law_is_integer : Array (Option Value)} {oc__law_is_integer kV__law_is_integer dc__law_is_integer pm__law_is_integer cd__law_is_integer ct__law_is_integer : Value}
    {f__law_refusals : Addr} {od__law_refusals an__law_refusals : Option Addr} {sl__law_refusals : Array (Option Value)} {oc__law_refusals kV__law_refusals dc__law_refusals pm__law_refusals cd__law_refusals ct__law_refusals : Value}
    {f__law_amount : Addr} {od__law_amount an__law_amount : Option Addr} {sl__law_amount : Array (Option Value)} {oc__law_amount kV__law_amount dc__law_amount pm__law_amount cd__law_amount ct__law_amount : Value}
    {f__law_text : Addr} {od__law_text an__law_text : Option Addr} {sl__law_text : Array (Option Value)} {oc__law_text kV__law_text dc__law_text pm__law_text cd__law_text ct__law_text : Value}
    {f__law_read_back : Addr} {od__law_read_back an__law_read_back : Option Addr} {sl__law_read_back : Array (Option Value)} {oc__law_read_back kV__law_read_back dc__law_read_back pm__law_read_back cd__law_read_back ct__law_read_back : Value}
    {f_law : Addr} {od_law an_law : Option Addr} {sl_law : Array (Option Value)} {oc_law kV_law dc_law pm_law cd_law ct_law : Value}
    {w_LIMIT : Value}
    {w_GREAT : Value}
    {w_MOST_DIGITS : Value}
    {t_UNITS : Addr} {td_UNITS : Option Addr} {ti_UNITS : Array Value} {tn_UNITS : Nat} {ts_UNITS : Array (Option Value)}
    {w_LONGEST_TEXT : Value}
    (e_BadValue : PySem.W.nsIn K mainGlobals "BadValue" = some (some (.ref C_BadValue)))
    (e_BadDay : PySem.W.nsIn K mainGlobals "BadDay" = some (some (.ref C_BadDay)))
    (e_Missing : PySem.W.nsIn K mainGlobals "Missing" = some (some (.ref C_Missing)))
    (e_Refused : PySem.W.nsIn K mainGlobals "Refused" = some (some (.ref C_Refused)))
    (e_Full : PySem.W.nsIn K mainGlobals "Full" = some (some (.ref C_Full)))
    (e_NotAllowed : PySem.W.nsIn K mainGlobals "NotAllowed" = some (some (.ref C_NotAllowed)))
    (e_Damaged : PySem.W.nsIn K mainGlobals "Damaged" = some (some (.ref C_Damaged)))
    (e_BankError : PySem.W.nsIn K mainGlobals "BankError" = some (some (.ref C_BankError)))
    (eAll : Kv.errAll K (fun e => match e with | .badValue => C_BadValue | .badDay => C_BadDay | .missing => C_Missing | .refused => C_Refused | .full => C_Full | .notAllowed => C_NotAllowed | .damaged => C_Damaged) C_BankError = true)
    (a_is_amount : PySem.W.nsIn K mainGlobals "is_amount" = some (some (.ref f_is_amount)))
    (l_is_amount : K.lookup f_is_amount = some ⟨oc_is_amount, od_is_amount, .func (PySem.W.fnOf "is_amount" "is_amount" (defArgs s_is_amount) (defBody s_is_amount) (defScope s_is_amount) .none kV_is_amount dc_is_amount pm_is_amount an_is_amount cd_is_amount ct_is_amount), sl_is_amount⟩)
    (c_is_amount : PySem.W.codeIn K cd_is_amount "is_amount" = true)
    (k_is_amount : PySem.W.keepIn K (.ref f_is_amount) = true)
    (a_check_digits : PySem.W.nsIn K mainGlobals "check_digits" = some (some (.ref f_check_digits)))
    (l_check_digits : K.lookup f_check_digits = some ⟨oc_check_digits, od_check_digits, .func (PySem.W.fnOf "check_digits" "check_digits" (defArgs s_check_digits) (defBody s_check_digits) (defScope s_check_digits) .none kV_check_digits dc_check_digits pm_check_digits an_check_digits cd_check_digits ct_check_digits), sl_check_digits⟩)
    (c_check_digits : PySem.W.codeIn K cd_check_digits "check_digits" = true)
    (k_check_digits : PySem.W.keepIn K (.ref f_check_digits) = true)
    (a_format_amount : PySem.W.nsIn K mainGlobals "format_amount" = some (some (.ref f_format_amount)))
    (l_format_amount : K.lookup f_format_amount = some ⟨oc_format_amount, od_format_amount, .func (PySem.W.fnOf "format_amount" "format_amount" (defArgs s_format_amount) (defBody s_format_amount) (defScope s_format_amount) .none kV_format_amount dc_format_amount pm_format_amount an_format_amount cd_format_amount ct_format_amount), sl_format_amount⟩)
    (c_format_amount : PySem.W.codeIn K cd_format_amount "format_amount" = true)
    (k_format_amount : PySem.W.keepIn K (.ref f_format_amount) = true)
    (a_is_whole_part : PySem.W.nsIn K mainGlobals "is_whole_part" = some (some (.ref f_is_whole_part)))
    (l_is_whole_part : K.lookup f_is_whole_part = some ⟨oc_is_whole_part, od_is_whole_part, .func (PySem.W.fnOf "is_whole_part" "is_whole_part" (defArgs s_is_whole_part) (defBody s_is_whole_part) (defScope s_is_whole_part) .none kV_is_whole_part dc_is_whole_part pm_is_whole_part an_is_whole_part cd_is_whole_part ct_is_whole_part), sl_is_whole_part⟩)
    (c_is_whole_part : PySem.W.codeIn K cd_is_whole_part "is_whole_part" = true)
    (k_is_whole_part : PySem.W.keepIn K (.ref f_is_whole_part) = true)
    (a_is_decimal_part : PySem.W.nsIn K mainGlobals "is_decimal_part" = some (some (.ref f_is_decimal_part)))
    (l_is_decimal_part : K.lookup f_is_decimal_part = some ⟨oc_is_decimal_part, od_is_decimal_part, .func (PySem.W.fnOf "is_decimal_part" "is_decimal_part" (defArgs s_is_decimal_part) (defBody s_is_decimal_part) (defScope s_is_decimal_part) .none kV_is_decimal_part dc_is_decimal_part pm_is_decimal_part an_is_decimal_part cd_is_decimal_part ct_is_decimal_part), sl_is_decimal_part⟩)
    (c_is_decimal_part : PySem.W.codeIn K cd_is_decimal_part "is_decimal_part" = true)
    (k_is_decimal_part : PySem.W.keepIn K (.ref f_is_decimal_part) = true)
    (a_parse_amount : PySem.W.nsIn K mainGlobals "parse_amount" = some (some (.ref f_parse_amount)))
    (l_parse_amount : K.lookup f_parse_amount = some ⟨oc_parse_amount, od_parse_amount, .func (PySem.W.fnOf "parse_amount" "parse_amount" (defArgs s_parse_amount) (defBody s_parse_amount) (defScope s_parse_amount) .none kV_parse_amount dc_parse_amount pm_parse_amount an_parse_amount cd_parse_amount ct_parse_amount), sl_parse_amount⟩)
    (c_parse_amount : PySem.W.codeIn K cd_parse_amount "parse_amount" = true)
    (k_parse_amount : PySem.W.keepIn K (.ref f_parse_amount) = true)
    (a__law_numbers : PySem.W.nsIn K mainGlobals "_law_numbers" = some (some (.ref f__law_numbers)))
    (l__law_numbers : K.lookup f__law_numbers = some ⟨oc__law_numbers, od__law_numbers, .func (PySem.W.fnOf "_law_numbers" "_law_numbers" (defArgs s_L_numbers) (defBody s_L_numbers) (defScope s_L_numbers) .none kV__law_numbers dc__law_numbers pm__law_numbers an__law_numbers cd__law_numbers ct__law_numbers), sl__law_numbers⟩)
    (c__law_numbers : PySem.W.codeIn K cd__law_numbers "_law_numbers" = true)
    (k__law_numbers : PySem.W.keepIn K (.ref f__law_numbers) = true)
    (a__law_kinds : PySem.W.nsIn K mainGlobals "_law_kinds" = some (some (.ref f__law_kinds)))
    (l__law_kinds : K.lookup f__law_kinds = some ⟨oc__law_kinds, od__law_kinds, .func (PySem.W.fnOf "_law_kinds" "_law_kinds" (defArgs s_L_kinds) (defBody s_L_kinds) (defScope s_L_kinds) .none kV__law_kinds dc__law_kinds pm__law_kinds an__law_kinds cd__law_kinds ct__law_kinds), sl__law_kinds⟩)
    (c__law_kinds : PySem.W.codeIn K cd__law_kinds "_law_kinds" = true)
    (k__law_kinds : PySem.W.keepIn K (.ref f__law_kinds) = true)
    (a__law_is_integer : PySem.W.nsIn K mainGlobals "_law_is_integer" = some (some (.ref f__law_is_integer)))
    (l__law_is_integer : K.lookup f__law_is_integer = some ⟨oc__law_is_integer, od__law_is_integer, .func (PySem.W.fnOf "_law_is_integer" "_law_is_integer" (defArgs s_L_is_integer) (defBody s_L_is_integer) (defScope s_L_is_integer) .none kV__law_is_integer dc__law_is_integer pm__law_is_integer an__law_is_integer cd__law_is_integer ct__law_is_integer), sl__law_is_integer⟩)
    (c__law_is_integer : PySem.W.codeIn K cd__law_is_integer "_law_is_integer" = true)
    (k__law_is_integer : PySem.W.keepIn K (.ref f__law_is_integer) = true)
    (a__law_refusals : PySem.W.nsIn K mainGlobals "_law_refusals" = some (some (.ref f__law_refusals)))
    (l__law_refusals : K.lookup f__law_refusals = some ⟨oc__law_refusals, od__law_refusals, .func (PySem.W.fnOf "_law_refusals" "_law_refusals" (defArgs s_L_refusals) (defBody s_L_refusals) (defScope s_L_refusals) .none kV__law_refusals dc__law_refusals pm__law_refusals an__law_refusals cd__law_refusals ct__law_refusals), sl__law_refusals⟩)
    (c__law_refusals : PySem.W.codeIn K cd__law_refusals "_law_refusals" = true)
    (k__law_refusals : PySem.W.keepIn K (.ref f__law_refusals) = true)
    (a__law_amount : PySem.W.nsIn K mainGlobals "_law_amount" = some (some (.ref f__law_amount)))
    (l__law_amount : K.lookup f__law_amount = some ⟨oc__law_amount, od__law_amount, .func (PySem.W.fnOf "_law_amount" "_law_amount" (defArgs s_L_amount) (defBody s_L_amount) (defScope s_L_amount) .none kV__law_amount dc__law_amount pm__law_amount an__law_amount cd__law_amount ct__law_amount), sl__law_amount⟩)
    (c__law_amount : PySem.W.codeIn K cd__law_amount "_law_amount" = true)
    (k__law_amount : PySem.W.keepIn K (.ref f__law_amount) = true)
    (a__law_text : PySem.W.nsIn K mainGlobals "_law_text" = some (some (.ref f__law_text)))
    (l__law_text : K.lookup f__law_text = some ⟨oc__law_text, od__law_text, .func (PySem.W.fnOf "_law_text" "_law_text" (defArgs s_L_text) (defBody s_L_text) (defScope s_L_text) .none kV__law_text dc__law_text pm__law_text an__law_text cd__law_text ct__law_text), sl__law_text⟩)
    (c__law_text : PySem.W.codeIn K cd__law_text "_law_text" = true)
    (k__law_text : PySem.W.keepIn K (.ref f__law_text) = true)
    (a__law_read_back : PySem.W.nsIn K mainGlobals "_law_read_back" = some (some (.ref f__law_read_back)))
    (l__law_read_back : K.lookup f__law_read_back = some ⟨oc__law_read_back, od__law_read_back, .func (PySem.W.fnOf "_law_read_back" "_law_read_back" (defArgs s_L_read_back) (defBody s_L_read_back) (defScope s_L_read_back) .none kV__law_read_back dc__law_read_back pm__law_read_back an__law_read_back cd__law_read_back ct__law_read_back), sl__law_read_back⟩)
    (c__law_read_back : PySem.W.codeIn K cd__law_read_back "_law_read_back" = true)
    (k__law_read_back : PySem.W.keepIn K (.ref f__law_read_back) = true)
    (a_law : PySem.W.nsIn K mainGlobals "law" = some (some (.ref f_law)))
    (l_law : K.lookup f_law = some ⟨oc_law, od_law, .func (PySem.W.fnOf "law" "law" (defArgs s_law) (defBody s_law) (defScope s_law) .none kV_law dc_law pm_law an_law cd_law ct_law), sl_law⟩)
    (c_law : PySem.W.codeIn K cd_law "law" = true)
    (k_law : PySem.W.keepIn K (.ref f_law) = true)
    (v_LIMIT : PySem.W.nsIn K mainGlobals "LIMIT" = some (some w_LIMIT))
    (vr_LIMIT : RelV (.int (1000000000)) w_LIMIT)
    (v_GREAT : PySem.W.nsIn K mainGlobals "GREAT" = some (some w_GREAT))
    (vr_GREAT : RelV (.int (1000000000000)) w_GREAT)
    (v_MOST_DIGITS : PySem.W.nsIn K mainGlobals "MOST_DIGITS" = some (some w_MOST_DIGITS))
    (vr_MOST_DIGITS : RelV (.int (3)) w_MOST_DIGITS)
    (v_UNITS : PySem.W.nsIn K mainGlobals "UNITS" = some (some (.ref t_UNITS)))
    (vl_UNITS : K.lookup t_UNITS = some ⟨.type "tuple", td_UNITS, .seq ti_UNITS tn_UNITS, ts_UNITS⟩)
    (vz_UNITS : ti_UNITS.size ≤ sizeLine)
    (vr_UNITS : Vals ([.int (1), .int (10), .int (100), .int (1000)] : List V) ti_UNITS.toList)
    (v_LONGEST_TEXT : PySem.W.nsIn K mainGlobals "LONGEST_TEXT" = some (some w_LONGEST_TEXT))
    (vr_LONGEST_TEXT : RelV (.int (18)) w_LONGEST_TEXT)
    (n_abs : PySem.W.nsIn K mainGlobals "abs" = some none)
    (n_bool : PySem.W.nsIn K mainGlobals "bool" = some none)
    (n_divmod : PySem.W.nsIn K mainGlobals "divmod" = some none)
    (n_int : PySem.W.nsIn K mainGlobals "int" = some none)
    (n_isinstance : PySem.W.nsIn K mainGlobals "isinstance" = some none)
    (n_len : PySem.W.nsIn K mainGlobals "len" = some none)
    (n_range : PySem.W.nsIn K mainGlobals "range" = some none)
    (n_str : PySem.W.nsIn K mainGlobals "str" = some none) :
    ∃ T : Txt K mg, T.d_law = PySem.W.fnOf "law" "law" (defArgs s_law) (defBody s_law) (defScope s_law) .none kV_law dc_law pm_law an_law cd_law ct_law :=
  ⟨{ exa := fun e => match e with | .badValue => C_BadValue | .badDay => C_BadDay | .missing => C_Missing | .refused => C_Refused | .full => C_Full | .notAllowed => C_NotAllowed | .damaged => C_Damaged,
       exg := fun e => by cases e <;> first | exact PySem.W.mg_of X G e_BadValue | exact PySem.W.mg_of X G e_BadDay | exact PySem.W.mg_of X G e_Missing | exact PySem.W.mg_of X G e_Refused | exact PySem.W.mg_of X G e_Full | exact PySem.W.mg_of X G e_NotAllowed | exact PySem.W.mg_of X G e_Damaged,
       a_BankError := C_BankError,
       g_BankError := PySem.W.mg_of X G e_BankError,
       exAll := eAll,
       a_is_amount := f_is_amount,
       d_is_amount := PySem.W.fnOf "is_amount" "is_amount" (defArgs s_is_amount) (defBody s_is_amount) (defScope s_is_amount) .none kV_is_amount dc_is_amount pm_is_amount an_is_amount cd_is_amount ct_is_amount,
       g_is_amount := PySem.W.mg_of X G a_is_amount,
       F_is_amount := fun_mk (st := s_is_amount) l_is_amount c_is_amount k_is_amount,
       b_is_amount := (fun_mk (st := s_is_amount) l_is_amount c_is_amount k_is_amount).binds (ps := ["number"]) fun _ _ _ _ _ _ us hl => match us, hl with | [_], _ => rfl,
       a_check_digits := f_check_digits,
       d_check_digits := PySem.W.fnOf "check_digits" "check_digits" (defArgs s_check_digits) (defBody s_check_digits) (defScope s_check_digits) .none kV_check_digits dc_check_digits pm_check_digits an_check_digits cd_check_digits ct_check_digits,
       g_check_digits := PySem.W.mg_of X G a_check_digits,
       F_check_digits := fun_mk (st := s_check_digits) l_check_digits c_check_digits k_check_digits,
       b_check_digits := (fun_mk (st := s_check_digits) l_check_digits c_check_digits k_check_digits).binds (ps := ["digits"]) fun _ _ _ _ _ _ us hl => match us, hl with | [_], _ => rfl,
       a_format_amount := f_format_amount,
       d_format_amount := PySem.W.fnOf "format_amount" "format_amount" (defArgs s_format_amount) (defBody s_format_amount) (defScope s_format_amount) .none kV_format_amount dc_format_amount pm_format_amount an_format_amount cd_format_amount ct_format_amount,
       g_format_amount := PySem.W.mg_of X G a_format_amount,
       F_format_amount := fun_mk (st := s_format_amount) l_format_amount c_format_amount k_format_amount,
       b_format_amount := (fun_mk (st := s_format_amount) l_format_amount c_format_amount k_format_amount).binds (ps := ["amount", "digits"]) fun _ _ _ _ _ _ us hl => match us, hl with | [_, _], _ => rfl,
       a_is_whole_part := f_is_whole_part,
       d_is_whole_part := PySem.W.fnOf "is_whole_part" "is_whole_part" (defArgs s_is_whole_part) (defBody s_is_whole_part) (defScope s_is_whole_part) .none kV_is_whole_part dc_is_whole_part pm_is_whole_part an_is_whole_part cd_is_whole_part ct_is_whole_part,
       g_is_whole_part := PySem.W.mg_of X G a_is_whole_part,
       F_is_whole_part := fun_mk (st := s_is_whole_part) l_is_whole_part c_is_whole_part k_is_whole_part,
       b_is_whole_part := (fun_mk (st := s_is_whole_part) l_is_whole_part c_is_whole_part k_is_whole_part).binds (ps := ["text"]) fun _ _ _ _ _ _ us hl => match us, hl with | [_], _ => rfl,
       a_is_decimal_part := f_is_decimal_part,
       d_is_decimal_part := PySem.W.fnOf "is_decimal_part" "is_decimal_part" (defArgs s_is_decimal_part) (defBody s_is_decimal_part) (defScope s_is_decimal_part) .none kV_is_decimal_part dc_is_decimal_part pm_is_decimal_part an_is_decimal_part cd_is_decimal_part ct_is_decimal_part,
       g_is_decimal_part := PySem.W.mg_of X G a_is_decimal_part,
       F_is_decimal_part := fun_mk (st := s_is_decimal_part) l_is_decimal_part c_is_decimal_part k_is_decimal_part,
       b_is_decimal_part := (fun_mk (st := s_is_decimal_part) l_is_decimal_part c_is_decimal_part k_is_decimal_part).binds (ps := ["text", "digits"]) fun _ _ _ _ _ _ us hl => match us, hl with | [_, _], _ => rfl,
       a_parse_amount := f_parse_amount,
       d_parse_amount := PySem.W.fnOf "parse_amount" "parse_amount" (defArgs s_parse_amount) (defBody s_parse_amount) (defScope s_parse_amount) .none kV_parse_amount dc_parse_amount pm_parse_amount an_parse_amount cd_parse_amount ct_parse_amount,
       g_parse_amount := PySem.W.mg_of X G a_parse_amount,
       F_parse_amount := fun_mk (st := s_parse_amount) l_parse_amount c_parse_amount k_parse_amount,
       b_parse_amount := (fun_mk (st := s_parse_amount) l_parse_amount c_parse_amount k_parse_amount).binds (ps := ["text", "digits"]) fun _ _ _ _ _ _ us hl => match us, hl with | [_, _], _ => rfl,
       a__law_numbers := f__law_numbers,
       d__law_numbers := PySem.W.fnOf "_law_numbers" "_law_numbers" (defArgs s_L_numbers) (defBody s_L_numbers) (defScope s_L_numbers) .none kV__law_numbers dc__law_numbers pm__law_numbers an__law_numbers cd__law_numbers ct__law_numbers,
       g__law_numbers := PySem.W.mg_of X G a__law_numbers,
       F__law_numbers := fun_mk (st := s_L_numbers) l__law_numbers c__law_numbers k__law_numbers,
       b__law_numbers := (fun_mk (st := s_L_numbers) l__law_numbers c__law_numbers k__law_numbers).binds (ps := ["cell", "count"]) fun _ _ _ _ _ _ us hl => match us, hl with | [_, _], _ => rfl,
       a__law_kinds := f__law_kinds,
       d__law_kinds := PySem.W.fnOf "_law_kinds" "_law_kinds" (defArgs s_L_kinds) (defBody s_L_kinds) (defScope s_L_kinds) .none kV__law_kinds dc__law_kinds pm__law_kinds an__law_kinds cd__law_kinds ct__law_kinds,
       g__law_kinds := PySem.W.mg_of X G a__law_kinds,
       F__law_kinds := fun_mk (st := s_L_kinds) l__law_kinds c__law_kinds k__law_kinds,
       b__law_kinds := (fun_mk (st := s_L_kinds) l__law_kinds c__law_kinds k__law_kinds).binds (ps := ["error"]) fun _ _ _ _ _ _ us hl => match us, hl with | [_], _ => rfl,
       a__law_is_integer := f__law_is_integer,
       d__law_is_integer := PySem.W.fnOf "_law_is_integer" "_law_is_integer" (defArgs s_L_is_integer) (defBody s_L_is_integer) (defScope s_L_is_integer) .none kV__law_is_integer dc__law_is_integer pm__law_is_integer an__law_is_integer cd__law_is_integer ct__law_is_integer,
       g__law_is_integer := PySem.W.mg_of X G a__law_is_integer,
       F__law_is_integer := fun_mk (st := s_L_is_integer) l__law_is_integer c__law_is_integer k__law_is_integer,
       b__law_is_integer := (fun_mk (st := s_L_is_integer) l__law_is_integer c__law_is_integer k__law_is_integer).binds (ps := ["told"]) fun _ _ _ _ _ _ us hl => match us, hl with | [_], _ => rfl,
       a__law_refusals := f__law_refusals,
       d__law_refusals := PySem.W.fnOf "_law_refusals" "_law_refusals" (defArgs s_L_refusals) (defBody s_L_refusals) (defScope s_L_refusals) .none kV__law_refusals dc__law_refusals pm__law_refusals an__law_refusals cd__law_refusals ct__law_refusals,
       g__law_refusals := PySem.W.mg_of X G a__law_refusals,
       F__law_refusals := fun_mk (st := s_L_refusals) l__law_refusals c__law_refusals k__law_refusals,
       b__law_refusals := (fun_mk (st := s_L_refusals) l__law_refusals c__law_refusals k__law_refusals).binds (ps := ["amount", "text", "digits"]) fun _ _ _ _ _ _ us hl => match us, hl with | [_, _, _], _ => rfl,
       a__law_amount := f__law_amount,
       d__law_amount := PySem.W.fnOf "_law_amount" "_law_amount" (defArgs s_L_amount) (defBody s_L_amount) (defScope s_L_amount) .none kV__law_amount dc__law_amount pm__law_amount an__law_amount cd__law_amount ct__law_amount,
       g__law_amount := PySem.W.mg_of X G a__law_amount,
       F__law_amount := fun_mk (st := s_L_amount) l__law_amount c__law_amount k__law_amount,
       b__law_amount := (fun_mk (st := s_L_amount) l__law_amount c__law_amount k__law_amount).binds (ps := ["numbers"]) fun _ _ _ _ _ _ us hl => match us, hl with | [_], _ => rfl,
       a__law_text := f__law_text,
       d__law_text := PySem.W.fnOf "_law_text" "_law_text" (defArgs s_L_text) (defBody s_L_text) (defScope s_L_text) .none kV__law_text dc__law_text pm__law_text an__law_text cd__law_text ct__law_text,
       g__law_text := PySem.W.mg_of X G a__law_text,
       F__law_text := fun_mk (st := s_L_text) l__law_text c__law_text k__law_text,
       b__law_text := (fun_mk (st := s_L_text) l__law_text c__law_text k__law_text).binds (ps := ["amount", "digits"]) fun _ _ _ _ _ _ us hl => match us, hl with | [_, _], _ => rfl,
       a__law_read_back := f__law_read_back,
       d__law_read_back := PySem.W.fnOf "_law_read_back" "_law_read_back" (defArgs s_L_read_back) (defBody s_L_read_back) (defScope s_L_read_back) .none kV__law_read_back dc__law_read_back pm__law_read_back an__law_read_back cd__law_read_back ct__law_read_back,
       g__law_read_back := PySem.W.mg_of X G a__law_read_back,
       F__law_read_back := fun_mk (st := s_L_read_back) l__law_read_back c__law_read_back k__law_read_back,
       b__law_read_back := (fun_mk (st := s_L_read_back) l__law_read_back c__law_read_back k__law_read_back).binds (ps := ["text", "digits", "amount"]) fun _ _ _ _ _ _ us hl => match us, hl with | [_, _, _], _ => rfl,
       a_law := f_law,
       d_law := PySem.W.fnOf "law" "law" (defArgs s_law) (defBody s_law) (defScope s_law) .none kV_law dc_law pm_law an_law cd_law ct_law,
       g_law := PySem.W.mg_of X G a_law,
       F_law := fun_mk (st := s_law) l_law c_law k_law,
       b_law := (fun_mk (st := s_law) l_law c_law k_law).binds (ps := ["script"]) fun _ _ _ _ _ _ us hl => match us, hl with | [_], _ => rfl,
       u_LIMIT := w_LIMIT,
       g_LIMIT := PySem.W.mg_of X G v_LIMIT,
       r_LIMIT := vr_LIMIT,
       u_GREAT := w_GREAT,
       g_GREAT := PySem.W.mg_of X G v_GREAT,
       r_GREAT := vr_GREAT,
       u_MOST_DIGITS := w_MOST_DIGITS,
       g_MOST_DIGITS := PySem.W.mg_of X G v_MOST_DIGITS,
       r_MOST_DIGITS := vr_MOST_DIGITS,
       a_UNITS := t_UNITS,
       g_UNITS := PySem.W.mg_of X G v_UNITS,
       r_UNITS := rfl,
       t_UNITS := fun H => Or.inr ⟨_, _, _, vl_UNITS, rfl, rfl, vz_UNITS, vr_UNITS⟩,
       u_LONGEST_TEXT := w_LONGEST_TEXT,
       g_LONGEST_TEXT := PySem.W.mg_of X G v_LONGEST_TEXT,
       r_LONGEST_TEXT := vr_LONGEST_TEXT,
       n_abs := PySem.W.mg_none_of X G n_abs,
       n_bool := PySem.W.mg_none_of X G n_bool,
       n_divmod := PySem.W.mg_none_of X G n_divmod,
       n_int := PySem.W.mg_none_of X G n_int,
       n_isinstance := PySem.W.mg_none_of X G n_isinstance,
       n_len := PySem.W.mg_none_of X G n_len,
       n_range := PySem.W.mg_none_of X G n_range,
       n_str := PySem.W.mg_none_of X G n_str }, rfl⟩
end K02
open PySem PySem.W PyProof.Rows
set_option maxRecDepth 100000 in
set_option maxHeartbeats 0 in
theorem PySem.Challenge.cw_corebank_k02_format_and_parse_agree_holds : PySem.Challenge.rw_corebank_k02_format_and_parse_agree.Holds := by
  w_on; o_law; k_head; (case hw => w_witness2)
  k_fill
  refine Kv.walk (l := PySem.Challenge.rw_corebank_k02_format_and_parse_agree) (k := 4) rfl rfl ⟨rfl, by decide, by decide⟩ (fun w h Y => PySem.W.kIn_of Y) ?F
  case F =>
    intro w mg fa h KX G hmg
    obtain ⟨T, hT⟩ : ∃ T : K02.Txt _ mg, ∃ a b c d e f, T.d_law = PySem.W.fnOf "law" "law" (L2.defArgs K02.s_law) (L2.defBody K02.s_law) (L2.defScope K02.s_law) .none a b c d e f := by
      refine' (fun z => ⟨z.choose, _, _, _, _, _, _, z.choose_spec⟩) (K02.txt_mk KX G ?e_BadValue ?e_BadDay ?e_Missing ?e_Refused ?e_Full ?e_NotAllowed ?e_Damaged ?e_BankError ?eAll ?a_is_amount ?l_is_amount ?c_is_amount ?k_is_amount ?a_check_digits ?l_check_digits ?c_check_digits ?k_check_digits ?a_format_amount ?l_format_amount ?c_format_amount ?k_format_amount ?a_is_whole_part ?l_is_whole_part ?c_is_whole_part ?k_is_whole_part ?a_is_decimal_part ?l_is_decimal_part ?c_is_decimal_part ?k_is_decimal_part ?a_parse_amount ?l_parse_amount ?c_parse_amount ?k_parse_amount ?a__law_numbers ?l__law_numbers ?c__law_numbers ?k__law_numbers ?a__law_kinds ?l__law_kinds ?c__law_kinds ?k__law_kinds ?a__law_is_integer ?l__law_is_integer ?c__law_is_integer ?k__law_is_integer ?a__law_refusals ?l__law_refusals ?c__law_refusals ?k__law_refusals ?a__law_amount ?l__law_amount ?c__law_amount ?k__law_amount ?a__law_text ?l__law_text ?c__law_text ?k__law_text ?a__law_read_back ?l__law_read_back ?c__law_read_back ?k__law_read_back ?a_law ?l_law ?c_law ?k_law ?v_LIMIT ?vr_LIMIT ?v_GREAT ?vr_GREAT ?v_MOST_DIGITS ?vr_MOST_DIGITS ?v_UNITS ?vl_UNITS ?vz_UNITS ?vr_UNITS ?v_LONGEST_TEXT ?vr_LONGEST_TEXT ?n_abs ?n_bool ?n_divmod ?n_int ?n_isinstance ?n_len ?n_range ?n_str)
      (case e_BadValue => k_is)
      (case e_BadDay => k_is)
      (case e_Missing => k_is)
      (case e_Refused => k_is)
      (case e_Full => k_is)
      (case e_NotAllowed => k_is)
      (case e_Damaged => k_is)
      (case e_BankError => k_is)
      (case eAll => first | rfl | with_unfolding_all rfl | kernel_rfl)
      (case a_is_amount => k_is)
      (case l_is_amount => k_is)
      (case c_is_amount => k_is)
      (case k_is_amount => k_is)
      (case a_check_digits => k_is)
      (case l_check_digits => k_is)
      (case c_check_digits => k_is)
      (case k_check_digits => k_is)
      (case a_format_amount => k_is)
      (case l_format_amount => k_is)
      (case c_format_amount => k_is)
      (case k_format_amount => k_is)
      (case a_is_whole_part => k_is)
      (case l_is_whole_part => k_is)
      (case c_is_whole_part => k_is)
      (case k_is_whole_part => k_is)
      (case a_is_decimal_part => k_is)
      (case l_is_decimal_part => k_is)
      (case c_is_decimal_part => k_is)
      (case k_is_decimal_part => k_is)
      (case a_parse_amount => k_is)
      (case l_parse_amount => k_is)
      (case c_parse_amount => k_is)
      (case k_parse_amount => k_is)
      (case a__law_numbers => k_is)
      (case l__law_numbers => k_is)
      (case c__law_numbers => k_is)
      (case k__law_numbers => k_is)
      (case a__law_kinds => k_is)
      (case l__law_kinds => k_is)
      (case c__law_kinds => k_is)
      (case k__law_kinds => k_is)
      (case a__law_is_integer => k_is)
      (case l__law_is_integer => k_is)
      (case c__law_is_integer => k_is)
      (case k__law_is_integer => k_is)
      (case a__law_refusals => k_is)
      (case l__law_refusals => k_is)
      (case c__law_refusals => k_is)
      (case k__law_refusals => k_is)
      (case a__law_amount => k_is)
      (case l__law_amount => k_is)
      (case c__law_amount => k_is)
      (case k__law_amount => k_is)
      (case a__law_text => k_is)
      (case l__law_text => k_is)
      (case c__law_text => k_is)
      (case k__law_text => k_is)
      (case a__law_read_back => k_is)
      (case l__law_read_back => k_is)
      (case c__law_read_back => k_is)
      (case k__law_read_back => k_is)
      (case a_law => k_is)
      (case l_law => k_is)
      (case c_law => k_is)
      (case k_law => k_is)
      (case v_LIMIT => k_is)
      (case vr_LIMIT => exact ⟨_, rfl⟩)
      (case v_GREAT => k_is)
      (case vr_GREAT => exact ⟨_, rfl⟩)
      (case v_MOST_DIGITS => k_is)
      (case vr_MOST_DIGITS => exact ⟨_, rfl⟩)
      (case v_UNITS => k_is)
      (case vl_UNITS => k_is)
      (case vz_UNITS => decide)
      (case vr_UNITS => exact (.cons ⟨_, rfl⟩ (.cons ⟨_, rfl⟩ (.cons ⟨_, rfl⟩ (.cons ⟨_, rfl⟩ .nil)))))
      (case v_LONGEST_TEXT => k_is)
      (case vr_LONGEST_TEXT => exact ⟨_, rfl⟩)
      (case n_abs => k_is)
      (case n_bool => k_is)
      (case n_divmod => k_is)
      (case n_int => k_is)
      (case n_isinstance => k_is)
      (case n_len => k_is)
      (case n_range => k_is)
      (case n_str => k_is)
    obtain ⟨_, _, _, _, _, _, hT⟩ := hT
    have ea : fa = T.a_law := by
      have z := hmg.symm.trans T.g_law
      cases z; rfl
    subst ea
    exact ⟨T.d_law, fun s u => by rw [hT]; exact .of_eq rfl, fun base _ _ => K02.ok_law T⟩
#print axioms PySem.Challenge.cw_corebank_k02_format_and_parse_agree_holds
