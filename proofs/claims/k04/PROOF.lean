import PyProof.Rows.All
import Wide.All
import OpenK.AllK
import Wide.FinOn
import HandS.ForMost
import HandS.ForExc
import HandS.Wide
import HandS.WideMore
import HandS.WideBits
import HandS.EndBits
import HandS.IsInst
import HandS.ExcIs
import HandS.HotCalls
import HandS.StrMore
import HandS.Style
import HandS.TupAny
import HandS.SortInts
import HandS.SortKw
import HandS.Walk
import HandS.SortRule
import HandS.TupLe
import KE.DatumOrd
import PySem.Challenge.RW_corebank_k04_allocate
set_option Elab.async false
set_option linter.all false
set_option maxRecDepth 100000
set_option maxHeartbeats 4000000
/-! What all the proofs share: the library's errors, lists joined, the def that tells an error's kinds. -/
namespace Kv
open PySem PySem.Spec PyProof.Rows L2
abbrev Frag := PySem.W.Frag
inductive Er where
  | badValue | badDay | missing | refused | full | notAllowed | damaged
  deriving DecidableEq
def Er.nm : Er → Str
  | .badValue => "BadValue" | .badDay => "BadDay" | .missing => "Missing" | .refused => "Refused" | .full => "Full" | .notAllowed => "NotAllowed" | .damaged => "Damaged"
def Er.every : List Er := [.badValue, .badDay, .missing, .refused, .full, .notAllowed, .damaged]
theorem Er.mem (e : Er) : e ∈ Er.every := by cases e <;> decide
abbrev veChain : List Value := [.type "ValueError", .type "Exception", .type "BaseException", .type "object"]
/-- what the written part must say of one error class -/
def errOne (K : Frag) (a : Er → Addr) (b : Addr) (e : Er) : Bool :=
  PySem.W.excIn K (a e) veChain "ValueError.__new__" && PySem.W.keepIn K (.ref (a e)) && (PySem.W.subIn K (.ref (a e)) (.type "BaseException") == some true) && (PySem.W.typeIn K (.ref (a e)) == some (.type "type")) &&
  (PySem.W.findIn K (.ref (a e)) "__getattribute__" == some (some (.builtin "BaseException.__getattribute__"))) && (PySem.W.findIn K (.ref (a e)) "__getattr__" == some none) && PySem.W.hasDictIn K (a e) &&
  (PySem.W.findIn K (.ref (a e)) "__class__" == some (some (.builtin "object.__class__"))) && (PySem.W.mroIn K (a e) (.type "object") == some true) && (PySem.W.exmOne K (.ref (a e)) (.ref b) == some true) &&
  Er.every.all fun d => PySem.W.kitOne K (.ref (a e)) (.ref (a d)) == some (decide (e = d))
def errAll (K : Frag) (a : Er → Addr) (b : Addr) : Bool :=
  (PySem.W.specialIn K (.builtin "object.__class__") "__get__" == some (some (.builtin "getset_descriptor.__get__"))) && (PySem.W.takesIn K (.builtin "object.__class__") == some true) && Er.every.all (errOne K a b)
structure Errs (K : Frag) (mg : Str → Option Value) where
  exa : Er → Addr
  exg : ∀ e, mg e.nm = some (.ref (exa e))
  a_BankError : Addr
  g_BankError : mg "BankError" = some (.ref a_BankError)
  exAll : errAll K exa a_BankError = true
namespace Errs
variable {K : Frag} {mg : Str → Option Value} (T : Errs K mg)
theorem one (e : Er) : errOne K T.exa T.a_BankError e = true := by
  have h := T.exAll
  unfold errAll at h
  simp only [Bool.and_eq_true, List.all_eq_true] at h
  exact h.2 e e.mem
theorem split (e : Er) : PySem.W.excIn K (T.exa e) veChain "ValueError.__new__" = true ∧ PySem.W.keepIn K (.ref (T.exa e)) = true ∧ PySem.W.subIn K (.ref (T.exa e)) (.type "BaseException") = some true ∧ PySem.W.typeIn K (.ref (T.exa e)) = some (.type "type") ∧
    ExcC K (T.exa e) ∧ PySem.W.exmOne K (.ref (T.exa e)) (.ref T.a_BankError) = some true ∧ ∀ d, PySem.W.kitOne K (.ref (T.exa e)) (.ref (T.exa d)) = some (decide (e = d)) := by
  have h := T.one e
  have g := T.exAll
  unfold errOne at h
  unfold errAll at g
  simp only [Bool.and_eq_true, List.all_eq_true, beq_iff_eq] at h g
  obtain ⟨⟨⟨⟨⟨⟨⟨⟨⟨⟨h1, h2⟩, h3⟩, h4⟩, h5⟩, h6⟩, h7⟩, h8⟩, h9⟩, h10⟩, h11⟩ := h
  exact ⟨h1, h2, h3, h4, ⟨h5, h6, h3, h7, h8, g.1.1, g.1.2, h9⟩, h10, fun d => h11 d d.mem⟩
theorem exx (e : Er) : PySem.W.excIn K (T.exa e) veChain "ValueError.__new__" = true := (T.split e).1
theorem exk (e : Er) : PySem.W.keepIn K (.ref (T.exa e)) = true := (T.split e).2.1
theorem exb (e : Er) : PySem.W.subIn K (.ref (T.exa e)) (.type "BaseException") = some true := (T.split e).2.2.1
theorem ext (e : Er) : PySem.W.typeIn K (.ref (T.exa e)) = some (.type "type") := (T.split e).2.2.2.1
theorem exc (e : Er) : ExcC K (T.exa e) := (T.split e).2.2.2.2.1
theorem exm (e : Er) : PySem.W.exmOne K (.ref (T.exa e)) (.ref T.a_BankError) = some true := (T.split e).2.2.2.2.2.1
theorem exi (e d : Er) : PySem.W.kitOne K (.ref (T.exa e)) (.ref (T.exa d)) = some (decide (e = d)) := (T.split e).2.2.2.2.2.2 d
end Errs

/-- .. where the text has some of the classes alone -/
def errAllP (K : Frag) (a : Er → Addr) (b : Addr) (es : List Er) : Bool :=
  (PySem.W.specialIn K (.builtin "object.__class__") "__get__" == some (some (.builtin "getset_descriptor.__get__"))) && (PySem.W.takesIn K (.builtin "object.__class__") == some true) && es.all fun e =>
  PySem.W.excIn K (a e) veChain "ValueError.__new__" && PySem.W.keepIn K (.ref (a e)) && (PySem.W.subIn K (.ref (a e)) (.type "BaseException") == some true) && (PySem.W.typeIn K (.ref (a e)) == some (.type "type")) &&
  (PySem.W.exmOne K (.ref (a e)) (.ref b) == some true)
structure ErrsP (K : Frag) (mg : Str → Option Value) (es : List Er) where
  exa : Er → Addr
  exgP : ∀ e, e ∈ es → mg e.nm = some (.ref (exa e))
  a_BankError : Addr
  g_BankError : mg "BankError" = some (.ref a_BankError)
  exAll : errAllP K exa a_BankError es = true
namespace ErrsP
variable {K : Frag} {mg : Str → Option Value} {es : List Er} (T : ErrsP K mg es)
theorem split (e : Er) (he : e ∈ es) : PySem.W.excIn K (T.exa e) veChain "ValueError.__new__" = true ∧ PySem.W.keepIn K (.ref (T.exa e)) = true ∧ PySem.W.subIn K (.ref (T.exa e)) (.type "BaseException") = some true ∧ PySem.W.typeIn K (.ref (T.exa e)) = some (.type "type") ∧
    PySem.W.exmOne K (.ref (T.exa e)) (.ref T.a_BankError) = some true := by
  have g := T.exAll
  unfold errAllP at g
  simp only [Bool.and_eq_true, List.all_eq_true, beq_iff_eq] at g
  obtain ⟨⟨⟨⟨h1, h2⟩, h3⟩, h4⟩, h5⟩ := g.2 e he
  exact ⟨h1, h2, h3, h4, h5⟩
theorem exg (e : Er) (he : e ∈ es := by decide) : mg e.nm = some (.ref (T.exa e)) := T.exgP e he
theorem exx (e : Er) (he : e ∈ es := by decide) : PySem.W.excIn K (T.exa e) veChain "ValueError.__new__" = true := (T.split e he).1
theorem exk (e : Er) (he : e ∈ es := by decide) : PySem.W.keepIn K (.ref (T.exa e)) = true := (T.split e he).2.1
theorem exb (e : Er) (he : e ∈ es := by decide) : PySem.W.subIn K (.ref (T.exa e)) (.type "BaseException") = some true := (T.split e he).2.2.1
theorem ext (e : Er) (he : e ∈ es := by decide) : PySem.W.typeIn K (.ref (T.exa e)) = some (.type "type") := (T.split e he).2.2.2.1
theorem exm (e : Er) (he : e ∈ es := by decide) : PySem.W.exmOne K (.ref (T.exa e)) (.ref T.a_BankError) = some true := (T.split e he).2.2.2.2
end ErrsP

/-! ### two lists joined, whatever may be read of them -/
section
variable {X : Cx}
def rCatS (K : Frag) : R2 := fun x y H Q => ∃ l b xs zs, x = .ref l ∧ y = .ref b ∧ SqL K H l xs ∧ SqL K H b zs ∧ xs.length + zs.length ≤ sizeLine ∧ ∀ p, H p = none → Q (.ref p) (upd H p (.lst (xs ++ zs)))
theorem op_catS : OpR X (binaryOp .Add) (rCatS X.K) := by
  intro pins s σ H x y v u Q I rx ry h
  obtain ⟨l, b, xs, zs, e1, e2, hl, hb, hz, q⟩ := h
  subst e1 e2
  cases rx
  cases ry
  obtain ⟨i1, r1, p1, z1⟩ := I.list hl
  obtain ⟨i2, r2, p2, z2⟩ := I.list hb
  obtain ⟨⟨c1, d1, t1, w1⟩, n1, g1, k1, m1, j1⟩ := p1
  obtain ⟨⟨c2, d2, t2, w2⟩, n2, g2, k2, m2, j2⟩ := p2
  dsimp only at k1 m1 j1 k2 m2 j2
  subst k1 m1 j1 k2 m2 j2
  have l1 := r1.length
  have l2 := r2.length
  have fits : i1.toArray.size + i2.toArray.size ≤ sizeLine := by
    rw [List.size_toArray, List.size_toArray]
    omega
  have joined : i1.toArray ++ i2.toArray = (i1 ++ i2).toArray := by simp
  have meets := list_addW l b i1.toArray i2.toArray n1 n2 none none w1 w2 fits
  refine concat_meets (s := s) ⟨_, g1, rfl⟩ ⟨_, g2, rfl⟩ noFill_list_add seq_list_add
    PySem.F.slot_list_add PySem.F.entry_list_add (PySem.F.args_list_add_2 _ _) meets ⟨g1, g2, ?_⟩
  rw [joined]
  exact ⟨.ref _, _, I.lnew (t' := s.toks) (r1.append r2) (by rw [List.length_append]; exact hz), rfl, q _ I.fresh⟩
end

/-! ### a def that is handed the error which a suite holds, and tells its kind -/
section
variable {P : Program} {w : World} {K : Frag} {mg : Str → Option Value} {base : Heap}
structure KindsOk (P : Program) (w : World) (K : Frag) (mg : Str → Option Value) (base : Heap) (T : Errs K mg) (lv : Nat) (f : Addr) (fd : FuncData) : Prop where
  run : ∀ (A : Around) (outer : List Env) (s : Shared) (H : Hp) (args : Args) (us : List Value) (Q : VK) (p : Addr × Obj) (er : Er), L2H.RoomH lv A → L2H.PinOk outer H s p → Zc (.ref (T.exa er)) none p.2 → (∃ vs, p.2.data = .fields vs) →
    Env0 P w K mg base A outer s H → BindsTo s fd args ((["error"] : List Str).zip us) → Vals [.ref p.1] us → (∀ q, H q = none → Q (.ref q) (upd H q (.lst [.str er.nm]))) →
    codeAny (model P w) A (.call (.ref f) args) (CR CX0 outer P w H s Q E0) s
/-- isinstance of an error that every state bears -/
def rIsP (K : Frag) (D a : Addr) : List V → Hp → VK → Prop := fun xs H Q => ∃ (C : Addr) (b : Bool), xs = [.ref a, .ref C] ∧ PySem.W.kitOne K (.ref D) (.ref C) = some b ∧ Q (.bl b) H
theorem call_isP {X : Cx} {D : Addr} {p : Addr × Obj} (hp : p ∈ X.pn) (C : ExcC X.K D) (hz : Zc (.ref D) none p.2) (hf : ∃ vs, p.2.data = .fields vs) : CallR X (.builtin "isinstance") (rIsP X.K D p.1) := by
  intro pins s σ H xs us Q I r h
  obtain ⟨c, b, e1, e, q⟩ := h
  subst e1
  cases r with
  | cons rx rr =>
    cases rr with
    | cons rt rr2 =>
      cases rr2
      cases rx
      cases rt
      have hget := (I.pin p (List.mem_append.mpr (.inl hp))).1
      have J : PySem.W.InstAt s.heap p.1 p.2 D none := by
        obtain ⟨pa, oc, od, oda, osl⟩ := p
        obtain ⟨vs, hv⟩ := hf
        obtain ⟨h1, h2⟩ := hz
        dsimp only at h1 h2 hv hget ⊢
        subst h1 h2 hv
        exact ⟨hget, rfl, rfl, trivial⟩
      have kit := PySem.W.handS_kitx_exc C.hg C.hk C.hs C.hd C.ha C.hn C.ht C.hm (x := p.1) (ox := p.2)
      exact PySem.W.kia_one kit I.kIn J e (fun z => nomatch z) fun tk => ⟨.bl b, H, I.kept (t' := tk) fun _ _ z => z, rfl, q⟩
/-- such a def by its body -/
theorem kinds_of {T : Errs K mg} {lv : Nat} {f : Addr} {fd : FuncData} {st : Stmt} {N : List Str} (F : Fun K "_law_kinds" "_law_kinds" st f fd) (S : FnScope N ["error"] (defScope st))
    (hb : ∀ (cdv : Value) (A : Around) (outer : List Env) (s : Shared) (H : Hp) (Q : VK) (p : Addr × Obj) (er : Er), Zc (.ref (T.exa er)) none p.2 → (∃ vs, p.2.data = .fields vs) → (∀ q, H q = none → Q (.ref q) (upd H q (.lst [.str er.nm]))) →
      ∃ t, PSs (L2H.cxH CX0 P w K mg base N "_law_kinds" (defScope st) f cdv A outer s H E0 p) (defBody st) t ∧ t { nx := fun _ H' => Q .non H', rt := Q } (start N [.ref p.1]) H) :
    KindsOk P w K mg base T (lv + 1) f fd := by
  obtain ⟨oc, od, kV, doc, pm, an, cdv, ct, osl, rfl, lk, hcd⟩ := F.ex
  refine ⟨fun A outer s H args us Q p er hr hpin hz hf e0 hbi r hk => ?_⟩
  have KX : K.In s.heap := e0.mod.kin.keeps fun b o e => (e0.bs b o e).1
  have lim : s.heap.NoLimit := e0.mod.nolimit.keeps fun b o e => (e0.bs b o e).1
  have kinds : ∀ y ∈ (["error"] : List Str).zip us, (defScope st).names.lookup y.1 = some .local ∨ ((defScope st).names.lookup y.1 = some .cell ∧ ((cellsFrom (s.heap.objs.size + 1) (defScope st).names []).lookup y.1).isSome = true) := by
    intro ⟨n, v⟩ hy
    rcases S.par n (List.of_mem_zip hy).1 with z | z
    · exact .inl z
    · exact .inr ⟨z, PySem.W.cellsFrom_some _ _ _ (.inl z)⟩
  refine codeAny_call_function hr.depth (KX _ _ lk) rfl S.co S.gen rfl (PySem.W.codeRec_of KX hcd) (hbi _ _ _ _ ?_)
  refine wpAny_newFunctionEnv_cells S.kind kinds fun env he s1 x => ?_
  subst he
  refine ⟨lim.keeps x.toInCall.keep, codeAny_func ?_⟩
  obtain ⟨t, ht, hq⟩ := hb cdv A outer s H Q p er hz hf hk
  have I := L2H.inv_startH (CX := CX0) (E := E0) S hpin e0 (show ([.ref p.1] : List V).length = (["error"] : List Str).length from rfl) r x
  refine wpAny_mono (ht.run [] s1 _ H _ I hq) (fun fl s' hs => ?_) fun e s' hs => hs
  have fin : ∀ {σ' : L2.St} {H' : Hp} {v : V} {u : Value}, Inv _ [] σ' H' s' → RelV v u → Q v H' → CE outer P w H s Q u s' :=
    fun {σ' H' v u} (J : Inv (L2H.cxH CX0 P w K mg base N "_law_kinds" (defScope st) f cdv A outer s H E0 p) [] σ' H' s') rv qq => ⟨v, H', J.os, J.bare, J.base, J.hok, rv, qq⟩
  cases fl with
  | next =>
    obtain ⟨σ', H', J, qq⟩ := hs
    exact fin (v := V.non) (u := Value.none) J rfl qq
  | ret u =>
    obtain ⟨v, σ', H', J, rv, qq⟩ := hs
    exact fin J rv qq
  | brk =>
    obtain ⟨_, _, _, qq⟩ := hs
    exact qq.elim
  | cont =>
    obtain ⟨_, _, _, qq⟩ := hs
    exact qq.elim
end
section
variable {X : Cx} {CX : CXT} {f : Addr} {fd : FuncData} {lv : Nat} {x : Str} {q pos : Pos} {e : Expr} {te : TE}
/-- kinds(e), e the error that the suite holds -/
def tKinds {K : Frag} {mg : Str → Option Value} (T : Errs K mg) (cls : Value) (d : Option Addr) (a : Addr) (ta : TA) : TE := fun σ H Q => ta σ H fun vs H1 => vs = [.ref a] ∧ d = none ∧ ∃ er, cls = .ref (T.exa er) ∧ ∀ r, H1 r = none → Q (.ref r) (upd H1 r (.lst [.str er.nm]))
theorem pe_kinds {a : Addr} {oe : Obj} {cls : Value} {d : Option Addr} {P : Program} {w : World} {K : Frag} {mg : Str → Option Value} {base : Heap} {T : Errs K mg} {ta : TA} (F : KindsOk P w K mg base T lv f fd) (hz : Zc cls d oe) (hf : ∃ vs, oe.data = .fields vs) (hp : (a, oe) ∈ X.pn) (hr : L2H.RoomH lv X.A) (hg : Gl X x)
    (hm : X.mg x = some (.ref f)) (hk : PySem.W.keepIn K (.ref f) = true) (hb : Binds K fd ["error"] []) (ha : PA X [e] ta) (hP : X.prog = P := by rfl) (hw : X.w = w := by rfl) (hK : X.K = K := by rfl) (hM : X.mg = mg := by rfl) (hB : X.base = base := by rfl) (hdb : (x == ("__debug__" : Str)) = false := by decide)
    (he : starEach (e :: []) X.env = (false, eval e X.env) :: starEach [] X.env := by rfl) (hpl : (backTo pos (starEach [] X.env)).any (·.1) = false := by rfl) :
    PE X (.Call (.Name x q) [e] [] pos) (tKinds T cls d a ta) := by
  subst hP hw hK hM hB
  refine ⟨fun pins s σ H Q I h => ?_⟩
  refine wpAny_Call_Name_kw (ld_glob I hg hm ?_ hdb)
  refine PySem.W.callWith_K (h₀ := X.base) I.ok.mod.kin hk (thn (ha.run pos pins s σ H _ I h) fun us s1 ⟨vs, H1, I1, r, e1, e2, er, e3, k⟩ => ⟨I1.kIn, ?_⟩) he hpl
  subst e1 e2 e3
  have P1 := I1.pin (a, oe) (List.mem_append.mpr (.inl hp))
  have hl : us.length = 1 := r.length.symm
  have b := hb s1 us I1.kIn (by rw [List.append_nil]; exact hl)
  rw [List.append_nil] at b
  have hpin : L2H.PinOk X.stack H1 s1 (a, oe) := ⟨P1.1, P1.2.1, fun hm => (List.mem_cons.mp (I1.stkSub a hm)).elim P1.2.2.1 P1.2.2.2.1, P1.2.2.2.2⟩
  refine wpAny_call (codeAny_mono (F.run _ X.stack s1 H1 ⟨us, []⟩ us Q (a, oe) er hr hpin hz hf I1.env0 b r k) fun r' s' hq => ?_)
  cases r' with
  | error e => exact False.elim hq
  | ok fl =>
    cases fl with
    | ret u => exact I1.after hq
    | next => exact False.elim hq
    | brk => exact False.elim hq
    | cont => exact False.elim hq
end
/-! ### what may be compared -/
theorem sc_ii {a b : Int} : scal (.int a) (.int b) = true := rfl
theorem sc_ss {a b : Str} : scal (.str a) (.str b) = true := rfl
theorem sc_bb {a b : Bool} : scal (.bl a) (.bl b) = true := rfl
theorem sc_nn : scal .non .non = true := rfl
theorem sc_ni {a : Int} : scal .non (.int a) = true := rfl
theorem sc_in {a : Int} : scal (.int a) .non = true := rfl
theorem sc_sn {a : Str} : scal (.str a) .non = true := rfl
theorem sc_ns {a : Str} : scal .non (.str a) = true := rfl
theorem sc_bn {a : Bool} : scal (.bl a) .non = true := rfl
theorem sc_nb {a : Bool} : scal .non (.bl a) = true := rfl
theorem sc_is {a : Int} {b : Str} : scal (.int a) (.str b) = true := rfl
theorem sc_si {a : Int} {b : Str} : scal (.str b) (.int a) = true := rfl
theorem isi_int {K : Frag} {z : Int} {n : String} {b : Bool} {H : Hp} {Q : VK} (h : kitB "int" n = some b) (q : Q (.bl b) H) : rIsi K [.int z, .ty n] H Q := ⟨_, _, .type "int", .type n, b, rfl, .ty _, .base (.int _), kit_ty h, q⟩
theorem isi_bl {K : Frag} {z : Bool} {n : String} {b : Bool} {H : Hp} {Q : VK} (h : kitB "bool" n = some b) (q : Q (.bl b) H) : rIsi K [.bl z, .ty n] H Q := ⟨_, _, .type "bool", .type n, b, rfl, .ty _, .base (.bl _), kit_ty h, q⟩
theorem isi_str {K : Frag} {z : Str} {n : String} {b : Bool} {H : Hp} {Q : VK} (h : kitB "str" n = some b) (q : Q (.bl b) H) : rIsi K [.str z, .ty n] H Q := ⟨_, _, .type "str", .type n, b, rfl, .ty _, .base (.str _), kit_ty h, q⟩
theorem isi_tup {K : Frag} {a : Addr} {xs : List V} {n : String} {b : Bool} {H : Hp} {Q : VK} (e : H a = some (.tup xs)) (h : kitB "tuple" n = some b) (q : Q (.bl b) H) : rIsi K [.ref a, .ty n] H Q := ⟨_, _, .type "tuple", .type n, b, rfl, .ty _, .base (.tup e), kit_ty h, q⟩
theorem isi_lst {K : Frag} {a : Addr} {xs : List V} {n : String} {b : Bool} {H : Hp} {Q : VK} (e : H a = some (.lst xs)) (h : kitB "list" n = some b) (q : Q (.bl b) H) : rIsi K [.ref a, .ty n] H Q := ⟨_, _, .type "list", .type n, b, rfl, .ty _, .base (.lst e), kit_ty h, q⟩
theorem isi_non {K : Frag} {n : String} {b : Bool} {H : Hp} {Q : VK} (h : kitB "NoneType" n = some b) (q : Q (.bl b) H) : rIsi K [.non, .ty n] H Q := ⟨_, _, .type "NoneType", .type n, b, rfl, .ty _, .base .non, kit_ty h, q⟩
/-! ### [i] >= [j] -/
section listge
open PySem PySem.SeqAt PySem.MeetsSeq PySem.MeetsSeq2 PySem.MeetsSeq3
open PySem.AutoSeq1 (wpAny_loadPart')
/-- a list stands there -/
def Lat (s : Shared) (a : Addr) (xs : Array Value) (n : Nat) (dd : Option Addr) (sl : Array (Option Value)) : Prop := s.heap.get? a = some { cls := .type "list", dict := dd, data := .seq xs n, slots := sl }
theorem ge_two (a b : Addr) (xs ys : Array Value) (n m : Nat) (d1 d2 : Option Addr) (s1 s2 : Array (Option Value)) (hx : xs.size = 1) (hy : ys.size = 1) :
    Meets (Builtin.«list.__eq__.loop» ⟨[.ref a, .ref b, rawInt 1, rawInt 5], []⟩) (fun _ R s => Lat s a xs n d1 s1 ∧ Lat s b ys m d2 s2 ∧ R (.ok (.ret (.bool true))) s) := by
  rintro prog w A R ⟨hh, gg, dp, tk, oo⟩ ⟨ha, hb, k⟩
  unfold Lat at ha hb
  have e1 : xs[(1 : Int).toNat]? = none := by simp [hx]
  have e2 : ys[(1 : Int).toNat]? = none := by simp [hy]
  wp_walk using wpAny_loadPart' ha, wpAny_loadPart' hb
  rw [e1]
  wp_walk using wpAny_loadPart' ha, wpAny_loadPart' hb
  rw [hx, hy]
  exact k
theorem ge_one (a b : Addr) (xs ys : Array Value) (v u : Value) (n m : Nat) (d1 d2 : Option Addr) (s1 s2 : Array (Option Value)) (e r : Bool) (hx : xs.size = 1) (hy : ys.size = 1) (hv : xs[(0 : Int).toNat]? = some v) (hu : ys[(0 : Int).toNat]? = some u) :
    Meets (Builtin.«list.__eq__.loop» ⟨[.ref a, .ref b, rawInt 0, rawInt 5], []⟩) (fun A R s => Lat s a xs n d1 s1 ∧ Lat s b ys m d2 s2 ∧ EqAt A.in1 s v u e ∧ (e = false → Ob.RcOp .GtE A.in1 s v u r) ∧ R (.ok (.ret (.bool (e || r)))) s) := by
  rintro prog w A R ⟨hh, gg, dp, tk, oo⟩ ⟨ha, hb, he, hr, k⟩
  unfold Lat at ha hb
  wp_walk using wpAny_loadPart' ha, wpAny_loadPart' hb
  rw [hv, hu]
  refine wpAny_bind (he prog w _ _ ?_)
  cases e with
  | true =>
    wp_walk
    exact ⟨plainId_quiet plain_eq_loop _, codeAny_builtin entry_eq_loop (by
      rw [Around.under_plainId plain_eq_loop _]
      exact ge_two a b xs ys n m d1 d2 s1 s2 hx hy prog w A R _ ⟨ha, hb, k⟩)⟩
  | false =>
    wp_walk using wpAny_loadPart' ha, wpAny_loadPart' hb
    rw [hv, hu]
    refine wpAny_bind (hr rfl prog w _ _ ?_)
    wp_walk
    exact k
theorem ge_call (a b : Addr) (xs ys : Array Value) (v u : Value) (n m : Nat) (d1 d2 : Option Addr) (s1 s2 : Array (Option Value)) (e r : Bool) (hx : xs.size = 1) (hy : ys.size = 1) (hv : xs[(0 : Int).toNat]? = some v) (hu : ys[(0 : Int).toNat]? = some u) :
    Meets (Builtin.«list.__ge__» ⟨[.ref a, .ref b], []⟩) (fun A R s => Lat s a xs n d1 s1 ∧ Lat s b ys m d2 s2 ∧ EqAt A.in1 s v u e ∧ (e = false → Ob.RcOp .GtE A.in1 s v u r) ∧ R (.ok (.ret (.bool (e || r)))) s) := by
  rintro prog w A R ⟨hh, gg, dp, tk, oo⟩ ⟨ha, hb, he, hr, k⟩
  have sub := AutoSeq1.sub_list_list
  have ha' := ha
  have hb' := hb
  unfold Lat at ha' hb'
  wp_walk using wpAny_loadPart' ha', wpAny_loadPart' hb'
  exact ⟨plainId_quiet plain_eq_loop _, codeAny_builtin entry_eq_loop (by
    rw [Around.under_plainId plain_eq_loop _]
    exact ge_one a b xs ys v u n m d1 d2 s1 s2 e r hx hy hv hu prog w A R _ ⟨ha, hb, he, hr, k⟩)⟩
theorem lge_slot : Slot "list" (cmpInfo .GtE).2.1 "list.__ge__" :=
  .of (owner := "list") (n := "__ge__") (by rw [typeLookup_type, builtinLookup_eq_fast]; kernel_rfl) (by decide +kernel) (by decide +kernel) (by decide +kernel)
    (by exact .inl (by decide +kernel)) (by rw [isSubtype_type]; kernel_rfl)
theorem lge_entry : entryFor table "list.__ge__" = some Builtin.«list.__ge__» := entryFor_of_tree (by kernel_rfl)
theorem lge_args (a b : Value) : argsOk "list.__ge__" ⟨[a, b], []⟩ := by
  unfold argsOk
  rw [signature?_of (id := "list.__ge__") (n := ['_', '_', 'e', 'g', '_', '_']) (o := ['t', 's', 'i', 'l']) (by kernel_rfl) F.owner_list]
  kernel_rfl
end listge
section
open PySem PySem.Spec PyProof.Rows L2
variable {X : Cx}
/-- [i] >= [j] -/
def rGeL (K : Frag) : R2 := fun x y H Q => ∃ a b i j, x = .ref a ∧ y = .ref b ∧ SqL K H a [.int i] ∧ SqL K H b [.int j] ∧ Q (.bl (decide (j ≤ i))) H
theorem op_geL (hu : X.A.units < cLine) : OpR X (compareOp .GtE) (rGeL X.K) := by
  intro pins s σ H x y v u Q I rx ry h
  obtain ⟨a, b, i, j, rfl, rfl, ha, hb, q⟩ := h
  cases rx
  cases ry
  obtain ⟨its, r1, p1, z1⟩ := I.list ha
  obtain ⟨its2, r2, p2, z2⟩ := I.list hb
  cases r1 with
  | cons rv r1 =>
    cases r1
    cases r2 with
    | cons ru r2 =>
      cases r2
      obtain ⟨t1, rfl⟩ := rv
      obtain ⟨t2, rfl⟩ := ru
      obtain ⟨⟨c1, d1, q1, w1⟩, n1, g1, k1, m1, j1⟩ := p1
      obtain ⟨⟨c2, d2, q2, w2⟩, n2, g2, k2, m2, j2⟩ := p2
      dsimp only at k1 m1 j1 k2 m2 j2
      subst k1 m1 j1 k2 m2 j2
      have both : (i == j || decide (j ≤ i)) = decide (j ≤ i) := by
        by_cases c : i = j
        · subst c; simp
        · simp [c]
      have meets := ge_call a b #[.int i t1] #[.int j t2] (.int i t1) (.int j t2) n1 n2 none none w1 w2 (i == j) (decide (j ≤ i)) rfl rfl rfl rfl
      rw [both] at meets
      exact richCompare_meets_room (op := .GtE) ⟨_, g1, rfl⟩ ⟨_, g2, rfl⟩ lge_slot lge_entry (lge_args _ _) meets ⟨g1, g2, PySem.SeqAt.EqAt.int_int _ _ _ _, fun _ => Ob.RcOp.ge_int _ _ _ _, ⟨(fun x => nomatch x), ⟨.bl _, H, I, rfl, q⟩⟩⟩ hu
end
/-! ### xs[i] ahead of a store in place -/
section
variable {X : Cx}
def rGetL (K : Frag) : V → V → Hp → VK → Prop := fun o i H Q => ∃ p xs k v, o = .ref p ∧ i = .int k ∧ SqL K H p xs ∧ 0 ≤ k ∧ xs[k.toNat]? = some v ∧ Q v H
theorem get_list : PGet X (rGetL X.K) := by
  intro pins s σ H o i ov iv Q I ro ri h
  obtain ⟨p, xs, k, v, rfl, rfl, hq, k0, e, q⟩ := h
  cases ro
  obtain ⟨t, rfl⟩ := ri
  obtain ⟨its, r, pl, hz⟩ := I.list hq
  obtain ⟨u, eu, ru⟩ := r.get e
  have hl := r.length
  have hn := line63
  have hi := (List.getElem?_eq_some_iff.mp e).1
  exact getItem_listL pl.isList k0 (by omega) eu ⟨v, H, I, ru, q⟩
end
/-! ### in a comprehension's block, in an except suite: what is read is told by the outer K -/
theorem pe_bmK (K : Frag) {X : Cx} {T name id : String} {r : V → List V → Hp → VK → Prop} {o e : Expr} {es : List Expr} {to : TE} {t : TA} {apos cpos : Pos} (pa : PlainAttrs T) (slot : Slot T name id) (hty : typeOf (.builtin id) = pure (.type "method_descriptor")) (hm : MtR X id r) (ho : PE X o to) (ha : PA X (e :: es) t)
    (hbase : attributeBase o name X.env (eval o X.env) = eval o X.env := by rfl)
    (hfew : ((backTo cpos (starEach (e :: es) X.env)).all (fun x => !x.1) && (backToKw cpos (keywordEach [] X.env)).all (fun x => x.1.isSome)
      && decide ((e :: es).length + ([] : List Keyword).length + (if ([] : List Keyword).isEmpty then 0 else 1) < 30)) = true := by rfl)
    (hline : (apos.endLine == cpos.line) = true := by rfl) (hs : starEach (e :: es) X.env = (false, eval e X.env) :: starEach es X.env := by rfl) (hplain : (backTo cpos (starEach es X.env)).any (·.1) = false := by rfl) (h : X.K = K := by rfl) :
    PE X (.Call (.Attribute o name apos) (e :: es) [] cpos) (tBM K T r to t) := by subst h; exact pe_bm pa slot hty hm ho ha hbase hfew hline hs hplain
theorem call_lenK (K : Frag) {X : Cx} (h : X.K = K := by rfl) : CallR X (.builtin "len") (fun xs H Q => ∃ p ys, xs = [.ref p] ∧ (SqL K H p ys ∨ SqT K H p ys) ∧ Q (.int (ys.length : Nat)) H) := by subst h; exact call_len_seq
theorem ixl (K : Frag) {X : Cx} (h : X.K = K := by rfl) : IxR X (rIxL K) := by subst h; exact ix_list
theorem ixt (K : Frag) {X : Cx} (h : X.K = K := by rfl) : IxR X (rIxT K) := by subst h; exact ix_tup
theorem cdiv_1 {i : Int} : CDivW i 1 = True := eq_true ⟨by decide, by decide⟩
theorem cdiv_2 {i : Int} : CDivW i 2 = True := eq_true ⟨by decide, by decide⟩
theorem cdiv_3 {i : Int} : CDivW i 3 = True := eq_true ⟨by decide, by decide⟩
theorem cdiv_4 {i : Int} : CDivW i 4 = True := eq_true ⟨by decide, by decide⟩
theorem cdiv_5 {i : Int} : CDivW i 5 = True := eq_true ⟨by decide, by decide⟩
theorem cdiv_6 {i : Int} : CDivW i 6 = True := eq_true ⟨by decide, by decide⟩
theorem cdiv_7 {i : Int} : CDivW i 7 = True := eq_true ⟨by decide, by decide⟩
theorem cdiv_8 {i : Int} : CDivW i 8 = True := eq_true ⟨by decide, by decide⟩
theorem cdiv_9 {i : Int} : CDivW i 9 = True := eq_true ⟨by decide, by decide⟩
theorem cdiv_10 {i : Int} : CDivW i 10 = True := eq_true ⟨by decide, by decide⟩
theorem cdiv_11 {i : Int} : CDivW i 11 = True := eq_true ⟨by decide, by decide⟩
theorem cdiv_12 {i : Int} : CDivW i 12 = True := eq_true ⟨by decide, by decide⟩
theorem cdiv_13 {i : Int} : CDivW i 13 = True := eq_true ⟨by decide, by decide⟩
theorem cdiv_14 {i : Int} : CDivW i 14 = True := eq_true ⟨by decide, by decide⟩
theorem cdiv_16 {i : Int} : CDivW i 16 = True := eq_true ⟨by decide, by decide⟩
theorem cdiv_20 {i : Int} : CDivW i 20 = True := eq_true ⟨by decide, by decide⟩
theorem cdiv_30 {i : Int} : CDivW i 30 = True := eq_true ⟨by decide, by decide⟩
theorem cdiv_50 {i : Int} : CDivW i 50 = True := eq_true ⟨by decide, by decide⟩
theorem cdiv_60 {i : Int} : CDivW i 60 = True := eq_true ⟨by decide, by decide⟩
theorem cdiv_64 {i : Int} : CDivW i 64 = True := eq_true ⟨by decide, by decide⟩
theorem cdiv_100 {i : Int} : CDivW i 100 = True := eq_true ⟨by decide, by decide⟩
theorem cdiv_400 {i : Int} : CDivW i 400 = True := eq_true ⟨by decide, by decide⟩
theorem cdiv_1000 {i : Int} : CDivW i 1000 = True := eq_true ⟨by decide, by decide⟩
theorem cdiv_2000 {i : Int} : CDivW i 2000 = True := eq_true ⟨by decide, by decide⟩
theorem cdiv_10000 {i : Int} : CDivW i 10000 = True := eq_true ⟨by decide, by decide⟩
theorem cdiv_1000000 {i : Int} : CDivW i 1000000 = True := eq_true ⟨by decide, by decide⟩
theorem sz_0 : (0 ≤ sizeLine) = True := eq_true (by decide)
theorem szl_0 : (0 < sizeLine) = True := eq_true (by decide)
theorem sz_1 : (1 ≤ sizeLine) = True := eq_true (by decide)
theorem szl_1 : (1 < sizeLine) = True := eq_true (by decide)
theorem sz_2 : (2 ≤ sizeLine) = True := eq_true (by decide)
theorem szl_2 : (2 < sizeLine) = True := eq_true (by decide)
theorem sz_3 : (3 ≤ sizeLine) = True := eq_true (by decide)
theorem szl_3 : (3 < sizeLine) = True := eq_true (by decide)
theorem sz_4 : (4 ≤ sizeLine) = True := eq_true (by decide)
theorem szl_4 : (4 < sizeLine) = True := eq_true (by decide)
theorem sz_5 : (5 ≤ sizeLine) = True := eq_true (by decide)
theorem szl_5 : (5 < sizeLine) = True := eq_true (by decide)
theorem sz_6 : (6 ≤ sizeLine) = True := eq_true (by decide)
theorem szl_6 : (6 < sizeLine) = True := eq_true (by decide)
theorem sz_7 : (7 ≤ sizeLine) = True := eq_true (by decide)
theorem szl_7 : (7 < sizeLine) = True := eq_true (by decide)
theorem sz_8 : (8 ≤ sizeLine) = True := eq_true (by decide)
theorem szl_8 : (8 < sizeLine) = True := eq_true (by decide)
theorem sz_9 : (9 ≤ sizeLine) = True := eq_true (by decide)
theorem szl_9 : (9 < sizeLine) = True := eq_true (by decide)
theorem sz_10 : (10 ≤ sizeLine) = True := eq_true (by decide)
theorem szl_10 : (10 < sizeLine) = True := eq_true (by decide)
theorem sz_11 : (11 ≤ sizeLine) = True := eq_true (by decide)
theorem szl_11 : (11 < sizeLine) = True := eq_true (by decide)
theorem sz_12 : (12 ≤ sizeLine) = True := eq_true (by decide)
theorem szl_12 : (12 < sizeLine) = True := eq_true (by decide)
theorem sz_13 : (13 ≤ sizeLine) = True := eq_true (by decide)
theorem szl_13 : (13 < sizeLine) = True := eq_true (by decide)
theorem sz_14 : (14 ≤ sizeLine) = True := eq_true (by decide)
theorem szl_14 : (14 < sizeLine) = True := eq_true (by decide)
theorem sz_15 : (15 ≤ sizeLine) = True := eq_true (by decide)
theorem szl_15 : (15 < sizeLine) = True := eq_true (by decide)
theorem sz_16 : (16 ≤ sizeLine) = True := eq_true (by decide)
theorem szl_16 : (16 < sizeLine) = True := eq_true (by decide)
theorem sz_17 : (17 ≤ sizeLine) = True := eq_true (by decide)
theorem szl_17 : (17 < sizeLine) = True := eq_true (by decide)
theorem sz_18 : (18 ≤ sizeLine) = True := eq_true (by decide)
theorem szl_18 : (18 < sizeLine) = True := eq_true (by decide)
theorem sz_19 : (19 ≤ sizeLine) = True := eq_true (by decide)
theorem szl_19 : (19 < sizeLine) = True := eq_true (by decide)
theorem sz_20 : (20 ≤ sizeLine) = True := eq_true (by decide)
theorem szl_20 : (20 < sizeLine) = True := eq_true (by decide)
theorem sz_21 : (21 ≤ sizeLine) = True := eq_true (by decide)
theorem szl_21 : (21 < sizeLine) = True := eq_true (by decide)
theorem sz_22 : (22 ≤ sizeLine) = True := eq_true (by decide)
theorem szl_22 : (22 < sizeLine) = True := eq_true (by decide)
theorem sz_23 : (23 ≤ sizeLine) = True := eq_true (by decide)
theorem szl_23 : (23 < sizeLine) = True := eq_true (by decide)
theorem sz_24 : (24 ≤ sizeLine) = True := eq_true (by decide)
theorem szl_24 : (24 < sizeLine) = True := eq_true (by decide)
theorem sz_25 : (25 ≤ sizeLine) = True := eq_true (by decide)
theorem szl_25 : (25 < sizeLine) = True := eq_true (by decide)
theorem sz_26 : (26 ≤ sizeLine) = True := eq_true (by decide)
theorem szl_26 : (26 < sizeLine) = True := eq_true (by decide)
theorem cdivw {i j : Int} (h0 : 0 < j) (h1 : j < 18446744073709551616) : CDivW i j := by
  refine ⟨h0, ?_⟩
  have z : j.natAbs < 2 ^ 64 := by omega
  have := PySem.Flt.log2_lt_of (by decide : 0 < 64) z
  omega
/-! ### small words -/
theorem ne_fresh {H : Hp} {p q : Addr} {o : HO} (h : upd H p o q = none) : q ≠ p := by
  intro e
  subst e
  rw [upd_same] at h
  cases h
theorem fresh_was {H : Hp} {p q : Addr} {o : HO} (h : upd H p o q = none) : H q = none := by
  have e := ne_fresh h
  rw [upd_ne e] at h
  exact h
theorem same_upd {H : Hp} {p : Addr} {o : HO} (h : H p = none) : Same H (upd H p o) := fun b u e => by
  rw [upd_ne (ne_of_none e h)]
  exact e
/-- behind a store to what was not there at first -/
theorem same_mut {H H' : Hp} {p : Addr} {o : HO} (h : H p = none) (k : Same H H') : Same H (upd H' p o) := fun b u e => by
  rw [upd_ne (ne_of_none e h)]
  exact k b u e
theorem same_fresh {H H' : Hp} {p : Addr} (k : Same H H') (h : H' p = none) : H p = none := k.free h
theorem same_tup {K : Frag} {H H' : Hp} {a : Addr} {xs : List V} (e : Same H H') (h : SqT K H a xs) : SqT K H' a xs := by
  rcases h with (h | ⟨o, h⟩) | h
  · exact .inl (.inl (e _ _ h))
  · exact .inl (.inr ⟨o, e _ _ h⟩)
  · exact .inr h
/-- a tuple stays where a list is written -/
theorem tup_keep {H : Hp} {r a : Addr} {xs ys zs : List V} (hr : H r = some (.tup ys)) (ha : H a = some (.lst xs)) : (upd H a (.lst zs)) r = some (.tup ys) := by
  rw [upd_ne (ne_of hr ha (by intro z; cases z))]
  exact hr
theorem bits64 {k : Int} (h1 : -(2 ^ 64) < k) (h2 : k < 2 ^ 64) : Builtin.Int.intBits k ≤ 64 := intBits_le_64 h1 h2
theorem bitsPow {k : Int} {n : Nat} (h0 : 0 < n) (h1 : -(2 ^ n) < k) (h2 : k < 2 ^ n) : Builtin.Int.intBits k ≤ n := by
  have z : k.natAbs < 2 ^ n := by
    have e : ((2 ^ n : Nat) : Int) = (2 : Int) ^ n := by simp
    omega
  unfold Builtin.Int.intBits
  split
  · omega
  · have := PySem.Flt.log2_lt_of h0 z
    omega
theorem bits_mono {i j : Int} (h : i.natAbs ≤ j.natAbs) : Builtin.Int.intBits i ≤ Builtin.Int.intBits j := by
  unfold Builtin.Int.intBits
  by_cases c : i = 0
  · rw [if_pos (beq_iff_eq.mpr c)]
    exact Nat.zero_le _
  · have hj : ¬ j = 0 := by omega
    rw [if_neg (fun z => hj (beq_iff_eq.mp z)), if_neg (fun z => c (beq_iff_eq.mp z))]
    have hi : i.natAbs ≠ 0 := by omega
    have hj' : j.natAbs ≠ 0 := by omega
    have z : i.natAbs.log2 ≤ j.natAbs.log2 := (Nat.le_log2 hj').mpr (Nat.le_trans (Nat.log2_self_le hi) h)
    omega
theorem mulX {i j : Int} {a b : Nat} (h1 : Builtin.Int.intBits i ≤ a) (h2 : Builtin.Int.intBits j ≤ b) (h : a + b ≤ 134217728 := by decide) : CMulX i j := by
  unfold CMulX
  omega
theorem ix_num {K : Frag} {a : Addr} {ns : List Int} {k : Int} {H : Hp} {Q : VK} (hS : SqL K H a (ns.map V.int)) (h : 0 ≤ k ∧ k < (ns.length : Int)) (q : Q (.int (ns.getD k.toNat 0)) H) : rIxL K (.ref a) (.int k) H Q := by
  refine ⟨a, _, k, _, rfl, rfl, hS, ?_, q⟩
  have e : (ns.map V.int)[k.toNat]? = some (V.int (ns.getD k.toNat 0)) := by
    rw [List.getElem?_map, List.getD_eq_getElem?_getD]
    have z : k.toNat < ns.length := by omega
    rw [List.getElem?_eq_getElem z]
    rfl
  exact at_of (j := k.toNat) (by omega) e
theorem ix_at {K : Frag} {a : Addr} {xs : List V} {k : Int} {v : V} {H : Hp} {Q : VK} (hS : SqL K H a xs) (h : 0 ≤ k) (e : xs[k.toNat]? = some v) (q : Q v H) : rIxL K (.ref a) (.int k) H Q :=
  ⟨a, xs, k, v, rfl, rfl, hS, at_of (j := k.toNat) (by omega) e, q⟩
theorem inV_ints {d : Int} : ∀ hs : List Int, inV (.int d) (hs.map V.int) = decide (d ∈ hs)
  | [] => by simp [inV]
  | x :: r => by
    have ih := inV_ints (d := d) r
    unfold inV at ih ⊢
    rw [List.map_cons, List.any_cons, ih]
    by_cases e : x = d
    · subst e; simp [eqV]
    · have e2 : ¬d = x := fun z => e z.symm
      simp [eqV, e, e2]
theorem flat_int (hs : List Int) : (hs.map V.int).all flatV = true := by
  rw [List.all_map]
  exact List.all_eq_true.mpr fun _ _ => rfl
theorem in_ints {K : Frag} {d : Int} {a : Addr} {hs : List Int} {H : Hp} {Q : VK} (hS : SqL K H a (hs.map V.int)) (q : Q (.bl (decide (d ∈ hs))) H) : rIn K false (.int d) (.ref a) H Q :=
  ⟨a, _, rfl, .inl hS, rfl, flat_int hs, by rw [inV_ints]; exact q⟩
theorem nin_ints {K : Frag} {d : Int} {a : Addr} {hs : List Int} {H : Hp} {Q : VK} (hS : SqL K H a (hs.map V.int)) (q : Q (.bl (!decide (d ∈ hs))) H) : rIn K true (.int d) (.ref a) H Q :=
  ⟨a, _, rfl, .inl hS, rfl, flat_int hs, by rw [inV_ints]; exact q⟩
/-- what is known of a number that a law draws -/
theorem num_in {ns : List Int} (hn : ∀ z ∈ ns, 0 ≤ z ∧ z < 10000000000000) (k : Nat) : 0 ≤ ns.getD k 0 ∧ ns.getD k 0 < 10000000000000 := by
  rw [List.getD_eq_getElem?_getD]
  cases e : ns[k]? with
  | none => exact ⟨by decide, by decide⟩
  | some z => exact hn z (List.mem_of_getElem? e)
theorem ix_sign {z : Str} {k : Int} {H : Hp} {Q : VK} (hz : z.length ≤ sizeLine) (h : 0 ≤ k ∧ k < (z.length : Int)) (q : ∀ c, z.cps.toList[k.toNat]? = some c → Q (.str ⟨#[c]⟩) H) : rIxS (.str z) (.int k) H Q := by
  have hl : k.toNat < z.cps.toList.length := by
    rw [Array.length_toList]
    show k.toNat < z.length
    omega
  have e : z.cps.toList[k.toNat]? = some z.cps.toList[k.toNat] := List.getElem?_eq_getElem hl
  refine ⟨z, k, _, rfl, rfl, hz, ?_, q _ e⟩
  unfold atI
  rw [show ixN z.cps.toList.length k = some k.toNat by unfold ixN; rw [if_pos h.1, if_pos (by omega)]]
  exact e
theorem ix_signc {z : Str} {k : Int} {c : Nat} {H : Hp} {Q : VK} (hz : z.length ≤ sizeLine) (h : 0 ≤ k) (e : z.cps.toList[k.toNat]? = some c) (q : Q (.str ⟨#[c]⟩) H) : rIxS (.str z) (.int k) H Q := by
  have hl : k.toNat < z.cps.toList.length := (List.getElem?_eq_some_iff.mp e).1
  refine ⟨z, k, c, rfl, rfl, hz, ?_, q⟩
  unfold atI
  rw [show ixN z.cps.toList.length k = some k.toNat by unfold ixN; rw [if_pos h, if_pos (by omega)]]
  exact e
theorem len_one (c : Nat) : (⟨#[c]⟩ : Str).length = 1 := rfl
theorem ref_num {ns : List Int} {i : Nat} {x : V} (h : (ns.map V.int)[i]? = some x) : ∃ z, ns[i]? = some z ∧ x = .int z := by
  rw [List.getElem?_map] at h
  cases e : ns[i]? with
  | none => rw [e] at h; cases h
  | some z => rw [e] at h; exact ⟨z, rfl, (Option.some.inj h).symm⟩
/-! ### one statement at a time -/
theorem seq_step {t u : TS} {D : Ends} {σ : L2.St} {H : Hp} (h : ∀ U : Ends → L2.St → Hp → Prop, U = u → t { D with nx := U D } σ H) : tSeq t u D σ H := h u rfl
theorem gseq_step {t u : TS} {D : Ends} {i : Nat} {x : V} {σ : L2.St} {H : Hp} (h : ∀ U : Ends → L2.St → Hp → Prop, U = u → t { D with nx := U D } (σ.set i (some x)) H) : gName i x σ H fun σ2 H2 => tSeq t u D σ2 H2 := h u rfl
/-- .. what stands between the two told -/
theorem seq_cut {t u : TS} {D : Ends} {σ : L2.St} {H : Hp} (M : L2.St → Hp → Prop) (h1 : ∀ U : L2.St → Hp → Prop, (∀ σ' H', M σ' H' → U σ' H') → t { D with nx := U } σ H) (h2 : ∀ σ' H', M σ' H' → u D σ' H') : tSeq t u D σ H := h1 (u D) h2
/-! ### a tuple taken apart -/
theorem gtup2 {K : Frag} {p : Addr} {x y : V} {g1 g2 : TG} {σ : L2.St} {H : Hp} {k : L2.St → Hp → Prop} (h : SqT K H p [x, y]) (q : g1 x σ H fun σ1 H1 => g2 y σ1 H1 k) (mono : ∀ v σ H, (∀ Q Q' : L2.St → Hp → Prop, (∀ a b, Q a b → Q' a b) → g1 v σ H Q → g1 v σ H Q') ∧ (∀ Q Q' : L2.St → Hp → Prop, (∀ a b, Q a b → Q' a b) → g2 v σ H Q → g2 v σ H Q')) : gTup K 2 (gCons g1 (gCons g2 gNil)) (.ref p) σ H k :=
  ⟨p, _, rfl, h, rfl, x, [y], rfl, (mono _ _ _).1 _ _ (fun σ1 H1 q1 => ⟨y, [], rfl, (mono _ _ _).2 _ _ (fun _ _ q2 => ⟨rfl, q2⟩) q1⟩) q⟩
theorem gtupN2 {K : Frag} {p : Addr} {x y : V} {i j : Nat} {σ : L2.St} {H : Hp} {k : L2.St → Hp → Prop} (h : SqT K H p [x, y]) (q : k ((σ.set i (some x)).set j (some y)) H) : gTup K 2 (gCons (gName i) (gCons (gName j) gNil)) (.ref p) σ H k :=
  ⟨p, _, rfl, h, rfl, x, [y], rfl, y, [], rfl, rfl, q⟩
theorem gtupN3 {K : Frag} {p : Addr} {x y z : V} {i j l : Nat} {σ : L2.St} {H : Hp} {k : L2.St → Hp → Prop} (h : SqT K H p [x, y, z]) (q : k (((σ.set i (some x)).set j (some y)).set l (some z)) H) : gTup K 3 (gCons (gName i) (gCons (gName j) (gCons (gName l) gNil))) (.ref p) σ H k :=
  ⟨p, _, rfl, h, rfl, x, [y, z], rfl, y, [z], rfl, z, [], rfl, rfl, q⟩
/-! ### lists of texts, lists of ints compared -/
theorem dp_strs {K : Frag} {H : Hp} : ∀ xs : List Str, DpAll K H (xs.map V.str) (xs.map PyData.str)
  | [] => .nil
  | x :: r => .cons (.str x) (dp_strs r)
theorem dp_ints {K : Frag} {H : Hp} : ∀ xs : List Int, DpAll K H (xs.map V.int) (xs.map PyData.int)
  | [] => .nil
  | x :: r => .cons (.int x) (dp_ints r)
theorem eqv_strs : ∀ xs ys : List Str, PyData.eqvAll (xs.map PyData.str) (ys.map PyData.str) = decide (xs = ys)
  | [], [] => by simp [PyData.eqvAll]
  | [], y :: ys => by simp [PyData.eqvAll]
  | x :: xs, [] => by simp [PyData.eqvAll]
  | x :: xs, y :: ys => by
    have ih := eqv_strs xs ys
    simp only [List.map_cons, PyData.eqvAll, PyData.eqv, ih, List.cons.injEq]
    by_cases e : x = y <;> simp [e]
theorem eqv_ints : ∀ xs ys : List Int, PyData.eqvAll (xs.map PyData.int) (ys.map PyData.int) = decide (xs = ys)
  | [], [] => by simp [PyData.eqvAll]
  | [], y :: ys => by simp [PyData.eqvAll]
  | x :: xs, [] => by simp [PyData.eqvAll]
  | x :: xs, y :: ys => by
    have ih := eqv_ints xs ys
    simp only [List.map_cons, PyData.eqvAll, PyData.eqv, ih, List.cons.injEq]
    by_cases e : x = y <;> simp [e]
theorem lay_strs : ∀ xs : List Str, xs.all PyData.strOk = true → PyData.canLayAll0 (xs.map PyData.str) = true
  | [], _ => rfl
  | x :: r, h => by
    rw [List.all_cons, Bool.and_eq_true] at h
    simp only [List.map_cons, PyData.canLayAll0, PyData.canLay0, h.1, lay_strs r h.2, Bool.and_self]
theorem lay_ints : ∀ xs : List Int, PyData.canLayAll0 (xs.map PyData.int) = true
  | [] => rfl
  | x :: r => by simp only [List.map_cons, PyData.canLayAll0, PyData.canLay0, lay_ints r, Bool.and_self]
theorem flat_strs : ∀ xs : List Str, PyData.depthAll (xs.map PyData.str) = 0
  | [] => rfl
  | x :: r => by simp only [List.map_cons, PyData.depthAll, PyData.depth, flat_strs r, Nat.max_self]
theorem flat_ints : ∀ xs : List Int, PyData.depthAll (xs.map PyData.int) = 0
  | [] => rfl
  | x :: r => by simp only [List.map_cons, PyData.depthAll, PyData.depth, flat_ints r, Nat.max_self]
theorem shaped_strs {xs : List Str} (h : xs.all PyData.strOk = true) : SeqAt.shaped (.list (xs.map PyData.str)) = true := by
  unfold SeqAt.shaped
  simp only [PyData.canLay0, lay_strs xs h, PyData.depth, flat_strs, Bool.true_and]
  decide
theorem shaped_ints {xs : List Int} : SeqAt.shaped (.list (xs.map PyData.int)) = true := by
  unfold SeqAt.shaped
  simp only [PyData.canLay0, lay_ints xs, PyData.depth, flat_ints, Bool.true_and]
  decide
theorem ne_strs {K : Frag} {H : Hp} {p q : Addr} {xs ys : List Str} {Q : VK} (hp : SqL K H p (xs.map V.str)) (hq : SqL K H q (ys.map V.str)) (ox : xs.all PyData.strOk = true) (oy : ys.all PyData.strOk = true) (k : Q (.bl (!decide (xs = ys))) H) : rNeD K (.ref p) (.ref q) H Q :=
  ⟨_, _, .lst hp (dp_strs xs), .lst hq (dp_strs ys), shaped_strs ox, shaped_strs oy, by simp only [PyData.eqv, eqv_strs]; exact k⟩
theorem eq_strs {K : Frag} {H : Hp} {p q : Addr} {xs ys : List Str} {Q : VK} (hp : SqL K H p (xs.map V.str)) (hq : SqL K H q (ys.map V.str)) (ox : xs.all PyData.strOk = true) (oy : ys.all PyData.strOk = true) (k : Q (.bl (decide (xs = ys))) H) : rEqD K (.ref p) (.ref q) H Q :=
  ⟨_, _, .lst hp (dp_strs xs), .lst hq (dp_strs ys), shaped_strs ox, shaped_strs oy, by simp only [PyData.eqv, eqv_strs]; exact k⟩
theorem ne_ints {K : Frag} {H : Hp} {p q : Addr} {xs ys : List Int} {Q : VK} (hp : SqL K H p (xs.map V.int)) (hq : SqL K H q (ys.map V.int)) (k : Q (.bl (!decide (xs = ys))) H) : rNeD K (.ref p) (.ref q) H Q :=
  ⟨_, _, .lst hp (dp_ints xs), .lst hq (dp_ints ys), shaped_ints, shaped_ints, by simp only [PyData.eqv, eqv_ints]; exact k⟩
theorem eq_ints {K : Frag} {H : Hp} {p q : Addr} {xs ys : List Int} {Q : VK} (hp : SqL K H p (xs.map V.int)) (hq : SqL K H q (ys.map V.int)) (k : Q (.bl (decide (xs = ys))) H) : rEqD K (.ref p) (.ref q) H Q :=
  ⟨_, _, .lst hp (dp_ints xs), .lst hq (dp_ints ys), shaped_ints, shaped_ints, by simp only [PyData.eqv, eqv_ints]; exact k⟩
/-- kinds as a law compares them -/
theorem ne_kind {K : Frag} {H : Hp} {p q : Addr} {x : Str} {Q : VK} (hp : H p = some (.lst [.str x])) (hq : H q = some (.lst [.str x])) (ox : PyData.strOk x = true) (k : Q (.bl false) H) : rNeD K (.ref p) (.ref q) H Q :=
  ne_strs (xs := [x]) (ys := [x]) (SqL.of hp) (SqL.of hq) (by simp [ox]) (by simp [ox]) (by simpa using k)
theorem shaped_of {d : PyData} (h1 : PyData.canLay0 d = true) (h2 : d.depth ≤ 64) : SeqAt.shaped d = true := by
  unfold SeqAt.shaped
  rw [h1, Bool.true_and]
  exact decide_eq_true h2
/-- two that say the same -/
theorem ne_same {K : Frag} {H : Hp} {x y : V} {d : PyData} {Q : VK} (hx : Dp K H x d) (hy : Dp K H y d) (hs : SeqAt.shaped d = true) (he : PyData.eqv d d = true) (k : Q (.bl false) H) : rNeD K x y H Q :=
  ⟨d, d, hx, hy, hs, hs, by rw [he]; exact k⟩
theorem eq_same {K : Frag} {H : Hp} {x y : V} {d : PyData} {Q : VK} (hx : Dp K H x d) (hy : Dp K H y d) (hs : SeqAt.shaped d = true) (he : PyData.eqv d d = true) (k : Q (.bl true) H) : rEqD K x y H Q :=
  ⟨d, d, hx, hy, hs, hs, by rw [he]; exact k⟩
theorem dp_3 {K : Frag} {H : Hp} {t : Addr} {a b c : Int} (ht : SqT K H t [.int a, .int b, .int c]) : Dp K H (.ref t) (.tuple [.int a, .int b, .int c]) :=
  .tup ht (.cons (.int _) (.cons (.int _) (.cons (.int _) .nil)))
theorem dp_pair {K : Frag} {H : Hp} {t l : Addr} {x y : V} {d e : PyData} (ht : SqT K H t [x, .ref l]) (hx : Dp K H x d) (hl : SqL K H l [y]) (hy : Dp K H y e) : Dp K H (.ref t) (.tuple [d, .list [e]]) :=
  .tup ht (.cons hx (.cons (.lst hl (.cons hy .nil)) .nil))
/-! ### loops -/
theorem tfor_range1 {ta : TA} {g : TG} {tb : TS} {D : Ends} {σ : L2.St} {H : Hp} {n : Int} (ha : ∀ Q : List V → Hp → Prop, Q [.int n] H → ta σ H Q) (hn : -1000000 ≤ n ∧ n ≤ 1000000) (Pv : Nat → L2.St → Hp → Prop) (h0 : Pv 0 σ H)
    (hs : ∀ (i : Nat) σ' H', (i : Int) < n → Pv i σ' H' → g (.int (i : Int)) σ' H' fun σ2 H2 => tb { D with nx := Pv (i + 1), ct := Pv (i + 1), bk := D.nx } σ2 H2) (hd : ∀ σ' H', Pv n.toNat σ' H' → D.nx σ' H') : tFor (iRng1 ta) g tb D σ H :=
  ha _ ⟨n, rfl, by omega, by omega, for_range (lo := 0) (n := n.toNat) Pv h0 (fun i σ' H' hi p => by
    rw [Int.zero_add]
    exact hs i σ' H' (by omega) p) hd⟩
theorem tfor_range2 {ta : TA} {g : TG} {tb : TS} {D : Ends} {σ : L2.St} {H : Hp} {lo hi : Int} (ha : ∀ Q : List V → Hp → Prop, Q [.int lo, .int hi] H → ta σ H Q) (hn : -1000000 ≤ lo ∧ lo ≤ 1000000 ∧ -1000000 ≤ hi ∧ hi ≤ 1000000) (Pv : Nat → L2.St → Hp → Prop) (h0 : Pv 0 σ H)
    (hs : ∀ (i : Nat) σ' H', lo + (i : Int) < hi → Pv i σ' H' → g (.int (lo + (i : Int))) σ' H' fun σ2 H2 => tb { D with nx := Pv (i + 1), ct := Pv (i + 1), bk := D.nx } σ2 H2) (hd : ∀ σ' H', Pv (hi - lo).toNat σ' H' → D.nx σ' H') : tFor (iRng2 ta) g tb D σ H :=
  ha _ ⟨lo, hi, rfl, ⟨by omega, by omega, by omega, by omega⟩, for_range (lo := lo) (n := (hi - lo).toNat) Pv h0 (fun i σ' H' hi p => hs i σ' H' (by omega) p) hd⟩
theorem tfor_lvar {K : Frag} {j : Nat} {a : Addr} {xs : List V} {g : TG} {tb : TS} {D : Ends} {σ : L2.St} {H : Hp} (hj : σ[j]? = some (some (.ref a))) (hS : SqL K H a xs) (Pv : Nat → L2.St → Hp → Prop) (h0 : Pv 0 σ H) (hl : ∀ i σ' H', i ≤ xs.length → Pv i σ' H' → SqL K H' a xs)
    (hs : ∀ i x σ' H', xs[i]? = some x → Pv i σ' H' → g x σ' H' fun σ2 H2 => tb { D with nx := Pv (i + 1), ct := Pv (i + 1), bk := D.nx } σ2 H2) (hd : ∀ σ' H', Pv xs.length σ' H' → D.nx σ' H') : tFor (iList K (tVar j)) g tb D σ H :=
  ⟨_, hj, a, rfl, ⟨xs, hS⟩, for_list (xs := xs) Pv h0 hl hs hd⟩
theorem tfor_five {K : Frag} {j : Nat} {n : Int} {a : Addr} {xs : List V} {g : TG} {tb : TS} {D : Ends} {σ : L2.St} {H : Hp} (hj : σ[j]? = some (some (.ref a))) (hS : SqL K H a xs) (hz : xs.length ≤ 100000)
    (h : ∀ b H1, Same H H1 → H1 b = some (.lst (.int n :: xs)) → H b = none → ∃ Pv : Nat → L2.St → Hp → Prop, Pv 0 σ H1 ∧ (∀ i σ' H', i ≤ (V.int n :: xs).length → Pv i σ' H' → SqL K H' b (.int n :: xs)) ∧
    (∀ i x σ' H', (V.int n :: xs)[i]? = some x → Pv i σ' H' → g x σ' H' fun σ2 H2 => tb { D with nx := Pv (i + 1), ct := Pv (i + 1), bk := D.nx } σ2 H2) ∧ (∀ σ' H', Pv (V.int n :: xs).length σ' H' → D.nx σ' H')) :
    tFor (iList K (tOp (rCatS K) (tLst (tCons (tC (.int n)) tNil)) (tVar j))) g tb D σ H := by
  refine ⟨by show 1 ≤ sizeLine; decide, fun p hp => ⟨_, hj, p, a, [.int n], xs, rfl, rfl, SqL.of upd_same, (same_upd hp).seq hS, ?_, fun b hb => ?_⟩⟩
  · show 1 + xs.length ≤ sizeLine
    exact Nat.le_trans (show 1 + xs.length ≤ 100001 by omega) (by decide)
  · have s2 : Same H (upd (upd H p (.lst [.int n])) b (.lst ([.int n] ++ xs))) := (same_upd hp).trans (same_upd hb)
    obtain ⟨Pv, h0, hl, hs, hd⟩ := h b _ s2 upd_same (fresh_was hb)
    exact ⟨b, rfl, ⟨_, SqL.of upd_same⟩, for_list (xs := V.int n :: xs) Pv h0 hl hs hd⟩
theorem tfor_list {K : Frag} {tl : TE} {g : TG} {tb : TS} {D : Ends} {σ : L2.St} {H : Hp}
    (h : tl σ H fun x H1 => ∃ a xs, x = .ref a ∧ SqL K H1 a xs ∧ ∃ Pv : Nat → L2.St → Hp → Prop, Pv 0 σ H1 ∧ (∀ i σ' H', i ≤ xs.length → Pv i σ' H' → SqL K H' a xs) ∧
      (∀ i x σ' H', xs[i]? = some x → Pv i σ' H' → g x σ' H' fun σ2 H2 => tb { D with nx := Pv (i + 1), ct := Pv (i + 1), bk := D.nx } σ2 H2) ∧ ∀ σ' H', Pv xs.length σ' H' → D.nx σ' H')
    (mono : ∀ Q Q' : VK, (∀ v H', Q v H' → Q' v H') → tl σ H Q → tl σ H Q') : tFor (iList K tl) g tb D σ H :=
  mono _ _ (fun v H' ⟨a, xs, e, hS, Pv, h0, hl, hs, hd⟩ => ⟨a, e, ⟨xs, hS⟩, for_list (xs := xs) Pv h0 hl hs hd⟩) h
theorem tfor_disp {K : Frag} {ta : TA} (vs : List V) {g : TG} {tb : TS} {D : Ends} {σ : L2.St} {H : Hp} (hz : vs.length ≤ 1000) (ha : ∀ Q : List V → Hp → Prop, (∀ H1, Same H H1 → Q vs H1) → ta σ H Q)
    (h : ∀ b H1, Same H H1 → H1 b = some (.lst vs) → H b = none → ∃ Pv : Nat → L2.St → Hp → Prop, Pv 0 σ H1 ∧ (∀ i σ' H', Pv i σ' H' → SqL K H' b vs) ∧
    (∀ i x σ' H', vs[i]? = some x → Pv i σ' H' → g x σ' H' fun σ2 H2 => tb { D with nx := Pv (i + 1), ct := Pv (i + 1), bk := D.nx } σ2 H2) ∧ (∀ σ' H', Pv vs.length σ' H' → D.nx σ' H')) :
    tFor (iList K (tLst ta)) g tb D σ H :=
  ha _ fun H1 s1 => ⟨Nat.le_trans hz (by decide), fun p hp => by
    obtain ⟨Pv, h0, hl, hs, hd⟩ := h p _ (s1.trans (same_upd hp)) upd_same (s1.free hp)
    exact ⟨p, rfl, ⟨_, SqL.of upd_same⟩, for_list (xs := vs) Pv h0 (fun i σ' H' _ => hl i σ' H') hs hd⟩⟩
/-! ### any walk -/
def ForGoal (J : It) (g : TG) (tb : TS) (D : Ends) (σ : L2.St) (H : Hp) : Prop :=
  ∃ W : Nat → Nat → L2.St → Hp → Prop, (∃ m, W 0 m σ H) ∧ ∀ i m σ H, W i m σ H →
      (J.stop i H ∧ D.nx σ H) ∨ (J.go i H ∧ ∃ N : L2.St → Hp → Prop, (∀ σ' H', N σ' H' → ∃ m', m' < m ∧ W (i + 1) m' σ' H') ∧ ∀ x H', J.yld i H x H' → g x σ H' fun σ2 H2 => tb { D with nx := N, ct := N, bk := D.nx } σ2 H2)
theorem tFor_eq {wi : TI} {g : TG} {tb : TS} {D : Ends} {σ : L2.St} {H : Hp} : tFor wi g tb D σ H = wi σ H fun J H1 => ForGoal J g tb D σ H1 := rfl
theorem for_go {J : It} {n : Nat} {G : Hp → Prop} {Y : Nat → Hp → V → Hp → Prop} (w : Walk J n G Y) {g : TG} {tb : TS} {D : Ends} {σ : L2.St} {H : Hp} (Pv : Nat → L2.St → Hp → Prop) (h0 : Pv 0 σ H) (hG : ∀ i σ H, i ≤ n → Pv i σ H → G H)
    (hs : ∀ i x σ H H', i < n → Pv i σ H → Y i H x H' → g x σ H' fun σ2 H2 => tb { D with nx := Pv (i + 1), ct := Pv (i + 1), bk := D.nx } σ2 H2) (hd : ∀ σ H, Pv n σ H → D.nx σ H) : ForGoal J g tb D σ H := for_it w Pv h0 hG hs hd
theorem for_rng {lo : Int} {n : Nat} {g : TG} {tb : TS} {D : Ends} {σ : L2.St} {H : Hp} (Pv : Nat → L2.St → Hp → Prop) (h0 : Pv 0 σ H)
    (hs : ∀ (i : Nat) σ H, i < n → Pv i σ H → g (.int (lo + (i : Int))) σ H fun σ2 H2 => tb { D with nx := Pv (i + 1), ct := Pv (i + 1), bk := D.nx } σ2 H2) (hd : ∀ σ H, Pv n σ H → D.nx σ H) : ForGoal (Itr lo n) g tb D σ H := for_range Pv h0 hs hd
theorem for_rng0 {n : Nat} {g : TG} {tb : TS} {D : Ends} {σ : L2.St} {H : Hp} (Pv : Nat → L2.St → Hp → Prop) (h0 : Pv 0 σ H)
    (hs : ∀ (i : Nat) σ H, i < n → Pv i σ H → g (.int (i : Int)) σ H fun σ2 H2 => tb { D with nx := Pv (i + 1), ct := Pv (i + 1), bk := D.nx } σ2 H2) (hd : ∀ σ H, Pv n σ H → D.nx σ H) : ForGoal (Itr 0 n) g tb D σ H :=
  for_range Pv h0 (fun i σ H hi p => by rw [Int.zero_add]; exact hs i σ H hi p) hd
theorem for_lst {K : Frag} {a : Addr} (xs : List V) {g : TG} {tb : TS} {D : Ends} {σ : L2.St} {H : Hp} (Pv : Nat → L2.St → Hp → Prop) (h0 : Pv 0 σ H) (hl : ∀ i σ H, Pv i σ H → SqL K H a xs)
    (hs : ∀ (i : Nat) x σ H, xs[i]? = some x → Pv i σ H → g x σ H fun σ2 H2 => tb { D with nx := Pv (i + 1), ct := Pv (i + 1), bk := D.nx } σ2 H2) (hd : ∀ σ H, Pv xs.length σ H → D.nx σ H) : ForGoal (Itl K a) g tb D σ H :=
  for_list Pv h0 (fun i σ H _ p => hl i σ H p) hs hd
theorem for_zp {K : Frag} {a b : Addr} (xs ys : List V) (n : Nat) (hn : n = min xs.length ys.length) {g : TG} {tb : TS} {D : Ends} {σ : L2.St} {H : Hp} (Pv : Nat → L2.St → Hp → Prop) (h0 : Pv 0 σ H) (hG : ∀ i σ H, Pv i σ H → SqL K H a xs ∧ SqL K H b ys)
    (hs : ∀ (i : Nat) x y (T : Addr) σ H, i < n → xs[i]? = some x → ys[i]? = some y → Pv i σ H → H T = none → g (.ref T) σ (upd H T (.tup [x, y])) fun σ2 H2 => tb { D with nx := Pv (i + 1), ct := Pv (i + 1), bk := D.nx } σ2 H2) (hd : ∀ σ H, Pv n σ H → D.nx σ H) : ForGoal (Itz K a b) g tb D σ H :=
  for_go (walk_zip hn) Pv h0 (fun i σ H _ p => hG i σ H p) (fun i v σ H H' hi p y => by obtain ⟨T, x, y, rfl, hT, rfl, hx, hy⟩ := y; exact hs i x y T σ H hi hx hy p hT) hd
theorem for_en {K : Frag} {a : Addr} (xs : List V) {g : TG} {tb : TS} {D : Ends} {σ : L2.St} {H : Hp} (Pv : Nat → L2.St → Hp → Prop) (h0 : Pv 0 σ H) (hG : ∀ i σ H, Pv i σ H → SqL K H a xs)
    (hs : ∀ (i : Nat) x (T : Addr) σ H, xs[i]? = some x → Pv i σ H → H T = none → g (.ref T) σ (upd H T (.tup [.int (i : Int), x])) fun σ2 H2 => tb { D with nx := Pv (i + 1), ct := Pv (i + 1), bk := D.nx } σ2 H2) (hd : ∀ σ H, Pv xs.length σ H → D.nx σ H) : ForGoal (Ite K a) g tb D σ H :=
  for_go walk_enum Pv h0 (fun i σ H _ p => hG i σ H p) (fun i v σ H H' hi p y => by obtain ⟨T, x, y, rfl, hT, rfl, hx, hy⟩ := y; cases hx; exact hs i y T σ H hy p hT) hd
/-- the law's own loop, over [n] + script -/
theorem for_cells {K : Frag} {H0 : Hp} {n : Int} {b : Addr} {ns : List Int} {g : TG} {tb : TS} {D : Ends} {σ : L2.St} (hb : H0 b = some (.lst (.int n :: ns.map V.int))) (hn : Builtin.Int.intBits n ≤ 64) (hz : ∀ z ∈ ns, Builtin.Int.intBits z ≤ 1048576) (J : L2.St → Hp → Prop) (h0 : J σ H0) (hl : ∀ σ H, J σ H → Same H0 H)
    (hs : ∀ z σ H, Builtin.Int.intBits z ≤ 1048576 → J σ H → g (.int z) σ H fun σ2 H2 => tb { D with nx := J, ct := J, bk := D.nx } σ2 H2) (hd : ∀ σ H, J σ H → D.nx σ H) : ForGoal (Itl K b) g tb D σ H0 := by
  refine for_lst (.int n :: ns.map V.int) (fun _ => J) h0 (fun _ σ H j => SqL.of (hl σ H j _ _ hb)) (fun i x σ H e j => ?_) hd
  cases i with
  | zero => cases e; exact hs n σ H (Nat.le_trans hn (by decide)) j
  | succ i =>
    obtain ⟨z, e1, rfl⟩ := ref_num (ns := ns) (i := i) e
    exact hs z σ H (hz z (List.mem_of_getElem? e1)) j
theorem tfor_cells {K : Frag} {j : Nat} {n : Int} {a : Addr} {ns : List Int} {g : TG} {tb : TS} {D : Ends} {σ : L2.St} {H0 : Hp} (hj : σ[j]? = some (some (.ref a))) (hS : SqL K H0 a (ns.map V.int)) (hz : ns.length ≤ 63)
    (h : ∀ b H1, Same H0 H1 → H1 b = some (.lst (.int n :: ns.map V.int)) → ForGoal (Itl K b) g tb D σ H1) :
    tFor (iList K (tOp (rCatS K) (tLst (tCons (tC (.int n)) tNil)) (tVar j))) g tb D σ H0 := by
  refine ⟨by show 1 ≤ sizeLine; decide, fun p hp => ⟨_, hj, p, a, [.int n], ns.map V.int, rfl, rfl, SqL.of upd_same, (same_upd hp).seq hS, ?_, fun b hb => ⟨b, rfl, ⟨_, SqL.of upd_same⟩, h b _ ((same_upd hp).trans (same_upd hb)) upd_same⟩⟩⟩
  rw [List.length_map]
  exact Nat.le_trans (show 1 + ns.length ≤ 100 by omega) (by decide)
theorem for_tp {K : Frag} {a : Addr} (xs : List V) {g : TG} {tb : TS} {D : Ends} {σ : L2.St} {H : Hp} (Pv : Nat → L2.St → Hp → Prop) (h0 : Pv 0 σ H) (hl : ∀ i σ H, Pv i σ H → SqT K H a xs)
    (hs : ∀ (i : Nat) x σ H, xs[i]? = some x → Pv i σ H → g x σ H fun σ2 H2 => tb { D with nx := Pv (i + 1), ct := Pv (i + 1), bk := D.nx } σ2 H2) (hd : ∀ σ H, Pv xs.length σ H → D.nx σ H) : ForGoal (Itt K a) g tb D σ H :=
  for_tup Pv h0 (fun i σ H _ p => hl i σ H p) hs hd
theorem while_cps {c : TT} {tb : TS} {D : Ends} {σ : L2.St} {H : Hp} (Pv : L2.St → Hp → Prop) (μ : L2.St → Hp → Nat) (h0 : Pv σ H)
    (hs : ∀ σ' H', Pv σ' H' → ∀ U : Bool → Hp → Prop, (∀ H1, tb { D with nx := fun σ2 H2 => Pv σ2 H2 ∧ μ σ2 H2 < μ σ' H', ct := fun σ2 H2 => Pv σ2 H2 ∧ μ σ2 H2 < μ σ' H', bk := D.nx } σ' H1 → U true H1) → (∀ H1, D.nx σ' H1 → U false H1) → c σ' H' U) : tWhile c tb D σ H := by
  refine ⟨fun m σ H => m = μ σ H ∧ Pv σ H, ⟨_, rfl, h0⟩, ?_⟩
  rintro m σ H ⟨rfl, p⟩
  refine hs σ H p _ (fun H1 h => ?_) (fun H1 h => ?_)
  · show if true = true then _ else _
    rw [if_pos rfl]
    exact ⟨_, fun σ' H' ⟨p', l⟩ => ⟨_, l, rfl, p'⟩, h⟩
  · show if false = true then _ else _
    rw [if_neg (by decide)]
    exact h
def LcGoal (J : It) (g : TG) (tt : TT) (te : TE) (vs : List Nat) (σ : L2.St) (H1 : Hp) (Q : VK) : Prop := ∀ D, H1 D = none → ∃ W : Nat → Nat → Hp → Prop, (∃ m, W 0 m (upd H1 D (.lst []))) ∧ ∀ i m H, W i m H →
  (J.stop i H ∧ Q (.ref D) H) ∨ (J.go i H ∧ ∃ Nx : Hp → Prop, (∀ H', Nx H' → ∃ m', m' < m ∧ W (i + 1) m' H') ∧ ∀ x H', J.yld i H x H' → g x (wipe σ vs) H' fun σ2 H2 => wipe σ2 vs = wipe σ vs ∧ tt σ2 H2 fun b H3 =>
    if b = true then te σ2 H3 fun y H4 => ∃ acc, H4 D = some (.lst acc) ∧ acc.length < sizeLine ∧ Nx (upd H4 D (.lst (acc ++ [y]))) else Nx H3)
theorem tLc_eq {wi : TI} {g : TG} {tt : TT} {te : TE} {vs : List Nat} {σ : L2.St} {H : Hp} {Q : VK} : tLc wi g tt te vs σ H Q = wi σ H fun J H1 => LcGoal J g tt te vs σ H1 Q := rfl
/-- a comprehension without a test; what is told of the i-th item is told in a heap that only grows -/
theorem lc_go {J : It} {n : Nat} {G : Hp → Prop} {Y : Nat → Hp → V → Hp → Prop} (w : Walk J n G Y) {g : TG} {te : TE} {vs : List Nat} {σ : L2.St} {H1 : Hp} {Q : VK} (R : Nat → V → Hp → Prop) (hn : n < sizeLine)
    (hR : ∀ i y H H' D, H1 D = none → (∃ xs, H D = some (.lst xs)) → Same H1 H → R i y H → (∀ b o, b ≠ D → H b = some o → H' b = some o) → R i y H') (hG : ∀ H, Same H1 H → G H)
    (hs : ∀ i x H H' D (U : VK), i < n → H1 D = none → (∃ xs, H D = some (.lst xs)) → Same H1 H → Y i H x H' → (∀ y H4, R i y H4 → Same H H4 → U y H4) → g x (wipe σ vs) H' fun σ2 H2 => wipe σ2 vs = wipe σ vs ∧ te σ2 H2 U)
    (hd : ∀ p ys H, H1 p = none → Same H1 H → ys.length = n → (∀ i y, ys[i]? = some y → R i y H) → H p = some (.lst ys) → Q (.ref p) H) : LcGoal J g tYes te vs σ H1 Q := by
  intro D hD
  refine lc_it w (Pv := fun i H => Same H1 H ∧ ∃ ys : List V, H D = some (.lst ys) ∧ ys.length = i ∧ ∀ (j : Nat) y, ys[j]? = some y → R j y H) ⟨same_upd hD, [], upd_same, rfl, fun j y e => by simp at e⟩ (fun i H hi p => hG H p.1) ?_ ?_
  · rintro i x H H' hi ⟨s1, ys, hy, hl, hr⟩ y
    refine hs i x H H' D _ hi hD ⟨_, hy⟩ s1 y fun y2 H4 r s2 => ?_
    have g0 : ∀ b o, b ≠ D → H b = some o → (upd H4 D (HO.lst (ys ++ [y2]))) b = some o := fun b o hb e => by rw [upd_ne hb]; exact s2 _ _ e
    refine ⟨ys, s2 _ _ hy, by omega, fun b o e => ?_, ys ++ [y2], upd_same, by simp [hl], fun j y3 e => ?_⟩
    · have hb : b ≠ D := ne_of_none e hD
      rw [upd_ne hb]
      exact s2 _ _ (s1 _ _ e)
    · rcases Nat.lt_or_ge j ys.length with hj | hj
      · rw [List.getElem?_append_left hj] at e
        exact hR _ _ H _ D hD ⟨_, hy⟩ s1 (hr _ _ e) g0
      · have hj2 : j = i := by
          have z := (List.getElem?_eq_some_iff.mp e).1
          simp at z
          omega
        subst hj2
        rw [List.getElem?_append_right hj, hl, Nat.sub_self] at e
        cases e
        exact hR _ _ H4 _ D hD ⟨_, s2 _ _ hy⟩ (s1.trans s2) r fun b o hb e => by rw [upd_ne hb]; exact e
  · rintro H ⟨s1, ys, hy, hl, hr⟩
    exact hd D ys H hD s1 hl hr hy
/-- .. where the items are known beforehand -/
theorem lc_pure {J : It} {n : Nat} {G : Hp → Prop} {Y : Nat → Hp → V → Hp → Prop} (w : Walk J n G Y) {g : TG} {te : TE} {vs : List Nat} {σ : L2.St} {H1 : Hp} {Q : VK} (ys : List V) (hl : ys.length = n) (hn : n < sizeLine) (hG : ∀ H, Same H1 H → G H)
    (hs : ∀ (i : Nat) x y H H' (U : VK), ys[i]? = some y → Same H1 H → Y i H x H' → (∀ H4, Same H H4 → U y H4) → g x (wipe σ vs) H' fun σ2 H2 => wipe σ2 vs = wipe σ vs ∧ te σ2 H2 U)
    (hd : ∀ p H, H1 p = none → Same H1 H → H p = some (.lst ys) → Q (.ref p) H) : LcGoal J g tYes te vs σ H1 Q := by
  refine lc_go w (fun i y _ => ys[i]? = some y) hn (fun _ _ _ _ _ _ _ _ r _ => r) hG (fun i x H H' D U hi _ _ s1 y hu => ?_) fun p zs H hp s1 hz hr e => ?_
  · have e : ys[i]? = some ys[i] := List.getElem?_eq_getElem (by omega)
    exact hs i x _ H H' U e s1 y fun H4 s2 => hu _ _ e s2
  · have z : zs = ys := by
      refine List.ext_getElem? fun i => ?_
      rcases Nat.lt_or_ge i zs.length with h | h
      · rw [hr i _ (List.getElem?_eq_getElem h), List.getElem?_eq_getElem h]
      · rw [List.getElem?_eq_none h, List.getElem?_eq_none (by omega)]
    subst z
    exact hd p H hp s1 e
/-- .. with a test, over a list whose items stand for those of ts -/
theorem lc_filter {K : Frag} {α : Type} {a : Addr} {xs : List V} (ts : List α) (hl : xs.length = ts.length) (f : α → Bool) (v : α → V) {g : TG} {tt : TT} {te : TE} {vs : List Nat} {σ : L2.St} {H1 : Hp} {Q : VK} (hn : xs.length < sizeLine) (hS : SqL K H1 a xs)
    (hs : ∀ (i : Nat) x t H (U : VK) (N : Hp → Prop), xs[i]? = some x → ts[i]? = some t → Same H1 H → (f t = true → ∀ H4, Same H H4 → U (v t) H4) → (f t = false → ∀ H4, Same H H4 → N H4) → g x (wipe σ vs) H fun σ2 H2 => wipe σ2 vs = wipe σ vs ∧ tt σ2 H2 fun b H3 => if b = true then te σ2 H3 U else N H3)
    (hd : ∀ p H, H1 p = none → Same H1 H → H p = some (.lst ((ts.filter f).map v)) → Q (.ref p) H) : LcGoal (Itl K a) g tt te vs σ H1 Q := by
  intro D hD
  refine lc_list (xs := xs) (fun i H => Same H1 H ∧ H D = some (.lst (((ts.take i).filter f).map v))) ⟨same_upd hD, by simp [upd_same]⟩ (fun i H _ p => p.1.seq hS) ?_ ?_
  · rintro i x H hx ⟨s1, e⟩
    have hi := (List.getElem?_eq_some_iff.mp hx).1
    obtain ⟨t, ht⟩ : ∃ t, ts[i]? = some t := ⟨_, List.getElem?_eq_getElem (by omega)⟩
    have tk : ts.take (i + 1) = ts.take i ++ [t] := by rw [List.take_add_one, ht]; rfl
    refine hs i x t H _ _ hx ht s1 (fun ft H4 s2 => ⟨_, s2 _ _ e, ?_, fun b o e2 => ?_, ?_⟩) fun ft H4 s2 => ⟨s1.trans s2, ?_⟩
    · refine Nat.lt_of_le_of_lt ?_ hn
      rw [List.length_map]
      exact Nat.le_trans (List.length_filter_le _ _) (by simp; omega)
    · rw [upd_ne (ne_of_none e2 hD)]
      exact s2 _ _ (s1 _ _ e2)
    · rw [upd_same, tk, List.filter_append, List.map_append]
      simp [ft]
    · rw [s2 _ _ e, tk, List.filter_append, List.map_append]
      simp [ft]
  · rintro H ⟨s1, e⟩
    rw [hl, List.take_length] at e
    exact hd D H hD s1 e
theorem ix_last {K : Frag} {a : Addr} {xs : List V} {v : V} {H : Hp} {Q : VK} (hS : SqL K H a xs) (e : xs.getLast? = some v) (q : Q v H) : rIxL K (.ref a) (.int (-1)) H Q := by
  have hn : xs ≠ [] := by intro z; rw [z] at e; cases e
  have hl : xs.length ≠ 0 := fun z => hn (List.length_eq_zero_iff.mp z)
  refine ⟨a, xs, -1, v, rfl, rfl, hS, ?_, q⟩
  unfold atI ixN
  rw [if_neg (by decide), if_pos (by omega), show ((-1 : Int) + (xs.length : Int)).toNat = xs.length - 1 by omega]
  rw [List.getLast?_eq_getElem?] at e
  exact e
theorem ints_of {P : Int → Prop} : ∀ {ys : List V}, (∀ (i : Nat) y, ys[i]? = some y → ∃ v, y = .int v ∧ P v) → ∃ ns : List Int, ys = ns.map V.int ∧ ∀ v ∈ ns, P v
  | [], _ => ⟨[], rfl, fun _ h => by simp at h⟩
  | y :: r, h => by
    obtain ⟨v, rfl, hv⟩ := h 0 y rfl
    obtain ⟨ns, rfl, hn⟩ := ints_of (ys := r) fun i y e => h (i + 1) y e
    exact ⟨v :: ns, rfl, fun w hw => by rcases List.mem_cons.mp hw with rfl | hw; exact hv; exact hn w hw⟩
/-- a comprehension whose items are ints of which P holds -/
theorem lc_ints {J : It} {n : Nat} {G : Hp → Prop} {Y : Nat → Hp → V → Hp → Prop} (w : Walk J n G Y) (P : Int → Prop) {g : TG} {te : TE} {vs : List Nat} {σ : L2.St} {H1 : Hp} {Q : VK} (hn : n < sizeLine) (hG : ∀ H, Same H1 H → G H)
    (hs : ∀ i x H H' (U : VK), i < n → Same H1 H → Y i H x H' → (∀ v H4, P v → Same H H4 → U (.int v) H4) → g x (wipe σ vs) H' fun σ2 H2 => wipe σ2 vs = wipe σ vs ∧ te σ2 H2 U)
    (hd : ∀ p (ns : List Int) H, H1 p = none → Same H1 H → ns.length = n → (∀ v ∈ ns, P v) → H p = some (.lst (ns.map V.int)) → Q (.ref p) H) : LcGoal J g tYes te vs σ H1 Q := by
  refine lc_go w (fun _ y _ => ∃ v, y = .int v ∧ P v) hn (fun _ _ _ _ _ _ _ _ r _ => r) hG (fun i x H H' D U hi _ _ s1 y hu => hs i x H H' U hi s1 y fun v H4 p s2 => hu _ _ ⟨v, rfl, p⟩ s2) fun p ys H hp s1 hl hr e => ?_
  obtain ⟨ns, rfl, hp2⟩ := ints_of hr
  exact hd p ns H hp s1 (by simpa using hl) hp2 e
/-! ### slices -/
theorem cut_from {xs : List V} {k : Int} (hk : 0 ≤ k) : cutV xs (some k) none = xs.drop k.toNat := by
  obtain ⟨j, rfl⟩ := Int.eq_ofNat_of_zero_le hk
  unfold cutV
  rw [HT.sIx_nat, HT.sIx_none, Int.toNat_natCast]
  rcases Nat.le_total j xs.length with h | h
  · rw [Nat.min_eq_left h, List.take_of_length_le (by simp)]
  · rw [Nat.min_eq_right h, List.drop_of_length_le h, List.drop_length, List.take_nil]
theorem cut_to {xs : List V} {k : Int} (hk : 0 ≤ k) : cutV xs none (some k) = xs.take k.toNat := by
  obtain ⟨j, rfl⟩ := Int.eq_ofNat_of_zero_le hk
  unfold cutV
  rw [HT.sIx_nat, HT.sIx_none, Int.toNat_natCast, List.drop_zero, Nat.sub_zero]
  rcases Nat.le_total j xs.length with h | h
  · rw [Nat.min_eq_left h]
  · rw [Nat.min_eq_right h, List.take_of_length_le h, List.take_length]
/-! ### lists whose items tell something -/
inductive All2 {α : Type} (R : V → α → Prop) : List V → List α → Prop
  | nil : All2 R [] []
  | cons {x t xs ts} : R x t → All2 R xs ts → All2 R (x :: xs) (t :: ts)
namespace All2
variable {α : Type} {R S : V → α → Prop}
theorem len {xs : List V} {ts : List α} (h : All2 R xs ts) : xs.length = ts.length := by
  induction h with
  | nil => rfl
  | cons _ _ ih => rw [List.length_cons, List.length_cons, ih]
theorem mono {xs : List V} {ts : List α} (h : All2 R xs ts) (k : ∀ x t, R x t → S x t) : All2 S xs ts := by
  induction h with
  | nil => exact .nil
  | cons r _ ih => exact .cons (k _ _ r) ih
theorem get {xs : List V} {ts : List α} (h : All2 R xs ts) : ∀ {i : Nat} {x : V}, xs[i]? = some x → ∃ t, ts[i]? = some t ∧ R x t := by
  induction h with
  | nil => intro i x e; simp at e
  | cons r _ ih =>
    intro i x e
    cases i with
    | zero => cases e; exact ⟨_, rfl, r⟩
    | succ j => exact ih e
theorem of {xs : List V} : ∀ {ts : List α}, xs.length = ts.length → (∀ (i : Nat) x t, xs[i]? = some x → ts[i]? = some t → R x t) → All2 R xs ts := by
  induction xs with
  | nil => intro ts hl _; cases ts with
    | nil => exact .nil
    | cons _ _ => cases hl
  | cons x xs ih => intro ts hl h; cases ts with
    | nil => cases hl
    | cons t ts => exact .cons (h 0 x t rfl rfl) (ih (by simpa using hl) fun i x t e1 e2 => h (i + 1) x t e1 e2)
theorem snoc {xs : List V} {ts : List α} {x : V} {t : α} (h : All2 R xs ts) (r : R x t) : All2 R (xs ++ [x]) (ts ++ [t]) := by
  induction h with
  | nil => exact .cons r .nil
  | cons r2 _ ih => exact .cons r2 ih
theorem append {xs ys : List V} {ts us : List α} (h : All2 R xs ts) (h2 : All2 R ys us) : All2 R (xs ++ ys) (ts ++ us) := by
  induction h with
  | nil => exact h2
  | cons r _ ih => exact .cons r ih
theorem drop {xs : List V} {ts : List α} (h : All2 R xs ts) : ∀ k, All2 R (xs.drop k) (ts.drop k) := by
  induction h with
  | nil => intro k; rw [List.drop_nil, List.drop_nil]; exact .nil
  | cons r h ih => intro k; cases k with
    | zero => exact .cons r h
    | succ k => exact ih k
theorem take {xs : List V} {ts : List α} (h : All2 R xs ts) : ∀ k, All2 R (xs.take k) (ts.take k) := by
  induction h with
  | nil => intro k; rw [List.take_nil, List.take_nil]; exact .nil
  | cons r h ih => intro k; cases k with
    | zero => exact .nil
    | succ k => exact .cons r (ih k)
end All2
/-- a pair of ints -/
def Pr (K : Frag) (H : Hp) : V → Int × Int → Prop := fun x t => ∃ r, x = .ref r ∧ SqT K H r [.int t.1, .int t.2]
theorem Pr.same {K : Frag} {H H' : Hp} {x : V} {t : Int × Int} (s : Same H H') (h : Pr K H x t) : Pr K H' x t := by
  obtain ⟨r, e, q⟩ := h
  exact ⟨r, e, same_tup s q⟩
/-- a list of pairs of ints -/
def Prs (K : Frag) (H : Hp) (a : Addr) (ts : List (Int × Int)) : Prop := ∃ xs, SqL K H a xs ∧ All2 (Pr K H) xs ts
theorem Prs.same {K : Frag} {H H' : Hp} {a : Addr} {ts : List (Int × Int)} (s : Same H H') (h : Prs K H a ts) : Prs K H' a ts := by
  obtain ⟨xs, q, h⟩ := h
  exact ⟨xs, s.seq q, h.mono fun _ _ => Pr.same s⟩
/-- .. compared -/
def pdP (t : Int × Int) : PyData := .tuple [.int t.1, .int t.2]
theorem dp_prs {K : Frag} {H : Hp} {xs : List V} {ts : List (Int × Int)} (h : All2 (Pr K H) xs ts) : DpAll K H xs (ts.map pdP) := by
  induction h with
  | nil => exact .nil
  | cons r _ ih =>
    obtain ⟨r, rfl, hr⟩ := r
    exact .cons (.tup hr (.cons (.int _) (.cons (.int _) .nil))) ih
theorem Prs.dp {K : Frag} {H : Hp} {a : Addr} {ts : List (Int × Int)} (h : Prs K H a ts) : Dp K H (.ref a) (.list (ts.map pdP)) := by
  obtain ⟨xs, hS, hA⟩ := h
  exact .lst hS (dp_prs hA)
theorem lay_prs : ∀ ts : List (Int × Int), PyData.canLayAll0 (ts.map pdP) = true
  | [] => rfl
  | t :: r => by simp only [List.map_cons, PyData.canLayAll0, lay_prs r, pdP, PyData.canLay0, Bool.and_true]
theorem depth_prs : ∀ ts : List (Int × Int), PyData.depthAll (ts.map pdP) ≤ 1
  | [] => by simp [PyData.depthAll]
  | t :: r => by
    have := depth_prs r
    simp only [List.map_cons, PyData.depthAll, pdP, PyData.depth]
    omega
theorem shaped_prs {ts : List (Int × Int)} : SeqAt.shaped (.list (ts.map pdP)) = true :=
  shaped_of (by simp only [PyData.canLay0]; exact lay_prs ts) (by have := depth_prs ts; simp only [PyData.depth]; omega)
theorem eqv_prs : ∀ ts us : List (Int × Int), PyData.eqvAll (ts.map pdP) (us.map pdP) = decide (ts = us)
  | [], [] => by simp [PyData.eqvAll]
  | [], y :: ys => by simp [PyData.eqvAll]
  | x :: xs, [] => by simp [PyData.eqvAll]
  | x :: xs, y :: ys => by
    have ih := eqv_prs xs ys
    simp only [List.map_cons, PyData.eqvAll, ih, List.cons.injEq, pdP, PyData.eqv, Bool.and_true]
    by_cases e : x = y
    · subst e; simp
    · have : ¬(x.1 = y.1 ∧ x.2 = y.2) := fun z => e (Prod.ext z.1 z.2)
      by_cases e1 : x.1 = y.1 <;> by_cases e2 : x.2 = y.2 <;> simp_all
theorem ne_prs {K : Frag} {H : Hp} {p q : Addr} {ts us : List (Int × Int)} {Q : VK} (hp : Prs K H p ts) (hq : Prs K H q us) (k : Q (.bl (!decide (ts = us))) H) : rNeD K (.ref p) (.ref q) H Q :=
  ⟨_, _, hp.dp, hq.dp, shaped_prs, shaped_prs, by simp only [PyData.eqv, eqv_prs]; exact k⟩
theorem eq_prs {K : Frag} {H : Hp} {p q : Addr} {ts us : List (Int × Int)} {Q : VK} (hp : Prs K H p ts) (hq : Prs K H q us) (k : Q (.bl (decide (ts = us))) H) : rEqD K (.ref p) (.ref q) H Q :=
  ⟨_, _, hp.dp, hq.dp, shaped_prs, shaped_prs, by simp only [PyData.eqv, eqv_prs]; exact k⟩
/-! ### the law's end -/
def spLaw (K : Frag) : Sp := fun vs H Q _ => ∃ (a : Addr) (ns : List Int), vs = [.ref a] ∧ SqL K H a (ns.map V.int) ∧ ns.length ≤ 63 ∧ (∀ z ∈ ns, Builtin.Int.intBits z ≤ 1048576) ∧ ∀ H', Q (.bl true) H'
theorem walk {l : PySem.W.OpenLaw} {k : Nat} {q : Program} {loose : List Str} {XP : (Str → Option Value) → Heap → Prop} {YP : World → Heap → Prop} {d : DefRec} {K : Params → Frag}
    (hn : l.most = some 63) (hdf : d.params.defaults = []) (hr : Room k callerA) (hY : ∀ (w : World) (h : Heap), YP w h → (K w.params).In h)
    (F : ∀ (w : World) (mg : Str → Option Value) (fa : Addr) (h : Heap), (K w.params).In h → h.Ns mainGlobals mg → mg d.name = some (.ref fa) →
      ∃ fd : FuncData, (∀ (s : Shared) (u : Value), BindsTo s fd ⟨[u], []⟩ [(("script" : Str), u)]) ∧ ∀ base : Heap, (K w.params).In base → base.Ns mainGlobals mg → FnOk l.prog w (K w.params) mg base CX0 k fa fd ["script"] (spLaw (K w.params))) :
    PySem.W.WalkO q loose XP YP l.row.toRowW d [] (fun f vs => PySem.call f vs) :=
  L2.walk_ofB (n := 63) (k := k) (x := "script") (CX := fun _ => CX0) (sp := fun w => spLaw (K w.params)) hn (by decide) hdf hr hY F
    (fun _ _ a ns hl hb _ hS => ⟨a, ns, rfl, hS, hl, hb, fun _ => rfl⟩) fun _ _ _ _ _ z => z
end Kv

set_option Elab.async false
set_option linter.all false
set_option maxRecDepth 100000
set_option maxHeartbeats 4000000
namespace K04
open PySem PySem.Spec PyProof.Rows L2
def top (i : Nat) : Stmt := PySem.Challenge.pw_corebank_k04_allocate.main.body.getD i (.Pass ⟨0, 0, 0, 0⟩)
abbrev s_check_weights : Stmt := top 13
abbrev s_allocate : Stmt := top 14
abbrev s_split_equally : Stmt := top 15
abbrev s_L_numbers : Stmt := top 17
abbrev s_L_kinds : Stmt := top 18
abbrev s_L_refusal : Stmt := top 19
abbrev s_L_weights : Stmt := top 20
abbrev s_L_integers : Stmt := top 21
abbrev s_L_right : Stmt := top 22
abbrev s_L_equal : Stmt := top 23
abbrev s_L_refused : Stmt := top 24
abbrev s_law : Stmt := top 25
theorem sc_check_weights : FnScope ["weights", "weight"] ["weights"] (defScope s_check_weights) := ⟨rfl, rfl, rfl, by decide +kernel, rfl, by decide +kernel, by decide +kernel⟩
theorem sc_allocate : FnScope ["amount", "weights", "total", "shares", "weight", "rests", "ranks", "place", "rest", "left", "_"] ["amount", "weights"] (defScope s_allocate) := ⟨rfl, rfl, rfl, by decide +kernel, rfl, by decide +kernel, by decide +kernel⟩
theorem sc_split_equally : FnScope ["amount", "parts"] ["amount", "parts"] (defScope s_split_equally) := ⟨rfl, rfl, rfl, by decide +kernel, rfl, by decide +kernel, by decide +kernel⟩
theorem sc_L_numbers : FnScope ["cell", "count", "rest", "numbers", "k", "mixed"] ["cell", "count"] (defScope s_L_numbers) := ⟨rfl, rfl, rfl, by decide +kernel, rfl, by decide +kernel, by decide +kernel⟩
theorem sc_L_kinds : FnScope ["error", "kinds"] ["error"] (defScope s_L_kinds) := ⟨rfl, rfl, rfl, by decide +kernel, rfl, by decide +kernel, by decide +kernel⟩
theorem sc_L_refusal : FnScope ["amount", "weights", "parts", "e"] ["amount", "weights", "parts"] (defScope s_L_refusal) := ⟨rfl, rfl, rfl, by decide +kernel, rfl, by decide +kernel, by decide +kernel⟩
theorem sc_L_weights : FnScope ["numbers", "count", "limit", "weights", "k"] ["numbers"] (defScope s_L_weights) := ⟨rfl, rfl, rfl, by decide +kernel, rfl, by decide +kernel, by decide +kernel⟩
theorem sc_L_integers : FnScope ["shares", "count", "share"] ["shares", "count"] (defScope s_L_integers) := ⟨rfl, rfl, rfl, by decide +kernel, rfl, by decide +kernel, by decide +kernel⟩
theorem sc_L_right : FnScope ["amount", "weights", "copy", "shares", "total", "more", "less", "k", "rest"] ["amount", "weights"] (defScope s_L_right) := ⟨rfl, rfl, rfl, by decide +kernel, rfl, by decide +kernel, by decide +kernel⟩
theorem sc_L_equal : FnScope ["amount", "parts", "shares", "k"] ["amount", "parts"] (defScope s_L_equal) := ⟨rfl, rfl, rfl, by decide +kernel, rfl, by decide +kernel, by decide +kernel⟩
theorem sc_L_refused : FnScope ["numbers", "amount", "weights", "bad", "at", "low", "high", "many", "wrong", "parts"] ["numbers", "amount", "weights"] (defScope s_L_refused) := ⟨rfl, rfl, rfl, by decide +kernel, rfl, by decide +kernel, by decide +kernel⟩
theorem sc_law : FnScope ["script", "cell", "numbers", "amount", "weights"] ["script"] (defScope s_law) := ⟨rfl, rfl, rfl, by decide +kernel, rfl, by decide +kernel, by decide +kernel⟩
structure Txt (K : PySem.W.Frag) (mg : Str → Option Value) extends Kv.Errs K mg where
  a_check_weights : Addr
  d_check_weights : FuncData
  g_check_weights : mg "check_weights" = some (.ref a_check_weights)
  F_check_weights : Fun K "check_weights" "check_weights" s_check_weights a_check_weights d_check_weights
  b_check_weights : Binds K d_check_weights ["weights"] []
  a_allocate : Addr
  d_allocate : FuncData
  g_allocate : mg "allocate" = some (.ref a_allocate)
  F_allocate : Fun K "allocate" "allocate" s_allocate a_allocate d_allocate
  b_allocate : Binds K d_allocate ["amount", "weights"] []
  a_split_equally : Addr
  d_split_equally : FuncData
  g_split_equally : mg "split_equally" = some (.ref a_split_equally)
  F_split_equally : Fun K "split_equally" "split_equally" s_split_equally a_split_equally d_split_equally
  b_split_equally : Binds K d_split_equally ["amount", "parts"] []
  a__law_numbers : Addr
  d__law_numbers : FuncData
  g__law_numbers : mg "_law_numbers" = some (.ref a__law_numbers)
  F__law_numbers : Fun K "_law_numbers" "_law_numbers" s_L_numbers a__law_numbers d__law_numbers
  b__law_numbers : Binds K d__law_numbers ["cell", "count"] []
  a__law_kinds : Addr
  d__law_kinds : FuncData
  g__law_kinds : mg "_law_kinds" = some (.ref a__law_kinds)
  F__law_kinds : Fun K "_law_kinds" "_law_kinds" s_L_kinds a__law_kinds d__law_kinds
  b__law_kinds : Binds K d__law_kinds ["error"] []
  a__law_refusal : Addr
  d__law_refusal : FuncData
  g__law_refusal : mg "_law_refusal" = some (.ref a__law_refusal)
  F__law_refusal : Fun K "_law_refusal" "_law_refusal" s_L_refusal a__law_refusal d__law_refusal
  b__law_refusal : Binds K d__law_refusal ["amount", "weights", "parts"] []
  a__law_weights : Addr
  d__law_weights : FuncData
  g__law_weights : mg "_law_weights" = some (.ref a__law_weights)
  F__law_weights : Fun K "_law_weights" "_law_weights" s_L_weights a__law_weights d__law_weights
  b__law_weights : Binds K d__law_weights ["numbers"] []
  a__law_integers : Addr
  d__law_integers : FuncData
  g__law_integers : mg "_law_integers" = some (.ref a__law_integers)
  F__law_integers : Fun K "_law_integers" "_law_integers" s_L_integers a__law_integers d__law_integers
  b__law_integers : Binds K d__law_integers ["shares", "count"] []
  a__law_right : Addr
  d__law_right : FuncData
  g__law_right : mg "_law_right" = some (.ref a__law_right)
  F__law_right : Fun K "_law_right" "_law_right" s_L_right a__law_right d__law_right
  b__law_right : Binds K d__law_right ["amount", "weights"] []
  a__law_equal : Addr
  d__law_equal : FuncData
  g__law_equal : mg "_law_equal" = some (.ref a__law_equal)
  F__law_equal : Fun K "_law_equal" "_law_equal" s_L_equal a__law_equal d__law_equal
  b__law_equal : Binds K d__law_equal ["amount", "parts"] []
  a__law_refused : Addr
  d__law_refused : FuncData
  g__law_refused : mg "_law_refused" = some (.ref a__law_refused)
  F__law_refused : Fun K "_law_refused" "_law_refused" s_L_refused a__law_refused d__law_refused
  b__law_refused : Binds K d__law_refused ["numbers", "amount", "weights"] []
  a_law : Addr
  d_law : FuncData
  g_law : mg "law" = some (.ref a_law)
  F_law : Fun K "law" "law" s_law a_law d_law
  b_law : Binds K d_law ["script"] []
  u_GREAT : Value
  g_GREAT : mg "GREAT" = some u_GREAT
  r_GREAT : RelV (.int 1000000000000) u_GREAT
  u_MOST_WEIGHTS : Value
  g_MOST_WEIGHTS : mg "MOST_WEIGHTS" = some u_MOST_WEIGHTS
  r_MOST_WEIGHTS : RelV (.int 60) u_MOST_WEIGHTS
  u_GREATEST_WEIGHT : Value
  g_GREATEST_WEIGHT : mg "GREATEST_WEIGHT" = some u_GREATEST_WEIGHT
  r_GREATEST_WEIGHT : RelV (.int 1000000) u_GREATEST_WEIGHT
  n_bool : mg "bool" = none
  n_enumerate : mg "enumerate" = none
  n_int : mg "int" = none
  n_isinstance : mg "isinstance" = none
  n_len : mg "len" = none
  n_list : mg "list" = none
  n_max : mg "max" = none
  n_min : mg "min" = none
  n_range : mg "range" = none
  n_sorted : mg "sorted" = none
  n_sum : mg "sum" = none
local macro_rules | `(tactic| walk_at "rd") => `(tactic| try simp only [L2.start, tSeq, tIfS, tTest, tOp, tVar, tC, tRet, tRetN, tNext, tAsg, gName, tDrop, tCons, tNil, tCB, tB, rI0, rI, rEq, rNe, tAnd, tOr, tNot, tAndV, tOrV, tNotV, tIf, tUn, rU, Kv.sc_ii, Kv.sc_ss, Kv.sc_bb, Kv.sc_nn, Kv.sc_ni, Kv.sc_in, Kv.sc_sn, Kv.sc_ns, Kv.sc_bn, Kv.sc_nb, Kv.sc_is, Kv.sc_si, cxOf, and_assoc, rAppend, Kv.rIsP, L2H.cxH, tCall, tCallS, tTup, tLst, tBM, tBM0, tM0, tM1, tSl, tPart, tNoPart, tAug, ipI, gSub, tPar, tBreak, tCont, Kv.tKinds, tChain, tAugS, rIsB, rNotB, tYes, tCKw, wipe, List.foldl_cons, List.foldl_nil, iList, iTup, iRng1, iRng2, iEnum, iZip, Kv.tFor_eq, Kv.tLc_eq, Kv.sz_0, Kv.szl_0, Kv.sz_1, Kv.szl_1, Kv.sz_2, Kv.szl_2, Kv.sz_3, Kv.szl_3, Kv.sz_4, Kv.szl_4, Kv.sz_5, Kv.szl_5, Kv.sz_6, Kv.szl_6, Kv.sz_7, Kv.szl_7, Kv.sz_8, Kv.szl_8, Kv.sz_9, Kv.szl_9, Kv.sz_10, Kv.szl_10, Kv.sz_11, Kv.szl_11, Kv.sz_12, Kv.szl_12, Kv.sz_13, Kv.szl_13, Kv.sz_14, Kv.szl_14, Kv.sz_15, Kv.szl_15, Kv.sz_16, Kv.szl_16, Kv.sz_17, Kv.szl_17, Kv.sz_18, Kv.szl_18, Kv.sz_19, Kv.szl_19, Kv.sz_20, Kv.szl_20, Kv.sz_21, Kv.szl_21, Kv.sz_22, Kv.szl_22, Kv.sz_23, Kv.szl_23, Kv.sz_24, Kv.szl_24, Kv.sz_25, Kv.szl_25, Kv.sz_26, Kv.szl_26, Kv.cdiv_1, Kv.cdiv_2, Kv.cdiv_3, Kv.cdiv_4, Kv.cdiv_5, Kv.cdiv_6, Kv.cdiv_7, Kv.cdiv_8, Kv.cdiv_9, Kv.cdiv_10, Kv.cdiv_11, Kv.cdiv_12, Kv.cdiv_13, Kv.cdiv_14, Kv.cdiv_16, Kv.cdiv_20, Kv.cdiv_30, Kv.cdiv_50, Kv.cdiv_60, Kv.cdiv_64, Kv.cdiv_100, Kv.cdiv_400, Kv.cdiv_1000, Kv.cdiv_2000, Kv.cdiv_10000, Kv.cdiv_1000000,
  CPow, List.map_cons, List.map_nil, List.cons_append, List.nil_append, List.append_nil, List.length_cons, List.length_nil, List.replicate,
  List.getElem?_cons_zero, List.getElem?_cons_succ, List.set_cons_zero, List.set_cons_succ, Option.some.injEq, exists_eq_left', exists_eq_left, exists_eq_right, exists_eq_right', V.int.injEq, V.str.injEq, V.bl.injEq, V.ref.injEq, List.cons.injEq, exists_and_left, exists_and_right, and_true, true_and, and_self, false_and, and_false, or_false, false_or, exists_false, exists_const, reduceCtorEq, Nat.reduceSub, Nat.reduceAdd, Nat.reduceLeDiff, Nat.reduceLT,
  Int.reduceLT, Int.reduceLE, Int.reduceAdd, Int.reduceMul, Int.reduceSub, Int.reducePow, Int.reduceToNat, Int.reduceNeg, Int.reduceAbs, Nat.reducePow, decide_eq_true_eq, Bool.not_true, Bool.not_false, Bool.false_eq_true, ite_true, ite_false, if_true, if_false, decide_true, decide_false, Bool.not_eq_true', decide_eq_false_iff_not, not_true, not_false_eq_true, ne_eq])
local macro_rules | `(tactic| walk_at "st") => `(tactic| ((first | with_reducible refine Kv.seq_step fun U hU => ?_ | with_reducible refine Kv.gseq_step fun U hU => ?_); walk_at "rd"))
local macro_rules | `(tactic| walk_at "shp") => `(tactic| (refine Kv.shaped_of ?_ ?_ <;> (simp only [PyData.canLay0, PyData.canLayAll0, PyData.depth, PyData.depthAll, Bool.and_true, Bool.true_and]) <;> first | done | decide +kernel | omega))
local macro_rules | `(tactic| walk_at "eqv") => `(tactic| simp [PyData.eqv, PyData.eqvAll])
local macro_rules | `(tactic| walk_at "nx") => `(tactic| (subst_vars; (try dsimp only); first | walk_at "st" | walk_at "rd"))
/-! ### sums, and what is nearest -/
def sumR (f : Nat → Int) : Nat → Int
  | 0 => 0
  | n + 1 => sumR f n + f n
theorem sumR_le {f g : Nat → Int} : ∀ n, (∀ i, i < n → f i ≤ g i) → sumR f n ≤ sumR g n
  | 0, _ => Int.le_refl _
  | n + 1, h => by
    have := sumR_le n fun i hi => h i (by omega)
    have := h n (by omega)
    simp only [sumR]
    omega
theorem sumR_lt {f g : Nat → Int} {k : Nat} : ∀ n, k < n → (∀ i, i < n → f i ≤ g i) → f k < g k → sumR f n < sumR g n
  | 0, hk, _, _ => by omega
  | n + 1, hk, h, hs => by
    have h1 := h n (by omega)
    simp only [sumR]
    rcases Nat.lt_or_ge k n with c | c
    · have := sumR_lt n c (fun i hi => h i (by omega)) hs
      omega
    · have : k = n := by omega
      subst this
      have := sumR_le k fun i hi => h i (by omega)
      omega
theorem sumR_add (f g : Nat → Int) : ∀ n, sumR (fun i => f i + g i) n = sumR f n + sumR g n
  | 0 => rfl
  | n + 1 => by simp only [sumR, sumR_add f g n]; omega
theorem sumR_sub (f g : Nat → Int) : ∀ n, sumR (fun i => f i - g i) n = sumR f n - sumR g n
  | 0 => rfl
  | n + 1 => by simp only [sumR, sumR_sub f g n]; omega
theorem sumR_mul (c : Int) (f : Nat → Int) : ∀ n, sumR (fun i => c * f i) n = c * sumR f n
  | 0 => by simp [sumR]
  | n + 1 => by simp only [sumR, sumR_mul c f n, Int.mul_add]
theorem sumR_congr {f g : Nat → Int} (n : Nat) (h : ∀ i, i < n → f i = g i) : sumR f n = sumR g n := by
  have a := sumR_le n fun i hi => Int.le_of_eq (h i hi)
  have b := sumR_le n fun i hi => Int.le_of_eq (h i hi).symm
  omega
theorem sum_get : ∀ xs : List Int, xs.sum = sumR (fun i => xs.getD i 0) xs.length := by
  intro xs
  have key : ∀ n, n ≤ xs.length → (xs.take n).sum = sumR (fun i => xs.getD i 0) n := by
    intro n
    induction n with
    | zero => intro _; simp [sumR]
    | succ n ih =>
      intro h
      rw [List.take_add_one, List.sum_append, ih (by omega)]
      simp only [sumR, List.getD_eq_getElem?_getD]
      rw [List.getElem?_eq_getElem (by omega)]
      simp
  have := key xs.length (Nat.le_refl _)
  rw [List.take_length] at this
  exact this
/-- one that is marked and has the least r, if one is marked -/
theorem least (b : Nat → Bool) (r : Nat → Int) : ∀ n, (∃ k, k < n ∧ b k = true) → ∃ k, k < n ∧ b k = true ∧ ∀ j, j < n → b j = true → r k ≤ r j
  | 0, ⟨k, h, _⟩ => by omega
  | n + 1, h => by
    by_cases c : ∃ k, k < n ∧ b k = true
    · obtain ⟨k, h1, h2, h3⟩ := least b r n c
      by_cases d : b n = true ∧ r n < r k
      · refine ⟨n, by omega, d.1, fun j hj hb => ?_⟩
        rcases Nat.lt_or_ge j n with e | e
        · have := h3 j e hb; omega
        · have : j = n := by omega
          subst this; omega
      · refine ⟨k, by omega, h2, fun j hj hb => ?_⟩
        rcases Nat.lt_or_ge j n with e | e
        · exact h3 j e hb
        · have : j = n := by omega
          subst this
          rcases Int.lt_or_le (r j) (r k) with z | z
          · exact absurd ⟨hb, z⟩ d
          · exact z
    · obtain ⟨k, hk, hb⟩ := h
      have hk2 : k = n := by
        rcases Nat.lt_or_ge k n with e | e
        · exact absurd ⟨k, e, hb⟩ c
        · omega
      subst hk2
      refine ⟨k, by omega, hb, fun j hj hb2 => ?_⟩
      rcases Nat.lt_or_ge j k with e | e
      · exact absurd ⟨j, e, hb2⟩ c
      · have : j = k := by omega
        subst this; omega
/-- a number that stands between the remainders of those that are marked and those that are not -/
theorem between {b : Nat → Bool} {r : Nat → Int} {n : Nat} {T : Int} (hr : ∀ i, i < n → 0 ≤ r i ∧ r i < T) (hT : 0 ≤ T) (h : ∀ i j, i < n → j < n → b i = true → b j = false → r j ≤ r i) :
    ∃ θ, 0 ≤ θ ∧ θ ≤ T ∧ ∀ i, i < n → (b i = true → θ ≤ r i) ∧ (b i = false → r i ≤ θ) := by
  by_cases c : ∃ k, k < n ∧ b k = true
  · obtain ⟨k, h1, h2, h3⟩ := least b r n c
    exact ⟨r k, (hr k h1).1, by have := (hr k h1).2; omega, fun i hi => ⟨fun e => h3 i hi e, fun e => h k i h1 hi h2 e⟩⟩
  · refine ⟨T, hT, Int.le_refl _, fun i hi => ⟨fun e => absurd ⟨i, hi, e⟩ c, fun _ => by have := (hr i hi).2; omega⟩⟩
def b01 (b : Bool) : Int := if b = true then 1 else 0
theorem mulT {T e : Int} (hT : 0 ≤ T) : (2 ≤ e → 2 * T ≤ T * e) ∧ (1 ≤ e → T ≤ T * e) ∧ (e ≤ 0 → T * e ≤ 0) ∧ (e ≤ -1 → T * e ≤ -T) := by
  refine ⟨fun h => ?_, fun h => ?_, fun h => ?_, fun h => ?_⟩
  · have := Int.mul_le_mul_of_nonneg_left h hT; omega
  · have := Int.mul_le_mul_of_nonneg_left h hT; omega
  · have := Int.mul_le_mul_of_nonneg_left h hT; omega
  · have := Int.mul_le_mul_of_nonneg_left h hT; omega
/-- the distance: nearer than any other, but for a multiple of what the sum tells -/
theorem near_abs {T r θ e : Int} {b : Bool} (hT : 0 < T) (r0 : 0 ≤ r) (r1 : r < T) (t0 : 0 ≤ θ) (t1 : θ ≤ T) (h1 : b = true → θ ≤ r) (h2 : b = false → r ≤ θ) :
    ((b01 b * T - r).natAbs : Int) + (T - 2 * θ) * (e - b01 b) ≤ ((e * T - r).natAbs : Int) := by
  have m := mulT (T := T) (e := e) (by omega)
  have mt := mulT (T := θ) (e := e) t0
  rw [Int.mul_comm e T]
  cases b with
  | true =>
    have := h1 rfl
    have x : (T - 2 * θ) * (e - b01 true) = T * e - T - 2 * (θ * e) + 2 * θ := by
      simp only [b01, if_true]
      rw [Int.sub_mul, Int.mul_sub, Int.mul_sub, Int.mul_assoc, Int.mul_assoc]
      omega
    rw [x]
    simp only [b01, if_true, Int.one_mul]
    rcases (by omega : e = 1 ∨ 2 ≤ e ∨ e ≤ 0) with c | c | c
    · subst c; omega
    · have := m.1 c; have := mt.1 c; omega
    · have := m.2.2.1 c
      have k := Int.mul_le_mul_of_nonneg_right t1 (show 0 ≤ -e by omega)
      rw [Int.mul_neg, Int.mul_neg] at k
      omega
  | false =>
    have := h2 rfl
    have x : (T - 2 * θ) * (e - b01 false) = T * e - 2 * (θ * e) := by
      simp [b01, Int.sub_mul, Int.mul_assoc]
    rw [x]
    simp only [b01, Bool.false_eq_true, if_false, Int.zero_mul]
    rcases (by omega : e = 0 ∨ 1 ≤ e ∨ e ≤ -1) with c | c | c
    · subst c; omega
    · have := m.2.1 c; have := mt.2.1 c; omega
    · have := m.2.2.2 c
      have k := Int.mul_le_mul_of_nonneg_right t1 (show 0 ≤ -e by omega)
      rw [Int.mul_neg, Int.mul_neg] at k
      omega
theorem near_sq {T r θ e : Int} {b : Bool} (hT : 0 < T) (r0 : 0 ≤ r) (r1 : r < T) (t0 : 0 ≤ θ) (t1 : θ ≤ T) (h1 : b = true → θ ≤ r) (h2 : b = false → r ≤ θ) :
    (b01 b * T - r) * (b01 b * T - r) + T * (T - 2 * θ) * (e - b01 b) ≤ (e * T - r) * (e * T - r) := by
  have m := mulT (T := T) (e := e) (by omega)
  cases b with
  | true =>
    have := h1 rfl
    have k : 0 ≤ (e - 1) * (T * e + 2 * (θ - r)) := by
      rcases (by omega : e = 1 ∨ 2 ≤ e ∨ e ≤ 0) with c | c | c
      · subst c; simp
      · exact Int.mul_nonneg (by omega) (by have := m.1 c; omega)
      · exact Int.mul_nonneg_of_nonpos_of_nonpos (by omega) (by have := m.2.2.1 c; omega)
    have k2 := Int.mul_nonneg (show 0 ≤ T by omega) k
    have x : (e * T - r) * (e * T - r) - (b01 true * T - r) * (b01 true * T - r) - T * (T - 2 * θ) * (e - b01 true) = T * ((e - 1) * (T * e + 2 * (θ - r))) := by
      simp only [b01, if_true, Int.one_mul]
      grind
    omega
  | false =>
    have := h2 rfl
    have k : 0 ≤ e * (T * e - T + 2 * (θ - r)) := by
      rcases (by omega : e = 0 ∨ 1 ≤ e ∨ e ≤ -1) with c | c | c
      · subst c; simp
      · exact Int.mul_nonneg (by omega) (by have := m.2.1 c; omega)
      · exact Int.mul_nonneg_of_nonpos_of_nonpos (by omega) (by have := m.2.2.2 c; omega)
    have k2 := Int.mul_nonneg (show 0 ≤ T by omega) k
    have x : (e * T - r) * (e * T - r) - (b01 false * T - r) * (b01 false * T - r) - T * (T - 2 * θ) * (e - b01 false) = T * (e * (T * e - T + 2 * (θ - r))) := by
      simp only [b01, Bool.false_eq_true, if_false, Int.zero_mul]
      grind
    omega
/-- .. and the greatest one is not greater -/
theorem near_max {b : Nat → Bool} {r e : Nat → Int} {n k : Nat} {T : Int} (hT : 0 < T) (hr : ∀ i, i < n → 0 ≤ r i ∧ r i < T) (h : ∀ i j, i < n → j < n → b i = true → b j = false → r j ≤ r i) (hs : sumR e n = sumR (fun i => b01 (b i)) n) (hk : k < n) :
    ∃ j, j < n ∧ ((b01 (b k) * T - r k).natAbs : Int) ≤ ((e j * T - r j).natAbs : Int) := by
  refine Classical.byContradiction fun c => ?_
  have c : ∀ j, j < n → ((e j * T - r j).natAbs : Int) < ((b01 (b k) * T - r k).natAbs : Int) := fun j hj => by
    rcases Int.lt_or_le ((e j * T - r j).natAbs : Int) ((b01 (b k) * T - r k).natAbs : Int) with z | z
    · exact z
    · exact absurd ⟨j, hj, z⟩ c
  have rk := hr k hk
  cases hb : b k with
  | true =>
    have c1 : ∀ j, j < n → ((e j * T - r j).natAbs : Int) < T - r k := fun j hj => by
      have := c j hj
      rw [hb] at this
      simp only [b01, if_true, Int.one_mul] at this
      omega
    have le : ∀ j, j < n → e j ≤ b01 (b j) := fun j hj => by
      have m := mulT (T := T) (e := e j) (by omega)
      have q := c1 j hj
      rw [Int.mul_comm] at q
      have rj := hr j hj
      cases hbj : b j with
      | true =>
        simp only [b01, if_true]
        rcases (by omega : e j ≤ 1 ∨ 2 ≤ e j) with z | z
        · exact z
        · have := m.1 z; omega
      | false =>
        simp only [b01, Bool.false_eq_true, if_false]
        have := h k j hk hj hb hbj
        rcases (by omega : e j ≤ 0 ∨ 1 ≤ e j) with z | z
        · exact z
        · have := m.2.1 z; omega
    have lk : e k < b01 (b k) := by
      have l := le k hk
      have q := c1 k hk
      rw [hb] at l ⊢
      simp only [b01, if_true] at l ⊢
      rcases (by omega : e k < 1 ∨ e k = 1) with z | z
      · exact z
      · rw [z, Int.one_mul] at q; omega
    have := sumR_lt n hk le lk
    omega
  | false =>
    have c1 : ∀ j, j < n → ((e j * T - r j).natAbs : Int) < r k := fun j hj => by
      have := c j hj
      rw [hb] at this
      simp only [b01, Bool.false_eq_true, if_false, Int.zero_mul] at this
      omega
    have le : ∀ j, j < n → b01 (b j) ≤ e j := fun j hj => by
      have m := mulT (T := T) (e := e j) (by omega)
      have q := c1 j hj
      rw [Int.mul_comm] at q
      have rj := hr j hj
      cases hbj : b j with
      | true =>
        simp only [b01, if_true]
        have := h j k hj hk hbj hb
        rcases (by omega : 1 ≤ e j ∨ e j ≤ 0) with z | z
        · exact z
        · have := m.2.2.1 z; omega
      | false =>
        simp only [b01, Bool.false_eq_true, if_false]
        rcases (by omega : 0 ≤ e j ∨ e j ≤ -1) with z | z
        · exact z
        · have := m.2.2.2 z; omega
    have lk : b01 (b k) < e k := by
      have l := le k hk
      have q := c1 k hk
      rw [hb] at l ⊢
      simp only [b01, Bool.false_eq_true, if_false] at l ⊢
      rcases (by omega : 0 < e k ∨ e k = 0) with z | z
      · exact z
      · rw [z, Int.zero_mul] at q; omega
    have := sumR_lt n hk le lk
    omega

/-! ### the shares -/
def fl (am T w : Int) : Int := am * w / T
def rm (am T w : Int) : Int := am * w % T
def Wok (ws : List Int) : Prop := 1 ≤ ws.length ∧ ws.length ≤ 60 ∧ (∀ w ∈ ws, 0 ≤ w ∧ w ≤ 1000000) ∧ ws.sum ≠ 0
def AmOk (am : Int) : Prop := 0 ≤ am ∧ am ≤ 1000000000000
structure Alloc (am : Int) (ws sh : List Int) (b : Nat → Bool) : Prop where
  len : sh.length = ws.length
  val : ∀ i, i < ws.length → sh.getD i 0 = fl am ws.sum (ws.getD i 0) + b01 (b i)
  sum : sh.sum = am
  ord : ∀ i j, i < ws.length → j < ws.length → b i = true → b j = false → rm am ws.sum (ws.getD j 0) ≤ rm am ws.sum (ws.getD i 0) ∧ (rm am ws.sum (ws.getD j 0) = rm am ws.sum (ws.getD i 0) → i < j)
theorem sum_nonneg : ∀ {ws : List Int}, (∀ w ∈ ws, 0 ≤ w) → 0 ≤ ws.sum
  | [], _ => by simp
  | w :: r, h => by
    have := sum_nonneg (ws := r) fun v hv => h v (List.mem_cons_of_mem _ hv)
    have := h w List.mem_cons_self
    rw [List.sum_cons]
    omega
theorem mem_sum {x : Int} : ∀ {ws : List Int}, (∀ w ∈ ws, 0 ≤ w) → x ∈ ws → x ≤ ws.sum
  | [], _, h => by simp at h
  | w :: r, h, hx => by
    have a := sum_nonneg (ws := r) fun v hv => h v (List.mem_cons_of_mem _ hv)
    have b := h w List.mem_cons_self
    rw [List.sum_cons]
    rcases List.mem_cons.mp hx with rfl | hx
    · omega
    · have := mem_sum (ws := r) (fun v hv => h v (List.mem_cons_of_mem _ hv)) hx
      omega
theorem sum_most {B : Int} : ∀ {ws : List Int}, (∀ w ∈ ws, w ≤ B) → ws.sum ≤ B * ws.length
  | [], _ => by simp
  | w :: r, h => by
    have := sum_most (ws := r) fun v hv => h v (List.mem_cons_of_mem _ hv)
    have := h w List.mem_cons_self
    rw [List.sum_cons, List.length_cons, Int.natCast_succ, Int.mul_add]
    omega
theorem sum_least {B : Int} : ∀ {ws : List Int}, (∀ w ∈ ws, B ≤ w) → B * ws.length ≤ ws.sum
  | [], _ => by simp
  | w :: r, h => by
    have := sum_least (ws := r) fun v hv => h v (List.mem_cons_of_mem _ hv)
    have := h w List.mem_cons_self
    rw [List.sum_cons, List.length_cons, Int.natCast_succ, Int.mul_add]
    omega
theorem Wok.total {ws : List Int} (h : Wok ws) : 0 < ws.sum ∧ ws.sum ≤ 60000000 := by
  obtain ⟨h1, h2, h3, h4⟩ := h
  have a := sum_nonneg fun w hw => (h3 w hw).1
  have b := sum_most fun w hw => (h3 w hw).2
  omega
theorem sum_set : ∀ {l : List Int} {j : Nat} {v x : Int}, l[j]? = some x → (l.set j v).sum = l.sum - x + v
  | [], j, v, x, h => by simp at h
  | y :: r, 0, v, x, h => by
    cases h
    simp only [List.set_cons_zero, List.sum_cons]
    omega
  | y :: r, j + 1, v, x, h => by
    have := sum_set (l := r) (j := j) (v := v) (x := x) h
    simp only [List.set_cons_succ, List.sum_cons, this]
    omega
/-- the pairs in their order: which ones come first -/
theorem ranked {n L : Nat} {r : Nat → Int} {ks : List (Int × Int)} (hp : ks.Perm ((List.range n).map fun (i : Nat) => (-r i, (i : Int)))) (hs : ks.Pairwise fun x y => SrtO.lexB y x = false) :
    (∀ (t : Nat) p, ks[t]? = some p → ∃ i, i < n ∧ p = (-r i, (i : Int))) ∧ (∀ (t u : Nat) p q, ks[t]? = some p → ks[u]? = some q → p.2 = q.2 → t = u) ∧
    (∀ i j, i < n → j < n → ((ks.take L).any fun p => decide (p.2 = (i : Int))) = true → ((ks.take L).any fun p => decide (p.2 = (j : Int))) = false → r j ≤ r i ∧ (r j = r i → i < j)) := by
  have h1 : ∀ (t : Nat) p, ks[t]? = some p → ∃ i, i < n ∧ p = (-r i, (i : Int)) := by
    intro t p e
    have := (hp.mem_iff).mp (List.mem_of_getElem? e)
    obtain ⟨i, hi, rfl⟩ := List.mem_map.mp this
    exact ⟨i, List.mem_range.mp hi, rfl⟩
  have nd : (ks.map (·.2)).Nodup := by
    refine (hp.map (·.2)).nodup_iff.mpr ?_
    rw [List.map_map]
    exact List.pairwise_map.mpr (List.Pairwise.imp (fun h z => h (Int.ofNat.inj z)) List.nodup_range)
  have h2 : ∀ (t u : Nat) p q, ks[t]? = some p → ks[u]? = some q → p.2 = q.2 → t = u := by
    intro t u p q e1 e2 e
    refine nd_ix nd (x := p.2) (by rw [List.getElem?_map, e1]; rfl) (by rw [List.getElem?_map, e2, e]; rfl)
  refine ⟨h1, h2, fun i j hi hj bi bj => ?_⟩
  obtain ⟨p, hpm, hpe⟩ := List.any_eq_true.mp bi
  have hpe : p.2 = (i : Int) := of_decide_eq_true hpe
  obtain ⟨t, ht⟩ := List.getElem?_of_mem hpm
  have tl := (List.getElem?_eq_some_iff.mp ht).1
  rw [List.length_take] at tl
  rw [List.getElem?_take_of_lt (by omega)] at ht
  obtain ⟨i2, hi2, rfl⟩ := h1 t p ht
  have ei : i2 = i := by simp at hpe; omega
  subst ei
  have hjm : ((-r j, (j : Int)) : Int × Int) ∈ ks := (hp.mem_iff).mpr (List.mem_map.mpr ⟨j, List.mem_range.mpr hj, rfl⟩)
  obtain ⟨u, hu⟩ := List.getElem?_of_mem hjm
  have uL : L ≤ u := by
    rcases Nat.lt_or_ge u L with z | z
    · have : ((ks.take L).any fun p => decide (p.2 = (j : Int))) = true := by
        refine List.any_eq_true.mpr ⟨_, List.mem_of_getElem? (i := u) (by rw [List.getElem?_take_of_lt z]; exact hu), decide_eq_true rfl⟩
      rw [this] at bj
      cases bj
    · exact z
  have hul := (List.getElem?_eq_some_iff.mp hu)
  have htl := (List.getElem?_eq_some_iff.mp ht)
  have pw := List.pairwise_iff_getElem.mp hs t u htl.1 hul.1 (by omega)
  rw [hul.2, htl.2] at pw
  have pw := SrtO.lexB_no.mp pw
  dsimp only at pw
  have ne : i2 ≠ j := fun z => by
    subst z
    rw [bi] at bj
    cases bj
  omega
theorem fl_sums {am T : Int} (hT : 0 < T) : ∀ ws : List Int, T * (ws.map (fl am T)).sum ≤ am * ws.sum ∧ am * ws.sum ≤ T * (ws.map (fl am T)).sum + T * ws.length
  | [] => by simp
  | w :: r => by
    obtain ⟨h1, h2⟩ := fl_sums (am := am) hT r
    have e := Int.emod_add_mul_ediv (am * w) T
    have e0 := Int.emod_nonneg (am * w) (show T ≠ 0 by omega)
    have e1 := Int.emod_lt_of_pos (am * w) hT
    simp only [List.map_cons, List.sum_cons, List.length_cons, Int.natCast_succ, Int.mul_add, fl] at h1 h2 ⊢
    omega
theorem left_in {am : Int} {ws : List Int} (hT : 0 < ws.sum) : 0 ≤ am - (ws.map (fl am ws.sum)).sum ∧ am - (ws.map (fl am ws.sum)).sum ≤ ws.length := by
  obtain ⟨h1, h2⟩ := fl_sums (am := am) hT ws
  rw [Int.mul_comm am] at h1 h2
  have a := Int.le_of_mul_le_mul_left h1 hT
  rw [← Int.mul_add] at h2
  have b := Int.le_of_mul_le_mul_left h2 hT
  omega
def pairOf (H : Hp) : V → Int × Int
  | .ref t => match H t with
    | some (.tup [.int i, .int j]) => (i, j)
    | _ => (0, 0)
  | _ => (0, 0)
theorem fl_in {am w T : Int} (a0 : 0 ≤ am) (w0 : 0 ≤ w) (hw : w ≤ T) (hT : 0 < T) : 0 ≤ fl am T w ∧ fl am T w ≤ am := by
  have e := Int.emod_add_mul_ediv (am * w) T
  have e0 := Int.emod_nonneg (am * w) (show T ≠ 0 by omega)
  have m := Int.mul_le_mul_of_nonneg_left hw a0
  rw [Int.mul_comm am T] at m
  refine ⟨Int.ediv_nonneg (Int.mul_nonneg a0 w0) (by omega), Int.le_of_mul_le_mul_left (a := T) ?_ hT⟩
  unfold fl
  omega

/-! ### max and min of a list of pairs of ints, > of two pairs (by the library's ordered data) -/
section
open PySem.W
theorem pair_one {h : Heap} {v : Value} {p q : Int × Int} (a : Holds h v p) (b : Holds h v q) : p = q := by
  obtain ⟨l, a1, a2, rfl, ht, h1, h2⟩ := pair_of_holds a
  obtain ⟨l', b1, b2, e, ht', g1, g2⟩ := pair_of_holds b
  cases e
  obtain ⟨o, e1, c, n, d⟩ := ht
  obtain ⟨o', e1', c', n', d'⟩ := ht'
  rw [e1] at e1'
  cases e1'
  rw [d] at d'
  injection d' with d1 d2
  injection d1 with d1
  injection d1 with d3 d4
  injection d4 with d4
  subst d3 d4
  obtain ⟨t, z⟩ := int_of_holds h1
  obtain ⟨t', z'⟩ := int_of_holds g1
  obtain ⟨u, y⟩ := int_of_holds h2
  obtain ⟨u', y'⟩ := int_of_holds g2
  rw [z] at z'
  rw [y] at y'
  injection z' with z' _
  injection y' with y' _
  exact Prod.ext z' y'
/-- p before q -/
def plt (p q : Int × Int) : Prop := p.1 < q.1 ∨ (p.1 = q.1 ∧ p.2 < q.2)
theorem plt_iff (p q : Int × Int) : DatumOrd.lt p q = true ↔ plt p q := by
  show (if p.1 = q.1 then decide (p.2 < q.2) else decide (p.1 < q.1)) = true ↔ plt p q
  unfold plt
  split <;> rw [decide_eq_true_eq] <;> omega
theorem max_facts (x : Int × Int) (xs : List (Int × Int)) : maxOf x xs ∈ x :: xs ∧ ∀ y ∈ x :: xs, ¬plt (maxOf x xs) y := by
  unfold maxOf
  induction xs generalizing x with
  | nil => exact ⟨List.mem_cons_self, fun y hy => by rw [List.mem_singleton.mp hy]; unfold plt; simp⟩
  | cons z zs ih =>
    rw [List.foldl_cons]
    by_cases c : DatumOrd.lt x z = true
    · rw [if_pos c]
      obtain ⟨a, b⟩ := ih z
      refine ⟨List.mem_cons_of_mem _ a, fun y hy => ?_⟩
      rcases List.mem_cons.mp hy with rfl | hy
      · have c := (plt_iff _ _).mp c
        have := b z List.mem_cons_self
        unfold plt at *
        omega
      · exact b y hy
    · rw [if_neg c]
      obtain ⟨a, b⟩ := ih x
      refine ⟨?_, fun y hy => ?_⟩
      · rcases List.mem_cons.mp a with e | e
        · rw [e]; exact List.mem_cons_self
        · exact List.mem_cons_of_mem _ (List.mem_cons_of_mem _ e)
      · rcases List.mem_cons.mp hy with rfl | hy
        · exact b _ List.mem_cons_self
        · rcases List.mem_cons.mp hy with rfl | hy
          · have c : ¬plt x y := fun z => c ((plt_iff _ _).mpr z)
            have := b x List.mem_cons_self
            unfold plt at *
            omega
          · exact b y (List.mem_cons_of_mem _ hy)
theorem min_facts (x : Int × Int) (xs : List (Int × Int)) : minOf x xs ∈ x :: xs ∧ ∀ y ∈ x :: xs, ¬plt y (minOf x xs) := by
  unfold minOf
  induction xs generalizing x with
  | nil => exact ⟨List.mem_cons_self, fun y hy => by rw [List.mem_singleton.mp hy]; unfold plt; simp⟩
  | cons z zs ih =>
    rw [List.foldl_cons]
    by_cases c : DatumOrd.lt z x = true
    · rw [if_pos c]
      obtain ⟨a, b⟩ := ih z
      refine ⟨List.mem_cons_of_mem _ a, fun y hy => ?_⟩
      rcases List.mem_cons.mp hy with rfl | hy
      · have c := (plt_iff _ _).mp c
        have := b z List.mem_cons_self
        unfold plt at *
        omega
      · exact b y hy
    · rw [if_neg c]
      obtain ⟨a, b⟩ := ih x
      refine ⟨?_, fun y hy => ?_⟩
      · rcases List.mem_cons.mp a with e | e
        · rw [e]; exact List.mem_cons_self
        · exact List.mem_cons_of_mem _ (List.mem_cons_of_mem _ e)
      · rcases List.mem_cons.mp hy with rfl | hy
        · exact b _ List.mem_cons_self
        · rcases List.mem_cons.mp hy with rfl | hy
          · have c : ¬plt y x := fun z => c ((plt_iff _ _).mpr z)
            have := b x List.mem_cons_self
            unfold plt at *
            omega
          · exact b y (List.mem_cons_of_mem _ hy)
section
variable {X : Cx}
def rPrG (K : PySem.W.Frag) (best : Int × Int → Int × Int → Prop) : List V → Hp → VK → Prop := fun vs H Q => ∃ (a : Addr) (xs : List V) (ps : List (Int × Int)), vs = [V.ref a] ∧ SqL K H a xs ∧ Kv.All2 (Kv.Pr K H) xs ps ∧ 0 < ps.length ∧
  ∀ x p, p ∈ ps → (∀ q ∈ ps, best p q) → Kv.Pr K H x p → Q x H
theorem all_holds {pins : List (Addr × Obj)} {s : Shared} {σ : L2.St} {H : Hp} (I : Inv X pins σ H s) : ∀ {xs : List V} {ps : List (Int × Int)} {us : List Value}, Kv.All2 (Kv.Pr X.K H) xs ps → Vals xs us → HoldAll s.heap us ps
  | _, _, _, .nil, r => by cases r; exact HoldAll.nil
  | _, _, _, .cons ⟨t, e, q⟩ h, r => by
    cases r with
    | cons rv r =>
      subst e
      cases rv
      obtain ⟨its, r2, p2, _⟩ := I.tuple q
      obtain ⟨t1, t2, rfl⟩ := Vals.int2 r2
      exact HoldAll.cons (holds_pair p2 (holds_int _ _) (holds_int _ _)) (all_holds I h r)
theorem pr_at {K : PySem.W.Frag} {H : Hp} {h : Heap} : ∀ {xs : List V} {ps : List (Int × Int)} {us : List Value}, Kv.All2 (Kv.Pr K H) xs ps → Vals xs us → HoldAll h us ps → ∀ {i : Nat} {v : Value}, us[i]? = some v → ∃ x p, p ∈ ps ∧ Kv.Pr K H x p ∧ RelV x v ∧ Holds h v p
  | _, _, _, .nil, r, _, i, v, e => by cases r; cases e
  | _, _, _, .cons q h, r, g, i, v, e => by
    cases r with
    | cons rv r =>
      obtain ⟨g1, g2⟩ := g.head
      cases i with
      | zero =>
        cases e
        exact ⟨_, _, List.mem_cons_self, q, rv, g1⟩
      | succ i =>
        obtain ⟨x, p, m, a, b, c⟩ := pr_at h r g2 (i := i) e
        exact ⟨x, p, List.mem_cons_of_mem _ m, a, b, c⟩
theorem cr_maxP (hu : X.A.units + 64 < cLine) (hc : X.calm = true) : CallR X (.builtin "max") (rPrG X.K fun p q => ¬plt p q) := by
  intro pins s σ H vs us Q I r h
  obtain ⟨a, xs, ps, rfl, hs, hx, hne, q⟩ := h
  obtain ⟨its, rv, hl, _⟩ := I.list hs
  rw [Vals.ref1 r]
  have hh := all_holds I hx rv
  cases ps with
  | nil => cases hne
  | cons p ps =>
    refine max_list_datum (α := Int × Int) (I.ok.hd hc) hl.isList (by simpa using hh) (Nat.lt_of_le_of_lt (show X.A.units + 1 + 1 ≤ X.A.units + 64 by omega) hu) fun i v h' tk hi hv hk => ?_
    obtain ⟨x, p', m, k1, k2, k3⟩ := pr_at hx rv hh (i := i) (v := v) (by simpa using hi)
    have e := pair_one (k3.keeps hk) hv
    obtain ⟨f1, f2⟩ := max_facts p ps
    exact ⟨x, H, I.kept hk, k2, q x p' m (by rw [e]; exact f2) k1⟩
theorem cr_minP (hu : X.A.units + 64 < cLine) (hc : X.calm = true) : CallR X (.builtin "min") (rPrG X.K fun p q => ¬plt q p) := by
  intro pins s σ H vs us Q I r h
  obtain ⟨a, xs, ps, rfl, hs, hx, hne, q⟩ := h
  obtain ⟨its, rv, hl, _⟩ := I.list hs
  rw [Vals.ref1 r]
  have hh := all_holds I hx rv
  cases ps with
  | nil => cases hne
  | cons p ps =>
    refine min_list_datum (α := Int × Int) (I.ok.hd hc) hl.isList (by simpa using hh) (Nat.lt_of_le_of_lt (show X.A.units + 1 + 1 ≤ X.A.units + 64 by omega) hu) fun i v h' tk hi hv hk => ?_
    obtain ⟨x, p', m, k1, k2, k3⟩ := pr_at hx rv hh (i := i) (v := v) (by simpa using hi)
    have e := pair_one (k3.keeps hk) hv
    obtain ⟨f1, f2⟩ := min_facts p ps
    exact ⟨x, H, I.kept hk, k2, q x p' m (by rw [e]; exact f2) k1⟩
def rGtP (K : PySem.W.Frag) : R2 := fun x y H Q => ∃ p q : Int × Int, Kv.Pr K H x p ∧ Kv.Pr K H y q ∧ ∀ b : Bool, (b = true ↔ plt q p) → Q (.bl b) H
theorem one_holds {pins : List (Addr × Obj)} {s : Shared} {σ : L2.St} {H : Hp} {x : V} {p : Int × Int} {v : Value} (I : Inv X pins σ H s) (h : Kv.Pr X.K H x p) (r : RelV x v) : Holds s.heap v p := by
  obtain ⟨t, rfl, q⟩ := h
  cases r
  obtain ⟨its, r2, p2, _⟩ := I.tuple q
  obtain ⟨t1, t2, rfl⟩ := Vals.int2 r2
  exact holds_pair p2 (holds_int _ _) (holds_int _ _)
theorem op_gtP (hu : X.A.units + 64 < cLine) : OpR X (compareOp .Gt) (rGtP X.K) := by
  intro pins s σ H x y v u Q I rx ry h
  obtain ⟨p, q, hx, hy, g⟩ := h
  exact gt_datum (α := Int × Int) (one_holds I hx rx) (one_holds I hy ry) (Nat.lt_of_le_of_lt (show X.A.units + 1 ≤ X.A.units + 64 by omega) hu) ⟨.bl _, H, I, rfl, g _ (plt_iff q p)⟩
end
end

section
variable {P : Program} {w : World} {K : PySem.W.Frag} {mg : Str → Option Value} {base : Heap}
/-- the numbers that a law makes of one cell: so many, none below 0, none beyond 10 ^ 13 -/
def spNumbers : Sp := fun vs H Q _ => ∃ c n, vs = [.int c, .int n] ∧ Builtin.Int.intBits c ≤ 1048576 ∧ 0 ≤ n ∧ n ≤ 1000 ∧
  ∀ (ns : List Int) p H', (ns.length : Int) = n → (∀ z ∈ ns, 0 ≤ z ∧ z < 10000000000000) → Same H H' → H p = none → H' p = some (.lst (ns.map V.int)) → Q (.ref p) H'
def invNumbers (c n : Int) (p : Addr) (H : Hp) : Nat → L2.St → Hp → Prop := fun i σ' H' => ∃ (rest : Int) (ns : List Int) (x y : Option V), σ' = [some (.int c), some (.int n), some (.int rest), some (.ref p), x, y] ∧ 0 ≤ rest ∧ Builtin.Int.intBits rest ≤ 1048576 ∧
  ns.length = i ∧ (∀ z ∈ ns, 0 ≤ z ∧ z < 10000000000000) ∧ Same H H' ∧ H' p = some (.lst (ns.map V.int))
theorem ok_L_numbers (T : Txt K mg) : FnOk P w K mg base CX0 1 T.a__law_numbers T.d__law_numbers ["cell", "count"] spNumbers := by
  refine T.F__law_numbers.ok sc_L_numbers (fun vs H Q E h => by obtain ⟨_, _, rfl, _⟩ := h; rfl) (fun cdv A outer s H vs Q E hr h => ?_)
  refine ⟨_, 
      (pss_cons (ps_set (i := 2) sc_L_numbers.nd rfl (Or.inl rfl) pe_int)
      (pss_cons (ps_if (pt_cmpR op_ge (pv 0) (pe_op op_pow pe_int pe_int) (nomark _)) 
        (pss_one (ps_set (i := 2) sc_L_numbers.nd rfl (Or.inl rfl) (pe_op op_fdivW (pv 0) (pe_op op_pow pe_int pe_int)))) pss_nil)
      (pss_cons (ps_set (i := 3) sc_L_numbers.nd rfl (Or.inl rfl) (pe_lst pa_nil))
      (pss_cons (ps_for PassesOwn.never rfl (pi_range1 (by rfl) T.n_range (pa_cons (pv 1) pa_nil)) (pg_name (i := 4) sc_L_numbers.nd rfl (Or.inl rfl)) 
        (pss_one (ps_if (pt_cmpR op_gt (pv 2) pe_int (nomark _)) 
          (pss_cons (ps_expr (pe_bm PySem.F.plainAttrs_list PySem.F.slot_list_append PySem.F.type_list_append mt_append (pv 3) (pa_cons (pe_op op_mod (pe_callTy call_int1 (by rfl) T.n_int (by decide +kernel) (pa_cons (pv 2) pa_nil)) (pe_op op_pow pe_int pe_int)) pa_nil)))
          (pss_one (ps_set (i := 2) sc_L_numbers.nd rfl (Or.inl rfl) (pe_op op_fdivW (pv 2) (pe_op op_pow pe_int pe_int))))) 
          (pss_cons (ps_set (i := 5) sc_L_numbers.nd rfl (Or.inl rfl) (pe_op op_mod (pe_callTy call_int1 (by rfl) T.n_int (by decide +kernel) (pa_cons (pe_op op_add (pe_op op_add (pe_op op_mulX (pv 0) pe_int) (pe_op op_mulX (pv 4) pe_int)) pe_int) pa_nil)) pe_int))
          (pss_cons (ps_set (i := 5) sc_L_numbers.nd rfl (Or.inl rfl) (pe_op op_mod (pe_callTy call_int1 (by rfl) T.n_int (by decide +kernel) (pa_cons (pe_op op_add (pe_op op_add (pe_op op_mulX (pv 5) (pv 5)) (pe_op op_mulX pe_int (pv 4))) pe_int) pa_nil)) pe_int))
          (pss_one (ps_expr (pe_bm PySem.F.plainAttrs_list PySem.F.slot_list_append PySem.F.type_list_append mt_append (pv 3) (pa_cons (pe_op op_add (pe_op op_mulX (pe_op op_mod (pe_callTy call_int1 (by rfl) T.n_int (by decide +kernel) (pa_cons (pe_op op_add (pe_op op_mulX (pv 5) (pv 5)) (pv 5)) pa_nil)) pe_int) pe_int) (pv 4)) pa_nil)))))))))
      (pss_one (ps_ret (pv 3))))))), ?_⟩
  obtain ⟨c, n, rfl, bc, n0, n1, hq⟩ := h
  walk_at "rd"
  split
  all_goals
    first
      | refine ⟨⟨by decide, by decide⟩, fun p hp => ?_⟩
      | intro p hp
    refine ⟨by omega, by omega, Kv.for_rng0 (invNumbers c n p H) ?_ ?_ ?_⟩
  case isTrue.refine_1 =>
    refine ⟨_, [], _, _, rfl, by omega, ?_, rfl, fun z hz => by simp at hz, Kv.same_upd hp, upd_same⟩
    exact Nat.le_trans (Kv.bits_mono (by omega)) bc
  case isFalse.refine_1 => exact ⟨_, [], _, _, rfl, by omega, by decide, rfl, fun z hz => by simp at hz, Kv.same_upd hp, upd_same⟩
  case isTrue.refine_3 | isFalse.refine_3 =>
    rintro σ' H' ⟨rest, ns, x, y, rfl, r0, rb, hl, hz, hs, hp'⟩
    walk_at "rd"
    exact hq ns p H' (by omega) hz hs hp hp'
  case isTrue.refine_2 | isFalse.refine_2 =>
    rintro i σ' H' hi ⟨rest, ns, x, y, rfl, r0, rb, hl, hz, hs, hp'⟩
    have hsz : (ns.map V.int).length < sizeLine := by
      rw [List.length_map]
      exact Nat.lt_of_lt_of_le (show ns.length < 1001 by omega) (by decide)
    have more : ∀ v : Int, 0 ≤ v → v < 10000000000000 → (∀ z ∈ ns ++ [v], 0 ≤ z ∧ z < 10000000000000) := by
      intro v h0 h1 z hm
      rcases List.mem_append.mp hm with hm | hm
      · exact hz z hm
      · rw [List.mem_singleton.mp hm]
        exact ⟨h0, h1⟩
    have fin : ∀ v : Int, (upd H' p (HO.lst (ns.map V.int ++ [.int v]))) p = some (.lst ((ns ++ [v]).map V.int)) := by
      intro v
      rw [upd_same, List.map_append]
      rfl
    walk_at "rd"
    by_cases c1 : 0 < rest
    · rw [if_pos c1]
      refine ⟨.inl ⟨rfl, _, SqL.of hp'⟩, _, hp', hsz, ⟨by decide, by decide⟩, ?_⟩
      refine ⟨rest / 10000000000000, ns ++ [rest % 10000000000000], _, _, rfl, Int.ediv_nonneg r0 (by decide), Nat.le_trans (Kv.bits_mono (by omega)) rb, by simp [hl], more _ (Int.emod_nonneg _ (by decide)) (Int.emod_lt_of_pos _ (by decide)), Kv.same_mut hp hs, fin _⟩
    · rw [if_neg c1]
      have bi : Builtin.Int.intBits (i : Int) ≤ 64 := Kv.bits64 (by omega) (by omega)
      refine ⟨Kv.mulX bc (b := 64) (by decide), Kv.mulX bi (b := 64) (by decide), ?_⟩
      generalize hm1 : (c * 48271 + (i : Int) * 69621 + 1013) % 2147483647 = m1
      have m10 : 0 ≤ m1 := by rw [← hm1]; exact Int.emod_nonneg _ (by decide)
      have m11 : m1 < 2147483647 := by rw [← hm1]; exact Int.emod_lt_of_pos _ (by decide)
      have bm1 : Builtin.Int.intBits m1 ≤ 64 := Kv.bits64 (by omega) (by omega)
      refine ⟨Kv.mulX bm1 bm1, Kv.mulX (a := 64) (by decide) bi, ?_⟩
      generalize hm2 : (m1 * m1 + 8191 * (i : Int) + 77) % 2147483629 = m2
      have m20 : 0 ≤ m2 := by rw [← hm2]; exact Int.emod_nonneg _ (by decide)
      have m21 : m2 < 2147483629 := by rw [← hm2]; exact Int.emod_lt_of_pos _ (by decide)
      have bm2 : Builtin.Int.intBits m2 ≤ 64 := Kv.bits64 (by omega) (by omega)
      generalize hm3 : (m2 * m2 + m2) % 2147483587 = m3
      have m30 : 0 ≤ m3 := by rw [← hm3]; exact Int.emod_nonneg _ (by decide)
      have m31 : m3 < 2147483587 := by rw [← hm3]; exact Int.emod_lt_of_pos _ (by decide)
      have bm3 : Builtin.Int.intBits m3 ≤ 64 := Kv.bits64 (by omega) (by omega)
      refine ⟨.inl ⟨rfl, _, SqL.of hp'⟩, Kv.mulX bm2 bm2, Kv.mulX bm3 (b := 64) (by decide), _, hp', hsz, ?_⟩
      exact ⟨rest, ns ++ [m3 * 4001 + i], _, _, rfl, r0, rb, by simp [hl], more _ (by omega) (by omega), Kv.same_mut hp hs, fin _⟩

theorem ok_L_kinds (T : Txt K mg) : Kv.KindsOk P w K mg base T.toErrs 1 T.a__law_kinds T.d__law_kinds := by
  refine Kv.kinds_of T.F__law_kinds sc_L_kinds (fun cdv A outer s H Q p er hz hf h => ?_)
  refine ⟨_, 
      (pss_cons (ps_set (i := 1) sc_L_kinds.nd rfl (Or.inl rfl) (pe_lst pa_nil))
      (pss_cons (ps_if (pt_val (pe_callB (Kv.call_isP List.mem_cons_self (T.exc er) hz hf) (by rfl) T.n_isinstance (by decide +kernel) (pa_cons (pv 0) (pa_cons (pe_glob (v := .ref (T.exa .badValue)) (by rfl) (T.exg .badValue) rfl) pa_nil)))) 
        (pss_one (ps_expr (pe_bm PySem.F.plainAttrs_list PySem.F.slot_list_append PySem.F.type_list_append mt_append (pv 1) (pa_cons pe_str pa_nil)))) pss_nil)
      (pss_cons (ps_if (pt_val (pe_callB (Kv.call_isP List.mem_cons_self (T.exc er) hz hf) (by rfl) T.n_isinstance (by decide +kernel) (pa_cons (pv 0) (pa_cons (pe_glob (v := .ref (T.exa .badDay)) (by rfl) (T.exg .badDay) rfl) pa_nil)))) 
        (pss_one (ps_expr (pe_bm PySem.F.plainAttrs_list PySem.F.slot_list_append PySem.F.type_list_append mt_append (pv 1) (pa_cons pe_str pa_nil)))) pss_nil)
      (pss_cons (ps_if (pt_val (pe_callB (Kv.call_isP List.mem_cons_self (T.exc er) hz hf) (by rfl) T.n_isinstance (by decide +kernel) (pa_cons (pv 0) (pa_cons (pe_glob (v := .ref (T.exa .missing)) (by rfl) (T.exg .missing) rfl) pa_nil)))) 
        (pss_one (ps_expr (pe_bm PySem.F.plainAttrs_list PySem.F.slot_list_append PySem.F.type_list_append mt_append (pv 1) (pa_cons pe_str pa_nil)))) pss_nil)
      (pss_cons (ps_if (pt_val (pe_callB (Kv.call_isP List.mem_cons_self (T.exc er) hz hf) (by rfl) T.n_isinstance (by decide +kernel) (pa_cons (pv 0) (pa_cons (pe_glob (v := .ref (T.exa .refused)) (by rfl) (T.exg .refused) rfl) pa_nil)))) 
        (pss_one (ps_expr (pe_bm PySem.F.plainAttrs_list PySem.F.slot_list_append PySem.F.type_list_append mt_append (pv 1) (pa_cons pe_str pa_nil)))) pss_nil)
      (pss_cons (ps_if (pt_val (pe_callB (Kv.call_isP List.mem_cons_self (T.exc er) hz hf) (by rfl) T.n_isinstance (by decide +kernel) (pa_cons (pv 0) (pa_cons (pe_glob (v := .ref (T.exa .full)) (by rfl) (T.exg .full) rfl) pa_nil)))) 
        (pss_one (ps_expr (pe_bm PySem.F.plainAttrs_list PySem.F.slot_list_append PySem.F.type_list_append mt_append (pv 1) (pa_cons pe_str pa_nil)))) pss_nil)
      (pss_cons (ps_if (pt_val (pe_callB (Kv.call_isP List.mem_cons_self (T.exc er) hz hf) (by rfl) T.n_isinstance (by decide +kernel) (pa_cons (pv 0) (pa_cons (pe_glob (v := .ref (T.exa .notAllowed)) (by rfl) (T.exg .notAllowed) rfl) pa_nil)))) 
        (pss_one (ps_expr (pe_bm PySem.F.plainAttrs_list PySem.F.slot_list_append PySem.F.type_list_append mt_append (pv 1) (pa_cons pe_str pa_nil)))) pss_nil)
      (pss_cons (ps_if (pt_val (pe_callB (Kv.call_isP List.mem_cons_self (T.exc er) hz hf) (by rfl) T.n_isinstance (by decide +kernel) (pa_cons (pv 0) (pa_cons (pe_glob (v := .ref (T.exa .damaged)) (by rfl) (T.exg .damaged) rfl) pa_nil)))) 
        (pss_one (ps_expr (pe_bm PySem.F.plainAttrs_list PySem.F.slot_list_append PySem.F.type_list_append mt_append (pv 1) (pa_cons pe_str pa_nil)))) pss_nil)
      (pss_one (ps_ret (pv 1))))))))))), ?_⟩
  have hi := fun d => T.exi er d
  refine Kv.seq_step fun U hU => ?_
  walk_at "rd"
  intro l hl
  rw [hU]
  cases er
  all_goals
    iterate 7
      refine Kv.seq_step fun U hU => ?_
      walk_at "rd"
      refine ⟨_, hi _, ?_⟩
      first
        | rw [if_neg (by decide)]
        | (rw [if_pos (by decide)]
           refine ⟨.inl ⟨rfl, _, SqL.of upd_same⟩, _, upd_same, by decide, ?_⟩
           rw [upd_upd])
      rw [hU]
    walk_at "rd"
    exact h l hl

def spCkW (K : PySem.W.Frag) (T : Txt K mg) : Sp := fun vs H Q E => ∃ (a : Addr) (ws : List Int), vs = [.ref a] ∧ SqL K H a (ws.map V.int) ∧ ws.length ≤ 1000 ∧ (Wok ws → Q .non H) ∧ (¬Wok ws → E (.ref (T.exa .badValue)) none H)
def invCkW (a : Addr) (ws : List Int) (H : Hp) : Nat → L2.St → Hp → Prop := fun i σ' H' => ∃ v1 : Option V, σ' = [some (.ref a), v1] ∧ H' = H ∧ ∀ (j : Nat) w, j < i → ws[j]? = some w → 0 ≤ w ∧ w ≤ 1000000
theorem ok_check_weights (T : Txt K mg) : FnOk P w K mg base (L2.CX P w) 1 T.a_check_weights T.d_check_weights ["weights"] (spCkW K T) := by
  refine T.F_check_weights.okX sc_check_weights (fun vs H Q E h => by obtain ⟨_, _, rfl, _⟩ := h; rfl) (fun cdv A outer s H vs Q E hr h => ?_)
  refine ⟨_, 
      (pss_cons (ps_if (pt_not (pt_chain op_le op_le pe_int (pe_callB call_len_seq (by rfl) T.n_len PySem.boot_len (pa_cons (pv 0) pa_nil)) (pe_glob (by rfl) T.g_MOST_WEIGHTS T.r_MOST_WEIGHTS))) 
        (pss_one (ps_raise rfl (takes_of rfl rfl rfl rfl) (pmk_own PySem.F.excBase_ValueError (T.exx .badValue) (T.exg .badValue) (T.exk .badValue) (raises_own (T.exb .badValue) (T.ext .badValue)) (by rfl)))) pss_nil)
      (pss_cons (ps_for (passes_of rfl) rfl (pi_list (pv 0)) (pg_name (i := 1) sc_check_weights.nd rfl (Or.inl rfl)) 
        (pss_one (ps_if (pt_not (pt_chain op_le op_le pe_int (pv 1) (pe_glob (by rfl) T.g_GREATEST_WEIGHT T.r_GREATEST_WEIGHT))) 
          (pss_one (ps_raise rfl (takes_of rfl rfl rfl rfl) (pmk_own PySem.F.excBase_ValueError (T.exx .badValue) (T.exg .badValue) (T.exk .badValue) (raises_own (T.exb .badValue) (T.ext .badValue)) (by rfl)))) pss_nil)))
      (pss_one (ps_if (pt_cmpR op_eq (pe_callB (cr_sum rfl) (by rfl) T.n_sum (by decide +kernel) (pa_cons (pv 0) pa_nil)) pe_int (nomark _)) 
        (pss_one (ps_raise rfl (takes_of rfl rfl rfl rfl) (pmk_own PySem.F.excBase_ValueError (T.exx .badValue) (T.exg .badValue) (T.exk .badValue) (raises_own (T.exb .badValue) (T.ext .badValue)) (by rfl)))) pss_nil)))), ?_⟩
  obtain ⟨a, ws, rfl, hS, hl, hq, he⟩ := h
  walk_at "st"
  refine ⟨_, .inl hS, ?_⟩
  rw [List.length_map]
  split
  rotate_left
  · exact he (fun z => by have := z.1; omega)
  split
  · exact he (fun z => by have := z.2.1; omega)
  walk_at "nx"
  refine ⟨⟨_, hS⟩, Kv.for_lst (ws.map V.int) (invCkW a ws H) ⟨_, rfl, rfl, fun j w hj => by omega⟩ ?_ ?_ ?_⟩
  · rintro i σ' H' ⟨_, rfl, rfl, _⟩
    exact hS
  · rintro i x σ' H' hx ⟨_, rfl, rfl, hj⟩
    obtain ⟨w, hw, rfl⟩ := Kv.ref_num hx
    have bad : ¬(0 ≤ w ∧ w ≤ 1000000) → E (.ref (T.exa .badValue)) none H' := fun z => he (fun g => z (g.2.2.1 w (List.mem_of_getElem? hw)))
    walk_at "rd"
    split
    rotate_left
    · exact bad (by omega)
    split
    · exact bad (by omega)
    refine ⟨_, rfl, rfl, fun j v hj2 hv => ?_⟩
    rcases (by omega : j < i ∨ j = i) with z | z
    · exact hj j v z hv
    · subst z
      rw [hw] at hv
      cases hv
      omega
  rintro σ' H' ⟨_, rfl, rfl, hj⟩
  have hall : ∀ w ∈ ws, 0 ≤ w ∧ w ≤ 1000000 := fun w hw => by
    obtain ⟨i, hi⟩ := List.getElem?_of_mem hw
    exact hj i w (by have := (List.getElem?_eq_some_iff.mp hi).1; simpa using this) hi
  walk_at "nx"
  refine ⟨a, ws, rfl, hS, ?_⟩
  walk_at "rd"
  split
  · rename_i c
    exact he (fun z => z.2.2.2 c)
  · rename_i c
    exact hq ⟨by omega, by omega, hall, c⟩
def spAlloc (K : PySem.W.Frag) (T : Txt K mg) : Sp := fun vs H Q E => ∃ (am : Int) (a : Addr) (ws : List Int), vs = [.int am, .ref a] ∧ SqL K H a (ws.map V.int) ∧ ws.length ≤ 1000 ∧ (AmOk am → Wok ws → ∀ p sh b H', Alloc am ws sh b → Same H H' → H p = none → H' p = some (.lst (sh.map V.int)) → Q (.ref p) H') ∧ (¬(AmOk am ∧ Wok ws) → E (.ref (T.exa .badValue)) none H)
def invInc (am : Int) (a : Addr) (ws : List Int) (p1 p2 p4 : Addr) (l : Int) (ks : List (Int × Int)) (H : Hp) : Nat → L2.St → Hp → Prop := fun t σ' H' => ∃ (sl : List Int) (v4 v7 v8 v10 : Option V), σ' = [some (.int am), some (.ref a), some (.int ws.sum), some (.ref p1), v4, some (.ref p2), some (.ref p4), v7, v8, some (.int l), v10] ∧
  (∀ b o, b ≠ p1 → H b = some o → H' b = some o) ∧ H' p1 = some (.lst (sl.map V.int)) ∧ sl.length = ws.length ∧ (∀ i, i < ws.length → sl.getD i 0 = fl am ws.sum (ws.getD i 0) + b01 ((ks.take t).any fun p => decide (p.2 = (i : Int)))) ∧ sl.sum = (ws.map (fl am ws.sum)).sum + t
theorem ok_allocate (T : Txt K mg) : FnOk P w K mg base (L2.CX P w) 2 T.a_allocate T.d_allocate ["amount", "weights"] (spAlloc K T) := by
  refine T.F_allocate.okX sc_allocate (fun vs H Q E h => by obtain ⟨_, _, _, rfl, _⟩ := h; rfl) (fun cdv A outer s H vs Q E hr h => ?_)
  refine ⟨_, 
      (pss_cons (ps_if (pt_not (pt_chain op_le op_le pe_int (pv 0) (pe_glob (by rfl) T.g_GREAT T.r_GREAT))) 
        (pss_one (ps_raise rfl (takes_of rfl rfl rfl rfl) (pmk_own PySem.F.excBase_ValueError (T.exx .badValue) (T.exg .badValue) (T.exk .badValue) (raises_own (T.exb .badValue) (T.ext .badValue)) (by rfl)))) pss_nil)
      (pss_cons (ps_expr (pe_call (ok_check_weights T) (hr.mono (by decide : 1 ≤ _)) (by rfl) T.g_check_weights T.F_check_weights.kp T.b_check_weights .nil (passes_call (takes_of rfl rfl rfl rfl) (fun _ _ _ _ h => h)) (pa_cons (pv 1) pa_nil)))
      (pss_cons (ps_set (i := 2) sc_allocate.nd rfl (Or.inr rfl) (pe_callB (cr_sum rfl) (by rfl) T.n_sum (by decide +kernel) (pa_cons (pv 1) pa_nil)))
      (pss_cons (ps_setLc (i := 3) (own := [("weight", 4)]) (g := gName 4) (tt := tYes) rfl sc_allocate.nd rfl rfl (sw_true rfl rfl rfl (by decide +kernel)) (pi_list (pv 1)) (blkOk_by (N := ["amount", "weights", "total", "shares", "weight", "rests", "ranks", "place", "rest", "left", "_"]) (sc := defScope s_allocate) (by decide +kernel)) (fun _ _ _ _ _ => (pg_name (i := 4) sc_allocate.nd rfl (Or.inl rfl))) (fun _ _ _ _ _ => pts_nil) (fun _ _ _ _ _ => (pe_op op_fdivW (pe_op op_mulX (pv 0) (pv 4)) (pv 2))))
      (pss_cons (ps_setLc (i := 5) (own := [("weight", 4)]) (g := gName 4) (tt := tYes) rfl sc_allocate.nd rfl rfl (sw_true rfl rfl rfl (by decide +kernel)) (pi_list (pv 1)) (blkOk_by (N := ["amount", "weights", "total", "shares", "weight", "rests", "ranks", "place", "rest", "left", "_"]) (sc := defScope s_allocate) (by decide +kernel)) (fun _ _ _ _ _ => (pg_name (i := 4) sc_allocate.nd rfl (Or.inl rfl))) (fun _ _ _ _ _ => pts_nil) (fun _ _ _ _ _ => (pe_op op_mod (pe_op op_mulX (pv 0) (pv 4)) (pv 2))))
      (pss_cons (ps_set (i := 6) sc_allocate.nd rfl (Or.inl rfl) (pe_callB cr_sortedPO (by rfl) T.n_sorted (by decide +kernel) (pa_cons (pe_lc (own := [("place", 7), ("rest", 8)]) (g := gTup K 2 (gCons (gName 7) (gCons (gName 8) gNil))) (tt := tYes) rfl sc_allocate.nd (pi_enum (by rfl) T.n_enumerate (pa_cons (pv 5) pa_nil)) (blkOk_by (N := ["amount", "weights", "total", "shares", "weight", "rests", "ranks", "place", "rest", "left", "_"]) (sc := defScope s_allocate) (by decide +kernel)) (fun _ _ _ _ _ => (pg_tup (n := 2) (by rfl) (pgs_cons (pg_name (i := 7) sc_allocate.nd rfl (Or.inl rfl)) (pgs_cons (pg_name (i := 8) sc_allocate.nd rfl (Or.inl rfl)) pgs_nil)))) (fun _ _ _ _ _ => pts_nil) (fun _ _ _ _ _ => (pe_tup (pa_cons (pe_un un_neg (pv 8)) (pa_cons (pv 7) pa_nil))))) pa_nil)))
      (pss_cons (ps_set (i := 9) sc_allocate.nd rfl (Or.inl rfl) (pe_op op_sub (pv 0) (pe_callB (cr_sum rfl) (by rfl) T.n_sum (by decide +kernel) (pa_cons (pv 3) pa_nil))))
      (pss_cons (ps_for (passes_of rfl) rfl (pi_list (pe_slice sl_list (pv 6) po_none (po_some (pv 9)))) (pg_tup (n := 2) (by rfl) (pgs_cons (pg_name (i := 10) sc_allocate.nd rfl (Or.inl rfl)) (pgs_cons (pg_name (i := 7) sc_allocate.nd rfl (Or.inl rfl)) pgs_nil))) 
        (pss_one (ps_augS (pv 3) (pv 7) Kv.get_list pe_int ip_add set_list)))
      (pss_one (ps_ret (pv 3))))))))))), ?_⟩
  obtain ⟨am, a, ws, rfl, hS, hl, hq, he⟩ := h
  walk_at "st"
  split
  rotate_left
  · exact he (fun z => by have := z.1.1; omega)
  split
  · exact he (fun z => by have := z.1.2; omega)
  have hA : AmOk am := ⟨by omega, by omega⟩
  obtain ⟨a0, a1⟩ := id hA
  walk_at "nx"
  refine ⟨a, ws, rfl, hS, hl, fun hW => ?_, fun hW => he (fun z => hW z.2)⟩
  have hq := hq hA hW
  have hT := hW.total
  have hw1 := hW.1
  have hw2 := hW.2.1
  have hb := hW.2.2.1
  have mul : ∀ w ∈ ws, CMulX am w := fun w hw => Kv.mulX (Kv.bits64 (by omega) (by omega)) (Kv.bits64 (by have := hb w hw; omega) (by have := hb w hw; omega))
  walk_at "nx"
  refine ⟨a, ws, rfl, hS, ?_⟩
  walk_at "nx"
  refine ⟨⟨_, hS⟩, Kv.lc_pure walk_list (ws.map fun w => V.int (fl am ws.sum w)) (by simp) (Nat.lt_of_le_of_lt (show _ ≤ 60 by simp; omega) (by decide)) (fun H' s1 => s1.seq hS) (fun i x y H1 H2 U hy s1 hY hU => ?_) fun p1 H1 hp1 s1 e1 => ?_⟩
  · obtain ⟨rfl, hx⟩ := hY
    obtain ⟨w, hw, rfl⟩ := Kv.ref_num hx
    rw [List.getElem?_map, hw] at hy
    cases hy
    walk_at "rd"
    exact ⟨mul w (List.mem_of_getElem? hw), Kv.cdivw hT.1 (by omega), hU _ (Same.refl _)⟩
  walk_at "nx"
  refine ⟨⟨_, s1.seq hS⟩, Kv.lc_pure walk_list (ws.map fun w => V.int (rm am ws.sum w)) (by simp) (Nat.lt_of_le_of_lt (show _ ≤ 60 by simp; omega) (by decide)) (fun H' s2 => s2.seq (s1.seq hS)) (fun i x y H2 H3 U hy s2 hY hU => ?_) fun p2 H2 hp2 s2 e2 => ?_⟩
  · obtain ⟨rfl, hx⟩ := hY
    obtain ⟨w, hw, rfl⟩ := Kv.ref_num hx
    rw [List.getElem?_map, hw] at hy
    cases hy
    walk_at "rd"
    exact ⟨mul w (List.mem_of_getElem? hw), hT.1, hU _ (Same.refl _)⟩
  walk_at "nx"
  have e1' : H2 p1 = some (.lst ((ws.map (fl am ws.sum)).map V.int)) := by rw [s2 _ _ e1, List.map_map]; rfl
  have e2' : H2 p2 = some (.lst ((ws.map (rm am ws.sum)).map V.int)) := by rw [e2, List.map_map]; rfl
  refine ⟨⟨_, SqL.of e2'⟩, Kv.lc_go walk_enum (fun i y H => ∃ t, y = .ref t ∧ H t = some (.tup [.int (-rm am ws.sum (ws.getD i 0)), .int (i : Int)])) (Nat.lt_of_le_of_lt (show ((ws.map (rm am ws.sum)).map V.int).length ≤ 60 by simp; omega) (by decide)) ?_ (fun H s3 => s3.seq (SqL.of e2')) ?_ ?_⟩
  · rintro i y H7 H8 D _ ⟨zs, hD⟩ _ ⟨r, e1, e2⟩ k
    exact ⟨r, e1, k _ _ (ne_of e2 hD (by intro z; cases z)) e2⟩
  · rintro i x H3 H4 D U hi _ _ s3 ⟨T2, x2, y2, rfl, hT2, rfl, hx, hy⟩ hU
    cases hx
    obtain ⟨v, hv, rfl⟩ := Kv.ref_num hy
    rw [List.getElem?_map] at hv
    obtain ⟨w, hw, rfl⟩ : ∃ w, ws[i]? = some w ∧ v = rm am ws.sum w := by
      cases h : ws[i]? with
      | none => rw [h] at hv; cases hv
      | some w => rw [h] at hv; exact ⟨w, rfl, (Option.some.inj hv).symm⟩
    refine Kv.gtupN2 (SqT.of upd_same) ?_
    walk_at "rd"
    intro q hq1
    refine hU _ _ ⟨q, rfl, ?_⟩ ((Kv.same_upd hT2).trans (Kv.same_upd hq1))
    rw [upd_same, List.getD_eq_getElem?_getD, hw]
    rfl
  rintro p3 ys H3 hp3 s3 hys hR e3
  have hys : ys.length = ws.length := by simpa using hys
  have kp : ∀ i y, ys[i]? = some y → pairOf H3 y = (-rm am ws.sum (ws.getD i 0), (i : Int)) := by
    intro i y e
    obtain ⟨t, rfl, ht⟩ := hR i y e
    unfold pairOf
    simp only [ht]
  refine ⟨p3, ys, pairOf H3, rfl, SqL.of e3, fun x hx => ?_, fun zs p4 hs hst hp4 => ?_⟩
  · obtain ⟨i, hi⟩ := List.getElem?_of_mem hx
    obtain ⟨t, rfl, ht⟩ := hR i x hi
    refine ⟨t, rfl, ?_⟩
    rw [kp i _ hi]
    exact ht
  have hbase : ys.map (pairOf H3) = (List.range ws.length).map fun (i : Nat) => (-rm am ws.sum (ws.getD i 0), (i : Int)) := by
    refine List.ext_getElem? fun i => ?_
    rw [List.getElem?_map, List.getElem?_map]
    rcases Nat.lt_or_ge i ws.length with h | h
    · rw [List.getElem?_eq_getElem (show i < ys.length by omega), List.getElem?_range h]
      exact congrArg some (kp i _ (List.getElem?_eq_getElem (by omega)))
    · rw [List.getElem?_eq_none (by omega), List.getElem?_eq_none (by simp; omega)]
      rfl
  have hperm : (zs.map (pairOf H3)).Perm ((List.range ws.length).map fun (i : Nat) => (-rm am ws.sum (ws.getD i 0), (i : Int))) := by
    rw [← hbase]
    exact hst.perm.map _
  have hsrt : (zs.map (pairOf H3)).Pairwise fun x y => SrtO.lexB y x = false := List.pairwise_map.mpr hs
  have hzl : zs.length = ws.length := by rw [hst.perm.length_eq, hys]
  have s5 := Kv.same_upd (o := .lst zs) hp4
  walk_at "nx"
  refine ⟨p1, ws.map (fl am ws.sum), rfl, SqL.of (s5 _ _ (s3 _ _ e1')), ?_⟩
  have hleft := left_in (am := am) hT.1
  walk_at "nx"
  refine ⟨p4, zs, rfl, SqL.of upd_same, fun p5 hp5 => ?_⟩
  rw [Kv.cut_to hleft.1]
  walk_at "rd"
  have s6 := Kv.same_upd (o := .lst (zs.take (am - (ws.map (fl am ws.sum)).sum).toNat)) hp5
  have e5 : (upd (upd H3 p4 (.lst zs)) p5 (.lst (zs.take (am - (ws.map (fl am ws.sum)).sum).toNat))) p5 = _ := upd_same
  have g1 := s6 _ _ (s5 _ _ (s3 _ _ e1'))
  have gS : Same H3 _ := s5.trans s6
  have n51 : p5 ≠ p1 := fun z => by
    rw [z, s5 _ _ (s3 _ _ e1')] at hp5
    cases hp5
  have hS0 := s1.trans (s2.trans (s3.trans (s5.trans s6)))
  generalize upd (upd H3 p4 (HO.lst zs)) p5 (HO.lst (zs.take (am - (ws.map (fl am ws.sum)).sum).toNat)) = H5 at *
  obtain ⟨L, hL⟩ := Int.eq_ofNat_of_zero_le hleft.1
  rw [hL] at e5 ⊢
  rw [Int.toNat_natCast] at e5
  obtain ⟨k1, k2, k3⟩ := ranked (L := L) hperm hsrt
  have hLn : L ≤ ws.length := by omega
  refine ⟨⟨_, SqL.of e5⟩, Kv.for_lst (zs.take L) (invInc am a ws p1 p2 p4 (L : Int) (zs.map (pairOf H3)) H5) ⟨ws.map (fl am ws.sum), _, _, _, _, rfl, fun b o _ e => e, g1, by simp, fun i hi => ?_, by simp⟩ ?_ ?_ ?_⟩
  · rw [List.getD_eq_getElem?_getD, List.getElem?_map, List.getD_eq_getElem?_getD, List.getElem?_eq_getElem hi]
    simp [b01]
  · rintro t σ' H6 ⟨sl, _, _, _, _, rfl, g2, _, _, _, _⟩
    exact SqL.of (g2 _ _ n51 e5)
  · rintro t x σ' H6 hx ⟨sl, _, _, _, _, rfl, g2, g3, hsl, hv, hsum⟩
    have htL : t < L := by
      have := (List.getElem?_eq_some_iff.mp hx).1
      rw [List.length_take] at this
      omega
    rw [List.getElem?_take_of_lt htL] at hx
    have hk : (zs.map (pairOf H3))[t]? = some (pairOf H3 x) := by rw [List.getElem?_map, hx]; rfl
    obtain ⟨i, hi, ei⟩ := k1 t _ hk
    obtain ⟨j, hj⟩ := List.getElem?_of_mem (hst.perm.mem_iff.mp (List.mem_of_getElem? hx))
    obtain ⟨r, rfl, hr⟩ := hR j x hj
    rw [kp j _ hj] at ei
    have eij : j = i := by
      have := congrArg Prod.snd ei
      simp at this
      omega
    subst eij
    rw [kp j _ hj] at hk
    have nr : r ≠ p1 := ne_of (gS _ _ hr) g1 (by intro z; cases z)
    refine Kv.gtupN2 (SqT.of (g2 _ _ nr (gS _ _ hr))) ?_
    have hjs : sl[j]? = some (sl.getD j 0) := by rw [List.getD_eq_getElem?_getD, List.getElem?_eq_getElem (by omega)]; rfl
    walk_at "rd"
    refine ⟨p1, sl.map V.int, j, _, rfl, rfl, SqL.of g3, by omega, by rw [Int.toNat_natCast, List.getElem?_map, hjs]; rfl, ?_⟩
    walk_at "rd"
    refine ⟨p1, sl.map V.int, j, j, rfl, rfl, g3, ?_, ?_⟩
    · unfold ixN
      rw [if_pos (by omega), if_pos (by simp; omega), Int.toNat_natCast]
    refine ⟨sl.set j (sl.getD j 0 + 1), _, _, _, _, rfl, fun b o hb e => ?_, ?_, by simp [hsl], fun i2 hi2 => ?_, ?_⟩
    · rw [upd_ne hb]
      exact g2 b o hb e
    · rw [upd_same, List.map_set]
    · have tk : (zs.map (pairOf H3)).take (t + 1) = (zs.map (pairOf H3)).take t ++ [(-rm am ws.sum (ws.getD j 0), (j : Int))] := by rw [List.take_add_one, hk]; rfl
      rw [tk, List.any_append]
      have hv2 := hv i2 hi2
      by_cases c : j = i2
      · subst c
        have f : ((zs.map (pairOf H3)).take t).any (fun p => decide (p.2 = (j : Int))) = false := by
          refine List.any_eq_false.mpr fun p hp => ?_
          intro z
          have z := of_decide_eq_true z
          obtain ⟨u, hu⟩ := List.getElem?_of_mem hp
          have ul := (List.getElem?_eq_some_iff.mp hu).1
          rw [List.length_take] at ul
          rw [List.getElem?_take_of_lt (by omega)] at hu
          have := k2 u t p _ hu hk z
          omega
        rw [f] at hv2 ⊢
        rw [List.getD_eq_getElem?_getD, List.getElem?_set_self (by omega)]
        simp [b01] at hv2 ⊢
        omega
      · rw [List.getD_eq_getElem?_getD, List.getElem?_set_ne c, ← List.getD_eq_getElem?_getD, hv2]
        have : ¬((j : Int) = (i2 : Int)) := by omega
        simp [this]
    · rw [sum_set hjs, hsum]
      omega
  · rintro σ' H6 ⟨sl, _, _, _, _, rfl, g2, g3, hsl, hv, hsum⟩
    walk_at "nx"
    have len : (zs.take L).length = L := by rw [List.length_take]; omega
    rw [len] at hv hsum
    refine hq p1 sl _ _ ⟨hsl, hv, by omega, fun i j hi hj bi bj => k3 i j hi hj bi bj⟩ ?_ hp1 g3
    intro b o e
    exact g2 b o (ne_of_none e hp1) (hS0 b o e)

def spWts (K : PySem.W.Frag) : Sp := fun vs H Q _ => ∃ (a : Addr) (ns : List Int), vs = [.ref a] ∧ SqL K H a (ns.map V.int) ∧ 70 ≤ ns.length ∧ (∀ z ∈ ns, 0 ≤ z ∧ z < 10000000000000) ∧ ∀ p ws H', Wok ws → Same H H' → H' p = some (.lst (ws.map V.int)) → Q (.ref p) H'
def midW1 (a : Addr) (H : Hp) : L2.St → Hp → Prop := fun σ' H' => ∃ (c : Int) (v2 v3 v4 : Option V), σ' = [some (.ref a), some (.int c), v2, v3, v4] ∧ H' = H ∧ 1 ≤ c ∧ c ≤ 60
def midW2 (a : Addr) (c : Int) (H : Hp) : L2.St → Hp → Prop := fun σ' H' => ∃ (l : Int) (v3 v4 : Option V), σ' = [some (.ref a), some (.int c), some (.int l), v3, v4] ∧ H' = H ∧ 10 ≤ l ∧ l ≤ 1000001
theorem ok_L_weights (T : Txt K mg) : FnOk P w K mg base CX0 1 T.a__law_weights T.d__law_weights ["numbers"] (spWts K) := by
  refine T.F__law_weights.ok sc_L_weights (fun vs H Q E h => by obtain ⟨_, _, rfl, _⟩ := h; rfl) (fun cdv A outer s H vs Q E hr h => ?_)
  refine ⟨_, 
      (pss_cons (ps_set (i := 1) sc_L_weights.nd rfl (Or.inl rfl) (pe_op op_add pe_int (pe_op op_mod (pe_ix ix_list (pv 0) pe_int (fun _ _ => rfl)) pe_int)))
      (pss_cons (ps_if (pt_cmpR op_eq (pe_op op_mod (pe_ix ix_list (pv 0) pe_int (fun _ _ => rfl)) pe_int) pe_int (nomark _)) 
        (pss_one (ps_set (i := 1) sc_L_weights.nd rfl (Or.inl rfl) (pe_op op_add pe_int (pe_op op_mod (pe_ix ix_list (pv 0) pe_int (fun _ _ => rfl)) pe_int)))) pss_nil)
      (pss_cons (ps_set (i := 2) sc_L_weights.nd rfl (Or.inr rfl) pe_int)
      (pss_cons (ps_if (pt_cmpR op_eq (pe_op op_mod (pe_ix ix_list (pv 0) pe_int (fun _ _ => rfl)) pe_int) pe_int (nomark _)) 
        (pss_one (ps_set (i := 2) sc_L_weights.nd rfl (Or.inr rfl) (pe_op op_add (pe_op op_pow pe_int pe_int) pe_int))) pss_nil)
      (pss_cons (ps_setLc (i := 3) (own := [("k", 4)]) (g := gName 4) (tt := tYes) rfl sc_L_weights.nd rfl rfl (sw_true rfl rfl rfl (by decide +kernel)) (pi_range1 (by rfl) T.n_range (pa_cons (pv 1) pa_nil)) (blkOk_by (N := ["numbers", "count", "limit", "weights", "k"]) (sc := defScope s_L_weights) (by decide +kernel)) (fun _ _ _ _ _ => (pg_name (i := 4) sc_L_weights.nd rfl (Or.inl rfl))) (fun _ _ _ _ _ => pts_nil) (fun _ _ _ _ _ => (pe_op op_mod (pe_ix (Kv.ixl K) (pv 0) (pe_op op_add pe_int (pv 4)) (fun _ _ => rfl)) (pv 2))))
      (pss_cons (ps_if (pt_cmpR op_eq (pe_callB (cr_sum rfl) (by rfl) T.n_sum (by decide +kernel) (pa_cons (pv 3) pa_nil)) pe_int (nomark _)) 
        (pss_one (ps_asg (pe_op op_add pe_int (pe_op op_mod (pe_ix ix_list (pv 0) pe_int (fun _ _ => rfl)) (pe_op op_sub (pv 2) pe_int))) (pg_sub (pv 3) (pe_op op_mod (pe_ix ix_list (pv 0) pe_int (fun _ _ => rfl)) (pv 1)) set_list))) pss_nil)
      (pss_one (ps_ret (pv 3))))))))), ?_⟩
  obtain ⟨a, ns, rfl, hS, hl, hn, hq⟩ := h
  refine Kv.seq_cut (midW1 a H) (fun U hU => ?_) ?_
  · walk_at "rd"
    refine Kv.ix_num hS (by omega) ?_
    walk_at "rd"
    exact hU _ _ ⟨_, _, _, _, rfl, rfl, by omega, by omega⟩
  rintro σ' H' ⟨c, _, _, _, rfl, rfl, c0, c1⟩
  refine Kv.seq_cut (midW1 a H') (fun U hU => ?_) ?_
  · walk_at "rd"
    refine Kv.ix_num hS (by omega) ?_
    walk_at "rd"
    split
    · refine Kv.ix_num hS (by omega) ?_
      walk_at "rd"
      exact hU _ _ ⟨_, _, _, _, rfl, rfl, by omega, by omega⟩
    · exact hU _ _ ⟨_, _, _, _, rfl, rfl, c0, c1⟩
  rintro σ' H ⟨c, _, _, _, rfl, rfl, c0, c1⟩
  refine Kv.seq_cut (midW2 a c H) (fun U hU => ?_) ?_
  · walk_at "rd"
    exact hU _ _ ⟨_, _, _, rfl, rfl, by omega, by omega⟩
  rintro σ' H' ⟨l, _, _, rfl, rfl, l0, l1⟩
  refine Kv.seq_cut (midW2 a c H') (fun U hU => ?_) ?_
  · walk_at "rd"
    refine Kv.ix_num hS (by omega) ?_
    walk_at "rd"
    split <;> exact hU _ _ ⟨_, _, _, rfl, rfl, by omega, by omega⟩
  rintro σ' H ⟨l, _, _, rfl, rfl, l0, l1⟩
  walk_at "st"
  refine ⟨by omega, by omega, Kv.lc_ints walk_range (fun v => 0 ≤ v ∧ v ≤ 1000000) (Nat.lt_of_le_of_lt (show _ ≤ 60 by omega) (by decide)) (fun _ _ => trivial) (fun i x H1 H2 U2 hi s1 hY hu => ?_) fun p ws H1 hp s1 hl1 hP e => ?_⟩
  · obtain ⟨rfl, rfl⟩ := hY
    walk_at "rd"
    refine Kv.ix_num (s1.seq hS) (by omega) ?_
    walk_at "rd"
    have z0 := Int.emod_nonneg (ns.getD (10 + (0 + (i : Int))).toNat 0) (show l ≠ 0 by omega)
    have z1 := Int.emod_lt_of_pos (ns.getD (10 + (0 + (i : Int))).toNat 0) (show 0 < l by omega)
    refine ⟨by omega, hu _ _ ?_ (Same.refl _)⟩
    exact ⟨z0, by omega⟩
  walk_at "nx"
  refine ⟨p, ws, rfl, SqL.of e, ?_⟩
  walk_at "rd"
  split
  · rename_i c2
    refine Kv.ix_num (s1.seq hS) (by omega) ?_
    walk_at "rd"
    have z0 := Int.emod_nonneg (ns.getD 4 0) (show l - 1 ≠ 0 by omega)
    have z1 := Int.emod_lt_of_pos (ns.getD 4 0) (show 0 < l - 1 by omega)
    refine ⟨by omega, Kv.ix_num (s1.seq hS) (by omega) ?_⟩
    walk_at "rd"
    have y0 := Int.emod_nonneg (ns.getD 3 0) (show c ≠ 0 by omega)
    have y1 := Int.emod_lt_of_pos (ns.getD 3 0) (show 0 < c by omega)
    obtain ⟨j, hj⟩ := Int.eq_ofNat_of_zero_le y0
    have hj2 : j < ws.length := by omega
    have hjs : ws[j]? = some (ws[j]) := List.getElem?_eq_getElem hj2
    refine ⟨by omega, p, _, _, j, rfl, rfl, e, ?_, ?_⟩
    · unfold ixN
      rw [if_pos (by omega), if_pos (by rw [List.length_map]; omega), hj, Int.toNat_natCast]
    walk_at "nx"
    have ss := sum_set (v := 1 + ns.getD 4 0 % (l - 1)) hjs
    have sm := mem_sum (fun v hv => (hP v hv).1) (List.getElem_mem hj2)
    have s0 := (hP _ (List.getElem_mem hj2)).1
    refine hq p (ws.set j (1 + ns.getD 4 0 % (l - 1))) _ ⟨by simp; omega, by simp; omega, fun v hv => ?_, by omega⟩ (Kv.same_mut hp s1) (by rw [upd_same, List.map_set])
    rcases List.mem_or_eq_of_mem_set hv with z | z
    · exact hP v z
    · rw [z]
      omega
  · rename_i c2
    walk_at "nx"
    exact hq p ws _ ⟨by omega, by omega, hP, c2⟩ s1 e

theorem ones_flat : ∀ k : Nat, (List.replicate k [V.int 1]).flatten = (List.replicate k (1 : Int)).map V.int
  | 0 => rfl
  | k + 1 => by
    rw [List.replicate_succ, List.flatten_cons, ones_flat k, List.replicate_succ, List.map_cons]
    rfl
theorem ones_sum : ∀ k : Nat, (List.replicate k (1 : Int)).sum = k
  | 0 => rfl
  | k + 1 => by
    rw [List.replicate_succ, List.sum_cons, ones_sum k]
    omega
theorem wok_ones {n : Int} (h0 : 1 ≤ n) (h1 : n ≤ 60) : Wok (List.replicate n.toNat 1) := by
  refine ⟨by simp; omega, by simp; omega, fun w hw => ?_, by rw [ones_sum]; omega⟩
  rw [(List.mem_replicate.mp hw).2]
  omega
def spSplit (K : PySem.W.Frag) (T : Txt K mg) : Sp := fun vs H Q E => ∃ (am : Int) (n : Int), vs = [.int am, .int n] ∧ (AmOk am → 1 ≤ n → n ≤ 60 → ∀ p sh b H', Alloc am (List.replicate n.toNat 1) sh b → Same H H' → H p = none → H' p = some (.lst (sh.map V.int)) → Q (.ref p) H') ∧
  (¬(AmOk am ∧ 1 ≤ n ∧ n ≤ 60) → ∀ H', Same H H' → E (.ref (T.exa .badValue)) none H')
theorem ok_split_equally (T : Txt K mg) : FnOk P w K mg base (L2.CX P w) 3 T.a_split_equally T.d_split_equally ["amount", "parts"] (spSplit K T) := by
  refine T.F_split_equally.okX sc_split_equally (fun vs H Q E h => by obtain ⟨_, _, rfl, _⟩ := h; rfl) (fun cdv A outer s H vs Q E hr h => ?_)
  refine ⟨_, 
      (pss_cons (ps_if (pt_not (pt_chain op_le op_le pe_int (pv 1) (pe_glob (by rfl) T.g_MOST_WEIGHTS T.r_MOST_WEIGHTS))) 
        (pss_one (ps_raise rfl (takes_of rfl rfl rfl rfl) (pmk_own PySem.F.excBase_ValueError (T.exx .badValue) (T.exg .badValue) (T.exk .badValue) (raises_own (T.exb .badValue) (T.ext .badValue)) (by rfl)))) pss_nil)
      (pss_one (ps_ret (pe_call (ok_allocate T) (hr.mono (by decide : 2 ≤ _)) (by rfl) T.g_allocate T.F_allocate.kp T.b_allocate .nil (passes_call (takes_of rfl rfl rfl rfl) (fun _ _ _ _ h => h)) (pa_cons (pv 0) (pa_cons (pe_op op_rep (pe_lst (pa_cons pe_int pa_nil)) (pv 1)) pa_nil)))))), ?_⟩
  obtain ⟨am, n, rfl, hq, he⟩ := h
  walk_at "st"
  split
  rotate_left
  · exact he (fun z => by have := z.2.1; omega) _ (Same.refl _)
  split
  · exact he (fun z => by have := z.2.2; omega) _ (Same.refl _)
  walk_at "nx"
  intro p1 hp1
  refine ⟨p1, n, [.int 1], rfl, rfl, upd_same, by omega, by omega, Nat.le_trans (show _ ≤ 60 by simp; omega) (by decide), fun p2 hp2 => ?_⟩
  have e : (List.replicate n.toNat [V.int 1]).flatten = (List.replicate n.toNat (1 : Int)).map V.int := ones_flat _
  rw [e]
  have s1 := (Kv.same_upd (o := .lst [V.int 1]) hp1).trans (Kv.same_upd (o := .lst ((List.replicate n.toNat (1 : Int)).map V.int)) hp2)
  refine ⟨am, p2, List.replicate n.toNat 1, rfl, SqL.of upd_same, by simp; omega, fun hA _ q sh b H' hAl s5 hq1 e5 => hq hA (by omega) (by omega) q sh b H' hAl (s1.trans s5) (s1.free hq1) e5, fun c => he (fun z => c ⟨z.1, wok_ones z.2.1 z.2.2⟩) _ s1⟩
def spRefusal (K : PySem.W.Frag) : Sp := fun vs H Q _ => ∃ (am : Int) (a : Addr) (ws : List Int) (pv : V), vs = [.int am, .ref a, pv] ∧ SqL K H a (ws.map V.int) ∧ ws.length ≤ 1000 ∧ ((pv = .non ∧ ¬(AmOk am ∧ Wok ws)) ∨ ∃ n, pv = .int n ∧ ¬(AmOk am ∧ 1 ≤ n ∧ n ≤ 60)) ∧ ∀ p H', Same H H' → H' p = some (.lst [.str "BadValue"]) → Q (.ref p) H'
theorem ok_L_refusal (T : Txt K mg) : FnOk P w K mg base CX0 4 T.a__law_refusal T.d__law_refusal ["amount", "weights", "parts"] (spRefusal K) := by
  refine T.F__law_refusal.ok sc_L_refusal (fun vs H Q E h => by obtain ⟨_, _, _, _, rfl, _⟩ := h; rfl) (fun cdv A outer s H vs Q E hr h => ?_)
  refine ⟨_, 
      (pss_cons (ps_try_as (i := 3) rfl rfl sc_L_refusal.nd rfl rfl ⟨rfl, by decide, .inl T.g_BankError⟩ takes0 (fun W pn xe tk hpo => by exact (
          (pss_one (ps_if (pt_cmpR op_isN (pv 2) pe_non (nomark _)) 
            (pss_one (ps_expr (pe_callS (ok_allocate T) (hr.mono (by decide : 2 ≤ _)) (by rfl) T.g_allocate T.F_allocate.kp T.b_allocate (fun σ => passAt tk σ) (pa_cons (pv 0) (pa_cons (pv 1) pa_nil))))) 
            (pss_one (ps_expr (pe_callS (ok_split_equally T) (hr.mono (by decide : 3 ≤ _)) (by rfl) T.g_split_equally T.F_split_equally.kp T.b_split_equally (fun σ => passAt tk σ) (pa_cons (pv 0) (pa_cons (pv 2) pa_nil))))))))) (fun a oe cls d pn hz hf => by exact (
          (pss_one (ps_ret (Kv.pe_kinds (ok_L_kinds T) hz hf List.mem_cons_self ⟨(hr.mono (by decide : 1 ≤ _)).dp, (hr.mono (by decide : 1 ≤ _)).un⟩ (by rfl) T.g__law_kinds T.F__law_kinds.kp T.b__law_kinds (pa_cons (pv 3) pa_nil)))))))
      (pss_one (ps_ret (pe_lst pa_nil)))), ?_⟩
  obtain ⟨am, a, ws, pv, rfl, hS, hl, hp, hq⟩ := h
  walk_at "st"
  rcases hp with ⟨rfl, hn⟩ | ⟨n, rfl, hn⟩
  · rw [if_pos rfl]
    refine ⟨am, a, ws, rfl, hS, hl, fun c d => absurd ⟨c, d⟩ hn, fun _ => ⟨true, T.exm _, fun _ b hb => ?_, fun z => nomatch z⟩⟩
    walk_at "rd"
    refine ⟨_, rfl, fun p1 hp1 => ?_⟩
    exact hq p1 _ (Kv.same_upd hp1) upd_same
  · rw [if_neg (by intro z; cases z)]
    refine ⟨am, n, rfl, fun c d e => absurd ⟨c, d, e⟩ hn, fun _ H' s1 => ⟨true, T.exm _, fun _ b hb => ?_, fun z => nomatch z⟩⟩
    walk_at "rd"
    refine ⟨_, rfl, fun p1 hp1 => ?_⟩
    exact hq p1 _ (s1.trans (Kv.same_upd hp1)) upd_same
def spInts : Sp := fun vs H Q _ => ∃ (a : Addr) (n : Int) (xs : List Int), vs = [.ref a, .int n] ∧ H a = some (.lst (xs.map V.int)) ∧ xs.length = n ∧ Q (.bl true) H
def invInts (a : Addr) (n : Int) (H : Hp) : Nat → L2.St → Hp → Prop := fun _ σ' H' => ∃ v : Option V, σ' = [some (.ref a), some (.int n), v] ∧ H' = H
theorem ok_L_integers (T : Txt K mg) : FnOk P w K mg base CX0 1 T.a__law_integers T.d__law_integers ["shares", "count"] spInts := by
  refine T.F__law_integers.ok sc_L_integers (fun vs H Q E h => by obtain ⟨_, _, _, rfl, _⟩ := h; rfl) (fun cdv A outer s H vs Q E hr h => ?_)
  refine ⟨_, 
      (pss_cons (ps_if (PW.pt (pw_or (pt_not (pt_val (pe_callB call_isi (by rfl) T.n_isinstance (by decide +kernel) (pa_cons (pv 0) (pa_cons (pe_bltn (v := .ty "list") (by rfl) T.n_list (by decide +kernel) rfl) pa_nil))))) (pw_or1 (pt_cmpR op_ne (pe_callB call_len_seq (by rfl) T.n_len PySem.boot_len (pa_cons (pv 0) pa_nil)) (pv 1) (nomark _))))) 
        (pss_one (ps_ret pe_bl)) pss_nil)
      (pss_cons (ps_for PassesOwn.never rfl (pi_list (pv 0)) (pg_name (i := 2) sc_L_integers.nd rfl (Or.inl rfl)) 
        (pss_one (ps_if (PW.pt (pw_or (pt_not (pt_val (pe_callB call_isi (by rfl) T.n_isinstance (by decide +kernel) (pa_cons (pv 2) (pa_cons (pe_bltn (v := .ty "int") (by rfl) T.n_int (by decide +kernel) rfl) pa_nil))))) (pw_or1 (pt_val (pe_callB call_isi (by rfl) T.n_isinstance (by decide +kernel) (pa_cons (pv 2) (pa_cons (pe_bltn (v := .ty "bool") (by rfl) T.n_bool (by decide +kernel) rfl) pa_nil))))))) 
          (pss_one (ps_ret pe_bl)) pss_nil)))
      (pss_one (ps_ret pe_bl)))), ?_⟩
  obtain ⟨a, n, xs, rfl, e, hl, hq⟩ := h
  walk_at "st"
  refine Kv.isi_lst e (b := true) (by decide +kernel) ?_
  walk_at "rd"
  refine ⟨_, .inl (SqL.of e), ?_⟩
  rw [List.length_map, hl]
  walk_at "rd"
  walk_at "nx"
  refine ⟨⟨_, SqL.of e⟩, Kv.for_lst (xs.map V.int) (invInts a (xs.length : Int) H) ⟨_, rfl, rfl⟩ ?_ ?_ ?_⟩
  · rintro i σ' H6 ⟨_, rfl, rfl⟩
    exact SqL.of e
  · rintro i x σ' H6 hx ⟨_, rfl, rfl⟩
    obtain ⟨v, hv, rfl⟩ := Kv.ref_num hx
    walk_at "rd"
    refine Kv.isi_int (b := true) (by decide +kernel) ?_
    walk_at "rd"
    refine Kv.isi_int (b := false) (by decide +kernel) ?_
    walk_at "rd"
    exact ⟨_, rfl, rfl⟩
  rintro σ' H6 ⟨_, rfl, rfl⟩
  walk_at "nx"
  exact hq
def Rp (H : Hp) : V → Int × Int → Prop := fun x u => ∃ r, x = .ref r ∧ H r = some (.tup [.int u.1, .int u.2])
theorem Rp.pr {K : PySem.W.Frag} {H : Hp} {xs : List V} {ps : List (Int × Int)} (h : Kv.All2 (Rp H) xs ps) : Kv.All2 (Kv.Pr K H) xs ps := h.mono fun x t ⟨r, e, q⟩ => ⟨r, e, SqT.of q⟩
def invRt (am : Int) (a p2 q : Addr) (ws : List Int) (b : Nat → Bool) (m l : Addr) (H : Hp) : Nat → L2.St → Hp → Prop := fun i σ' H' => ∃ (v7 v8 : Option V) (xm xl : List V) (pm pl : List (Int × Int)), σ' = [some (.int am), some (.ref a), some (.ref p2), some (.ref q), some (.int ws.sum), some (.ref m), some (.ref l), v7, v8] ∧
  Same H H' ∧ H' m = some (.lst xm) ∧ H' l = some (.lst xl) ∧ Kv.All2 (Rp H') xm pm ∧ Kv.All2 (Rp H') xl pl ∧ xm.length ≤ i ∧ xl.length ≤ i ∧
  (∀ p ∈ pm, ∃ k : Nat, k < ws.length ∧ b k = true ∧ p = (rm am ws.sum (ws.getD k 0), -(k : Int))) ∧ (∀ p ∈ pl, ∃ k : Nat, k < ws.length ∧ b k = false ∧ p = (rm am ws.sum (ws.getD k 0), -(k : Int)))
def spRight (K : PySem.W.Frag) : Sp := fun vs H Q _ => ∃ (am : Int) (a : Addr) (ws : List Int), vs = [.int am, .ref a] ∧ SqL K H a (ws.map V.int) ∧ Wok ws ∧ AmOk am ∧ ∀ H', Same H H' → Q (.bl true) H'
theorem ok_L_right (T : Txt K mg) : FnOk P w K mg base CX0 3 T.a__law_right T.d__law_right ["amount", "weights"] (spRight K) := by
  refine T.F__law_right.ok sc_L_right (fun vs H Q E h => by obtain ⟨_, _, _, rfl, _⟩ := h; rfl) (fun cdv A outer s H vs Q E hr h => ?_)
  refine ⟨_, 
      (pss_cons (ps_set (i := 2) sc_L_right.nd rfl (Or.inl rfl) (pe_callTy call_list_of (by rfl) T.n_list (by decide +kernel) (pa_cons (pv 1) pa_nil)))
      (pss_cons (ps_set (i := 3) sc_L_right.nd rfl (Or.inl rfl) (pe_call (ok_allocate T) (hr.mono (by decide : 2 ≤ _)) (by rfl) T.g_allocate T.F_allocate.kp T.b_allocate .nil passL (pa_cons (pv 0) (pa_cons (pv 2) pa_nil))))
      (pss_cons (ps_if (PW.pt (pw_or (pt_cmpR (op_neD hr.units) (pv 2) (pv 1) (nomark _)) (pw_or (pt_not (pt_val (pe_call (ok_L_integers T) (hr.mono (by decide : 1 ≤ _)) (by rfl) T.g__law_integers T.F__law_integers.kp T.b__law_integers .nil pass0 (pa_cons (pv 3) (pa_cons (pe_callB call_len_seq (by rfl) T.n_len PySem.boot_len (pa_cons (pv 1) pa_nil)) pa_nil))))) (pw_or1 (pt_cmpR op_ne (pe_callB (cr_sum rfl) (by rfl) T.n_sum (by decide +kernel) (pa_cons (pv 3) pa_nil)) (pv 0) (nomark _)))))) 
        (pss_one (ps_ret pe_bl)) pss_nil)
      (pss_cons (ps_set (i := 4) sc_L_right.nd rfl (Or.inl rfl) (pe_callB (cr_sum rfl) (by rfl) T.n_sum (by decide +kernel) (pa_cons (pv 1) pa_nil)))
      (pss_cons (ps_set (i := 5) sc_L_right.nd rfl (Or.inl rfl) (pe_lst pa_nil))
      (pss_cons (ps_set (i := 6) sc_L_right.nd rfl (Or.inl rfl) (pe_lst pa_nil))
      (pss_cons (ps_for PassesOwn.never rfl (pi_range1 (by rfl) T.n_range (pa_cons (pe_callB call_len_seq (by rfl) T.n_len PySem.boot_len (pa_cons (pv 1) pa_nil)) pa_nil)) (pg_name (i := 7) sc_L_right.nd rfl (Or.inl rfl)) 
        (pss_cons (ps_set (i := 8) sc_L_right.nd rfl (Or.inl rfl) (pe_op op_mod (pe_callTy call_int1 (by rfl) T.n_int (by decide +kernel) (pa_cons (pe_op op_mulX (pv 0) (pe_ix ix_list (pv 1) (pv 7) (fun _ _ => rfl))) pa_nil)) (pv 4)))
        (pss_one (ps_if (pt_cmpR op_eq (pe_ix ix_list (pv 3) (pv 7) (fun _ _ => rfl)) (pe_op op_fdivW (pe_op op_mulX (pv 0) (pe_ix ix_list (pv 1) (pv 7) (fun _ _ => rfl))) (pv 4)) (nomark _)) 
          (pss_one (ps_expr (pe_bm PySem.F.plainAttrs_list PySem.F.slot_list_append PySem.F.type_list_append mt_append (pv 6) (pa_cons (pe_tup (pa_cons (pv 8) (pa_cons (pe_op op_sub pe_int (pv 7)) pa_nil))) pa_nil)))) 
          (pss_one (ps_if (pt_cmpR op_eq (pe_ix ix_list (pv 3) (pv 7) (fun _ _ => rfl)) (pe_op op_add (pe_op op_fdivW (pe_op op_mulX (pv 0) (pe_ix ix_list (pv 1) (pv 7) (fun _ _ => rfl))) (pv 4)) pe_int) (nomark _)) 
            (pss_one (ps_expr (pe_bm PySem.F.plainAttrs_list PySem.F.slot_list_append PySem.F.type_list_append mt_append (pv 5) (pa_cons (pe_tup (pa_cons (pv 8) (pa_cons (pe_op op_sub pe_int (pv 7)) pa_nil))) pa_nil)))) 
            (pss_one (ps_ret pe_bl))))))))
      (pss_one (ps_ret (pe_or (pe_cmpR (op_eqD hr.units) (pv 5) (pe_lst pa_nil) (nomark _)) (pe_or (pe_cmpR (op_eqD hr.units) (pv 6) (pe_lst pa_nil) (nomark _)) (pe_one (pe_cmpR (op_gtP hr.units) (pe_callB (cr_minP hr.units rfl) (by rfl) T.n_min (by decide +kernel) (pa_cons (pv 5) pa_nil)) (pe_callB (cr_maxP hr.units rfl) (by rfl) T.n_max (by decide +kernel) (pa_cons (pv 6) pa_nil)) (nomark _)))))))))))))), ?_⟩
  obtain ⟨am, a, ws, rfl, hS, hW, hA, hq⟩ := h
  have hT := hW.total
  have hw1 := hW.1
  have hw2 := hW.2.1
  obtain ⟨a0, a1⟩ := id hA
  walk_at "st"
  refine ⟨_, .inl hS, fun p2 hp2 => ?_⟩
  have s4 := Kv.same_upd (o := .lst (ws.map V.int)) hp2
  walk_at "nx"
  refine ⟨am, p2, ws, rfl, SqL.of upd_same, by omega, fun _ _ q sh b H5 hAl s5 hq1 e5 => ?_, fun c => absurd ⟨hA, hW⟩ c⟩
  have hsl := hAl.len
  have sA := s4.trans s5
  walk_at "nx"
  refine Kv.ne_ints (SqL.of (s5 _ _ upd_same)) (sA.seq hS) ?_
  rw [decide_eq_true rfl]
  walk_at "rd"
  refine ⟨_, .inl (sA.seq hS), q, _, sh, rfl, e5, by rw [List.length_map, hsl], ?_⟩
  walk_at "rd"
  refine ⟨q, sh, rfl, SqL.of e5, ?_⟩
  rw [hAl.sum]
  walk_at "rd"
  walk_at "nx"
  refine ⟨a, ws, rfl, sA.seq hS, ?_⟩
  walk_at "nx"
  intro m hm
  walk_at "nx"
  intro l hl
  have hl5 := (Kv.same_upd (o := .lst []) hm).free hl
  have nlm : l ≠ m := fun z => by
    rw [z, upd_same] at hl
    cases hl
  have s6 := (Kv.same_upd (o := .lst []) hm).trans (Kv.same_upd (o := .lst []) hl)
  walk_at "nx"
  refine ⟨_, .inl ((sA.trans s6).seq hS), ?_⟩
  rw [List.length_map]
  refine ⟨by omega, by omega, Kv.for_rng0 (invRt am a p2 q ws b m l H5) ⟨_, _, [], [], [], [], rfl, s6, by rw [upd_ne nlm.symm]; exact upd_same, upd_same, .nil, .nil, by simp, by simp, fun p h => (by simp at h), fun p h => (by simp at h)⟩ ?_ ?_⟩
  · rintro i σ' H' hi ⟨_, _, xm, xl, pm, pl, rfl, s7, em, el, am2, al2, lm, ll, fm, ff⟩
    have hi : i < ws.length := by omega
    have hB := (sA.trans s7).seq hS
    have wm : ws.getD i 0 ∈ ws := by
      rw [List.getD_eq_getElem?_getD, List.getElem?_eq_getElem hi]
      exact List.getElem_mem hi
    have wb := hW.2.2.1 _ wm
    have mx : CMulX am (ws.getD i 0) := Kv.mulX (Kv.bits64 (by omega) (by omega)) (Kv.bits64 (by omega) (by omega))
    have dv := Kv.cdivw (i := am * ws.getD i 0) hT.1 (by omega)
    walk_at "st"
    refine Kv.ix_num hB (by omega) ?_
    walk_at "rd"
    rw [Int.toNat_natCast]
    refine ⟨mx, hT.1, ?_⟩
    walk_at "nx"
    have hv := hAl.val i hi
    refine Kv.ix_num (SqL.of (s7 _ _ e5)) (by omega) ?_
    walk_at "rd"
    refine Kv.ix_num hB (by omega) ?_
    walk_at "rd"
    rw [Int.toNat_natCast]
    refine ⟨mx, dv, ?_⟩
    rw [hv]
    have hsz : ∀ xs : List V, xs.length ≤ i → xs.length < sizeLine := fun xs h => Nat.lt_of_le_of_lt (show xs.length ≤ 60 by omega) (by decide)
    cases hb : b i with
    | false =>
      rw [if_pos (by simp [fl, b01])]
      refine ⟨.inl ⟨rfl, _, SqL.of el⟩, fun t ht => ?_⟩
      have s2 := Kv.same_upd (o := .tup [.int (am * ws.getD i 0 % ws.sum), .int (0 - (i : Int))]) ht
      refine ⟨xl, s2 _ _ el, hsz _ ll, ?_⟩
      refine ⟨_, _, xm, xl ++ [.ref t], pm, pl ++ [(am * ws.getD i 0 % ws.sum, 0 - (i : Int))], rfl, Kv.same_mut hl5 (s7.trans s2), by rw [upd_ne nlm.symm]; exact s2 _ _ em, upd_same, am2.mono ?_, (al2.mono ?_).snoc ⟨t, rfl, Kv.tup_keep upd_same (s2 _ _ el)⟩, by omega, by rw [List.length_append, List.length_singleton]; omega, fm, fun p hp => ?_⟩
      · rintro x u ⟨r, rfl, hr⟩
        exact ⟨r, rfl, Kv.tup_keep (s2 _ _ hr) (s2 _ _ el)⟩
      · rintro x u ⟨r, rfl, hr⟩
        exact ⟨r, rfl, Kv.tup_keep (s2 _ _ hr) (s2 _ _ el)⟩
      · rcases List.mem_append.mp hp with hp | hp
        · exact ff p hp
        · refine ⟨i, hi, hb, ?_⟩
          rw [List.mem_singleton.mp hp, Int.zero_sub]
          rfl
    | true =>
      rw [if_neg (fun z => by have o1 : b01 true = 1 := rfl; unfold fl at z; omega)]
      refine Kv.ix_num (SqL.of (s7 _ _ e5)) (by omega) ?_
      walk_at "rd"
      refine Kv.ix_num hB (by omega) ?_
      walk_at "rd"
      rw [Int.toNat_natCast]
      refine ⟨mx, dv, ?_⟩
      rw [hv, hb]
      rw [if_pos (by simp [fl, b01])]
      refine ⟨.inl ⟨rfl, _, SqL.of em⟩, fun t ht => ?_⟩
      have s2 := Kv.same_upd (o := .tup [.int (am * ws.getD i 0 % ws.sum), .int (0 - (i : Int))]) ht
      refine ⟨xm, s2 _ _ em, hsz _ lm, ?_⟩
      refine ⟨_, _, xm ++ [.ref t], xl, pm ++ [(am * ws.getD i 0 % ws.sum, 0 - (i : Int))], pl, rfl, Kv.same_mut hm (s7.trans s2), upd_same, by rw [upd_ne nlm]; exact s2 _ _ el, (am2.mono ?_).snoc ⟨t, rfl, Kv.tup_keep upd_same (s2 _ _ em)⟩, al2.mono ?_, by rw [List.length_append, List.length_singleton]; omega, by omega, fun p hp => ?_, ff⟩
      · rintro x u ⟨r, rfl, hr⟩
        exact ⟨r, rfl, Kv.tup_keep (s2 _ _ hr) (s2 _ _ em)⟩
      · rintro x u ⟨r, rfl, hr⟩
        exact ⟨r, rfl, Kv.tup_keep (s2 _ _ hr) (s2 _ _ em)⟩
      · rcases List.mem_append.mp hp with hp | hp
        · exact fm p hp
        · refine ⟨i, hi, hb, ?_⟩
          rw [List.mem_singleton.mp hp, Int.zero_sub]
          rfl
  · rintro σ' H' ⟨_, _, xm, xl, pm, pl, rfl, s7, em, el, am2, al2, lm, ll, fm, ff⟩
    walk_at "nx"
    intro p hp
    have s8 := Kv.same_upd (o := .lst []) hp
    refine Kv.eq_prs (ts := pm) (us := []) ⟨xm, SqL.of (s8 _ _ em), Rp.pr (am2.mono fun x t ⟨r, e, q⟩ => ⟨r, e, s8 _ _ q⟩)⟩ ⟨[], SqL.of upd_same, .nil⟩ ?_
    walk_at "rd"
    split
    · exact hq _ (sA.trans (s7.trans s8))
    rename_i c1
    intro p' hp'
    have s9 := s8.trans (Kv.same_upd (o := .lst []) hp')
    refine Kv.eq_prs (ts := pl) (us := []) ⟨xl, SqL.of (s9 _ _ el), Rp.pr (al2.mono fun x t ⟨r, e, q⟩ => ⟨r, e, s9 _ _ q⟩)⟩ ⟨[], SqL.of upd_same, .nil⟩ ?_
    walk_at "rd"
    split
    · exact hq _ (sA.trans (s7.trans s9))
    rename_i c2
    refine ⟨m, xm, pm, rfl, SqL.of (s9 _ _ em), Rp.pr (am2.mono fun x t ⟨r, e, q⟩ => ⟨r, e, s9 _ _ q⟩), List.length_pos_iff.mpr c1, fun x u hu _ hx => ?_⟩
    refine ⟨l, xl, pl, rfl, SqL.of (s9 _ _ el), Rp.pr (al2.mono fun x t ⟨r, e, q⟩ => ⟨r, e, s9 _ _ q⟩), List.length_pos_iff.mpr c2, fun y v hv _ hy => ?_⟩
    refine ⟨u, v, hx, hy, fun c hc => ?_⟩
    obtain ⟨i, hi, bi, rfl⟩ := fm u hu
    obtain ⟨j, hj, bj, rfl⟩ := ff v hv
    have o := hAl.ord i j hi hj bi bj
    have : c = true := hc.mpr (by unfold plt; dsimp only; omega)
    rw [this]
    exact hq _ (sA.trans (s7.trans s9))
def spEqual : Sp := fun vs H Q _ => ∃ (am : Int) (n : Int), vs = [.int am, .int n] ∧ AmOk am ∧ 1 ≤ n ∧ n ≤ 60 ∧ ∀ H', Same H H' → Q (.bl true) H'
def invEq (am n : Int) (q : Addr) (H : Hp) : Nat → L2.St → Hp → Prop := fun _ σ' H' => ∃ v : Option V, σ' = [some (.int am), some (.int n), some (.ref q), v] ∧ H' = H
theorem ones_at {n : Int} {i : Nat} (h : (i : Int) < n) : (List.replicate n.toNat (1 : Int)).getD i 0 = 1 := by
  rw [List.getD_eq_getElem?_getD, List.getElem?_replicate, if_pos (by omega)]
  rfl
theorem ok_L_equal (T : Txt K mg) : FnOk P w K mg base CX0 4 T.a__law_equal T.d__law_equal ["amount", "parts"] spEqual := by
  refine T.F__law_equal.ok sc_L_equal (fun vs H Q E h => by obtain ⟨_, _, rfl, _⟩ := h; rfl) (fun cdv A outer s H vs Q E hr h => ?_)
  refine ⟨_, 
      (pss_cons (ps_set (i := 2) sc_L_equal.nd rfl (Or.inl rfl) (pe_call (ok_split_equally T) (hr.mono (by decide : 3 ≤ _)) (by rfl) T.g_split_equally T.F_split_equally.kp T.b_split_equally .nil passL (pa_cons (pv 0) (pa_cons (pv 1) pa_nil))))
      (pss_cons (ps_if (PW.pt (pw_or (pt_not (pt_val (pe_call (ok_L_integers T) (hr.mono (by decide : 1 ≤ _)) (by rfl) T.g__law_integers T.F__law_integers.kp T.b__law_integers .nil pass0 (pa_cons (pv 2) (pa_cons (pv 1) pa_nil))))) (pw_or1 (pt_cmpR op_ne (pe_callB (cr_sum rfl) (by rfl) T.n_sum (by decide +kernel) (pa_cons (pv 2) pa_nil)) (pv 0) (nomark _))))) 
        (pss_one (ps_ret pe_bl)) pss_nil)
      (pss_cons (ps_for PassesOwn.never rfl (pi_range1 (by rfl) T.n_range (pa_cons (pe_op op_sub (pv 1) pe_int) pa_nil)) (pg_name (i := 3) sc_L_equal.nd rfl (Or.inl rfl)) 
        (pss_one (ps_if (pt_cmpR op_lt (pe_ix ix_list (pv 2) (pv 3) (fun _ _ => rfl)) (pe_ix ix_list (pv 2) (pe_op op_add (pv 3) pe_int) (fun _ _ => rfl)) (nomark _)) 
          (pss_one (ps_ret pe_bl)) pss_nil)))
      (pss_one (ps_ret (pe_cmpR op_le (pe_op op_sub (pe_ix ix_list (pv 2) pe_int (fun _ _ => rfl)) (pe_ix ix_list (pv 2) (pe_op op_sub (pv 1) pe_int) (fun _ _ => rfl))) pe_int (nomark _))))))), ?_⟩
  obtain ⟨am, n, rfl, hA, n0, n1, hq⟩ := h
  walk_at "st"
  refine ⟨am, n, rfl, fun _ _ _ q sh b H5 hAl s5 hq1 e5 => ?_, fun c => absurd ⟨hA, n0, n1⟩ c⟩
  have hsl : sh.length = n.toNat := by rw [hAl.len, List.length_replicate]
  walk_at "nx"
  refine ⟨q, n, sh, rfl, e5, by omega, ?_⟩
  walk_at "rd"
  refine ⟨q, sh, rfl, SqL.of e5, ?_⟩
  rw [hAl.sum]
  walk_at "rd"
  walk_at "nx"
  have hv : ∀ i : Nat, (i : Int) < n → sh.getD i 0 = fl am (List.replicate n.toNat (1 : Int)).sum 1 + b01 (b i) := fun i hi => by
    have := hAl.val i (by rw [List.length_replicate]; omega)
    rw [ones_at hi] at this
    exact this
  have bb : ∀ i, b01 (b i) = 0 ∨ b01 (b i) = 1 := fun i => by cases b i <;> simp [b01]
  refine ⟨by omega, by omega, Kv.for_rng0 (invEq am n q H5) ⟨_, rfl, rfl⟩ ?_ ?_⟩
  · rintro i σ' H' hi ⟨_, rfl, rfl⟩
    have hi : (i : Int) + 1 < n := by omega
    walk_at "rd"
    refine Kv.ix_num (SqL.of e5) (by omega) ?_
    walk_at "rd"
    refine Kv.ix_num (SqL.of e5) (by omega) ?_
    walk_at "rd"
    rw [show ((i : Int) + 1).toNat = i + 1 by omega, hv (i + 1) (by omega), Int.toNat_natCast, hv i (by omega)]
    have o := hAl.ord (i + 1) i (by rw [List.length_replicate]; omega) (by rw [List.length_replicate]; omega)
    rw [ones_at (by omega), ones_at (by omega)] at o
    have : b01 (b (i + 1)) ≤ b01 (b i) := by
      cases h1 : b (i + 1) with
      | false => have := bb i; simp [b01] at this ⊢; split <;> omega
      | true =>
        cases h2 : b i with
        | true => exact Int.le_refl _
        | false => have := (o h1 h2).2 rfl; omega
    rw [if_neg (by omega)]
    exact ⟨_, rfl, rfl⟩
  · rintro σ' H' ⟨_, rfl, rfl⟩
    walk_at "nx"
    refine Kv.ix_num (SqL.of e5) (by omega) ?_
    walk_at "rd"
    refine Kv.ix_num (SqL.of e5) (by omega) ?_
    walk_at "rd"
    have v0 := hv 0 (by omega)
    have v1 := hv (n - 1).toNat (by omega)
    have b0 := bb 0
    have b1 := bb (n - 1).toNat
    have hq := hq _ s5
    rw [decide_eq_true (by omega)]
    exact hq
theorem cat3 {H1 : Hp} {b p1 p2 : Addr} {ws : List Int} {f v : Int} {Q : VK} (hB : H1 b = some (.lst (ws.map V.int))) (h0 : 0 ≤ f) (hl : ws.length ≤ 60) (hp1 : H1 p1 = none) (hp2 : upd H1 p1 (.lst ((ws.map V.int).take f.toNat)) p2 = none)
    (hq : ∀ p H', Same H1 H' → H' p = some (.lst ((ws.take f.toNat ++ [v] ++ ws.drop (f + 1).toNat).map V.int)) → Q (.ref p) H') :
    Kv.rCatS K (.ref p1) (.ref p2) (upd (upd H1 p1 (.lst ((ws.map V.int).take f.toNat))) p2 (.lst [.int v])) fun x H => rSlL K (.ref b) (some (f + 1)) none H fun y H' => Kv.rCatS K x y H' Q := by
  have s1 := Kv.same_upd (o := .lst ((ws.map V.int).take f.toNat)) hp1
  have s2 := Kv.same_upd (o := .lst [.int v]) hp2
  have t1 : ((ws.map V.int).take f.toNat).length ≤ 60 := by rw [List.length_take, List.length_map]; omega
  have t2 : ((ws.map V.int).drop (f + 1).toNat).length ≤ 60 := by rw [List.length_drop, List.length_map]; omega
  refine ⟨p1, p2, _, _, rfl, rfl, SqL.of (s2 _ _ upd_same), SqL.of upd_same, Nat.le_trans (show _ ≤ 61 by rw [List.length_singleton]; omega) (by decide), fun p3 hp3 => ?_⟩
  have s3 := Kv.same_upd (o := .lst ((ws.map V.int).take f.toNat ++ [.int v])) hp3
  refine ⟨b, _, rfl, SqL.of (s3 _ _ (s2 _ _ (s1 _ _ hB))), fun p4 hp4 => ?_⟩
  rw [Kv.cut_from (by omega)]
  have s4 := Kv.same_upd (o := .lst ((ws.map V.int).drop (f + 1).toNat)) hp4
  refine ⟨p3, p4, _, _, rfl, rfl, SqL.of (s4 _ _ upd_same), SqL.of upd_same, Nat.le_trans (show _ ≤ 121 by rw [List.length_append, List.length_singleton]; omega) (by decide), fun p5 hp5 => ?_⟩
  refine hq p5 _ (s1.trans (s2.trans (s3.trans (s4.trans (Kv.same_upd hp5))))) ?_
  rw [upd_same, List.map_append, List.map_append, List.map_take, List.map_drop]
  rfl
def manyL (ws : List Int) : List Int := (List.replicate 61 ws).flatten.take 61
theorem manyL_len {ws : List Int} (h : 1 ≤ ws.length) : (manyL ws).length = 61 := by
  unfold manyL
  rw [List.length_take, List.length_flatten, List.map_replicate, List.sum_replicate_nat]
  omega
theorem manyL_map (ws : List Int) : ((List.replicate 61 (ws.map V.int)).flatten).take 61 = (manyL ws).map V.int := by
  unfold manyL
  rw [List.map_take, List.map_flatten, List.map_replicate]
theorem zeros_flat : ∀ k : Nat, (List.replicate k [V.int 0]).flatten = (List.replicate k (0 : Int)).map V.int
  | 0 => rfl
  | k + 1 => by
    rw [List.replicate_succ, List.flatten_cons, zeros_flat k, List.replicate_succ, List.map_cons]
    rfl
theorem zeros_sum : ∀ k : Nat, (List.replicate k (0 : Int)).sum = 0
  | 0 => rfl
  | k + 1 => by
    rw [List.replicate_succ, List.sum_cons, zeros_sum k]
    rfl
def Bad (H : Hp) : V → Prop := fun x => ∃ (c : Addr) (us : List Int), x = .ref c ∧ H c = some (.lst (us.map V.int)) ∧ us.length ≤ 1000 ∧ ¬Wok us
def invRf (a : Addr) (am : Int) (b bd : Addr) (f : Int) (lo hi mn : Addr) (H : Hp) : Nat → L2.St → Hp → Prop := fun _ σ' H' => ∃ v8 v9 : Option V, σ' = [some (.ref a), some (.int am), some (.ref b), some (.ref bd), some (.int f), some (.ref lo), some (.ref hi), some (.ref mn), v8, v9] ∧ Same H H'
def spRefused (K : PySem.W.Frag) : Sp := fun vs H Q _ => ∃ (a b : Addr) (ns ws : List Int) (am : Int), vs = [.ref a, .int am, .ref b] ∧ SqL K H a (ns.map V.int) ∧ ns.length = 70 ∧ (∀ z ∈ ns, 0 ≤ z ∧ z < 10000000000000) ∧ H b = some (.lst (ws.map V.int)) ∧ Wok ws ∧ AmOk am ∧ ∀ H', Same H H' → Q (.bl true) H'
theorem ok_L_refused (T : Txt K mg) : FnOk P w K mg base CX0 5 T.a__law_refused T.d__law_refused ["numbers", "amount", "weights"] (spRefused K) := by
  refine T.F__law_refused.ok sc_L_refused (fun vs H Q E h => by obtain ⟨_, _, _, _, _, rfl, _⟩ := h; rfl) (fun cdv A outer s H vs Q E hr h => ?_)
  refine ⟨_, 
      (pss_cons (ps_set (i := 3) sc_L_refused.nd rfl (Or.inl rfl) (pe_lst (pa_cons pe_str pa_nil)))
      (pss_cons (ps_set (i := 4) sc_L_refused.nd rfl (Or.inl rfl) (pe_op op_mod (pe_ix ix_list (pv 0) pe_int (fun _ _ => rfl)) (pe_callB call_len_seq (by rfl) T.n_len PySem.boot_len (pa_cons (pv 2) pa_nil))))
      (pss_cons (ps_set (i := 5) sc_L_refused.nd rfl (Or.inl rfl) (pe_op Kv.op_catS (pe_op Kv.op_catS (pe_slice sl_list (pv 2) po_none (po_some (pv 4))) (pe_lst (pa_cons (pe_op op_sub (pe_op op_sub pe_int pe_int) (pe_op op_mod (pe_ix ix_list (pv 0) pe_int (fun _ _ => rfl)) pe_int)) pa_nil))) (pe_slice sl_list (pv 2) (po_some (pe_op op_add (pv 4) pe_int)) po_none)))
      (pss_cons (ps_set (i := 6) sc_L_refused.nd rfl (Or.inl rfl) (pe_op Kv.op_catS (pe_op Kv.op_catS (pe_slice sl_list (pv 2) po_none (po_some (pv 4))) (pe_lst (pa_cons (pe_op op_add (pe_op op_add (pe_op op_pow pe_int pe_int) pe_int) (pe_op op_mod (pe_ix ix_list (pv 0) pe_int (fun _ _ => rfl)) pe_int)) pa_nil))) (pe_slice sl_list (pv 2) (po_some (pe_op op_add (pv 4) pe_int)) po_none)))
      (pss_cons (ps_set (i := 7) sc_L_refused.nd rfl (Or.inl rfl) (pe_slice sl_list (pe_op op_rep (pv 2) pe_int) po_none (po_some pe_int)))
      (pss_cons (ps_asg pe_int (pg_sub (pv 7) (pe_op op_mod (pe_ix ix_list (pv 0) pe_int (fun _ _ => rfl)) pe_int) set_list))
      (pss_cons (ps_for PassesOwn.never rfl (pi_list (pe_lst (pa_cons (pe_lst pa_nil) (pa_cons (pv 5) (pa_cons (pv 6) (pa_cons (pv 7) (pa_cons (pe_op op_rep (pe_lst (pa_cons pe_int pa_nil)) (pe_callB call_len_seq (by rfl) T.n_len PySem.boot_len (pa_cons (pv 2) pa_nil))) pa_nil))))))) (pg_name (i := 8) sc_L_refused.nd rfl (Or.inl rfl)) 
        (pss_one (ps_if (pt_cmpR (op_neD hr.units) (pe_call (ok_L_refusal T) (hr.mono (by decide : 4 ≤ _)) (by rfl) T.g__law_refusal T.F__law_refusal.kp T.b__law_refusal .nil pass0 (pa_cons (pv 1) (pa_cons (pv 8) (pa_cons pe_non pa_nil)))) (pv 3) (nomark _)) 
          (pss_one (ps_ret pe_bl)) pss_nil)))
      (pss_cons (ps_for PassesOwn.never rfl (pi_list (pe_lst (pa_cons pe_int (pa_cons pe_int (pa_cons (pe_op op_sub pe_int (pe_op op_mod (pe_ix ix_list (pv 0) pe_int (fun _ _ => rfl)) pe_int)) (pa_cons (pe_op op_add pe_int (pe_op op_mod (pe_ix ix_list (pv 0) pe_int (fun _ _ => rfl)) pe_int)) pa_nil)))))) (pg_name (i := 9) sc_L_refused.nd rfl (Or.inl rfl)) 
        (pss_one (ps_if (pt_cmpR (op_neD hr.units) (pe_call (ok_L_refusal T) (hr.mono (by decide : 4 ≤ _)) (by rfl) T.g__law_refusal T.F__law_refusal.kp T.b__law_refusal .nil pass0 (pa_cons (pv 1) (pa_cons (pe_lst pa_nil) (pa_cons (pv 9) pa_nil)))) (pv 3) (nomark _)) 
          (pss_one (ps_ret pe_bl)) pss_nil)))
      (pss_cons (ps_for PassesOwn.never rfl (pi_list (pe_lst (pa_cons (pe_un un_neg pe_int) (pa_cons (pe_op op_add (pe_op op_pow pe_int pe_int) pe_int) (pa_cons (pe_op op_sub (pe_op op_sub pe_int pe_int) (pe_ix ix_list (pv 0) pe_int (fun _ _ => rfl))) (pa_cons (pe_op op_add (pe_op op_add (pe_op op_pow pe_int pe_int) pe_int) (pe_ix ix_list (pv 0) pe_int (fun _ _ => rfl))) pa_nil)))))) (pg_name (i := 8) sc_L_refused.nd rfl (Or.inl rfl)) 
        (pss_one (ps_if (PW.pt (pw_or (pt_cmpR (op_neD hr.units) (pe_call (ok_L_refusal T) (hr.mono (by decide : 4 ≤ _)) (by rfl) T.g__law_refusal T.F__law_refusal.kp T.b__law_refusal .nil pass0 (pa_cons (pv 8) (pa_cons (pv 2) (pa_cons pe_non pa_nil)))) (pv 3) (nomark _)) (pw_or1 (pt_cmpR (op_neD hr.units) (pe_call (ok_L_refusal T) (hr.mono (by decide : 4 ≤ _)) (by rfl) T.g__law_refusal T.F__law_refusal.kp T.b__law_refusal .nil pass0 (pa_cons (pv 8) (pa_cons (pe_lst pa_nil) (pa_cons (pe_op op_add pe_int (pe_op op_mod (pe_ix ix_list (pv 0) pe_int (fun _ _ => rfl)) pe_int)) pa_nil)))) (pv 3) (nomark _))))) 
          (pss_one (ps_ret pe_bl)) pss_nil)))
      (pss_one (ps_ret pe_bl))))))))))), ?_⟩
  obtain ⟨a, b, ns, ws, am, rfl, hS, hl, hn, hB, hW, hA, hq⟩ := h
  walk_at "st"
  intro bd hbd
  have s1 := Kv.same_upd (o := .lst [.str "BadValue"]) hbd
  have e1 : (upd H bd (.lst [.str "BadValue"])) bd = some (.lst [.str "BadValue"]) := upd_same
  have hw1 := hW.1
  have hw2 := hW.2.1
  have hS1 := s1.seq hS
  have hB1 := s1 _ _ hB
  generalize upd H bd (HO.lst [V.str (Str.ofString "BadValue")]) = H1 at *
  walk_at "nx"
  refine Kv.ix_num hS1 (by omega) ?_
  walk_at "rd"
  refine ⟨_, .inl (SqL.of hB1), ?_⟩
  rw [List.length_map]
  have f0 := Int.emod_nonneg (ns.getD 5 0) (show (ws.length : Int) ≠ 0 by omega)
  have f1 := Int.emod_lt_of_pos (ns.getD 5 0) (show 0 < (ws.length : Int) by omega)
  generalize ns.getD 5 0 % (ws.length : Int) = f at f0 f1 ⊢
  refine ⟨by omega, ?_⟩
  walk_at "nx"
  refine ⟨b, _, rfl, SqL.of hB1, fun p1 hp1 => ?_⟩
  rw [Kv.cut_to f0]
  refine Kv.ix_num ((Kv.same_upd hp1).seq hS1) (by omega) ?_
  walk_at "rd"
  intro p2 hp2
  refine cat3 hB1 f0 hw2 hp1 hp2 fun lo H2 s2 elo => ?_
  clear hp1 hp2
  have hB2 := s2 _ _ hB1
  have hS2 := s2.seq hS1
  walk_at "nx"
  refine ⟨b, _, rfl, SqL.of hB2, fun p1 hp1 => ?_⟩
  rw [Kv.cut_to f0]
  refine Kv.ix_num ((Kv.same_upd hp1).seq hS2) (by omega) ?_
  walk_at "rd"
  intro p2 hp2
  refine cat3 hB2 f0 hw2 hp1 hp2 fun hi H3 s3 ehi => ?_
  clear hp1 hp2
  have hB3 := s3 _ _ hB2
  have hS3 := s3.seq hS2
  walk_at "nx"
  refine ⟨b, 61, _, rfl, rfl, hB3, by decide, by decide, Nat.le_trans (show _ ≤ 3660 by rw [List.length_map]; simp; omega) (by decide), fun p4 hp4 => ?_⟩
  refine ⟨p4, _, rfl, SqL.of upd_same, fun mn hmn => ?_⟩
  rw [Kv.cut_to (by decide), show (61 : Int).toNat = 61 from rfl, manyL_map]
  have s4 := (Kv.same_upd (o := .lst (List.replicate 61 (ws.map V.int)).flatten) hp4).trans (Kv.same_upd (o := .lst ((manyL ws).map V.int)) hmn)
  have emn : (upd (upd H3 p4 (.lst (List.replicate 61 (ws.map V.int)).flatten)) mn (.lst ((manyL ws).map V.int))) mn = _ := upd_same
  have hmn3 : H3 mn = none := (Kv.same_upd (o := .lst (List.replicate 61 (ws.map V.int)).flatten) hp4).free hmn
  clear hmn
  generalize upd (upd H3 p4 (HO.lst (List.replicate 61 (ws.map V.int)).flatten)) mn (HO.lst ((manyL ws).map V.int)) = H4 at *
  have hS4 := s4.seq hS3
  obtain ⟨j, hj⟩ := Int.eq_ofNat_of_zero_le (Int.emod_nonneg (ns.getD 7 0) (show (61 : Int) ≠ 0 by decide))
  have hj2 := Int.emod_lt_of_pos (ns.getD 7 0) (show (0 : Int) < 61 by decide)
  have ml := manyL_len hw1
  walk_at "nx"
  refine Kv.ix_num hS4 (by omega) ?_
  walk_at "rd"
  rw [hj]
  refine ⟨mn, _, _, j, rfl, rfl, emn, ?_, ?_⟩
  · unfold ixN
    rw [if_pos (by omega), if_pos (by rw [List.length_map]; omega), Int.toNat_natCast]
  have s5 := Kv.same_mut (o := .lst (((manyL ws).map V.int).set j (.int 1))) hmn3 s4
  have emn5 : (upd H4 mn (.lst (((manyL ws).map V.int).set j (.int 1)))) mn = some (.lst (((manyL ws).set j 1).map V.int)) := by rw [upd_same, List.map_set]
  generalize upd H4 mn (HO.lst (((manyL ws).map V.int).set j (.int 1))) = H5 at *
  have hB5 := s5 _ _ hB3
  have hS5 := s5.seq hS3
  have elo5 := s5 _ _ (s3 _ _ elo)
  have ehi5 := s5 _ _ ehi
  have e5 := s5 _ _ (s3 _ _ (s2 _ _ e1))
  have sH := s1.trans (s2.trans (s3.trans s5))
  clear s1 s2 s3 s4 s5 hS1 hS2 hS3 hS4 hB1 hB2 hB3 elo ehi e1 emn
  walk_at "nx"
  intro pe hpe pz hpz
  have s6 := Kv.same_upd (o := .lst []) hpe
  have s7 := Kv.same_upd (o := .lst [.int 0]) hpz
  refine ⟨_, .inl (SqL.of (s7 _ _ (s6 _ _ hB5))), ?_⟩
  rw [List.length_map]
  refine ⟨pz, _, [.int 0], rfl, rfl, upd_same, by omega, by omega, Nat.le_trans (show _ ≤ 60 by simp; omega) (by decide), fun zl hzl pl hpl => ?_⟩
  rw [Int.toNat_natCast] at hpl ⊢
  rw [zeros_flat] at hpl ⊢
  have s8 := Kv.same_upd (o := .lst ((List.replicate ws.length (0 : Int)).map V.int)) hzl
  have s9 := Kv.same_upd (o := .lst [V.ref pe, V.ref lo, V.ref hi, V.ref mn, V.ref zl]) hpl
  have sB := s6.trans (s7.trans (s8.trans s9))
  have epe := s9 _ _ (s8 _ _ (s7 _ _ (upd_same (H := H5) (a := pe) (o := .lst []))))
  have ezl := s9 _ _ (upd_same (H := upd (upd H5 pe (.lst [])) pz (.lst [.int 0])) (a := zl) (o := .lst ((List.replicate ws.length (0 : Int)).map V.int)))
  have epl := upd_same (H := upd (upd (upd H5 pe (.lst [])) pz (.lst [.int 0])) zl (.lst ((List.replicate ws.length (0 : Int)).map V.int))) (a := pl) (o := .lst [V.ref pe, V.ref lo, V.ref hi, V.ref mn, V.ref zl])
  clear s6 s7 s8 s9 hpe hpz hzl hpl
  generalize upd (upd (upd (upd H5 pe (HO.lst [])) pz (HO.lst [V.int 0])) zl (HO.lst ((List.replicate ws.length (0 : Int)).map V.int))) pl (HO.lst [V.ref pe, V.ref lo, V.ref hi, V.ref mn, V.ref zl]) = H6 at *
  have hS6 := sB.seq hS5
  have e6 := sB _ _ e5
  have hB6 := sB _ _ hB5
  have r0 := Int.emod_nonneg (ns.getD 6 0) (show (3 : Int) ≠ 0 by decide)
  have bad6 : ∀ x ∈ [V.ref pe, V.ref lo, V.ref hi, V.ref mn, V.ref zl], Bad H6 x := by
    intro x hx
    rcases List.mem_cons.mp hx with rfl | hx
    · exact ⟨pe, [], rfl, epe, by simp, fun z => by have := z.1; simp at this⟩
    rcases List.mem_cons.mp hx with rfl | hx
    · refine ⟨lo, _, rfl, sB _ _ elo5, by simp; omega, fun z => ?_⟩
      have := z.2.2.1 (-1 - ns.getD 6 0 % 3) (by simp)
      omega
    rcases List.mem_cons.mp hx with rfl | hx
    · refine ⟨hi, _, rfl, sB _ _ ehi5, by simp; omega, fun z => ?_⟩
      have := z.2.2.1 (1000001 + ns.getD 6 0 % 3) (by simp)
      omega
    rcases List.mem_cons.mp hx with rfl | hx
    · refine ⟨mn, _, rfl, sB _ _ emn5, by rw [List.length_set]; omega, fun z => ?_⟩
      have := z.2.1
      rw [List.length_set] at this
      omega
    rw [List.mem_singleton.mp hx]
    exact ⟨zl, _, rfl, ezl, by simp; omega, fun z => z.2.2.2 (zeros_sum _)⟩
  refine ⟨⟨_, SqL.of epl⟩, Kv.for_lst [V.ref pe, V.ref lo, V.ref hi, V.ref mn, V.ref zl] (invRf a am b bd f lo hi mn H6) ⟨_, _, rfl, Same.refl _⟩ ?_ ?_ ?_⟩
  · rintro i σ' H' ⟨_, _, rfl, sx⟩
    exact SqL.of (sx _ _ epl)
  · rintro i x σ' H' hx ⟨_, _, rfl, sx⟩
    obtain ⟨c, us, rfl, ec, lc, nw⟩ := bad6 x (List.mem_of_getElem? hx)
    walk_at "rd"
    refine ⟨am, c, us, .non, rfl, SqL.of (sx _ _ ec), lc, .inl ⟨rfl, fun z => nw z.2⟩, fun p H2 s2 ep => ?_⟩
    refine Kv.ne_kind ep (s2 _ _ (sx _ _ e6)) (by decide +kernel) ?_
    walk_at "rd"
    exact ⟨_, _, rfl, sx.trans s2⟩
  rintro σ' H7 ⟨_, _, rfl, sx⟩
  have hS7 := sx.seq hS6
  have e7 := sx _ _ e6
  have hB7 := sx _ _ hB6
  have sH7 := sH.trans (sB.trans sx)
  clear sx sB sH bad6 epl epe ezl e6 hS6 hS5 e5 hB6 hB5 elo5 ehi5 emn5
  walk_at "nx"
  refine Kv.ix_num hS7 (by omega) ?_
  walk_at "rd"
  refine Kv.ix_num hS7 (by omega) ?_
  walk_at "rd"
  intro pl hpl
  have q0 := Int.emod_nonneg (ns.getD 6 0) (show (99 : Int) ≠ 0 by decide)
  have sB := Kv.same_upd (o := .lst [V.int 0, V.int 61, V.int (0 - ns.getD 6 0 % 99), V.int (61 + ns.getD 6 0 % 99)]) hpl
  have epl := upd_same (H := H7) (a := pl) (o := .lst [V.int 0, V.int 61, V.int (0 - ns.getD 6 0 % 99), V.int (61 + ns.getD 6 0 % 99)])
  have badn : ∀ x ∈ [V.int 0, V.int 61, V.int (0 - ns.getD 6 0 % 99), V.int (61 + ns.getD 6 0 % 99)], ∃ n, x = V.int n ∧ ¬(1 ≤ n ∧ n ≤ 60) := by
    intro x hx
    rcases List.mem_cons.mp hx with rfl | hx
    · exact ⟨_, rfl, by omega⟩
    rcases List.mem_cons.mp hx with rfl | hx
    · exact ⟨_, rfl, by omega⟩
    rcases List.mem_cons.mp hx with rfl | hx
    · exact ⟨_, rfl, by omega⟩
    rw [List.mem_singleton.mp hx]
    exact ⟨_, rfl, by omega⟩
  generalize [V.int 0, V.int 61, V.int (0 - ns.getD 6 0 % 99), V.int (61 + ns.getD 6 0 % 99)] = xs at *
  clear hpl
  generalize upd H7 pl (HO.lst xs) = H8 at *
  have hS8 := sB.seq hS7
  have e8 := sB _ _ e7
  have hB8 := sB _ _ hB7
  refine ⟨⟨_, SqL.of epl⟩, Kv.for_lst xs (invRf a am b bd f lo hi mn H8) ⟨_, _, rfl, Same.refl _⟩ ?_ ?_ ?_⟩
  · rintro i σ' H' ⟨_, _, rfl, sx⟩
    exact SqL.of (sx _ _ epl)
  · rintro i x σ' H' hx ⟨_, _, rfl, sx⟩
    obtain ⟨n, rfl, nn⟩ := badn x (List.mem_of_getElem? hx)
    walk_at "rd"
    intro p hp
    have s1 := Kv.same_upd (o := .lst []) hp
    refine ⟨am, p, [], .int n, rfl, SqL.of upd_same, by simp, .inr ⟨n, rfl, fun z => nn z.2⟩, fun r H2 s2 ep => ?_⟩
    refine Kv.ne_kind ep (s2 _ _ (s1 _ _ (sx _ _ e8))) (by decide +kernel) ?_
    walk_at "rd"
    exact ⟨_, _, rfl, sx.trans (s1.trans s2)⟩
  rintro σ' H9 ⟨_, _, rfl, sx⟩
  have hS9 := sx.seq hS8
  have e9 := sx _ _ e8
  have hB9 := sx _ _ hB8
  have sH9 := sH7.trans (sB.trans sx)
  clear sx sB sH7 badn epl hS7 hS8 e7 e8 hB7 hB8
  walk_at "nx"
  refine Kv.ix_num hS9 (by omega) ?_
  walk_at "rd"
  refine Kv.ix_num hS9 (by omega) ?_
  walk_at "rd"
  have n7 := Kv.num_in hn 7
  intro pl hpl
  have sB := Kv.same_upd (o := .lst [V.int (-1), V.int 1000000000001, V.int (-1 - ns.getD 7 0), V.int (1000000000001 + ns.getD 7 0)]) hpl
  have epl := upd_same (H := H9) (a := pl) (o := .lst [V.int (-1), V.int 1000000000001, V.int (-1 - ns.getD 7 0), V.int (1000000000001 + ns.getD 7 0)])
  have badn : ∀ x ∈ [V.int (-1), V.int 1000000000001, V.int (-1 - ns.getD 7 0), V.int (1000000000001 + ns.getD 7 0)], ∃ n, x = V.int n ∧ ¬AmOk n := by
    intro x hx
    unfold AmOk
    rcases List.mem_cons.mp hx with rfl | hx
    · exact ⟨_, rfl, by omega⟩
    rcases List.mem_cons.mp hx with rfl | hx
    · exact ⟨_, rfl, by omega⟩
    rcases List.mem_cons.mp hx with rfl | hx
    · exact ⟨_, rfl, by omega⟩
    rw [List.mem_singleton.mp hx]
    exact ⟨_, rfl, by omega⟩
  generalize [V.int (-1), V.int 1000000000001, V.int (-1 - ns.getD 7 0), V.int (1000000000001 + ns.getD 7 0)] = xs at *
  clear hpl
  generalize upd H9 pl (HO.lst xs) = H8 at *
  have hS8 := sB.seq hS9
  have e8 := sB _ _ e9
  have hB8 := sB _ _ hB9
  refine ⟨⟨_, SqL.of epl⟩, Kv.for_lst xs (invRf a am b bd f lo hi mn H8) ⟨_, _, rfl, Same.refl _⟩ ?_ ?_ ?_⟩
  · rintro i σ' H' ⟨_, _, rfl, sx⟩
    exact SqL.of (sx _ _ epl)
  · rintro i x σ' H' hx ⟨_, _, rfl, sx⟩
    obtain ⟨n, rfl, nn⟩ := badn x (List.mem_of_getElem? hx)
    walk_at "rd"
    refine ⟨n, b, ws, .non, rfl, SqL.of (sx _ _ hB8), by omega, .inl ⟨rfl, fun z => nn z.1⟩, fun r H2 s2 ep => ?_⟩
    refine Kv.ne_kind ep (s2 _ _ (sx _ _ e8)) (by decide +kernel) ?_
    walk_at "rd"
    intro p hp
    have s3 := Kv.same_upd (o := .lst []) hp
    refine Kv.ix_num ((sx.trans (s2.trans s3)).seq hS8) (by omega) ?_
    walk_at "rd"
    refine ⟨n, p, [], .int _, rfl, SqL.of upd_same, by simp, .inr ⟨_, rfl, fun z => nn z.1⟩, fun r4 H4 s4 ep4 => ?_⟩
    refine Kv.ne_kind ep4 (s4 _ _ (s3 _ _ (s2 _ _ (sx _ _ e8)))) (by decide +kernel) ?_
    walk_at "rd"
    exact ⟨_, _, rfl, sx.trans (s2.trans (s3.trans s4))⟩
  rintro σ' H7 ⟨_, _, rfl, sx⟩
  walk_at "nx"
  exact hq _ (sH9.trans (sB.trans sx))
def midAm (a : Addr) (z : Int) (nl : Addr) (H1 : Hp) : L2.St → Hp → Prop := fun σ' H' => ∃ (am : Int) (v4 : Option V), σ' = [some (.ref a), some (.int z), some (.ref nl), some (.int am), v4] ∧ H' = H1 ∧ AmOk am
def invLaw (a : Addr) (H1 : Hp) : L2.St → Hp → Prop := fun σ' H' => ∃ v1 v2 v3 v4 : Option V, σ' = [some (.ref a), v1, v2, v3, v4] ∧ Same H1 H'
theorem ok_law (T : Txt K mg) : FnOk P w K mg base CX0 6 T.a_law T.d_law ["script"] (Kv.spLaw K) := by
  refine T.F_law.ok sc_law (fun vs H Q E h => ?_) (fun cdv A outer s H vs Q E hr h => ?_)
  · obtain ⟨a, ns, rfl, _⟩ := h
    rfl
  refine ⟨_, 
      (pss_cons (ps_for PassesOwn.never rfl (pi_list (pe_op Kv.op_catS (pe_lst (pa_cons pe_int pa_nil)) (pv 0))) (pg_name (i := 1) sc_law.nd rfl (Or.inl rfl)) 
        (pss_cons (ps_set (i := 2) sc_law.nd rfl (Or.inl rfl) (pe_call (ok_L_numbers T) (hr.mono (by decide : 1 ≤ _)) (by rfl) T.g__law_numbers T.F__law_numbers.kp T.b__law_numbers .nil pass0 (pa_cons (pv 1) (pa_cons pe_int pa_nil))))
        (pss_cons (ps_set (i := 3) sc_law.nd rfl (Or.inl rfl) (pe_op op_mod (pe_ix ix_list (pv 2) pe_int (fun _ _ => rfl)) (pe_op op_add (pe_op op_pow pe_int pe_int) pe_int)))
        (pss_cons (ps_if (pt_cmpR op_eq (pe_op op_mod (pe_ix ix_list (pv 2) pe_int (fun _ _ => rfl)) pe_int) pe_int (nomark _)) 
          (pss_one (ps_set (i := 3) sc_law.nd rfl (Or.inl rfl) (pe_op op_mod (pe_ix ix_list (pv 2) pe_int (fun _ _ => rfl)) pe_int))) pss_nil)
        (pss_cons (ps_set (i := 4) sc_law.nd rfl (Or.inl rfl) (pe_call (ok_L_weights T) (hr.mono (by decide : 1 ≤ _)) (by rfl) T.g__law_weights T.F__law_weights.kp T.b__law_weights .nil pass0 (pa_cons (pv 2) pa_nil)))
        (pss_cons (ps_if (PW.pt (pw_or (pt_not (pt_val (pe_call (ok_L_right T) (hr.mono (by decide : 3 ≤ _)) (by rfl) T.g__law_right T.F__law_right.kp T.b__law_right .nil pass0 (pa_cons (pv 3) (pa_cons (pv 4) pa_nil))))) (pw_or1 (pt_not (pt_val (pe_call (ok_L_equal T) (hr.mono (by decide : 4 ≤ _)) (by rfl) T.g__law_equal T.F__law_equal.kp T.b__law_equal .nil pass0 (pa_cons (pv 3) (pa_cons (pe_op op_add pe_int (pe_op op_mod (pe_ix ix_list (pv 2) pe_int (fun _ _ => rfl)) pe_int)) pa_nil)))))))) 
          (pss_one (ps_ret pe_bl)) pss_nil)
        (pss_one (ps_if (pt_not (pt_val (pe_call (ok_L_refused T) (hr.mono (by decide : 5 ≤ _)) (by rfl) T.g__law_refused T.F__law_refused.kp T.b__law_refused .nil pass0 (pa_cons (pv 2) (pa_cons (pv 3) (pa_cons (pv 4) pa_nil)))))) 
          (pss_one (ps_ret pe_bl)) pss_nil))))))))
      (pss_one (ps_ret pe_bl))), ?_⟩
  obtain ⟨a, ns, rfl, hS, hl, hb, hq⟩ := h
  refine Kv.seq_step fun U hU => ?_
  refine Kv.tfor_cells (H0 := H) rfl hS hl fun b H1 s1 hb1 => ?_
  refine Kv.for_cells hb1 (by decide) hb (invLaw a H1) ⟨_, _, _, _, rfl, Same.refl _⟩ ?_ ?_ ?_
  · rintro σ' H' ⟨_, _, _, _, rfl, hs⟩
    exact hs
  · rintro z σ' H' bz ⟨_, _, _, _, rfl, hs⟩
    walk_at "st"
    refine ⟨z, 70, rfl, bz, by decide, by decide, fun ms nl H2 ml mr s2 f2 hn2 => ?_⟩
    have hN : SqL K H2 nl (ms.map V.int) := SqL.of hn2
    have hs2 := hs.trans s2
    subst_vars
    refine Kv.seq_cut (midAm a z nl H2) (fun U hU => ?_) ?_
    · walk_at "rd"
      refine Kv.ix_num hN (by omega) ?_
      walk_at "rd"
      exact hU _ _ ⟨_, _, rfl, rfl, by unfold AmOk; omega⟩
    rintro σ' H' ⟨am, _, rfl, rfl, hA⟩
    refine Kv.seq_cut (midAm a z nl H') (fun U hU => ?_) ?_
    · walk_at "rd"
      refine Kv.ix_num hN (by omega) ?_
      walk_at "rd"
      split
      · refine Kv.ix_num hN (by omega) ?_
        walk_at "rd"
        exact hU _ _ ⟨_, _, rfl, rfl, by unfold AmOk; omega⟩
      · exact hU _ _ ⟨_, _, rfl, rfl, hA⟩
    rintro σ' H2 ⟨am, _, rfl, rfl, hA⟩
    walk_at "st"
    refine ⟨nl, ms, rfl, hN, by omega, mr, fun p ws H3 hW s3 e3 => ?_⟩
    walk_at "nx"
    refine ⟨am, p, ws, rfl, SqL.of e3, hW, hA, fun H4 s4 => ?_⟩
    walk_at "rd"
    refine Kv.ix_num ((s3.trans s4).seq hN) (by omega) ?_
    walk_at "rd"
    have y0 := Int.emod_nonneg (ms.getD 0 0) (show (60 : Int) ≠ 0 by decide)
    have y1 := Int.emod_lt_of_pos (ms.getD 0 0) (show (0 : Int) < 60 by decide)
    refine ⟨am, _, rfl, hA, by omega, by omega, fun H5 s5 => ?_⟩
    walk_at "rd"
    walk_at "nx"
    have s6 := s3.trans (s4.trans s5)
    refine ⟨nl, p, ms, ws, am, rfl, s6.seq hN, by omega, mr, s5 _ _ (s4 _ _ e3), hW, hA, fun H6 s7 => ?_⟩
    walk_at "rd"
    exact ⟨_, _, _, _, rfl, hs2.trans (s6.trans s7)⟩
  · rintro σ' H' ⟨_, _, _, _, rfl, hs⟩
    walk_at "nx"
    exact hq _
end
theorem txt_mk {K : PySem.W.Frag} {mg : Str → Option Value} {h : Heap} (X : K.In h) (G : h.Ns mainGlobals mg)
    {C_BadValue : Addr}
    {C_BadDay : Addr}
    {C_Missing : Addr}
    {C_Refused : Addr}
    {C_Full : Addr}
    {C_NotAllowed : Addr}
    {C_Damaged : Addr}
    {C_BankError : Addr}
    {f_check_weights : Addr} {od_check_weights an_check_weights : Option Addr} {sl_check_weights : Array (Option Value)} {oc_check_weights kV_check_weights dc_check_weights pm_check_weights cd_check_weights ct_check_weights : Value}
    {f_allocate : Addr} {od_allocate an_allocate : Option Addr} {sl_allocate : Array (Option Value)} {oc_allocate kV_allocate dc_allocate pm_allocate cd_allocate ct_allocate : Value}
    {f_split_equally : Addr} {od_split_equally an_split_equally : Option Addr} {sl_split_equally : Array (Option Value)} {oc_split_equally kV_split_equally dc_split_equally pm_split_equally cd_split_equally ct_split_equally : Value}
    {f__law_numbers : Addr} {od__law_numbers an__law_numbers : Option Addr} {sl__law_numbers : Array (Option Value)} {oc__law_numbers kV__law_numbers dc__law_numbers pm__law_numbers cd__law_numbers ct__law_numbers : Value}
    {f__law_kinds : Addr} {od__law_kinds an__law_kinds : Option Addr} {sl__law_kinds : Array (Option Value)} {oc__law_kinds kV__law_kinds dc__law_kinds pm__law_kinds cd__law_kinds ct__law_kinds : Value}
    {f__law_refusal : Addr} {od__law_refusal an__law_refusal : Option Addr} {sl__law_refusal : Array (Option Value)} {oc__law_refusal kV__law_refusal dc__law_refusal pm__law_refusal cd__law_refusal ct__law_refusal : Value}
    {f__law_weights : Addr} {od__law_weights an__law_weights : Option Addr} {sl__law_weights : Array (Option Value)} {oc__law_weights kV__law_weights dc__law_weights pm__law_weights cd__law_weights ct__law_weights : Value}
    {f__law_integers : Addr} {od__law_integers an__law_integers : Option Addr} {sl__law_integers : Array (Option Value)} {oc__law_integers kV__law_integers dc__law_integers pm__law_integers cd__law_integers ct__law_integers : Value}
    {f__law_right : Addr} {od__law_right an__law_right : Option Addr} {sl__law_right : Array (Option Value)} {oc__law_right kV__law_right dc__law_right pm__law_right cd__law_right ct__law_right : Value}
    {f__law_equal : Addr} {od__law_equal an__law_equal : Option Addr} {sl__law_equal : Array (Option Value)} {oc__law_equal kV__law_equal dc__law_equal pm__law_equal cd__law_equal ct__law_equal : Value}
    {f__law_refused : Addr} {od__law_refused an__law_refused : Option Addr} {sl__law_refused : Array (Option Value)} {oc__law_refused kV__law_refused dc__law_refused pm__law_refused cd__law_refused ct__law_refused : Value}
    {f_law : Addr} {od_law an_law : Option Addr} {sl_law : Array (Option Value)} {oc_law kV_law dc_law pm_law cd_law ct_law : Value}
    {w_GREAT : Value}
    {w_MOST_WEIGHTS : Value}
    {w_GREATEST_WEIGHT : Value}
    (e_BadValue : PySem.W.nsIn K mainGlobals "BadValue" = some (some (.ref C_BadValue)))
    (e_BadDay : PySem.W.nsIn K mainGlobals "BadDay" = some (some (.ref C_BadDay)))
    (e_Missing : PySem.W.nsIn K mainGlobals "Missing" = some (some (.ref C_Missing)))
    (e_Refused : PySem.W.nsIn K mainGlobals "Refused" = some (some (.ref C_Refused)))
    (e_Full : PySem.W.nsIn K mainGlobals "Full" = some (some (.ref C_Full)))
    (e_NotAllowed : PySem.W.nsIn K mainGlobals "NotAllowed" = some (some (.ref C_NotAllowed)))
    (e_Damaged : PySem.W.nsIn K mainGlobals "Damaged" = some (some (.ref C_Damaged)))
    (e_BankError : PySem.W.nsIn K mainGlobals "BankError" = some (some (.ref C_BankError)))
    (eAll : Kv.errAll K (fun e => match e with | .badValue => C_BadValue | .badDay => C_BadDay | .missing => C_Missing | .refused => C_Refused | .full => C_Full | .notAllowed => C_NotAllowed | .damaged => C_Damaged) C_BankError = true)
    (a_check_weights : PySem.W.nsIn K mainGlobals "check_weights" = some (some (.ref f_check_weights)))
    (l_check_weights : K.lookup f_check_weights = some ⟨oc_check_weights, od_check_weights, .func (PySem.W.fnOf "check_weights" "check_weights" (defArgs s_check_weights) (defBody s_check_weights) (defScope s_check_weights) .none kV_check_weights dc_check_weights pm_check_weights an_check_weights cd_check_weights ct_check_weights), sl_check_weights⟩)
    (c_check_weights : PySem.W.codeIn K cd_check_weights "check_weights" = true)
    (k_check_weights : PySem.W.keepIn K (.ref f_check_weights) = true)
    (a_allocate : PySem.W.nsIn K mainGlobals "allocate" = some (some (.ref f_allocate)))
    (l_allocate : K.lookup f_allocate = some ⟨oc_allocate, od_allocate, .func (PySem.W.fnOf "allocate" "allocate" (defArgs s_allocate) (defBody s_allocate) (defScope s_allocate) .none kV_allocate dc_allocate pm_allocate an_allocate cd_allocate ct_allocate), sl_allocate⟩)
    (c_allocate : PySem.W.codeIn K cd_allocate "allocate" = true)
    (k_allocate : PySem.W.keepIn K (.ref f_allocate) = true)
    (a_split_equally : PySem.W.nsIn K mainGlobals "split_equally" = some (some (.ref f_split_equally)))
    (l_split_equally : K.lookup f_split_equally = some ⟨oc_split_equally, od_split_equally, .func (PySem.W.fnOf "split_equally" "split_equally" (defArgs s_split_equally) (defBody s_split_equally) (defScope s_split_equally) .none kV_split_equally dc_split_equally pm_split_equally an_split_equally cd_split_equally ct_split_equally), sl_split_equally⟩)
    (c_split_equally : PySem.W.codeIn K cd_split_equally "split_equally" = true)
    (k_split_equally : PySem.W.keepIn K (.ref f_split_equally) = true)
    (a__law_numbers : PySem.W.nsIn K mainGlobals "_law_numbers" = some (some (.ref f__law_numbers)))
    (l__law_numbers : K.lookup f__law_numbers = some ⟨oc__law_numbers, od__law_numbers, .func (PySem.W.fnOf "_law_numbers" "_law_numbers" (defArgs s_L_numbers) (defBody s_L_numbers) (defScope s_L_numbers) .none kV__law_numbers dc__law_numbers pm__law_numbers an__law_numbers cd__law_numbers ct__law_numbers), sl__law_numbers⟩)
    (c__law_numbers : PySem.W.codeIn K cd__law_numbers "_law_numbers" = true)
    (k__law_numbers : PySem.W.keepIn K (.ref f__law_numbers) = true)
    (a__law_kinds : PySem.W.nsIn K mainGlobals "_law_kinds" = some (some (.ref f__law_kinds)))
    (l__law_kinds : K.lookup f__law_kinds = some ⟨oc__law_kinds, od__law_kinds, .func (PySem.W.fnOf "_law_kinds" "_law_kinds" (defArgs s_L_kinds) (defBody s_L_kinds) (defScope s_L_kinds) .none kV__law_kinds dc__law_kinds pm__law_kinds an__law_kinds cd__law_kinds ct__law_kinds), sl__law_kinds⟩)
    (c__law_kinds : PySem.W.codeIn K cd__law_kinds "_law_kinds" = true)
    (k__law_kinds : PySem.W.keepIn K (.ref f__law_kinds) = true)
    (a__law_refusal : PySem.W.nsIn K mainGlobals "_law_refusal" = some (some (.ref f__law_refusal)))
    (l__law_refusal : K.lookup f__law_refusal = some ⟨oc__law_refusal, od__law_refusal, .func (PySem.W.fnOf "_law_refusal" "_law_refusal" (defArgs s_L_refusal) (defBody s_L_refusal) (defScope s_L_refusal) .none kV__law_refusal dc__law_refusal pm__law_refusal an__law_refusal cd__law_refusal ct__law_refusal), sl__law_refusal⟩)
    (c__law_refusal : PySem.W.codeIn K cd__law_refusal "_law_refusal" = true)
    (k__law_refusal : PySem.W.keepIn K (.ref f__law_refusal) = true)
    (a__law_weights : PySem.W.nsIn K mainGlobals "_law_weights" = some (some (.ref f__law_weights)))
    (l__law_weights : K.lookup f__law_weights = some ⟨oc__law_weights, od__law_weights, .func (PySem.W.fnOf "_law_weights" "_law_weights" (defArgs s_L_weights) (defBody s_L_weights) (defScope s_L_weights) .none kV__law_weights dc__law_weights pm__law_weights an__law_weights cd__law_weights ct__law_weights), sl__law_weights⟩)
    (c__law_weights : PySem.W.codeIn K cd__law_weights "_law_weights" = true)
    (k__law_weights : PySem.W.keepIn K (.ref f__law_weights) = true)
    (a__law_integers : PySem.W.nsIn K mainGlobals "_law_integers" = some (some (.ref f__law_integers)))
    (l__law_integers : K.lookup f__law_integers = some ⟨oc__law_integers, od__law_integers, .func (PySem.W.fnOf "_law_integers" "_law_integers" (defArgs s_L_integers) (defBody s_L_integers) (defScope s_L_integers) .none kV__law_integers dc__law_integers pm__law_integers an__law_integers cd__law_integers ct__law_integers), sl__law_integers⟩)
    (c__law_integers : PySem.W.codeIn K cd__law_integers "_law_integers" = true)
    (k__law_integers : PySem.W.keepIn K (.ref f__law_integers) = true)
    (a__law_right : PySem.W.nsIn K mainGlobals "_law_right" = some (some (.ref f__law_right)))
    (l__law_right : K.lookup f__law_right = some ⟨oc__law_right, od__law_right, .func (PySem.W.fnOf "_law_right" "_law_right" (defArgs s_L_right) (defBody s_L_right) (defScope s_L_right) .none kV__law_right dc__law_right pm__law_right an__law_right cd__law_right ct__law_right), sl__law_right⟩)
    (c__law_right : PySem.W.codeIn K cd__law_right "_law_right" = true)
    (k__law_right : PySem.W.keepIn K (.ref f__law_right) = true)
    (a__law_equal : PySem.W.nsIn K mainGlobals "_law_equal" = some (some (.ref f__law_equal)))
    (l__law_equal : K.lookup f__law_equal = some ⟨oc__law_equal, od__law_equal, .func (PySem.W.fnOf "_law_equal" "_law_equal" (defArgs s_L_equal) (defBody s_L_equal) (defScope s_L_equal) .none kV__law_equal dc__law_equal pm__law_equal an__law_equal cd__law_equal ct__law_equal), sl__law_equal⟩)
    (c__law_equal : PySem.W.codeIn K cd__law_equal "_law_equal" = true)
    (k__law_equal : PySem.W.keepIn K (.ref f__law_equal) = true)
    (a__law_refused : PySem.W.nsIn K mainGlobals "_law_refused" = some (some (.ref f__law_refused)))
    (l__law_refused : K.lookup f__law_refused = some ⟨oc__law_refused, od__law_refused, .func (PySem.W.fnOf "_law_refused" "_law_refused" (defArgs s_L_refused) (defBody s_L_refused) (defScope s_L_refused) .none kV__law_refused dc__law_refused pm__law_refused an__law_refused cd__law_refused ct__law_refused), sl__law_refused⟩)
    (c__law_refused : PySem.W.codeIn K cd__law_refused "_law_refused" = true)
    (k__law_refused : PySem.W.keepIn K (.ref f__law_refused) = true)
    (a_law : PySem.W.nsIn K mainGlobals "law" = some (some (.ref f_law)))
    (l_law : K.lookup f_law = some ⟨oc_law, od_law, .func (PySem.W.fnOf "law" "law" (defArgs s_law) (defBody s_law) (defScope s_law) .none kV_law dc_law pm_law an_law cd_law ct_law), sl_law⟩)
    (c_law : PySem.W.codeIn K cd_law "law" = true)
    (k_law : PySem.W.keepIn K (.ref f_law) = true)
    (v_GREAT : PySem.W.nsIn K mainGlobals "GREAT" = some (some w_GREAT))
    (vr_GREAT : RelV (.int (1000000000000)) w_GREAT)
    (v_MOST_WEIGHTS : PySem.W.nsIn K mainGlobals "MOST_WEIGHTS" = some (some w_MOST_WEIGHTS))
    (vr_MOST_WEIGHTS : RelV (.int (60)) w_MOST_WEIGHTS)
    (v_GREATEST_WEIGHT : PySem.W.nsIn K mainGlobals "GREATEST_WEIGHT" = some (some w_GREATEST_WEIGHT))
    (vr_GREATEST_WEIGHT : RelV (.int (1000000)) w_GREATEST_WEIGHT)
    (n_bool : PySem.W.nsIn K mainGlobals "bool" = some none)
    (n_enumerate : PySem.W.nsIn K mainGlobals "enumerate" = some none)
    (n_int : PySem.W.nsIn K mainGlobals "int" = some none)
    (n_isinstance : PySem.W.nsIn K mainGlobals "isinstance" = some none)
    (n_len : PySem.W.nsIn K mainGlobals "len" = some none)
    (n_list : PySem.W.nsIn K mainGlobals "list" = some none)
    (n_max : PySem.W.nsIn K mainGlobals "max" = some none)
    (n_min : PySem.W.nsIn K mainGlobals "min" = some none)
    (n_range : PySem.W.nsIn K mainGlobals "range" = some none)
    (n_sorted : PySem.W.nsIn K mainGlobals "sorted" = some none)
    (n_sum : PySem.W.nsIn K mainGlobals "sum" = some none) :
    ∃ T : Txt K mg, T.d_law = PySem.W.fnOf "law" "law" (defArgs s_law) (defBody s_law) (defScope s_law) .none kV_law dc_law pm_law an_law cd_law ct_law :=
  ⟨{ exa := fun e => match e with | .badValue => C_BadValue | .badDay => C_BadDay | .missing => C_Missing | .refused => C_Refused | .full => C_Full | .notAllowed => C_NotAllowed | .damaged => C_Damaged,
       exg := fun e => by cases e <;> first | exact PySem.W.mg_of X G e_BadValue | exact PySem.W.mg_of X G e_BadDay | exact PySem.W.mg_of X G e_Missing | exact PySem.W.mg_of X G e_Refused | exact PySem.W.mg_of X G e_Full | exact PySem.W.mg_of X G e_NotAllowed | exact PySem.W.mg_of X G e_Damaged,
       a_BankError := C_BankError,
       g_BankError := PySem.W.mg_of X G e_BankError,
       exAll := eAll,
       a_check_weights := f_check_weights,
       d_check_weights := PySem.W.fnOf "check_weights" "check_weights" (defArgs s_check_weights) (defBody s_check_weights) (defScope s_check_weights) .none kV_check_weights dc_check_weights pm_check_weights an_check_weights cd_check_weights ct_check_weights,
       g_check_weights := PySem.W.mg_of X G a_check_weights,
       F_check_weights := fun_mk (st := s_check_weights) l_check_weights c_check_weights k_check_weights,
       b_check_weights := (fun_mk (st := s_check_weights) l_check_weights c_check_weights k_check_weights).binds (ps := ["weights"]) fun _ _ _ _ _ _ us hl => match us, hl with | [_], _ => rfl,
       a_allocate := f_allocate,
       d_allocate := PySem.W.fnOf "allocate" "allocate" (defArgs s_allocate) (defBody s_allocate) (defScope s_allocate) .none kV_allocate dc_allocate pm_allocate an_allocate cd_allocate ct_allocate,
       g_allocate := PySem.W.mg_of X G a_allocate,
       F_allocate := fun_mk (st := s_allocate) l_allocate c_allocate k_allocate,
       b_allocate := (fun_mk (st := s_allocate) l_allocate c_allocate k_allocate).binds (ps := ["amount", "weights"]) fun _ _ _ _ _ _ us hl => match us, hl with | [_, _], _ => rfl,
       a_split_equally := f_split_equally,
       d_split_equally := PySem.W.fnOf "split_equally" "split_equally" (defArgs s_split_equally) (defBody s_split_equally) (defScope s_split_equally) .none kV_split_equally dc_split_equally pm_split_equally an_split_equally cd_split_equally ct_split_equally,
       g_split_equally := PySem.W.mg_of X G a_split_equally,
       F_split_equally := fun_mk (st := s_split_equally) l_split_equally c_split_equally k_split_equally,
       b_split_equally := (fun_mk (st := s_split_equally) l_split_equally c_split_equally k_split_equally).binds (ps := ["amount", "parts"]) fun _ _ _ _ _ _ us hl => match us, hl with | [_, _], _ => rfl,
       a__law_numbers := f__law_numbers,
       d__law_numbers := PySem.W.fnOf "_law_numbers" "_law_numbers" (defArgs s_L_numbers) (defBody s_L_numbers) (defScope s_L_numbers) .none kV__law_numbers dc__law_numbers pm__law_numbers an__law_numbers cd__law_numbers ct__law_numbers,
       g__law_numbers := PySem.W.mg_of X G a__law_numbers,
       F__law_numbers := fun_mk (st := s_L_numbers) l__law_numbers c__law_numbers k__law_numbers,
       b__law_numbers := (fun_mk (st := s_L_numbers) l__law_numbers c__law_numbers k__law_numbers).binds (ps := ["cell", "count"]) fun _ _ _ _ _ _ us hl => match us, hl with | [_, _], _ => rfl,
       a__law_kinds := f__law_kinds,
       d__law_kinds := PySem.W.fnOf "_law_kinds" "_law_kinds" (defArgs s_L_kinds) (defBody s_L_kinds) (defScope s_L_kinds) .none kV__law_kinds dc__law_kinds pm__law_kinds an__law_kinds cd__law_kinds ct__law_kinds,
       g__law_kinds := PySem.W.mg_of X G a__law_kinds,
       F__law_kinds := fun_mk (st := s_L_kinds) l__law_kinds c__law_kinds k__law_kinds,
       b__law_kinds := (fun_mk (st := s_L_kinds) l__law_kinds c__law_kinds k__law_kinds).binds (ps := ["error"]) fun _ _ _ _ _ _ us hl => match us, hl with | [_], _ => rfl,
       a__law_refusal := f__law_refusal,
       d__law_refusal := PySem.W.fnOf "_law_refusal" "_law_refusal" (defArgs s_L_refusal) (defBody s_L_refusal) (defScope s_L_refusal) .none kV__law_refusal dc__law_refusal pm__law_refusal an__law_refusal cd__law_refusal ct__law_refusal,
       g__law_refusal := PySem.W.mg_of X G a__law_refusal,
       F__law_refusal := fun_mk (st := s_L_refusal) l__law_refusal c__law_refusal k__law_refusal,
       b__law_refusal := (fun_mk (st := s_L_refusal) l__law_refusal c__law_refusal k__law_refusal).binds (ps := ["amount", "weights", "parts"]) fun _ _ _ _ _ _ us hl => match us, hl with | [_, _, _], _ => rfl,
       a__law_weights := f__law_weights,
       d__law_weights := PySem.W.fnOf "_law_weights" "_law_weights" (defArgs s_L_weights) (defBody s_L_weights) (defScope s_L_weights) .none kV__law_weights dc__law_weights pm__law_weights an__law_weights cd__law_weights ct__law_weights,
       g__law_weights := PySem.W.mg_of X G a__law_weights,
       F__law_weights := fun_mk (st := s_L_weights) l__law_weights c__law_weights k__law_weights,
       b__law_weights := (fun_mk (st := s_L_weights) l__law_weights c__law_weights k__law_weights).binds (ps := ["numbers"]) fun _ _ _ _ _ _ us hl => match us, hl with | [_], _ => rfl,
       a__law_integers := f__law_integers,
       d__law_integers := PySem.W.fnOf "_law_integers" "_law_integers" (defArgs s_L_integers) (defBody s_L_integers) (defScope s_L_integers) .none kV__law_integers dc__law_integers pm__law_integers an__law_integers cd__law_integers ct__law_integers,
       g__law_integers := PySem.W.mg_of X G a__law_integers,
       F__law_integers := fun_mk (st := s_L_integers) l__law_integers c__law_integers k__law_integers,
       b__law_integers := (fun_mk (st := s_L_integers) l__law_integers c__law_integers k__law_integers).binds (ps := ["shares", "count"]) fun _ _ _ _ _ _ us hl => match us, hl with | [_, _], _ => rfl,
       a__law_right := f__law_right,
       d__law_right := PySem.W.fnOf "_law_right" "_law_right" (defArgs s_L_right) (defBody s_L_right) (defScope s_L_right) .none kV__law_right dc__law_right pm__law_right an__law_right cd__law_right ct__law_right,
       g__law_right := PySem.W.mg_of X G a__law_right,
       F__law_right := fun_mk (st := s_L_right) l__law_right c__law_right k__law_right,
       b__law_right := (fun_mk (st := s_L_right) l__law_right c__law_right k__law_right).binds (ps := ["amount", "weights"]) fun _ _ _ _ _ _ us hl => match us, hl with | [_, _], _ => rfl,
       a__law_equal := f__law_equal,
       d__law_equal := PySem.W.fnOf "_law_equal" "_law_equal" (defArgs s_L_equal) (defBody s_L_equal) (defScope s_L_equal) .none kV__law_equal dc__law_equal pm__law_equal an__law_equal cd__law_equal ct__law_equal,
       g__law_equal := PySem.W.mg_of X G a__law_equal,
       F__law_equal := fun_mk (st := s_L_equal) l__law_equal c__law_equal k__law_equal,
       b__law_equal := (fun_mk (st := s_L_equal) l__law_equal c__law_equal k__law_equal).binds (ps := ["amount", "parts"]) fun _ _ _ _ _ _ us hl => match us, hl with | [_, _], _ => rfl,
       a__law_refused := f__law_refused,
       d__law_refused := PySem.W.fnOf "_law_refused" "_law_refused" (defArgs s_L_refused) (defBody s_L_refused) (defScope s_L_refused) .none kV__law_refused dc__law_refused pm__law_refused an__law_refused cd__law_refused ct__law_refused,
       g__law_refused := PySem.W.mg_of X G a__law_refused,
       F__law_refused := fun_mk (st := s_L_refused) l__law_refused c__law_refused k__law_refused,
       b__law_refused := (fun_mk (st := s_L_refused) l__law_refused c__law_refused k__law_refused).binds (ps := ["numbers", "amount", "weights"]) fun _ _ _ _ _ _ us hl => match us, hl with | [_, _, _], _ => rfl,
       a_law := f_law,
       d_law := PySem.W.fnOf "law" "law" (defArgs s_law) (defBody s_law) (defScope s_law) .none kV_law dc_law pm_law an_law cd_law ct_law,
       g_law := PySem.W.mg_of X G a_law,
       F_law := fun_mk (st := s_law) l_law c_law k_law,
       b_law := (fun_mk (st := s_law) l_law c_law k_law).binds (ps := ["script"]) fun _ _ _ _ _ _ us hl => match us, hl with | [_], _ => rfl,
       u_GREAT := w_GREAT,
       g_GREAT := PySem.W.mg_of X G v_GREAT,
       r_GREAT := vr_GREAT,
       u_MOST_WEIGHTS := w_MOST_WEIGHTS,
       g_MOST_WEIGHTS := PySem.W.mg_of X G v_MOST_WEIGHTS,
       r_MOST_WEIGHTS := vr_MOST_WEIGHTS,
       u_GREATEST_WEIGHT := w_GREATEST_WEIGHT,
       g_GREATEST_WEIGHT := PySem.W.mg_of X G v_GREATEST_WEIGHT,
       r_GREATEST_WEIGHT := vr_GREATEST_WEIGHT,
       n_bool := PySem.W.mg_none_of X G n_bool,
       n_enumerate := PySem.W.mg_none_of X G n_enumerate,
       n_int := PySem.W.mg_none_of X G n_int,
       n_isinstance := PySem.W.mg_none_of X G n_isinstance,
       n_len := PySem.W.mg_none_of X G n_len,
       n_list := PySem.W.mg_none_of X G n_list,
       n_max := PySem.W.mg_none_of X G n_max,
       n_min := PySem.W.mg_none_of X G n_min,
       n_range := PySem.W.mg_none_of X G n_range,
       n_sorted := PySem.W.mg_none_of X G n_sorted,
       n_sum := PySem.W.mg_none_of X G n_sum }, rfl⟩
end K04
open PySem PySem.W PyProof.Rows
set_option maxRecDepth 100000 in
set_option maxHeartbeats 0 in
theorem PySem.Challenge.cw_corebank_k04_allocate_holds : PySem.Challenge.rw_corebank_k04_allocate.Holds := by
  w_on; o_law; k_head; (case hw => w_witness2)
  k_fill
  refine Kv.walk (l := PySem.Challenge.rw_corebank_k04_allocate) (k := 6) rfl rfl ⟨rfl, by decide, by decide⟩ (fun w h Y => PySem.W.kIn_of Y) ?F
  case F =>
    intro w mg fa h KX G hmg
    obtain ⟨T, hT⟩ : ∃ T : K04.Txt _ mg, ∃ a b c d e f, T.d_law = PySem.W.fnOf "law" "law" (L2.defArgs K04.s_law) (L2.defBody K04.s_law) (L2.defScope K04.s_law) .none a b c d e f := by
      refine' (fun z => ⟨z.choose, _, _, _, _, _, _, z.choose_spec⟩) (K04.txt_mk KX G ?e_BadValue ?e_BadDay ?e_Missing ?e_Refused ?e_Full ?e_NotAllowed ?e_Damaged ?e_BankError ?eAll ?a_check_weights ?l_check_weights ?c_check_weights ?k_check_weights ?a_allocate ?l_allocate ?c_allocate ?k_allocate ?a_split_equally ?l_split_equally ?c_split_equally ?k_split_equally ?a__law_numbers ?l__law_numbers ?c__law_numbers ?k__law_numbers ?a__law_kinds ?l__law_kinds ?c__law_kinds ?k__law_kinds ?a__law_refusal ?l__law_refusal ?c__law_refusal ?k__law_refusal ?a__law_weights ?l__law_weights ?c__law_weights ?k__law_weights ?a__law_integers ?l__law_integers ?c__law_integers ?k__law_integers ?a__law_right ?l__law_right ?c__law_right ?k__law_right ?a__law_equal ?l__law_equal ?c__law_equal ?k__law_equal ?a__law_refused ?l__law_refused ?c__law_refused ?k__law_refused ?a_law ?l_law ?c_law ?k_law ?v_GREAT ?vr_GREAT ?v_MOST_WEIGHTS ?vr_MOST_WEIGHTS ?v_GREATEST_WEIGHT ?vr_GREATEST_WEIGHT ?n_bool ?n_enumerate ?n_int ?n_isinstance ?n_len ?n_list ?n_max ?n_min ?n_range ?n_sorted ?n_sum)
      (case e_BadValue => k_is)
      (case e_BadDay => k_is)
      (case e_Missing => k_is)
      (case e_Refused => k_is)
      (case e_Full => k_is)
      (case e_NotAllowed => k_is)
      (case e_Damaged => k_is)
      (case e_BankError => k_is)
      (case eAll => first | rfl | with_unfolding_all rfl | kernel_rfl)
      (case a_check_weights => k_is)
      (case l_check_weights => k_is)
      (case c_check_weights => k_is)
      (case k_check_weights => k_is)
      (case a_allocate => k_is)
      (case l_allocate => k_is)
      (case c_allocate => k_is)
      (case k_allocate => k_is)
      (case a_split_equally => k_is)
      (case l_split_equally => k_is)
      (case c_split_equally => k_is)
      (case k_split_equally => k_is)
      (case a__law_numbers => k_is)
      (case l__law_numbers => k_is)
      (case c__law_numbers => k_is)
      (case k__law_numbers => k_is)
      (case a__law_kinds => k_is)
      (case l__law_kinds => k_is)
      (case c__law_kinds => k_is)
      (case k__law_kinds => k_is)
      (case a__law_refusal => k_is)
      (case l__law_refusal => k_is)
      (case c__law_refusal => k_is)
      (case k__law_refusal => k_is)
      (case a__law_weights => k_is)
      (case l__law_weights => k_is)
      (case c__law_weights => k_is)
      (case k__law_weights => k_is)
      (case a__law_integers => k_is)
      (case l__law_integers => k_is)
      (case c__law_integers => k_is)
      (case k__law_integers => k_is)
      (case a__law_right => k_is)
      (case l__law_right => k_is)
      (case c__law_right => k_is)
      (case k__law_right => k_is)
      (case a__law_equal => k_is)
      (case l__law_equal => k_is)
      (case c__law_equal => k_is)
      (case k__law_equal => k_is)
      (case a__law_refused => k_is)
      (case l__law_refused => k_is)
      (case c__law_refused => k_is)
      (case k__law_refused => k_is)
      (case a_law => k_is)
      (case l_law => k_is)
      (case c_law => k_is)
      (case k_law => k_is)
      (case v_GREAT => k_is)
      (case vr_GREAT => exact ⟨_, rfl⟩)
      (case v_MOST_WEIGHTS => k_is)
      (case vr_MOST_WEIGHTS => exact ⟨_, rfl⟩)
      (case v_GREATEST_WEIGHT => k_is)
      (case vr_GREATEST_WEIGHT => exact ⟨_, rfl⟩)
      (case n_bool => k_is)
      (case n_enumerate => k_is)
      (case n_int => k_is)
      (case n_isinstance => k_is)
      (case n_len => k_is)
      (case n_list => k_is)
      (case n_max => k_is)
      (case n_min => k_is)
      (case n_range => k_is)
      (case n_sorted => k_is)
      (case n_sum => k_is)
    obtain ⟨_, _, _, _, _, _, hT⟩ := hT
    have ea : fa = T.a_law := by
      have z := hmg.symm.trans T.g_law
      cases z; rfl
    subst ea
    exact ⟨T.d_law, fun s u => by rw [hT]; exact .of_eq rfl, fun base _ _ => K04.ok_law T⟩
#print axioms PySem.Challenge.cw_corebank_k04_allocate_holds
