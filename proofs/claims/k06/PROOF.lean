import PyProof.Rows.All
import Wide.All
import OpenK.AllK
import Wide.FinOn
import HandS.ForMost
import HandS.ForExc
import HandS.Wide
import HandS.WideMore
import HandS.WideBits
import HandS.EndBits
import HandS.IsInst
import HandS.ExcIs
import HandS.HotCalls
import HandS.StrMore
import HandS.Style
import HandS.TupAny
import HandS.SortInts
import HandS.SortKw
import HandS.Walk
import HandS.SortRule
import PySem.Challenge.RW_corebank_k06_whole_dates_follow_one_anot
set_option Elab.async false
set_option linter.all false
set_option maxRecDepth 100000
set_option maxHeartbeats 4000000
/-! What all the proofs share: the library's errors, lists joined, the def that tells an error's kinds. -/
namespace Kv
open PySem PySem.Spec PyProof.Rows L2
abbrev Frag := PySem.W.Frag
inductive Er where
  | badValue | badDay | missing | refused | full | notAllowed | damaged
  deriving DecidableEq
def Er.nm : Er → Str
  | .badValue => "BadValue" | .badDay => "BadDay" | .missing => "Missing" | .refused => "Refused" | .full => "Full" | .notAllowed => "NotAllowed" | .damaged => "Damaged"
def Er.every : List Er := [.badValue, .badDay, .missing, .refused, .full, .notAllowed, .damaged]
theorem Er.mem (e : Er) : e ∈ Er.every := by cases e <;> decide
abbrev veChain : List Value := [.type "ValueError", .type "Exception", .type "BaseException", .type "object"]
/-- what the written part must say of one error class -/
def errOne (K : Frag) (a : Er → Addr) (b : Addr) (e : Er) : Bool :=
  PySem.W.excIn K (a e) veChain "ValueError.__new__" && PySem.W.keepIn K (.ref (a e)) && (PySem.W.subIn K (.ref (a e)) (.type "BaseException") == some true) && (PySem.W.typeIn K (.ref (a e)) == some (.type "type")) &&
  (PySem.W.findIn K (.ref (a e)) "__getattribute__" == some (some (.builtin "BaseException.__getattribute__"))) && (PySem.W.findIn K (.ref (a e)) "__getattr__" == some none) && PySem.W.hasDictIn K (a e) &&
  (PySem.W.findIn K (.ref (a e)) "__class__" == some (some (.builtin "object.__class__"))) && (PySem.W.mroIn K (a e) (.type "object") == some true) && (PySem.W.exmOne K (.ref (a e)) (.ref b) == some true) &&
  Er.every.all fun d => PySem.W.kitOne K (.ref (a e)) (.ref (a d)) == some (decide (e = d))
def errAll (K : Frag) (a : Er → Addr) (b : Addr) : Bool :=
  (PySem.W.specialIn K (.builtin "object.__class__") "__get__" == some (some (.builtin "getset_descriptor.__get__"))) && (PySem.W.takesIn K (.builtin "object.__class__") == some true) && Er.every.all (errOne K a b)
structure Errs (K : Frag) (mg : Str → Option Value) where
  exa : Er → Addr
  exg : ∀ e, mg e.nm = some (.ref (exa e))
  a_BankError : Addr
  g_BankError : mg "BankError" = some (.ref a_BankError)
  exAll : errAll K exa a_BankError = true
namespace Errs
variable {K : Frag} {mg : Str → Option Value} (T : Errs K mg)
theorem one (e : Er) : errOne K T.exa T.a_BankError e = true := by
  have h := T.exAll
  unfold errAll at h
  simp only [Bool.and_eq_true, List.all_eq_true] at h
  exact h.2 e e.mem
theorem split (e : Er) : PySem.W.excIn K (T.exa e) veChain "ValueError.__new__" = true ∧ PySem.W.keepIn K (.ref (T.exa e)) = true ∧ PySem.W.subIn K (.ref (T.exa e)) (.type "BaseException") = some true ∧ PySem.W.typeIn K (.ref (T.exa e)) = some (.type "type") ∧
    ExcC K (T.exa e) ∧ PySem.W.exmOne K (.ref (T.exa e)) (.ref T.a_BankError) = some true ∧ ∀ d, PySem.W.kitOne K (.ref (T.exa e)) (.ref (T.exa d)) = some (decide (e = d)) := by
  have h := T.one e
  have g := T.exAll
  unfold errOne at h
  unfold errAll at g
  simp only [Bool.and_eq_true, List.all_eq_true, beq_iff_eq] at h g
  obtain ⟨⟨⟨⟨⟨⟨⟨⟨⟨⟨h1, h2⟩, h3⟩, h4⟩, h5⟩, h6⟩, h7⟩, h8⟩, h9⟩, h10⟩, h11⟩ := h
  exact ⟨h1, h2, h3, h4, ⟨h5, h6, h3, h7, h8, g.1.1, g.1.2, h9⟩, h10, fun d => h11 d d.mem⟩
theorem exx (e : Er) : PySem.W.excIn K (T.exa e) veChain "ValueError.__new__" = true := (T.split e).1
theorem exk (e : Er) : PySem.W.keepIn K (.ref (T.exa e)) = true := (T.split e).2.1
theorem exb (e : Er) : PySem.W.subIn K (.ref (T.exa e)) (.type "BaseException") = some true := (T.split e).2.2.1
theorem ext (e : Er) : PySem.W.typeIn K (.ref (T.exa e)) = some (.type "type") := (T.split e).2.2.2.1
theorem exc (e : Er) : ExcC K (T.exa e) := (T.split e).2.2.2.2.1
theorem exm (e : Er) : PySem.W.exmOne K (.ref (T.exa e)) (.ref T.a_BankError) = some true := (T.split e).2.2.2.2.2.1
theorem exi (e d : Er) : PySem.W.kitOne K (.ref (T.exa e)) (.ref (T.exa d)) = some (decide (e = d)) := (T.split e).2.2.2.2.2.2 d
end Errs

/-- .. where the text has some of the classes alone -/
def errAllP (K : Frag) (a : Er → Addr) (b : Addr) (es : List Er) : Bool :=
  (PySem.W.specialIn K (.builtin "object.__class__") "__get__" == some (some (.builtin "getset_descriptor.__get__"))) && (PySem.W.takesIn K (.builtin "object.__class__") == some true) && es.all fun e =>
  PySem.W.excIn K (a e) veChain "ValueError.__new__" && PySem.W.keepIn K (.ref (a e)) && (PySem.W.subIn K (.ref (a e)) (.type "BaseException") == some true) && (PySem.W.typeIn K (.ref (a e)) == some (.type "type")) &&
  (PySem.W.exmOne K (.ref (a e)) (.ref b) == some true)
structure ErrsP (K : Frag) (mg : Str → Option Value) (es : List Er) where
  exa : Er → Addr
  exgP : ∀ e, e ∈ es → mg e.nm = some (.ref (exa e))
  a_BankError : Addr
  g_BankError : mg "BankError" = some (.ref a_BankError)
  exAll : errAllP K exa a_BankError es = true
namespace ErrsP
variable {K : Frag} {mg : Str → Option Value} {es : List Er} (T : ErrsP K mg es)
theorem split (e : Er) (he : e ∈ es) : PySem.W.excIn K (T.exa e) veChain "ValueError.__new__" = true ∧ PySem.W.keepIn K (.ref (T.exa e)) = true ∧ PySem.W.subIn K (.ref (T.exa e)) (.type "BaseException") = some true ∧ PySem.W.typeIn K (.ref (T.exa e)) = some (.type "type") ∧
    PySem.W.exmOne K (.ref (T.exa e)) (.ref T.a_BankError) = some true := by
  have g := T.exAll
  unfold errAllP at g
  simp only [Bool.and_eq_true, List.all_eq_true, beq_iff_eq] at g
  obtain ⟨⟨⟨⟨h1, h2⟩, h3⟩, h4⟩, h5⟩ := g.2 e he
  exact ⟨h1, h2, h3, h4, h5⟩
theorem exg (e : Er) (he : e ∈ es := by decide) : mg e.nm = some (.ref (T.exa e)) := T.exgP e he
theorem exx (e : Er) (he : e ∈ es := by decide) : PySem.W.excIn K (T.exa e) veChain "ValueError.__new__" = true := (T.split e he).1
theorem exk (e : Er) (he : e ∈ es := by decide) : PySem.W.keepIn K (.ref (T.exa e)) = true := (T.split e he).2.1
theorem exb (e : Er) (he : e ∈ es := by decide) : PySem.W.subIn K (.ref (T.exa e)) (.type "BaseException") = some true := (T.split e he).2.2.1
theorem ext (e : Er) (he : e ∈ es := by decide) : PySem.W.typeIn K (.ref (T.exa e)) = some (.type "type") := (T.split e he).2.2.2.1
theorem exm (e : Er) (he : e ∈ es := by decide) : PySem.W.exmOne K (.ref (T.exa e)) (.ref T.a_BankError) = some true := (T.split e he).2.2.2.2
end ErrsP

/-! ### two lists joined, whatever may be read of them -/
section
variable {X : Cx}
def rCatS (K : Frag) : R2 := fun x y H Q => ∃ l b xs zs, x = .ref l ∧ y = .ref b ∧ SqL K H l xs ∧ SqL K H b zs ∧ xs.length + zs.length ≤ sizeLine ∧ ∀ p, H p = none → Q (.ref p) (upd H p (.lst (xs ++ zs)))
theorem op_catS : OpR X (binaryOp .Add) (rCatS X.K) := by
  intro pins s σ H x y v u Q I rx ry h
  obtain ⟨l, b, xs, zs, e1, e2, hl, hb, hz, q⟩ := h
  subst e1 e2
  cases rx
  cases ry
  obtain ⟨i1, r1, p1, z1⟩ := I.list hl
  obtain ⟨i2, r2, p2, z2⟩ := I.list hb
  obtain ⟨⟨c1, d1, t1, w1⟩, n1, g1, k1, m1, j1⟩ := p1
  obtain ⟨⟨c2, d2, t2, w2⟩, n2, g2, k2, m2, j2⟩ := p2
  dsimp only at k1 m1 j1 k2 m2 j2
  subst k1 m1 j1 k2 m2 j2
  have l1 := r1.length
  have l2 := r2.length
  have fits : i1.toArray.size + i2.toArray.size ≤ sizeLine := by
    rw [List.size_toArray, List.size_toArray]
    omega
  have joined : i1.toArray ++ i2.toArray = (i1 ++ i2).toArray := by simp
  have meets := list_addW l b i1.toArray i2.toArray n1 n2 none none w1 w2 fits
  refine concat_meets (s := s) ⟨_, g1, rfl⟩ ⟨_, g2, rfl⟩ noFill_list_add seq_list_add
    PySem.F.slot_list_add PySem.F.entry_list_add (PySem.F.args_list_add_2 _ _) meets ⟨g1, g2, ?_⟩
  rw [joined]
  exact ⟨.ref _, _, I.lnew (t' := s.toks) (r1.append r2) (by rw [List.length_append]; exact hz), rfl, q _ I.fresh⟩
end

/-! ### a def that is handed the error which a suite holds, and tells its kind -/
section
variable {P : Program} {w : World} {K : Frag} {mg : Str → Option Value} {base : Heap}
structure KindsOk (P : Program) (w : World) (K : Frag) (mg : Str → Option Value) (base : Heap) (T : Errs K mg) (lv : Nat) (f : Addr) (fd : FuncData) : Prop where
  run : ∀ (A : Around) (outer : List Env) (s : Shared) (H : Hp) (args : Args) (us : List Value) (Q : VK) (p : Addr × Obj) (er : Er), L2H.RoomH lv A → L2H.PinOk outer H s p → Zc (.ref (T.exa er)) none p.2 → (∃ vs, p.2.data = .fields vs) →
    Env0 P w K mg base A outer s H → BindsTo s fd args ((["error"] : List Str).zip us) → Vals [.ref p.1] us → (∀ q, H q = none → Q (.ref q) (upd H q (.lst [.str er.nm]))) →
    codeAny (model P w) A (.call (.ref f) args) (CR CX0 outer P w H s Q E0) s
/-- isinstance of an error that every state bears -/
def rIsP (K : Frag) (D a : Addr) : List V → Hp → VK → Prop := fun xs H Q => ∃ (C : Addr) (b : Bool), xs = [.ref a, .ref C] ∧ PySem.W.kitOne K (.ref D) (.ref C) = some b ∧ Q (.bl b) H
theorem call_isP {X : Cx} {D : Addr} {p : Addr × Obj} (hp : p ∈ X.pn) (C : ExcC X.K D) (hz : Zc (.ref D) none p.2) (hf : ∃ vs, p.2.data = .fields vs) : CallR X (.builtin "isinstance") (rIsP X.K D p.1) := by
  intro pins s σ H xs us Q I r h
  obtain ⟨c, b, e1, e, q⟩ := h
  subst e1
  cases r with
  | cons rx rr =>
    cases rr with
    | cons rt rr2 =>
      cases rr2
      cases rx
      cases rt
      have hget := (I.pin p (List.mem_append.mpr (.inl hp))).1
      have J : PySem.W.InstAt s.heap p.1 p.2 D none := by
        obtain ⟨pa, oc, od, oda, osl⟩ := p
        obtain ⟨vs, hv⟩ := hf
        obtain ⟨h1, h2⟩ := hz
        dsimp only at h1 h2 hv hget ⊢
        subst h1 h2 hv
        exact ⟨hget, rfl, rfl, trivial⟩
      have kit := PySem.W.handS_kitx_exc C.hg C.hk C.hs C.hd C.ha C.hn C.ht C.hm (x := p.1) (ox := p.2)
      exact PySem.W.kia_one kit I.kIn J e (fun z => nomatch z) fun tk => ⟨.bl b, H, I.kept (t' := tk) fun _ _ z => z, rfl, q⟩
/-- such a def by its body -/
theorem kinds_of {T : Errs K mg} {lv : Nat} {f : Addr} {fd : FuncData} {st : Stmt} {N : List Str} (F : Fun K "_law_kinds" "_law_kinds" st f fd) (S : FnScope N ["error"] (defScope st))
    (hb : ∀ (cdv : Value) (A : Around) (outer : List Env) (s : Shared) (H : Hp) (Q : VK) (p : Addr × Obj) (er : Er), Zc (.ref (T.exa er)) none p.2 → (∃ vs, p.2.data = .fields vs) → (∀ q, H q = none → Q (.ref q) (upd H q (.lst [.str er.nm]))) →
      ∃ t, PSs (L2H.cxH CX0 P w K mg base N "_law_kinds" (defScope st) f cdv A outer s H E0 p) (defBody st) t ∧ t { nx := fun _ H' => Q .non H', rt := Q } (start N [.ref p.1]) H) :
    KindsOk P w K mg base T (lv + 1) f fd := by
  obtain ⟨oc, od, kV, doc, pm, an, cdv, ct, osl, rfl, lk, hcd⟩ := F.ex
  refine ⟨fun A outer s H args us Q p er hr hpin hz hf e0 hbi r hk => ?_⟩
  have KX : K.In s.heap := e0.mod.kin.keeps fun b o e => (e0.bs b o e).1
  have lim : s.heap.NoLimit := e0.mod.nolimit.keeps fun b o e => (e0.bs b o e).1
  have kinds : ∀ y ∈ (["error"] : List Str).zip us, (defScope st).names.lookup y.1 = some .local ∨ ((defScope st).names.lookup y.1 = some .cell ∧ ((cellsFrom (s.heap.objs.size + 1) (defScope st).names []).lookup y.1).isSome = true) := by
    intro ⟨n, v⟩ hy
    rcases S.par n (List.of_mem_zip hy).1 with z | z
    · exact .inl z
    · exact .inr ⟨z, PySem.W.cellsFrom_some _ _ _ (.inl z)⟩
  refine codeAny_call_function hr.depth (KX _ _ lk) rfl S.co S.gen rfl (PySem.W.codeRec_of KX hcd) (hbi _ _ _ _ ?_)
  refine wpAny_newFunctionEnv_cells S.kind kinds fun env he s1 x => ?_
  subst he
  refine ⟨lim.keeps x.toInCall.keep, codeAny_func ?_⟩
  obtain ⟨t, ht, hq⟩ := hb cdv A outer s H Q p er hz hf hk
  have I := L2H.inv_startH (CX := CX0) (E := E0) S hpin e0 (show ([.ref p.1] : List V).length = (["error"] : List Str).length from rfl) r x
  refine wpAny_mono (ht.run [] s1 _ H _ I hq) (fun fl s' hs => ?_) fun e s' hs => hs
  have fin : ∀ {σ' : L2.St} {H' : Hp} {v : V} {u : Value}, Inv _ [] σ' H' s' → RelV v u → Q v H' → CE outer P w H s Q u s' :=
    fun {σ' H' v u} (J : Inv (L2H.cxH CX0 P w K mg base N "_law_kinds" (defScope st) f cdv A outer s H E0 p) [] σ' H' s') rv qq => ⟨v, H', J.os, J.bare, J.base, J.hok, rv, qq⟩
  cases fl with
  | next =>
    obtain ⟨σ', H', J, qq⟩ := hs
    exact fin (v := V.non) (u := Value.none) J rfl qq
  | ret u =>
    obtain ⟨v, σ', H', J, rv, qq⟩ := hs
    exact fin J rv qq
  | brk =>
    obtain ⟨_, _, _, qq⟩ := hs
    exact qq.elim
  | cont =>
    obtain ⟨_, _, _, qq⟩ := hs
    exact qq.elim
end
section
variable {X : Cx} {CX : CXT} {f : Addr} {fd : FuncData} {lv : Nat} {x : Str} {q pos : Pos} {e : Expr} {te : TE}
/-- kinds(e), e the error that the suite holds -/
def tKinds {K : Frag} {mg : Str → Option Value} (T : Errs K mg) (cls : Value) (d : Option Addr) (a : Addr) (ta : TA) : TE := fun σ H Q => ta σ H fun vs H1 => vs = [.ref a] ∧ d = none ∧ ∃ er, cls = .ref (T.exa er) ∧ ∀ r, H1 r = none → Q (.ref r) (upd H1 r (.lst [.str er.nm]))
theorem pe_kinds {a : Addr} {oe : Obj} {cls : Value} {d : Option Addr} {P : Program} {w : World} {K : Frag} {mg : Str → Option Value} {base : Heap} {T : Errs K mg} {ta : TA} (F : KindsOk P w K mg base T lv f fd) (hz : Zc cls d oe) (hf : ∃ vs, oe.data = .fields vs) (hp : (a, oe) ∈ X.pn) (hr : L2H.RoomH lv X.A) (hg : Gl X x)
    (hm : X.mg x = some (.ref f)) (hk : PySem.W.keepIn K (.ref f) = true) (hb : Binds K fd ["error"] []) (ha : PA X [e] ta) (hP : X.prog = P := by rfl) (hw : X.w = w := by rfl) (hK : X.K = K := by rfl) (hM : X.mg = mg := by rfl) (hB : X.base = base := by rfl) (hdb : (x == ("__debug__" : Str)) = false := by decide)
    (he : starEach (e :: []) X.env = (false, eval e X.env) :: starEach [] X.env := by rfl) (hpl : (backTo pos (starEach [] X.env)).any (·.1) = false := by rfl) :
    PE X (.Call (.Name x q) [e] [] pos) (tKinds T cls d a ta) := by
  subst hP hw hK hM hB
  refine ⟨fun pins s σ H Q I h => ?_⟩
  refine wpAny_Call_Name_kw (ld_glob I hg hm ?_ hdb)
  refine PySem.W.callWith_K (h₀ := X.base) I.ok.mod.kin hk (thn (ha.run pos pins s σ H _ I h) fun us s1 ⟨vs, H1, I1, r, e1, e2, er, e3, k⟩ => ⟨I1.kIn, ?_⟩) he hpl
  subst e1 e2 e3
  have P1 := I1.pin (a, oe) (List.mem_append.mpr (.inl hp))
  have hl : us.length = 1 := r.length.symm
  have b := hb s1 us I1.kIn (by rw [List.append_nil]; exact hl)
  rw [List.append_nil] at b
  have hpin : L2H.PinOk X.stack H1 s1 (a, oe) := ⟨P1.1, P1.2.1, fun hm => (List.mem_cons.mp (I1.stkSub a hm)).elim P1.2.2.1 P1.2.2.2.1, P1.2.2.2.2⟩
  refine wpAny_call (codeAny_mono (F.run _ X.stack s1 H1 ⟨us, []⟩ us Q (a, oe) er hr hpin hz hf I1.env0 b r k) fun r' s' hq => ?_)
  cases r' with
  | error e => exact False.elim hq
  | ok fl =>
    cases fl with
    | ret u => exact I1.after hq
    | next => exact False.elim hq
    | brk => exact False.elim hq
    | cont => exact False.elim hq
end
/-! ### what may be compared -/
theorem sc_ii {a b : Int} : scal (.int a) (.int b) = true := rfl
theorem sc_ss {a b : Str} : scal (.str a) (.str b) = true := rfl
theorem sc_bb {a b : Bool} : scal (.bl a) (.bl b) = true := rfl
theorem sc_nn : scal .non .non = true := rfl
theorem sc_ni {a : Int} : scal .non (.int a) = true := rfl
theorem sc_in {a : Int} : scal (.int a) .non = true := rfl
theorem sc_sn {a : Str} : scal (.str a) .non = true := rfl
theorem sc_ns {a : Str} : scal .non (.str a) = true := rfl
theorem sc_bn {a : Bool} : scal (.bl a) .non = true := rfl
theorem sc_nb {a : Bool} : scal .non (.bl a) = true := rfl
theorem sc_is {a : Int} {b : Str} : scal (.int a) (.str b) = true := rfl
theorem sc_si {a : Int} {b : Str} : scal (.str b) (.int a) = true := rfl
theorem isi_int {K : Frag} {z : Int} {n : String} {b : Bool} {H : Hp} {Q : VK} (h : kitB "int" n = some b) (q : Q (.bl b) H) : rIsi K [.int z, .ty n] H Q := ⟨_, _, .type "int", .type n, b, rfl, .ty _, .base (.int _), kit_ty h, q⟩
theorem isi_bl {K : Frag} {z : Bool} {n : String} {b : Bool} {H : Hp} {Q : VK} (h : kitB "bool" n = some b) (q : Q (.bl b) H) : rIsi K [.bl z, .ty n] H Q := ⟨_, _, .type "bool", .type n, b, rfl, .ty _, .base (.bl _), kit_ty h, q⟩
theorem isi_str {K : Frag} {z : Str} {n : String} {b : Bool} {H : Hp} {Q : VK} (h : kitB "str" n = some b) (q : Q (.bl b) H) : rIsi K [.str z, .ty n] H Q := ⟨_, _, .type "str", .type n, b, rfl, .ty _, .base (.str _), kit_ty h, q⟩
theorem isi_tup {K : Frag} {a : Addr} {xs : List V} {n : String} {b : Bool} {H : Hp} {Q : VK} (e : H a = some (.tup xs)) (h : kitB "tuple" n = some b) (q : Q (.bl b) H) : rIsi K [.ref a, .ty n] H Q := ⟨_, _, .type "tuple", .type n, b, rfl, .ty _, .base (.tup e), kit_ty h, q⟩
theorem isi_lst {K : Frag} {a : Addr} {xs : List V} {n : String} {b : Bool} {H : Hp} {Q : VK} (e : H a = some (.lst xs)) (h : kitB "list" n = some b) (q : Q (.bl b) H) : rIsi K [.ref a, .ty n] H Q := ⟨_, _, .type "list", .type n, b, rfl, .ty _, .base (.lst e), kit_ty h, q⟩
theorem isi_non {K : Frag} {n : String} {b : Bool} {H : Hp} {Q : VK} (h : kitB "NoneType" n = some b) (q : Q (.bl b) H) : rIsi K [.non, .ty n] H Q := ⟨_, _, .type "NoneType", .type n, b, rfl, .ty _, .base .non, kit_ty h, q⟩
/-! ### in a comprehension's block, in an except suite: what is read is told by the outer K -/
theorem pe_bmK (K : Frag) {X : Cx} {T name id : String} {r : V → List V → Hp → VK → Prop} {o e : Expr} {es : List Expr} {to : TE} {t : TA} {apos cpos : Pos} (pa : PlainAttrs T) (slot : Slot T name id) (hty : typeOf (.builtin id) = pure (.type "method_descriptor")) (hm : MtR X id r) (ho : PE X o to) (ha : PA X (e :: es) t)
    (hbase : attributeBase o name X.env (eval o X.env) = eval o X.env := by rfl)
    (hfew : ((backTo cpos (starEach (e :: es) X.env)).all (fun x => !x.1) && (backToKw cpos (keywordEach [] X.env)).all (fun x => x.1.isSome)
      && decide ((e :: es).length + ([] : List Keyword).length + (if ([] : List Keyword).isEmpty then 0 else 1) < 30)) = true := by rfl)
    (hline : (apos.endLine == cpos.line) = true := by rfl) (hs : starEach (e :: es) X.env = (false, eval e X.env) :: starEach es X.env := by rfl) (hplain : (backTo cpos (starEach es X.env)).any (·.1) = false := by rfl) (h : X.K = K := by rfl) :
    PE X (.Call (.Attribute o name apos) (e :: es) [] cpos) (tBM K T r to t) := by subst h; exact pe_bm pa slot hty hm ho ha hbase hfew hline hs hplain
theorem ixl (K : Frag) {X : Cx} (h : X.K = K := by rfl) : IxR X (rIxL K) := by subst h; exact ix_list
theorem ixt (K : Frag) {X : Cx} (h : X.K = K := by rfl) : IxR X (rIxT K) := by subst h; exact ix_tup
theorem cdiv_1 {i : Int} : CDivW i 1 = True := eq_true ⟨by decide, by decide⟩
theorem cdiv_2 {i : Int} : CDivW i 2 = True := eq_true ⟨by decide, by decide⟩
theorem cdiv_3 {i : Int} : CDivW i 3 = True := eq_true ⟨by decide, by decide⟩
theorem cdiv_4 {i : Int} : CDivW i 4 = True := eq_true ⟨by decide, by decide⟩
theorem cdiv_5 {i : Int} : CDivW i 5 = True := eq_true ⟨by decide, by decide⟩
theorem cdiv_6 {i : Int} : CDivW i 6 = True := eq_true ⟨by decide, by decide⟩
theorem cdiv_7 {i : Int} : CDivW i 7 = True := eq_true ⟨by decide, by decide⟩
theorem cdiv_8 {i : Int} : CDivW i 8 = True := eq_true ⟨by decide, by decide⟩
theorem cdiv_9 {i : Int} : CDivW i 9 = True := eq_true ⟨by decide, by decide⟩
theorem cdiv_10 {i : Int} : CDivW i 10 = True := eq_true ⟨by decide, by decide⟩
theorem cdiv_11 {i : Int} : CDivW i 11 = True := eq_true ⟨by decide, by decide⟩
theorem cdiv_12 {i : Int} : CDivW i 12 = True := eq_true ⟨by decide, by decide⟩
theorem cdiv_13 {i : Int} : CDivW i 13 = True := eq_true ⟨by decide, by decide⟩
theorem cdiv_14 {i : Int} : CDivW i 14 = True := eq_true ⟨by decide, by decide⟩
theorem cdiv_16 {i : Int} : CDivW i 16 = True := eq_true ⟨by decide, by decide⟩
theorem cdiv_20 {i : Int} : CDivW i 20 = True := eq_true ⟨by decide, by decide⟩
theorem cdiv_30 {i : Int} : CDivW i 30 = True := eq_true ⟨by decide, by decide⟩
theorem cdiv_50 {i : Int} : CDivW i 50 = True := eq_true ⟨by decide, by decide⟩
theorem cdiv_60 {i : Int} : CDivW i 60 = True := eq_true ⟨by decide, by decide⟩
theorem cdiv_64 {i : Int} : CDivW i 64 = True := eq_true ⟨by decide, by decide⟩
theorem cdiv_100 {i : Int} : CDivW i 100 = True := eq_true ⟨by decide, by decide⟩
theorem cdiv_400 {i : Int} : CDivW i 400 = True := eq_true ⟨by decide, by decide⟩
theorem cdiv_1000 {i : Int} : CDivW i 1000 = True := eq_true ⟨by decide, by decide⟩
theorem cdiv_2000 {i : Int} : CDivW i 2000 = True := eq_true ⟨by decide, by decide⟩
theorem cdiv_10000 {i : Int} : CDivW i 10000 = True := eq_true ⟨by decide, by decide⟩
theorem cdiv_1000000 {i : Int} : CDivW i 1000000 = True := eq_true ⟨by decide, by decide⟩
theorem sz_0 : (0 ≤ sizeLine) = True := eq_true (by decide)
theorem szl_0 : (0 < sizeLine) = True := eq_true (by decide)
theorem sz_1 : (1 ≤ sizeLine) = True := eq_true (by decide)
theorem szl_1 : (1 < sizeLine) = True := eq_true (by decide)
theorem sz_2 : (2 ≤ sizeLine) = True := eq_true (by decide)
theorem szl_2 : (2 < sizeLine) = True := eq_true (by decide)
theorem sz_3 : (3 ≤ sizeLine) = True := eq_true (by decide)
theorem szl_3 : (3 < sizeLine) = True := eq_true (by decide)
theorem sz_4 : (4 ≤ sizeLine) = True := eq_true (by decide)
theorem szl_4 : (4 < sizeLine) = True := eq_true (by decide)
theorem sz_5 : (5 ≤ sizeLine) = True := eq_true (by decide)
theorem szl_5 : (5 < sizeLine) = True := eq_true (by decide)
theorem sz_6 : (6 ≤ sizeLine) = True := eq_true (by decide)
theorem szl_6 : (6 < sizeLine) = True := eq_true (by decide)
theorem sz_7 : (7 ≤ sizeLine) = True := eq_true (by decide)
theorem szl_7 : (7 < sizeLine) = True := eq_true (by decide)
theorem sz_8 : (8 ≤ sizeLine) = True := eq_true (by decide)
theorem szl_8 : (8 < sizeLine) = True := eq_true (by decide)
theorem sz_9 : (9 ≤ sizeLine) = True := eq_true (by decide)
theorem szl_9 : (9 < sizeLine) = True := eq_true (by decide)
theorem sz_10 : (10 ≤ sizeLine) = True := eq_true (by decide)
theorem szl_10 : (10 < sizeLine) = True := eq_true (by decide)
theorem sz_11 : (11 ≤ sizeLine) = True := eq_true (by decide)
theorem szl_11 : (11 < sizeLine) = True := eq_true (by decide)
theorem sz_12 : (12 ≤ sizeLine) = True := eq_true (by decide)
theorem szl_12 : (12 < sizeLine) = True := eq_true (by decide)
theorem sz_13 : (13 ≤ sizeLine) = True := eq_true (by decide)
theorem szl_13 : (13 < sizeLine) = True := eq_true (by decide)
theorem sz_14 : (14 ≤ sizeLine) = True := eq_true (by decide)
theorem szl_14 : (14 < sizeLine) = True := eq_true (by decide)
theorem sz_15 : (15 ≤ sizeLine) = True := eq_true (by decide)
theorem szl_15 : (15 < sizeLine) = True := eq_true (by decide)
theorem sz_16 : (16 ≤ sizeLine) = True := eq_true (by decide)
theorem szl_16 : (16 < sizeLine) = True := eq_true (by decide)
theorem sz_17 : (17 ≤ sizeLine) = True := eq_true (by decide)
theorem szl_17 : (17 < sizeLine) = True := eq_true (by decide)
theorem sz_18 : (18 ≤ sizeLine) = True := eq_true (by decide)
theorem szl_18 : (18 < sizeLine) = True := eq_true (by decide)
theorem sz_19 : (19 ≤ sizeLine) = True := eq_true (by decide)
theorem szl_19 : (19 < sizeLine) = True := eq_true (by decide)
theorem sz_20 : (20 ≤ sizeLine) = True := eq_true (by decide)
theorem szl_20 : (20 < sizeLine) = True := eq_true (by decide)
theorem sz_21 : (21 ≤ sizeLine) = True := eq_true (by decide)
theorem szl_21 : (21 < sizeLine) = True := eq_true (by decide)
theorem sz_22 : (22 ≤ sizeLine) = True := eq_true (by decide)
theorem szl_22 : (22 < sizeLine) = True := eq_true (by decide)
theorem sz_23 : (23 ≤ sizeLine) = True := eq_true (by decide)
theorem szl_23 : (23 < sizeLine) = True := eq_true (by decide)
theorem sz_24 : (24 ≤ sizeLine) = True := eq_true (by decide)
theorem szl_24 : (24 < sizeLine) = True := eq_true (by decide)
theorem sz_25 : (25 ≤ sizeLine) = True := eq_true (by decide)
theorem szl_25 : (25 < sizeLine) = True := eq_true (by decide)
theorem sz_26 : (26 ≤ sizeLine) = True := eq_true (by decide)
theorem szl_26 : (26 < sizeLine) = True := eq_true (by decide)
/-! ### small words -/
theorem ne_fresh {H : Hp} {p q : Addr} {o : HO} (h : upd H p o q = none) : q ≠ p := by
  intro e
  subst e
  rw [upd_same] at h
  cases h
theorem fresh_was {H : Hp} {p q : Addr} {o : HO} (h : upd H p o q = none) : H q = none := by
  have e := ne_fresh h
  rw [upd_ne e] at h
  exact h
theorem same_upd {H : Hp} {p : Addr} {o : HO} (h : H p = none) : Same H (upd H p o) := fun b u e => by
  rw [upd_ne (ne_of_none e h)]
  exact e
/-- behind a store to what was not there at first -/
theorem same_mut {H H' : Hp} {p : Addr} {o : HO} (h : H p = none) (k : Same H H') : Same H (upd H' p o) := fun b u e => by
  rw [upd_ne (ne_of_none e h)]
  exact k b u e
theorem same_fresh {H H' : Hp} {p : Addr} (k : Same H H') (h : H' p = none) : H p = none := k.free h
theorem same_tup {K : Frag} {H H' : Hp} {a : Addr} {xs : List V} (e : Same H H') (h : SqT K H a xs) : SqT K H' a xs := by
  rcases h with (h | ⟨o, h⟩) | h
  · exact .inl (.inl (e _ _ h))
  · exact .inl (.inr ⟨o, e _ _ h⟩)
  · exact .inr h
/-- a tuple stays where a list is written -/
theorem tup_keep {H : Hp} {r a : Addr} {xs ys zs : List V} (hr : H r = some (.tup ys)) (ha : H a = some (.lst xs)) : (upd H a (.lst zs)) r = some (.tup ys) := by
  rw [upd_ne (ne_of hr ha (by intro z; cases z))]
  exact hr
theorem bits64 {k : Int} (h1 : -(2 ^ 64) < k) (h2 : k < 2 ^ 64) : Builtin.Int.intBits k ≤ 64 := intBits_le_64 h1 h2
theorem bitsPow {k : Int} {n : Nat} (h0 : 0 < n) (h1 : -(2 ^ n) < k) (h2 : k < 2 ^ n) : Builtin.Int.intBits k ≤ n := by
  have z : k.natAbs < 2 ^ n := by
    have e : ((2 ^ n : Nat) : Int) = (2 : Int) ^ n := by simp
    omega
  unfold Builtin.Int.intBits
  split
  · omega
  · have := PySem.Flt.log2_lt_of h0 z
    omega
theorem bits_mono {i j : Int} (h : i.natAbs ≤ j.natAbs) : Builtin.Int.intBits i ≤ Builtin.Int.intBits j := by
  unfold Builtin.Int.intBits
  by_cases c : i = 0
  · rw [if_pos (beq_iff_eq.mpr c)]
    exact Nat.zero_le _
  · have hj : ¬ j = 0 := by omega
    rw [if_neg (fun z => hj (beq_iff_eq.mp z)), if_neg (fun z => c (beq_iff_eq.mp z))]
    have hi : i.natAbs ≠ 0 := by omega
    have hj' : j.natAbs ≠ 0 := by omega
    have z : i.natAbs.log2 ≤ j.natAbs.log2 := (Nat.le_log2 hj').mpr (Nat.le_trans (Nat.log2_self_le hi) h)
    omega
theorem mulX {i j : Int} {a b : Nat} (h1 : Builtin.Int.intBits i ≤ a) (h2 : Builtin.Int.intBits j ≤ b) (h : a + b ≤ 134217728 := by decide) : CMulX i j := by
  unfold CMulX
  omega
theorem ix_num {K : Frag} {a : Addr} {ns : List Int} {k : Int} {H : Hp} {Q : VK} (hS : SqL K H a (ns.map V.int)) (h : 0 ≤ k ∧ k < (ns.length : Int)) (q : Q (.int (ns.getD k.toNat 0)) H) : rIxL K (.ref a) (.int k) H Q := by
  refine ⟨a, _, k, _, rfl, rfl, hS, ?_, q⟩
  have e : (ns.map V.int)[k.toNat]? = some (V.int (ns.getD k.toNat 0)) := by
    rw [List.getElem?_map, List.getD_eq_getElem?_getD]
    have z : k.toNat < ns.length := by omega
    rw [List.getElem?_eq_getElem z]
    rfl
  exact at_of (j := k.toNat) (by omega) e
theorem ix_at {K : Frag} {a : Addr} {xs : List V} {k : Int} {v : V} {H : Hp} {Q : VK} (hS : SqL K H a xs) (h : 0 ≤ k) (e : xs[k.toNat]? = some v) (q : Q v H) : rIxL K (.ref a) (.int k) H Q :=
  ⟨a, xs, k, v, rfl, rfl, hS, at_of (j := k.toNat) (by omega) e, q⟩
/-- what is known of a number that a law draws -/
theorem num_in {ns : List Int} (hn : ∀ z ∈ ns, 0 ≤ z ∧ z < 10000000000000) (k : Nat) : 0 ≤ ns.getD k 0 ∧ ns.getD k 0 < 10000000000000 := by
  rw [List.getD_eq_getElem?_getD]
  cases e : ns[k]? with
  | none => exact ⟨by decide, by decide⟩
  | some z => exact hn z (List.mem_of_getElem? e)
theorem ix_sign {z : Str} {k : Int} {H : Hp} {Q : VK} (hz : z.length ≤ sizeLine) (h : 0 ≤ k ∧ k < (z.length : Int)) (q : ∀ c, z.cps.toList[k.toNat]? = some c → Q (.str ⟨#[c]⟩) H) : rIxS (.str z) (.int k) H Q := by
  have hl : k.toNat < z.cps.toList.length := by
    rw [Array.length_toList]
    show k.toNat < z.length
    omega
  have e : z.cps.toList[k.toNat]? = some z.cps.toList[k.toNat] := List.getElem?_eq_getElem hl
  refine ⟨z, k, _, rfl, rfl, hz, ?_, q _ e⟩
  unfold atI
  rw [show ixN z.cps.toList.length k = some k.toNat by unfold ixN; rw [if_pos h.1, if_pos (by omega)]]
  exact e
theorem ix_signc {z : Str} {k : Int} {c : Nat} {H : Hp} {Q : VK} (hz : z.length ≤ sizeLine) (h : 0 ≤ k) (e : z.cps.toList[k.toNat]? = some c) (q : Q (.str ⟨#[c]⟩) H) : rIxS (.str z) (.int k) H Q := by
  have hl : k.toNat < z.cps.toList.length := (List.getElem?_eq_some_iff.mp e).1
  refine ⟨z, k, c, rfl, rfl, hz, ?_, q⟩
  unfold atI
  rw [show ixN z.cps.toList.length k = some k.toNat by unfold ixN; rw [if_pos h, if_pos (by omega)]]
  exact e
theorem len_one (c : Nat) : (⟨#[c]⟩ : Str).length = 1 := rfl
theorem ref_num {ns : List Int} {i : Nat} {x : V} (h : (ns.map V.int)[i]? = some x) : ∃ z, ns[i]? = some z ∧ x = .int z := by
  rw [List.getElem?_map] at h
  cases e : ns[i]? with
  | none => rw [e] at h; cases h
  | some z => rw [e] at h; exact ⟨z, rfl, (Option.some.inj h).symm⟩
/-! ### one statement at a time -/
theorem seq_step {t u : TS} {D : Ends} {σ : L2.St} {H : Hp} (h : ∀ U : Ends → L2.St → Hp → Prop, U = u → t { D with nx := U D } σ H) : tSeq t u D σ H := h u rfl
theorem gseq_step {t u : TS} {D : Ends} {i : Nat} {x : V} {σ : L2.St} {H : Hp} (h : ∀ U : Ends → L2.St → Hp → Prop, U = u → t { D with nx := U D } (σ.set i (some x)) H) : gName i x σ H fun σ2 H2 => tSeq t u D σ2 H2 := h u rfl
/-- .. what stands between the two told -/
theorem seq_cut {t u : TS} {D : Ends} {σ : L2.St} {H : Hp} (M : L2.St → Hp → Prop) (h1 : ∀ U : L2.St → Hp → Prop, (∀ σ' H', M σ' H' → U σ' H') → t { D with nx := U } σ H) (h2 : ∀ σ' H', M σ' H' → u D σ' H') : tSeq t u D σ H := h1 (u D) h2
/-! ### a tuple taken apart -/
theorem gtup2 {K : Frag} {p : Addr} {x y : V} {g1 g2 : TG} {σ : L2.St} {H : Hp} {k : L2.St → Hp → Prop} (h : SqT K H p [x, y]) (q : g1 x σ H fun σ1 H1 => g2 y σ1 H1 k) (mono : ∀ v σ H, (∀ Q Q' : L2.St → Hp → Prop, (∀ a b, Q a b → Q' a b) → g1 v σ H Q → g1 v σ H Q') ∧ (∀ Q Q' : L2.St → Hp → Prop, (∀ a b, Q a b → Q' a b) → g2 v σ H Q → g2 v σ H Q')) : gTup K 2 (gCons g1 (gCons g2 gNil)) (.ref p) σ H k :=
  ⟨p, _, rfl, h, rfl, x, [y], rfl, (mono _ _ _).1 _ _ (fun σ1 H1 q1 => ⟨y, [], rfl, (mono _ _ _).2 _ _ (fun _ _ q2 => ⟨rfl, q2⟩) q1⟩) q⟩
theorem gtupN2 {K : Frag} {p : Addr} {x y : V} {i j : Nat} {σ : L2.St} {H : Hp} {k : L2.St → Hp → Prop} (h : SqT K H p [x, y]) (q : k ((σ.set i (some x)).set j (some y)) H) : gTup K 2 (gCons (gName i) (gCons (gName j) gNil)) (.ref p) σ H k :=
  ⟨p, _, rfl, h, rfl, x, [y], rfl, y, [], rfl, rfl, q⟩
theorem gtupN3 {K : Frag} {p : Addr} {x y z : V} {i j l : Nat} {σ : L2.St} {H : Hp} {k : L2.St → Hp → Prop} (h : SqT K H p [x, y, z]) (q : k (((σ.set i (some x)).set j (some y)).set l (some z)) H) : gTup K 3 (gCons (gName i) (gCons (gName j) (gCons (gName l) gNil))) (.ref p) σ H k :=
  ⟨p, _, rfl, h, rfl, x, [y, z], rfl, y, [z], rfl, z, [], rfl, rfl, q⟩
/-! ### lists of texts, lists of ints compared -/
theorem dp_strs {K : Frag} {H : Hp} : ∀ xs : List Str, DpAll K H (xs.map V.str) (xs.map PyData.str)
  | [] => .nil
  | x :: r => .cons (.str x) (dp_strs r)
theorem dp_ints {K : Frag} {H : Hp} : ∀ xs : List Int, DpAll K H (xs.map V.int) (xs.map PyData.int)
  | [] => .nil
  | x :: r => .cons (.int x) (dp_ints r)
theorem eqv_strs : ∀ xs ys : List Str, PyData.eqvAll (xs.map PyData.str) (ys.map PyData.str) = decide (xs = ys)
  | [], [] => by simp [PyData.eqvAll]
  | [], y :: ys => by simp [PyData.eqvAll]
  | x :: xs, [] => by simp [PyData.eqvAll]
  | x :: xs, y :: ys => by
    have ih := eqv_strs xs ys
    simp only [List.map_cons, PyData.eqvAll, PyData.eqv, ih, List.cons.injEq]
    by_cases e : x = y <;> simp [e]
theorem eqv_ints : ∀ xs ys : List Int, PyData.eqvAll (xs.map PyData.int) (ys.map PyData.int) = decide (xs = ys)
  | [], [] => by simp [PyData.eqvAll]
  | [], y :: ys => by simp [PyData.eqvAll]
  | x :: xs, [] => by simp [PyData.eqvAll]
  | x :: xs, y :: ys => by
    have ih := eqv_ints xs ys
    simp only [List.map_cons, PyData.eqvAll, PyData.eqv, ih, List.cons.injEq]
    by_cases e : x = y <;> simp [e]
theorem lay_strs : ∀ xs : List Str, xs.all PyData.strOk = true → PyData.canLayAll0 (xs.map PyData.str) = true
  | [], _ => rfl
  | x :: r, h => by
    rw [List.all_cons, Bool.and_eq_true] at h
    simp only [List.map_cons, PyData.canLayAll0, PyData.canLay0, h.1, lay_strs r h.2, Bool.and_self]
theorem lay_ints : ∀ xs : List Int, PyData.canLayAll0 (xs.map PyData.int) = true
  | [] => rfl
  | x :: r => by simp only [List.map_cons, PyData.canLayAll0, PyData.canLay0, lay_ints r, Bool.and_self]
theorem flat_strs : ∀ xs : List Str, PyData.depthAll (xs.map PyData.str) = 0
  | [] => rfl
  | x :: r => by simp only [List.map_cons, PyData.depthAll, PyData.depth, flat_strs r, Nat.max_self]
theorem flat_ints : ∀ xs : List Int, PyData.depthAll (xs.map PyData.int) = 0
  | [] => rfl
  | x :: r => by simp only [List.map_cons, PyData.depthAll, PyData.depth, flat_ints r, Nat.max_self]
theorem shaped_strs {xs : List Str} (h : xs.all PyData.strOk = true) : SeqAt.shaped (.list (xs.map PyData.str)) = true := by
  unfold SeqAt.shaped
  simp only [PyData.canLay0, lay_strs xs h, PyData.depth, flat_strs, Bool.true_and]
  decide
theorem shaped_ints {xs : List Int} : SeqAt.shaped (.list (xs.map PyData.int)) = true := by
  unfold SeqAt.shaped
  simp only [PyData.canLay0, lay_ints xs, PyData.depth, flat_ints, Bool.true_and]
  decide
theorem ne_strs {K : Frag} {H : Hp} {p q : Addr} {xs ys : List Str} {Q : VK} (hp : SqL K H p (xs.map V.str)) (hq : SqL K H q (ys.map V.str)) (ox : xs.all PyData.strOk = true) (oy : ys.all PyData.strOk = true) (k : Q (.bl (!decide (xs = ys))) H) : rNeD K (.ref p) (.ref q) H Q :=
  ⟨_, _, .lst hp (dp_strs xs), .lst hq (dp_strs ys), shaped_strs ox, shaped_strs oy, by simp only [PyData.eqv, eqv_strs]; exact k⟩
theorem eq_strs {K : Frag} {H : Hp} {p q : Addr} {xs ys : List Str} {Q : VK} (hp : SqL K H p (xs.map V.str)) (hq : SqL K H q (ys.map V.str)) (ox : xs.all PyData.strOk = true) (oy : ys.all PyData.strOk = true) (k : Q (.bl (decide (xs = ys))) H) : rEqD K (.ref p) (.ref q) H Q :=
  ⟨_, _, .lst hp (dp_strs xs), .lst hq (dp_strs ys), shaped_strs ox, shaped_strs oy, by simp only [PyData.eqv, eqv_strs]; exact k⟩
theorem ne_ints {K : Frag} {H : Hp} {p q : Addr} {xs ys : List Int} {Q : VK} (hp : SqL K H p (xs.map V.int)) (hq : SqL K H q (ys.map V.int)) (k : Q (.bl (!decide (xs = ys))) H) : rNeD K (.ref p) (.ref q) H Q :=
  ⟨_, _, .lst hp (dp_ints xs), .lst hq (dp_ints ys), shaped_ints, shaped_ints, by simp only [PyData.eqv, eqv_ints]; exact k⟩
theorem eq_ints {K : Frag} {H : Hp} {p q : Addr} {xs ys : List Int} {Q : VK} (hp : SqL K H p (xs.map V.int)) (hq : SqL K H q (ys.map V.int)) (k : Q (.bl (decide (xs = ys))) H) : rEqD K (.ref p) (.ref q) H Q :=
  ⟨_, _, .lst hp (dp_ints xs), .lst hq (dp_ints ys), shaped_ints, shaped_ints, by simp only [PyData.eqv, eqv_ints]; exact k⟩
/-- kinds as a law compares them -/
theorem ne_kind {K : Frag} {H : Hp} {p q : Addr} {x : Str} {Q : VK} (hp : H p = some (.lst [.str x])) (hq : H q = some (.lst [.str x])) (ox : PyData.strOk x = true) (k : Q (.bl false) H) : rNeD K (.ref p) (.ref q) H Q :=
  ne_strs (xs := [x]) (ys := [x]) (SqL.of hp) (SqL.of hq) (by simp [ox]) (by simp [ox]) (by simpa using k)
theorem shaped_of {d : PyData} (h1 : PyData.canLay0 d = true) (h2 : d.depth ≤ 64) : SeqAt.shaped d = true := by
  unfold SeqAt.shaped
  rw [h1, Bool.true_and]
  exact decide_eq_true h2
/-- two that say the same -/
theorem ne_same {K : Frag} {H : Hp} {x y : V} {d : PyData} {Q : VK} (hx : Dp K H x d) (hy : Dp K H y d) (hs : SeqAt.shaped d = true) (he : PyData.eqv d d = true) (k : Q (.bl false) H) : rNeD K x y H Q :=
  ⟨d, d, hx, hy, hs, hs, by rw [he]; exact k⟩
theorem eq_same {K : Frag} {H : Hp} {x y : V} {d : PyData} {Q : VK} (hx : Dp K H x d) (hy : Dp K H y d) (hs : SeqAt.shaped d = true) (he : PyData.eqv d d = true) (k : Q (.bl true) H) : rEqD K x y H Q :=
  ⟨d, d, hx, hy, hs, hs, by rw [he]; exact k⟩
theorem dp_3 {K : Frag} {H : Hp} {t : Addr} {a b c : Int} (ht : SqT K H t [.int a, .int b, .int c]) : Dp K H (.ref t) (.tuple [.int a, .int b, .int c]) :=
  .tup ht (.cons (.int _) (.cons (.int _) (.cons (.int _) .nil)))
theorem dp_pair {K : Frag} {H : Hp} {t l : Addr} {x y : V} {d e : PyData} (ht : SqT K H t [x, .ref l]) (hx : Dp K H x d) (hl : SqL K H l [y]) (hy : Dp K H y e) : Dp K H (.ref t) (.tuple [d, .list [e]]) :=
  .tup ht (.cons hx (.cons (.lst hl (.cons hy .nil)) .nil))
/-! ### loops -/
theorem tfor_range1 {ta : TA} {g : TG} {tb : TS} {D : Ends} {σ : L2.St} {H : Hp} {n : Int} (ha : ∀ Q : List V → Hp → Prop, Q [.int n] H → ta σ H Q) (hn : -1000000 ≤ n ∧ n ≤ 1000000) (Pv : Nat → L2.St → Hp → Prop) (h0 : Pv 0 σ H)
    (hs : ∀ (i : Nat) σ' H', (i : Int) < n → Pv i σ' H' → g (.int (i : Int)) σ' H' fun σ2 H2 => tb { D with nx := Pv (i + 1), ct := Pv (i + 1), bk := D.nx } σ2 H2) (hd : ∀ σ' H', Pv n.toNat σ' H' → D.nx σ' H') : tFor (iRng1 ta) g tb D σ H :=
  ha _ ⟨n, rfl, by omega, by omega, for_range (lo := 0) (n := n.toNat) Pv h0 (fun i σ' H' hi p => by
    rw [Int.zero_add]
    exact hs i σ' H' (by omega) p) hd⟩
theorem tfor_range2 {ta : TA} {g : TG} {tb : TS} {D : Ends} {σ : L2.St} {H : Hp} {lo hi : Int} (ha : ∀ Q : List V → Hp → Prop, Q [.int lo, .int hi] H → ta σ H Q) (hn : -1000000 ≤ lo ∧ lo ≤ 1000000 ∧ -1000000 ≤ hi ∧ hi ≤ 1000000) (Pv : Nat → L2.St → Hp → Prop) (h0 : Pv 0 σ H)
    (hs : ∀ (i : Nat) σ' H', lo + (i : Int) < hi → Pv i σ' H' → g (.int (lo + (i : Int))) σ' H' fun σ2 H2 => tb { D with nx := Pv (i + 1), ct := Pv (i + 1), bk := D.nx } σ2 H2) (hd : ∀ σ' H', Pv (hi - lo).toNat σ' H' → D.nx σ' H') : tFor (iRng2 ta) g tb D σ H :=
  ha _ ⟨lo, hi, rfl, ⟨by omega, by omega, by omega, by omega⟩, for_range (lo := lo) (n := (hi - lo).toNat) Pv h0 (fun i σ' H' hi p => hs i σ' H' (by omega) p) hd⟩
theorem tfor_lvar {K : Frag} {j : Nat} {a : Addr} {xs : List V} {g : TG} {tb : TS} {D : Ends} {σ : L2.St} {H : Hp} (hj : σ[j]? = some (some (.ref a))) (hS : SqL K H a xs) (Pv : Nat → L2.St → Hp → Prop) (h0 : Pv 0 σ H) (hl : ∀ i σ' H', i ≤ xs.length → Pv i σ' H' → SqL K H' a xs)
    (hs : ∀ i x σ' H', xs[i]? = some x → Pv i σ' H' → g x σ' H' fun σ2 H2 => tb { D with nx := Pv (i + 1), ct := Pv (i + 1), bk := D.nx } σ2 H2) (hd : ∀ σ' H', Pv xs.length σ' H' → D.nx σ' H') : tFor (iList K (tVar j)) g tb D σ H :=
  ⟨_, hj, a, rfl, ⟨xs, hS⟩, for_list (xs := xs) Pv h0 hl hs hd⟩
theorem tfor_five {K : Frag} {j : Nat} {n : Int} {a : Addr} {xs : List V} {g : TG} {tb : TS} {D : Ends} {σ : L2.St} {H : Hp} (hj : σ[j]? = some (some (.ref a))) (hS : SqL K H a xs) (hz : xs.length ≤ 100000)
    (h : ∀ b H1, Same H H1 → H1 b = some (.lst (.int n :: xs)) → H b = none → ∃ Pv : Nat → L2.St → Hp → Prop, Pv 0 σ H1 ∧ (∀ i σ' H', i ≤ (V.int n :: xs).length → Pv i σ' H' → SqL K H' b (.int n :: xs)) ∧
    (∀ i x σ' H', (V.int n :: xs)[i]? = some x → Pv i σ' H' → g x σ' H' fun σ2 H2 => tb { D with nx := Pv (i + 1), ct := Pv (i + 1), bk := D.nx } σ2 H2) ∧ (∀ σ' H', Pv (V.int n :: xs).length σ' H' → D.nx σ' H')) :
    tFor (iList K (tOp (rCatS K) (tLst (tCons (tC (.int n)) tNil)) (tVar j))) g tb D σ H := by
  refine ⟨by show 1 ≤ sizeLine; decide, fun p hp => ⟨_, hj, p, a, [.int n], xs, rfl, rfl, SqL.of upd_same, (same_upd hp).seq hS, ?_, fun b hb => ?_⟩⟩
  · show 1 + xs.length ≤ sizeLine
    exact Nat.le_trans (show 1 + xs.length ≤ 100001 by omega) (by decide)
  · have s2 : Same H (upd (upd H p (.lst [.int n])) b (.lst ([.int n] ++ xs))) := (same_upd hp).trans (same_upd hb)
    obtain ⟨Pv, h0, hl, hs, hd⟩ := h b _ s2 upd_same (fresh_was hb)
    exact ⟨b, rfl, ⟨_, SqL.of upd_same⟩, for_list (xs := V.int n :: xs) Pv h0 hl hs hd⟩
theorem tfor_list {K : Frag} {tl : TE} {g : TG} {tb : TS} {D : Ends} {σ : L2.St} {H : Hp}
    (h : tl σ H fun x H1 => ∃ a xs, x = .ref a ∧ SqL K H1 a xs ∧ ∃ Pv : Nat → L2.St → Hp → Prop, Pv 0 σ H1 ∧ (∀ i σ' H', i ≤ xs.length → Pv i σ' H' → SqL K H' a xs) ∧
      (∀ i x σ' H', xs[i]? = some x → Pv i σ' H' → g x σ' H' fun σ2 H2 => tb { D with nx := Pv (i + 1), ct := Pv (i + 1), bk := D.nx } σ2 H2) ∧ ∀ σ' H', Pv xs.length σ' H' → D.nx σ' H')
    (mono : ∀ Q Q' : VK, (∀ v H', Q v H' → Q' v H') → tl σ H Q → tl σ H Q') : tFor (iList K tl) g tb D σ H :=
  mono _ _ (fun v H' ⟨a, xs, e, hS, Pv, h0, hl, hs, hd⟩ => ⟨a, e, ⟨xs, hS⟩, for_list (xs := xs) Pv h0 hl hs hd⟩) h
theorem tfor_disp {K : Frag} {ta : TA} (vs : List V) {g : TG} {tb : TS} {D : Ends} {σ : L2.St} {H : Hp} (hz : vs.length ≤ 1000) (ha : ∀ Q : List V → Hp → Prop, (∀ H1, Same H H1 → Q vs H1) → ta σ H Q)
    (h : ∀ b H1, Same H H1 → H1 b = some (.lst vs) → H b = none → ∃ Pv : Nat → L2.St → Hp → Prop, Pv 0 σ H1 ∧ (∀ i σ' H', Pv i σ' H' → SqL K H' b vs) ∧
    (∀ i x σ' H', vs[i]? = some x → Pv i σ' H' → g x σ' H' fun σ2 H2 => tb { D with nx := Pv (i + 1), ct := Pv (i + 1), bk := D.nx } σ2 H2) ∧ (∀ σ' H', Pv vs.length σ' H' → D.nx σ' H')) :
    tFor (iList K (tLst ta)) g tb D σ H :=
  ha _ fun H1 s1 => ⟨Nat.le_trans hz (by decide), fun p hp => by
    obtain ⟨Pv, h0, hl, hs, hd⟩ := h p _ (s1.trans (same_upd hp)) upd_same (s1.free hp)
    exact ⟨p, rfl, ⟨_, SqL.of upd_same⟩, for_list (xs := vs) Pv h0 (fun i σ' H' _ => hl i σ' H') hs hd⟩⟩
/-! ### any walk -/
def ForGoal (J : It) (g : TG) (tb : TS) (D : Ends) (σ : L2.St) (H : Hp) : Prop :=
  ∃ W : Nat → Nat → L2.St → Hp → Prop, (∃ m, W 0 m σ H) ∧ ∀ i m σ H, W i m σ H →
      (J.stop i H ∧ D.nx σ H) ∨ (J.go i H ∧ ∃ N : L2.St → Hp → Prop, (∀ σ' H', N σ' H' → ∃ m', m' < m ∧ W (i + 1) m' σ' H') ∧ ∀ x H', J.yld i H x H' → g x σ H' fun σ2 H2 => tb { D with nx := N, ct := N, bk := D.nx } σ2 H2)
theorem tFor_eq {wi : TI} {g : TG} {tb : TS} {D : Ends} {σ : L2.St} {H : Hp} : tFor wi g tb D σ H = wi σ H fun J H1 => ForGoal J g tb D σ H1 := rfl
theorem for_go {J : It} {n : Nat} {G : Hp → Prop} {Y : Nat → Hp → V → Hp → Prop} (w : Walk J n G Y) {g : TG} {tb : TS} {D : Ends} {σ : L2.St} {H : Hp} (Pv : Nat → L2.St → Hp → Prop) (h0 : Pv 0 σ H) (hG : ∀ i σ H, i ≤ n → Pv i σ H → G H)
    (hs : ∀ i x σ H H', i < n → Pv i σ H → Y i H x H' → g x σ H' fun σ2 H2 => tb { D with nx := Pv (i + 1), ct := Pv (i + 1), bk := D.nx } σ2 H2) (hd : ∀ σ H, Pv n σ H → D.nx σ H) : ForGoal J g tb D σ H := for_it w Pv h0 hG hs hd
theorem for_rng {lo : Int} {n : Nat} {g : TG} {tb : TS} {D : Ends} {σ : L2.St} {H : Hp} (Pv : Nat → L2.St → Hp → Prop) (h0 : Pv 0 σ H)
    (hs : ∀ (i : Nat) σ H, i < n → Pv i σ H → g (.int (lo + (i : Int))) σ H fun σ2 H2 => tb { D with nx := Pv (i + 1), ct := Pv (i + 1), bk := D.nx } σ2 H2) (hd : ∀ σ H, Pv n σ H → D.nx σ H) : ForGoal (Itr lo n) g tb D σ H := for_range Pv h0 hs hd
theorem for_rng0 {n : Nat} {g : TG} {tb : TS} {D : Ends} {σ : L2.St} {H : Hp} (Pv : Nat → L2.St → Hp → Prop) (h0 : Pv 0 σ H)
    (hs : ∀ (i : Nat) σ H, i < n → Pv i σ H → g (.int (i : Int)) σ H fun σ2 H2 => tb { D with nx := Pv (i + 1), ct := Pv (i + 1), bk := D.nx } σ2 H2) (hd : ∀ σ H, Pv n σ H → D.nx σ H) : ForGoal (Itr 0 n) g tb D σ H :=
  for_range Pv h0 (fun i σ H hi p => by rw [Int.zero_add]; exact hs i σ H hi p) hd
theorem for_lst {K : Frag} {a : Addr} (xs : List V) {g : TG} {tb : TS} {D : Ends} {σ : L2.St} {H : Hp} (Pv : Nat → L2.St → Hp → Prop) (h0 : Pv 0 σ H) (hl : ∀ i σ H, Pv i σ H → SqL K H a xs)
    (hs : ∀ (i : Nat) x σ H, xs[i]? = some x → Pv i σ H → g x σ H fun σ2 H2 => tb { D with nx := Pv (i + 1), ct := Pv (i + 1), bk := D.nx } σ2 H2) (hd : ∀ σ H, Pv xs.length σ H → D.nx σ H) : ForGoal (Itl K a) g tb D σ H :=
  for_list Pv h0 (fun i σ H _ p => hl i σ H p) hs hd
theorem for_zp {K : Frag} {a b : Addr} (xs ys : List V) (n : Nat) (hn : n = min xs.length ys.length) {g : TG} {tb : TS} {D : Ends} {σ : L2.St} {H : Hp} (Pv : Nat → L2.St → Hp → Prop) (h0 : Pv 0 σ H) (hG : ∀ i σ H, Pv i σ H → SqL K H a xs ∧ SqL K H b ys)
    (hs : ∀ (i : Nat) x y (T : Addr) σ H, i < n → xs[i]? = some x → ys[i]? = some y → Pv i σ H → H T = none → g (.ref T) σ (upd H T (.tup [x, y])) fun σ2 H2 => tb { D with nx := Pv (i + 1), ct := Pv (i + 1), bk := D.nx } σ2 H2) (hd : ∀ σ H, Pv n σ H → D.nx σ H) : ForGoal (Itz K a b) g tb D σ H :=
  for_go (walk_zip hn) Pv h0 (fun i σ H _ p => hG i σ H p) (fun i v σ H H' hi p y => by obtain ⟨T, x, y, rfl, hT, rfl, hx, hy⟩ := y; exact hs i x y T σ H hi hx hy p hT) hd
theorem for_en {K : Frag} {a : Addr} (xs : List V) {g : TG} {tb : TS} {D : Ends} {σ : L2.St} {H : Hp} (Pv : Nat → L2.St → Hp → Prop) (h0 : Pv 0 σ H) (hG : ∀ i σ H, Pv i σ H → SqL K H a xs)
    (hs : ∀ (i : Nat) x (T : Addr) σ H, xs[i]? = some x → Pv i σ H → H T = none → g (.ref T) σ (upd H T (.tup [.int (i : Int), x])) fun σ2 H2 => tb { D with nx := Pv (i + 1), ct := Pv (i + 1), bk := D.nx } σ2 H2) (hd : ∀ σ H, Pv xs.length σ H → D.nx σ H) : ForGoal (Ite K a) g tb D σ H :=
  for_go walk_enum Pv h0 (fun i σ H _ p => hG i σ H p) (fun i v σ H H' hi p y => by obtain ⟨T, x, y, rfl, hT, rfl, hx, hy⟩ := y; cases hx; exact hs i y T σ H hy p hT) hd
/-- the law's own loop, over [n] + script -/
theorem for_cells {K : Frag} {H0 : Hp} {n : Int} {b : Addr} {ns : List Int} {g : TG} {tb : TS} {D : Ends} {σ : L2.St} (hb : H0 b = some (.lst (.int n :: ns.map V.int))) (hn : Builtin.Int.intBits n ≤ 64) (hz : ∀ z ∈ ns, Builtin.Int.intBits z ≤ 1048576) (J : L2.St → Hp → Prop) (h0 : J σ H0) (hl : ∀ σ H, J σ H → Same H0 H)
    (hs : ∀ z σ H, Builtin.Int.intBits z ≤ 1048576 → J σ H → g (.int z) σ H fun σ2 H2 => tb { D with nx := J, ct := J, bk := D.nx } σ2 H2) (hd : ∀ σ H, J σ H → D.nx σ H) : ForGoal (Itl K b) g tb D σ H0 := by
  refine for_lst (.int n :: ns.map V.int) (fun _ => J) h0 (fun _ σ H j => SqL.of (hl σ H j _ _ hb)) (fun i x σ H e j => ?_) hd
  cases i with
  | zero => cases e; exact hs n σ H (Nat.le_trans hn (by decide)) j
  | succ i =>
    obtain ⟨z, e1, rfl⟩ := ref_num (ns := ns) (i := i) e
    exact hs z σ H (hz z (List.mem_of_getElem? e1)) j
theorem tfor_cells {K : Frag} {j : Nat} {n : Int} {a : Addr} {ns : List Int} {g : TG} {tb : TS} {D : Ends} {σ : L2.St} {H0 : Hp} (hj : σ[j]? = some (some (.ref a))) (hS : SqL K H0 a (ns.map V.int)) (hz : ns.length ≤ 63)
    (h : ∀ b H1, Same H0 H1 → H1 b = some (.lst (.int n :: ns.map V.int)) → ForGoal (Itl K b) g tb D σ H1) :
    tFor (iList K (tOp (rCatS K) (tLst (tCons (tC (.int n)) tNil)) (tVar j))) g tb D σ H0 := by
  refine ⟨by show 1 ≤ sizeLine; decide, fun p hp => ⟨_, hj, p, a, [.int n], ns.map V.int, rfl, rfl, SqL.of upd_same, (same_upd hp).seq hS, ?_, fun b hb => ⟨b, rfl, ⟨_, SqL.of upd_same⟩, h b _ ((same_upd hp).trans (same_upd hb)) upd_same⟩⟩⟩
  rw [List.length_map]
  exact Nat.le_trans (show 1 + ns.length ≤ 100 by omega) (by decide)
theorem for_tp {K : Frag} {a : Addr} (xs : List V) {g : TG} {tb : TS} {D : Ends} {σ : L2.St} {H : Hp} (Pv : Nat → L2.St → Hp → Prop) (h0 : Pv 0 σ H) (hl : ∀ i σ H, Pv i σ H → SqT K H a xs)
    (hs : ∀ (i : Nat) x σ H, xs[i]? = some x → Pv i σ H → g x σ H fun σ2 H2 => tb { D with nx := Pv (i + 1), ct := Pv (i + 1), bk := D.nx } σ2 H2) (hd : ∀ σ H, Pv xs.length σ H → D.nx σ H) : ForGoal (Itt K a) g tb D σ H :=
  for_tup Pv h0 (fun i σ H _ p => hl i σ H p) hs hd
theorem while_cps {c : TT} {tb : TS} {D : Ends} {σ : L2.St} {H : Hp} (Pv : L2.St → Hp → Prop) (μ : L2.St → Hp → Nat) (h0 : Pv σ H)
    (hs : ∀ σ' H', Pv σ' H' → ∀ U : Bool → Hp → Prop, (∀ H1, tb { D with nx := fun σ2 H2 => Pv σ2 H2 ∧ μ σ2 H2 < μ σ' H', ct := fun σ2 H2 => Pv σ2 H2 ∧ μ σ2 H2 < μ σ' H', bk := D.nx } σ' H1 → U true H1) → (∀ H1, D.nx σ' H1 → U false H1) → c σ' H' U) : tWhile c tb D σ H := by
  refine ⟨fun m σ H => m = μ σ H ∧ Pv σ H, ⟨_, rfl, h0⟩, ?_⟩
  rintro m σ H ⟨rfl, p⟩
  refine hs σ H p _ (fun H1 h => ?_) (fun H1 h => ?_)
  · show if true = true then _ else _
    rw [if_pos rfl]
    exact ⟨_, fun σ' H' ⟨p', l⟩ => ⟨_, l, rfl, p'⟩, h⟩
  · show if false = true then _ else _
    rw [if_neg (by decide)]
    exact h
def LcGoal (J : It) (g : TG) (tt : TT) (te : TE) (vs : List Nat) (σ : L2.St) (H1 : Hp) (Q : VK) : Prop := ∀ D, H1 D = none → ∃ W : Nat → Nat → Hp → Prop, (∃ m, W 0 m (upd H1 D (.lst []))) ∧ ∀ i m H, W i m H →
  (J.stop i H ∧ Q (.ref D) H) ∨ (J.go i H ∧ ∃ Nx : Hp → Prop, (∀ H', Nx H' → ∃ m', m' < m ∧ W (i + 1) m' H') ∧ ∀ x H', J.yld i H x H' → g x (wipe σ vs) H' fun σ2 H2 => wipe σ2 vs = wipe σ vs ∧ tt σ2 H2 fun b H3 =>
    if b = true then te σ2 H3 fun y H4 => ∃ acc, H4 D = some (.lst acc) ∧ acc.length < sizeLine ∧ Nx (upd H4 D (.lst (acc ++ [y]))) else Nx H3)
theorem tLc_eq {wi : TI} {g : TG} {tt : TT} {te : TE} {vs : List Nat} {σ : L2.St} {H : Hp} {Q : VK} : tLc wi g tt te vs σ H Q = wi σ H fun J H1 => LcGoal J g tt te vs σ H1 Q := rfl
/-- a comprehension without a test; what is told of the i-th item is told in a heap that only grows -/
theorem lc_go {J : It} {n : Nat} {G : Hp → Prop} {Y : Nat → Hp → V → Hp → Prop} (w : Walk J n G Y) {g : TG} {te : TE} {vs : List Nat} {σ : L2.St} {H1 : Hp} {Q : VK} (R : Nat → V → Hp → Prop) (hn : n < sizeLine)
    (hR : ∀ i y H H' D, H1 D = none → (∃ xs, H D = some (.lst xs)) → Same H1 H → R i y H → (∀ b o, b ≠ D → H b = some o → H' b = some o) → R i y H') (hG : ∀ H, Same H1 H → G H)
    (hs : ∀ i x H H' D (U : VK), i < n → H1 D = none → (∃ xs, H D = some (.lst xs)) → Same H1 H → Y i H x H' → (∀ y H4, R i y H4 → Same H H4 → U y H4) → g x (wipe σ vs) H' fun σ2 H2 => wipe σ2 vs = wipe σ vs ∧ te σ2 H2 U)
    (hd : ∀ p ys H, H1 p = none → Same H1 H → ys.length = n → (∀ i y, ys[i]? = some y → R i y H) → H p = some (.lst ys) → Q (.ref p) H) : LcGoal J g tYes te vs σ H1 Q := by
  intro D hD
  refine lc_it w (Pv := fun i H => Same H1 H ∧ ∃ ys : List V, H D = some (.lst ys) ∧ ys.length = i ∧ ∀ (j : Nat) y, ys[j]? = some y → R j y H) ⟨same_upd hD, [], upd_same, rfl, fun j y e => by simp at e⟩ (fun i H hi p => hG H p.1) ?_ ?_
  · rintro i x H H' hi ⟨s1, ys, hy, hl, hr⟩ y
    refine hs i x H H' D _ hi hD ⟨_, hy⟩ s1 y fun y2 H4 r s2 => ?_
    have g0 : ∀ b o, b ≠ D → H b = some o → (upd H4 D (HO.lst (ys ++ [y2]))) b = some o := fun b o hb e => by rw [upd_ne hb]; exact s2 _ _ e
    refine ⟨ys, s2 _ _ hy, by omega, fun b o e => ?_, ys ++ [y2], upd_same, by simp [hl], fun j y3 e => ?_⟩
    · have hb : b ≠ D := ne_of_none e hD
      rw [upd_ne hb]
      exact s2 _ _ (s1 _ _ e)
    · rcases Nat.lt_or_ge j ys.length with hj | hj
      · rw [List.getElem?_append_left hj] at e
        exact hR _ _ H _ D hD ⟨_, hy⟩ s1 (hr _ _ e) g0
      · have hj2 : j = i := by
          have z := (List.getElem?_eq_some_iff.mp e).1
          simp at z
          omega
        subst hj2
        rw [List.getElem?_append_right hj, hl, Nat.sub_self] at e
        cases e
        exact hR _ _ H4 _ D hD ⟨_, s2 _ _ hy⟩ (s1.trans s2) r fun b o hb e => by rw [upd_ne hb]; exact e
  · rintro H ⟨s1, ys, hy, hl, hr⟩
    exact hd D ys H hD s1 hl hr hy
/-- .. where the items are known beforehand -/
theorem lc_pure {J : It} {n : Nat} {G : Hp → Prop} {Y : Nat → Hp → V → Hp → Prop} (w : Walk J n G Y) {g : TG} {te : TE} {vs : List Nat} {σ : L2.St} {H1 : Hp} {Q : VK} (ys : List V) (hl : ys.length = n) (hn : n < sizeLine) (hG : ∀ H, Same H1 H → G H)
    (hs : ∀ (i : Nat) x y H H' (U : VK), ys[i]? = some y → Same H1 H → Y i H x H' → (∀ H4, Same H H4 → U y H4) → g x (wipe σ vs) H' fun σ2 H2 => wipe σ2 vs = wipe σ vs ∧ te σ2 H2 U)
    (hd : ∀ p H, H1 p = none → Same H1 H → H p = some (.lst ys) → Q (.ref p) H) : LcGoal J g tYes te vs σ H1 Q := by
  refine lc_go w (fun i y _ => ys[i]? = some y) hn (fun _ _ _ _ _ _ _ _ r _ => r) hG (fun i x H H' D U hi _ _ s1 y hu => ?_) fun p zs H hp s1 hz hr e => ?_
  · have e : ys[i]? = some ys[i] := List.getElem?_eq_getElem (by omega)
    exact hs i x _ H H' U e s1 y fun H4 s2 => hu _ _ e s2
  · have z : zs = ys := by
      refine List.ext_getElem? fun i => ?_
      rcases Nat.lt_or_ge i zs.length with h | h
      · rw [hr i _ (List.getElem?_eq_getElem h), List.getElem?_eq_getElem h]
      · rw [List.getElem?_eq_none h, List.getElem?_eq_none (by omega)]
    subst z
    exact hd p H hp s1 e
/-! ### slices -/
theorem cut_from {xs : List V} {k : Int} (hk : 0 ≤ k) : cutV xs (some k) none = xs.drop k.toNat := by
  obtain ⟨j, rfl⟩ := Int.eq_ofNat_of_zero_le hk
  unfold cutV
  rw [HT.sIx_nat, HT.sIx_none, Int.toNat_natCast]
  rcases Nat.le_total j xs.length with h | h
  · rw [Nat.min_eq_left h, List.take_of_length_le (by simp)]
  · rw [Nat.min_eq_right h, List.drop_of_length_le h, List.drop_length, List.take_nil]
theorem cut_to {xs : List V} {k : Int} (hk : 0 ≤ k) : cutV xs none (some k) = xs.take k.toNat := by
  obtain ⟨j, rfl⟩ := Int.eq_ofNat_of_zero_le hk
  unfold cutV
  rw [HT.sIx_nat, HT.sIx_none, Int.toNat_natCast, List.drop_zero, Nat.sub_zero]
  rcases Nat.le_total j xs.length with h | h
  · rw [Nat.min_eq_left h]
  · rw [Nat.min_eq_right h, List.take_of_length_le h, List.take_length]
/-! ### lists whose items tell something -/
inductive All2 {α : Type} (R : V → α → Prop) : List V → List α → Prop
  | nil : All2 R [] []
  | cons {x t xs ts} : R x t → All2 R xs ts → All2 R (x :: xs) (t :: ts)
namespace All2
variable {α : Type} {R S : V → α → Prop}
theorem len {xs : List V} {ts : List α} (h : All2 R xs ts) : xs.length = ts.length := by
  induction h with
  | nil => rfl
  | cons _ _ ih => rw [List.length_cons, List.length_cons, ih]
theorem mono {xs : List V} {ts : List α} (h : All2 R xs ts) (k : ∀ x t, R x t → S x t) : All2 S xs ts := by
  induction h with
  | nil => exact .nil
  | cons r _ ih => exact .cons (k _ _ r) ih
theorem get {xs : List V} {ts : List α} (h : All2 R xs ts) : ∀ {i : Nat} {x : V}, xs[i]? = some x → ∃ t, ts[i]? = some t ∧ R x t := by
  induction h with
  | nil => intro i x e; simp at e
  | cons r _ ih =>
    intro i x e
    cases i with
    | zero => cases e; exact ⟨_, rfl, r⟩
    | succ j => exact ih e
theorem of {xs : List V} : ∀ {ts : List α}, xs.length = ts.length → (∀ (i : Nat) x t, xs[i]? = some x → ts[i]? = some t → R x t) → All2 R xs ts := by
  induction xs with
  | nil => intro ts hl _; cases ts with
    | nil => exact .nil
    | cons _ _ => cases hl
  | cons x xs ih => intro ts hl h; cases ts with
    | nil => cases hl
    | cons t ts => exact .cons (h 0 x t rfl rfl) (ih (by simpa using hl) fun i x t e1 e2 => h (i + 1) x t e1 e2)
theorem snoc {xs : List V} {ts : List α} {x : V} {t : α} (h : All2 R xs ts) (r : R x t) : All2 R (xs ++ [x]) (ts ++ [t]) := by
  induction h with
  | nil => exact .cons r .nil
  | cons r2 _ ih => exact .cons r2 ih
theorem drop {xs : List V} {ts : List α} (h : All2 R xs ts) : ∀ k, All2 R (xs.drop k) (ts.drop k) := by
  induction h with
  | nil => intro k; rw [List.drop_nil, List.drop_nil]; exact .nil
  | cons r h ih => intro k; cases k with
    | zero => exact .cons r h
    | succ k => exact ih k
theorem take {xs : List V} {ts : List α} (h : All2 R xs ts) : ∀ k, All2 R (xs.take k) (ts.take k) := by
  induction h with
  | nil => intro k; rw [List.take_nil, List.take_nil]; exact .nil
  | cons r h ih => intro k; cases k with
    | zero => exact .nil
    | succ k => exact .cons r (ih k)
end All2
/-- a pair of ints -/
def Pr (K : Frag) (H : Hp) : V → Int × Int → Prop := fun x t => ∃ r, x = .ref r ∧ SqT K H r [.int t.1, .int t.2]
theorem Pr.same {K : Frag} {H H' : Hp} {x : V} {t : Int × Int} (s : Same H H') (h : Pr K H x t) : Pr K H' x t := by
  obtain ⟨r, e, q⟩ := h
  exact ⟨r, e, same_tup s q⟩
/-- a list of pairs of ints -/
def Prs (K : Frag) (H : Hp) (a : Addr) (ts : List (Int × Int)) : Prop := ∃ xs, SqL K H a xs ∧ All2 (Pr K H) xs ts
theorem Prs.same {K : Frag} {H H' : Hp} {a : Addr} {ts : List (Int × Int)} (s : Same H H') (h : Prs K H a ts) : Prs K H' a ts := by
  obtain ⟨xs, q, h⟩ := h
  exact ⟨xs, s.seq q, h.mono fun _ _ => Pr.same s⟩
/-! ### the law's end -/
def spLaw (K : Frag) : Sp := fun vs H Q _ => ∃ (a : Addr) (ns : List Int), vs = [.ref a] ∧ SqL K H a (ns.map V.int) ∧ ns.length ≤ 63 ∧ (∀ z ∈ ns, Builtin.Int.intBits z ≤ 1048576) ∧ ∀ H', Q (.bl true) H'
theorem walk {l : PySem.W.OpenLaw} {k : Nat} {q : Program} {loose : List Str} {XP : (Str → Option Value) → Heap → Prop} {YP : World → Heap → Prop} {d : DefRec} {K : Params → Frag}
    (hn : l.most = some 63) (hdf : d.params.defaults = []) (hr : Room k callerA) (hY : ∀ (w : World) (h : Heap), YP w h → (K w.params).In h)
    (F : ∀ (w : World) (mg : Str → Option Value) (fa : Addr) (h : Heap), (K w.params).In h → h.Ns mainGlobals mg → mg d.name = some (.ref fa) →
      ∃ fd : FuncData, (∀ (s : Shared) (u : Value), BindsTo s fd ⟨[u], []⟩ [(("script" : Str), u)]) ∧ ∀ base : Heap, (K w.params).In base → base.Ns mainGlobals mg → FnOk l.prog w (K w.params) mg base CX0 k fa fd ["script"] (spLaw (K w.params))) :
    PySem.W.WalkO q loose XP YP l.row.toRowW d [] (fun f vs => PySem.call f vs) :=
  L2.walk_ofB (n := 63) (k := k) (x := "script") (CX := fun _ => CX0) (sp := fun w => spLaw (K w.params)) hn (by decide) hdf hr hY F
    (fun _ _ a ns hl hb _ hS => ⟨a, ns, rfl, hS, hl, hb, fun _ => rfl⟩) fun _ _ _ _ _ z => z
end Kv

set_option Elab.async false
set_option linter.all false
set_option maxRecDepth 100000
set_option maxHeartbeats 4000000
namespace K06
open PySem PySem.Spec PyProof.Rows L2
def top (i : Nat) : Stmt := PySem.Challenge.pw_corebank_k06_whole_dates_follow_one_anot.main.body.getD i (.Pass ⟨0, 0, 0, 0⟩)
abbrev s_is_day : Stmt := top 16
abbrev s_check_day : Stmt := top 17
abbrev s_days_of_month : Stmt := top 18
abbrev s_first_day_of : Stmt := top 19
abbrev s_date_of : Stmt := top 20
abbrev s_is_date : Stmt := top 21
abbrev s_day_of : Stmt := top 22
abbrev s_weekday : Stmt := top 23
abbrev s_L_numbers : Stmt := top 25
abbrev s_L_kinds : Stmt := top 26
abbrev s_L_is_integer : Stmt := top 27
abbrev s_L_refusals : Stmt := top 28
abbrev s_L_after : Stmt := top 29
abbrev s_L_known : Stmt := top 30
abbrev s_L_step : Stmt := top 31
abbrev s_law : Stmt := top 32
theorem sc_is_day : FnScope ["number"] ["number"] (defScope s_is_day) := ⟨rfl, rfl, rfl, by decide +kernel, rfl, by decide +kernel, by decide +kernel⟩
theorem sc_check_day : FnScope ["day"] ["day"] (defScope s_check_day) := ⟨rfl, rfl, rfl, by decide +kernel, rfl, by decide +kernel, by decide +kernel⟩
theorem sc_days_of_month : FnScope ["year", "month"] ["year", "month"] (defScope s_days_of_month) := ⟨rfl, rfl, rfl, by decide +kernel, rfl, by decide +kernel, by decide +kernel⟩
theorem sc_first_day_of : FnScope ["year"] ["year"] (defScope s_first_day_of) := ⟨rfl, rfl, rfl, by decide +kernel, rfl, by decide +kernel, by decide +kernel⟩
theorem sc_date_of : FnScope ["day", "year", "month", "left"] ["day"] (defScope s_date_of) := ⟨rfl, rfl, rfl, by decide +kernel, rfl, by decide +kernel, by decide +kernel⟩
theorem sc_is_date : FnScope ["year", "month", "in_month"] ["year", "month", "in_month"] (defScope s_is_date) := ⟨rfl, rfl, rfl, by decide +kernel, rfl, by decide +kernel, by decide +kernel⟩
theorem sc_day_of : FnScope ["year", "month", "in_month", "earlier", "before"] ["year", "month", "in_month"] (defScope s_day_of) := ⟨rfl, rfl, rfl, by decide +kernel, rfl, by decide +kernel, by decide +kernel⟩
theorem sc_weekday : FnScope ["day"] ["day"] (defScope s_weekday) := ⟨rfl, rfl, rfl, by decide +kernel, rfl, by decide +kernel, by decide +kernel⟩
theorem sc_L_numbers : FnScope ["cell", "count", "rest", "numbers", "k", "mixed"] ["cell", "count"] (defScope s_L_numbers) := ⟨rfl, rfl, rfl, by decide +kernel, rfl, by decide +kernel, by decide +kernel⟩
theorem sc_L_kinds : FnScope ["error", "kinds"] ["error"] (defScope s_L_kinds) := ⟨rfl, rfl, rfl, by decide +kernel, rfl, by decide +kernel, by decide +kernel⟩
theorem sc_L_is_integer : FnScope ["told"] ["told"] (defScope s_L_is_integer) := ⟨rfl, rfl, rfl, by decide +kernel, rfl, by decide +kernel, by decide +kernel⟩
theorem sc_L_refusals : FnScope ["day", "kinds", "e"] ["day"] (defScope s_L_refusals) := ⟨rfl, rfl, rfl, by decide +kernel, rfl, by decide +kernel, by decide +kernel⟩
theorem sc_L_after : FnScope ["date", "year", "month", "in_month", "length"] ["date"] (defScope s_L_after) := ⟨rfl, rfl, rfl, by decide +kernel, rfl, by decide +kernel, by decide +kernel⟩
theorem sc_L_known : FnScope ["day", "told", "number", "back", "name"] ["day"] (defScope s_L_known) := ⟨rfl, rfl, rfl, by decide +kernel, rfl, by decide +kernel, by decide +kernel⟩
theorem sc_L_step : FnScope ["day"] ["day"] (defScope s_L_step) := ⟨rfl, rfl, rfl, by decide +kernel, rfl, by decide +kernel, by decide +kernel⟩
theorem sc_law : FnScope ["script", "cell", "numbers", "day", "year", "near", "out"] ["script"] (defScope s_law) := ⟨rfl, rfl, rfl, by decide +kernel, rfl, by decide +kernel, by decide +kernel⟩
structure Txt (K : PySem.W.Frag) (mg : Str → Option Value) extends Kv.Errs K mg where
  a_is_day : Addr
  d_is_day : FuncData
  g_is_day : mg "is_day" = some (.ref a_is_day)
  F_is_day : Fun K "is_day" "is_day" s_is_day a_is_day d_is_day
  b_is_day : Binds K d_is_day ["number"] []
  a_check_day : Addr
  d_check_day : FuncData
  g_check_day : mg "check_day" = some (.ref a_check_day)
  F_check_day : Fun K "check_day" "check_day" s_check_day a_check_day d_check_day
  b_check_day : Binds K d_check_day ["day"] []
  a_days_of_month : Addr
  d_days_of_month : FuncData
  g_days_of_month : mg "days_of_month" = some (.ref a_days_of_month)
  F_days_of_month : Fun K "days_of_month" "days_of_month" s_days_of_month a_days_of_month d_days_of_month
  b_days_of_month : Binds K d_days_of_month ["year", "month"] []
  a_first_day_of : Addr
  d_first_day_of : FuncData
  g_first_day_of : mg "first_day_of" = some (.ref a_first_day_of)
  F_first_day_of : Fun K "first_day_of" "first_day_of" s_first_day_of a_first_day_of d_first_day_of
  b_first_day_of : Binds K d_first_day_of ["year"] []
  a_date_of : Addr
  d_date_of : FuncData
  g_date_of : mg "date_of" = some (.ref a_date_of)
  F_date_of : Fun K "date_of" "date_of" s_date_of a_date_of d_date_of
  b_date_of : Binds K d_date_of ["day"] []
  a_is_date : Addr
  d_is_date : FuncData
  g_is_date : mg "is_date" = some (.ref a_is_date)
  F_is_date : Fun K "is_date" "is_date" s_is_date a_is_date d_is_date
  b_is_date : Binds K d_is_date ["year", "month", "in_month"] []
  a_day_of : Addr
  d_day_of : FuncData
  g_day_of : mg "day_of" = some (.ref a_day_of)
  F_day_of : Fun K "day_of" "day_of" s_day_of a_day_of d_day_of
  b_day_of : Binds K d_day_of ["year", "month", "in_month"] []
  a_weekday : Addr
  d_weekday : FuncData
  g_weekday : mg "weekday" = some (.ref a_weekday)
  F_weekday : Fun K "weekday" "weekday" s_weekday a_weekday d_weekday
  b_weekday : Binds K d_weekday ["day"] []
  a__law_numbers : Addr
  d__law_numbers : FuncData
  g__law_numbers : mg "_law_numbers" = some (.ref a__law_numbers)
  F__law_numbers : Fun K "_law_numbers" "_law_numbers" s_L_numbers a__law_numbers d__law_numbers
  b__law_numbers : Binds K d__law_numbers ["cell", "count"] []
  a__law_kinds : Addr
  d__law_kinds : FuncData
  g__law_kinds : mg "_law_kinds" = some (.ref a__law_kinds)
  F__law_kinds : Fun K "_law_kinds" "_law_kinds" s_L_kinds a__law_kinds d__law_kinds
  b__law_kinds : Binds K d__law_kinds ["error"] []
  a__law_is_integer : Addr
  d__law_is_integer : FuncData
  g__law_is_integer : mg "_law_is_integer" = some (.ref a__law_is_integer)
  F__law_is_integer : Fun K "_law_is_integer" "_law_is_integer" s_L_is_integer a__law_is_integer d__law_is_integer
  b__law_is_integer : Binds K d__law_is_integer ["told"] []
  a__law_refusals : Addr
  d__law_refusals : FuncData
  g__law_refusals : mg "_law_refusals" = some (.ref a__law_refusals)
  F__law_refusals : Fun K "_law_refusals" "_law_refusals" s_L_refusals a__law_refusals d__law_refusals
  b__law_refusals : Binds K d__law_refusals ["day"] []
  a__law_after : Addr
  d__law_after : FuncData
  g__law_after : mg "_law_after" = some (.ref a__law_after)
  F__law_after : Fun K "_law_after" "_law_after" s_L_after a__law_after d__law_after
  b__law_after : Binds K d__law_after ["date"] []
  a__law_known : Addr
  d__law_known : FuncData
  g__law_known : mg "_law_known" = some (.ref a__law_known)
  F__law_known : Fun K "_law_known" "_law_known" s_L_known a__law_known d__law_known
  b__law_known : Binds K d__law_known ["day"] []
  a__law_step : Addr
  d__law_step : FuncData
  g__law_step : mg "_law_step" = some (.ref a__law_step)
  F__law_step : Fun K "_law_step" "_law_step" s_L_step a__law_step d__law_step
  b__law_step : Binds K d__law_step ["day"] []
  a_law : Addr
  d_law : FuncData
  g_law : mg "law" = some (.ref a_law)
  F_law : Fun K "law" "law" s_law a_law d_law
  b_law : Binds K d_law ["script"] []
  u_LAST_DAY : Value
  g_LAST_DAY : mg "LAST_DAY" = some u_LAST_DAY
  r_LAST_DAY : RelV (.int 36524) u_LAST_DAY
  u_FIRST_YEAR : Value
  g_FIRST_YEAR : mg "FIRST_YEAR" = some u_FIRST_YEAR
  r_FIRST_YEAR : RelV (.int 2000) u_FIRST_YEAR
  u_LAST_YEAR : Value
  g_LAST_YEAR : mg "LAST_YEAR" = some u_LAST_YEAR
  r_LAST_YEAR : RelV (.int 2099) u_LAST_YEAR
  u_DAYS_OF_FOUR_YEARS : Value
  g_DAYS_OF_FOUR_YEARS : mg "DAYS_OF_FOUR_YEARS" = some u_DAYS_OF_FOUR_YEARS
  r_DAYS_OF_FOUR_YEARS : RelV (.int 1461) u_DAYS_OF_FOUR_YEARS
  a_DAYS_OF_MONTHS : Addr
  g_DAYS_OF_MONTHS : mg "DAYS_OF_MONTHS" = some (.ref a_DAYS_OF_MONTHS)
  r_DAYS_OF_MONTHS : RelV (.ref a_DAYS_OF_MONTHS) (.ref a_DAYS_OF_MONTHS)
  t_DAYS_OF_MONTHS : ∀ H : Hp, SqT K H a_DAYS_OF_MONTHS [.int (31), .int (28), .int (31), .int (30), .int (31), .int (30), .int (31), .int (31), .int (30), .int (31), .int (30), .int (31)]
  u_SATURDAY : Value
  g_SATURDAY : mg "SATURDAY" = some u_SATURDAY
  r_SATURDAY : RelV (.int 5) u_SATURDAY
  n_bool : mg "bool" = none
  n_int : mg "int" = none
  n_isinstance : mg "isinstance" = none
  n_len : mg "len" = none
  n_max : mg "max" = none
  n_range : mg "range" = none
  n_sum : mg "sum" = none
  n_tuple : mg "tuple" = none
local macro_rules | `(tactic| walk_at "rd") => `(tactic| try simp only [L2.start, tSeq, tIfS, tTest, tOp, tVar, tC, tRet, tRetN, tNext, tAsg, gName, tDrop, tCons, tNil, tCB, tB, rI0, rI, rEq, rNe, tAnd, tOr, tNot, tAndV, tOrV, tNotV, tIf, tUn, rU, Kv.sc_ii, Kv.sc_ss, Kv.sc_bb, Kv.sc_nn, Kv.sc_ni, Kv.sc_in, Kv.sc_sn, Kv.sc_ns, Kv.sc_bn, Kv.sc_nb, Kv.sc_is, Kv.sc_si, cxOf, and_assoc, rAppend, Kv.rIsP, L2H.cxH, tCall, tCallS, tTup, tLst, tBM, tBM0, tM0, tM1, tSl, tPart, tNoPart, tAug, ipI, gSub, tPar, tBreak, tCont, Kv.tKinds, tChain, rIsB, rNotB, tYes, tCKw, wipe, List.foldl_cons, List.foldl_nil, iList, iTup, iRng1, iRng2, iEnum, iZip, Kv.tFor_eq, Kv.tLc_eq, Kv.sz_0, Kv.szl_0, Kv.sz_1, Kv.szl_1, Kv.sz_2, Kv.szl_2, Kv.sz_3, Kv.szl_3, Kv.sz_4, Kv.szl_4, Kv.sz_5, Kv.szl_5, Kv.sz_6, Kv.szl_6, Kv.sz_7, Kv.szl_7, Kv.sz_8, Kv.szl_8, Kv.sz_9, Kv.szl_9, Kv.sz_10, Kv.szl_10, Kv.sz_11, Kv.szl_11, Kv.sz_12, Kv.szl_12, Kv.sz_13, Kv.szl_13, Kv.sz_14, Kv.szl_14, Kv.sz_15, Kv.szl_15, Kv.sz_16, Kv.szl_16, Kv.sz_17, Kv.szl_17, Kv.sz_18, Kv.szl_18, Kv.sz_19, Kv.szl_19, Kv.sz_20, Kv.szl_20, Kv.sz_21, Kv.szl_21, Kv.sz_22, Kv.szl_22, Kv.sz_23, Kv.szl_23, Kv.sz_24, Kv.szl_24, Kv.sz_25, Kv.szl_25, Kv.sz_26, Kv.szl_26, Kv.cdiv_1, Kv.cdiv_2, Kv.cdiv_3, Kv.cdiv_4, Kv.cdiv_5, Kv.cdiv_6, Kv.cdiv_7, Kv.cdiv_8, Kv.cdiv_9, Kv.cdiv_10, Kv.cdiv_11, Kv.cdiv_12, Kv.cdiv_13, Kv.cdiv_14, Kv.cdiv_16, Kv.cdiv_20, Kv.cdiv_30, Kv.cdiv_50, Kv.cdiv_60, Kv.cdiv_64, Kv.cdiv_100, Kv.cdiv_400, Kv.cdiv_1000, Kv.cdiv_2000, Kv.cdiv_10000, Kv.cdiv_1000000,
  CPow, List.map_cons, List.map_nil, List.cons_append, List.nil_append, List.append_nil, List.length_cons, List.length_nil, List.replicate,
  List.getElem?_cons_zero, List.getElem?_cons_succ, List.set_cons_zero, List.set_cons_succ, Option.some.injEq, exists_eq_left', exists_eq_left, exists_eq_right, exists_eq_right', V.int.injEq, V.str.injEq, V.bl.injEq, V.ref.injEq, List.cons.injEq, exists_and_left, exists_and_right, and_true, true_and, and_self, false_and, and_false, or_false, false_or, exists_false, exists_const, reduceCtorEq, Nat.reduceSub, Nat.reduceAdd, Nat.reduceLeDiff, Nat.reduceLT,
  Int.reduceLT, Int.reduceLE, Int.reduceAdd, Int.reduceMul, Int.reduceSub, Int.reducePow, Int.reduceToNat, Int.reduceNeg, Int.reduceAbs, Nat.reducePow, decide_eq_true_eq, Bool.not_true, Bool.not_false, Bool.false_eq_true, ite_true, ite_false, if_true, if_false, decide_true, decide_false, Bool.not_eq_true', decide_eq_false_iff_not, not_true, not_false_eq_true, ne_eq])
local macro_rules | `(tactic| walk_at "st") => `(tactic| ((first | with_reducible refine Kv.seq_step fun U hU => ?_ | with_reducible refine Kv.gseq_step fun U hU => ?_); walk_at "rd"))
local macro_rules | `(tactic| walk_at "shp") => `(tactic| (refine Kv.shaped_of ?_ ?_ <;> (simp only [PyData.canLay0, PyData.canLayAll0, PyData.depth, PyData.depthAll, Bool.and_true, Bool.true_and]) <;> first | done | decide +kernel | omega))
local macro_rules | `(tactic| walk_at "eqv") => `(tactic| simp [PyData.eqv, PyData.eqvAll])
local macro_rules | `(tactic| walk_at "nx") => `(tactic| (subst_vars; (try dsimp only); first | walk_at "st" | walk_at "rd"))
/-! ### the days -/
def months : List Int := [31, 28, 31, 30, 31, 30, 31, 31, 30, 31, 30, 31]
def dom (y m : Int) : Int := if m = 2 ∧ y % 4 = 0 then 29 else months.getD (m - 1).toNat 0
def fdo (y : Int) : Int := (1461 * (y - 2000) + 3) / 4
def sdom (y : Int) : Nat → Int
  | 0 => 0
  | n + 1 => sdom y n + dom y ((n : Int) + 1)
def isDate (y m d : Int) : Prop := 2000 ≤ y ∧ y ≤ 2099 ∧ 1 ≤ m ∧ m ≤ 12 ∧ 1 ≤ d ∧ d ≤ dom y m
instance (y m d : Int) : Decidable (isDate y m d) := by unfold isDate; infer_instance
def dayOf (y m d : Int) : Int := fdo y + sdom y (m - 1).toNat + d - 1
theorem months_get {j : Int} (h0 : 0 ≤ j) (h1 : j < 12) : ∃ n, months.getD j.toNat 0 = n ∧ ([.int 31, .int 28, .int 31, .int 30, .int 31, .int 30, .int 31, .int 31, .int 30, .int 31, .int 30, .int 31] : List V)[j.toNat]? = some (.int n) ∧ 28 ≤ n ∧ n ≤ 31 := by
  have h : j.toNat < 12 := by omega
  generalize j.toNat = k at h
  rcases (by omega : k = 0 ∨ k = 1 ∨ k = 2 ∨ k = 3 ∨ k = 4 ∨ k = 5 ∨ k = 6 ∨ k = 7 ∨ k = 8 ∨ k = 9 ∨ k = 10 ∨ k = 11) with e | e | e | e | e | e | e | e | e | e | e | e <;> subst e <;> exact ⟨_, rfl, rfl, by decide, by decide⟩
theorem dom_in {y m : Int} (h0 : 1 ≤ m) (h1 : m ≤ 12) : 28 ≤ dom y m ∧ dom y m ≤ 31 := by
  obtain ⟨n, e, _, n0, n1⟩ := months_get (j := m - 1) (by omega) (by omega)
  unfold dom
  split
  · omega
  · rw [e]
    exact ⟨n0, n1⟩
theorem sdom_in (y : Int) : ∀ n : Nat, n ≤ 12 → 28 * (n : Int) ≤ sdom y n ∧ sdom y n ≤ 31 * (n : Int)
  | 0, _ => by simp [sdom]
  | n + 1, h => by
    have ih := sdom_in y n (by omega)
    have d := dom_in (y := y) (m := (n : Int) + 1) (by omega) (by omega)
    unfold sdom
    omega
theorem sdom_sum (y : Int) : ∀ n : Nat, ((List.range n).map fun (k : Nat) => dom y ((k : Int) + 1)).sum = sdom y n
  | 0 => rfl
  | n + 1 => by
    rw [List.range_succ, List.map_append, List.sum_append, sdom_sum y n]
    simp [sdom]

section
variable {P : Program} {w : World} {K : PySem.W.Frag} {mg : Str → Option Value} {base : Heap}
/-- the numbers that a law makes of one cell: so many, none below 0, none beyond 10 ^ 13 -/
def spNumbers : Sp := fun vs H Q _ => ∃ c n, vs = [.int c, .int n] ∧ Builtin.Int.intBits c ≤ 1048576 ∧ 0 ≤ n ∧ n ≤ 1000 ∧
  ∀ (ns : List Int) p H', (ns.length : Int) = n → (∀ z ∈ ns, 0 ≤ z ∧ z < 10000000000000) → Same H H' → H p = none → H' p = some (.lst (ns.map V.int)) → Q (.ref p) H'
def invNumbers (c n : Int) (p : Addr) (H : Hp) : Nat → L2.St → Hp → Prop := fun i σ' H' => ∃ (rest : Int) (ns : List Int) (x y : Option V), σ' = [some (.int c), some (.int n), some (.int rest), some (.ref p), x, y] ∧ 0 ≤ rest ∧ Builtin.Int.intBits rest ≤ 1048576 ∧
  ns.length = i ∧ (∀ z ∈ ns, 0 ≤ z ∧ z < 10000000000000) ∧ Same H H' ∧ H' p = some (.lst (ns.map V.int))
theorem ok_L_numbers (T : Txt K mg) : FnOk P w K mg base CX0 1 T.a__law_numbers T.d__law_numbers ["cell", "count"] spNumbers := by
  refine T.F__law_numbers.ok sc_L_numbers (fun vs H Q E h => by obtain ⟨_, _, rfl, _⟩ := h; rfl) (fun cdv A outer s H vs Q E hr h => ?_)
  refine ⟨_, 
      (pss_cons (ps_set (i := 2) sc_L_numbers.nd rfl (Or.inl rfl) pe_int)
      (pss_cons (ps_if (pt_cmpR op_ge (pv 0) (pe_op op_pow pe_int pe_int) (nomark _)) 
        (pss_one (ps_set (i := 2) sc_L_numbers.nd rfl (Or.inl rfl) (pe_op op_fdivW (pv 0) (pe_op op_pow pe_int pe_int)))) pss_nil)
      (pss_cons (ps_set (i := 3) sc_L_numbers.nd rfl (Or.inl rfl) (pe_lst pa_nil))
      (pss_cons (ps_for PassesOwn.never rfl (pi_range1 (by rfl) T.n_range (pa_cons (pv 1) pa_nil)) (pg_name (i := 4) sc_L_numbers.nd rfl (Or.inl rfl)) 
        (pss_one (ps_if (pt_cmpR op_gt (pv 2) pe_int (nomark _)) 
          (pss_cons (ps_expr (pe_bm PySem.F.plainAttrs_list PySem.F.slot_list_append PySem.F.type_list_append mt_append (pv 3) (pa_cons (pe_op op_mod (pe_callTy call_int1 (by rfl) T.n_int (by decide +kernel) (pa_cons (pv 2) pa_nil)) (pe_op op_pow pe_int pe_int)) pa_nil)))
          (pss_one (ps_set (i := 2) sc_L_numbers.nd rfl (Or.inl rfl) (pe_op op_fdivW (pv 2) (pe_op op_pow pe_int pe_int))))) 
          (pss_cons (ps_set (i := 5) sc_L_numbers.nd rfl (Or.inl rfl) (pe_op op_mod (pe_callTy call_int1 (by rfl) T.n_int (by decide +kernel) (pa_cons (pe_op op_add (pe_op op_add (pe_op op_mulX (pv 0) pe_int) (pe_op op_mulX (pv 4) pe_int)) pe_int) pa_nil)) pe_int))
          (pss_cons (ps_set (i := 5) sc_L_numbers.nd rfl (Or.inl rfl) (pe_op op_mod (pe_callTy call_int1 (by rfl) T.n_int (by decide +kernel) (pa_cons (pe_op op_add (pe_op op_add (pe_op op_mulX (pv 5) (pv 5)) (pe_op op_mulX pe_int (pv 4))) pe_int) pa_nil)) pe_int))
          (pss_one (ps_expr (pe_bm PySem.F.plainAttrs_list PySem.F.slot_list_append PySem.F.type_list_append mt_append (pv 3) (pa_cons (pe_op op_add (pe_op op_mulX (pe_op op_mod (pe_callTy call_int1 (by rfl) T.n_int (by decide +kernel) (pa_cons (pe_op op_add (pe_op op_mulX (pv 5) (pv 5)) (pv 5)) pa_nil)) pe_int) pe_int) (pv 4)) pa_nil)))))))))
      (pss_one (ps_ret (pv 3))))))), ?_⟩
  obtain ⟨c, n, rfl, bc, n0, n1, hq⟩ := h
  walk_at "rd"
  split
  all_goals
    first
      | refine ⟨⟨by decide, by decide⟩, fun p hp => ?_⟩
      | intro p hp
    refine ⟨by omega, by omega, Kv.for_rng0 (invNumbers c n p H) ?_ ?_ ?_⟩
  case isTrue.refine_1 =>
    refine ⟨_, [], _, _, rfl, by omega, ?_, rfl, fun z hz => by simp at hz, Kv.same_upd hp, upd_same⟩
    exact Nat.le_trans (Kv.bits_mono (by omega)) bc
  case isFalse.refine_1 => exact ⟨_, [], _, _, rfl, by omega, by decide, rfl, fun z hz => by simp at hz, Kv.same_upd hp, upd_same⟩
  case isTrue.refine_3 | isFalse.refine_3 =>
    rintro σ' H' ⟨rest, ns, x, y, rfl, r0, rb, hl, hz, hs, hp'⟩
    walk_at "rd"
    exact hq ns p H' (by omega) hz hs hp hp'
  case isTrue.refine_2 | isFalse.refine_2 =>
    rintro i σ' H' hi ⟨rest, ns, x, y, rfl, r0, rb, hl, hz, hs, hp'⟩
    have hsz : (ns.map V.int).length < sizeLine := by
      rw [List.length_map]
      exact Nat.lt_of_lt_of_le (show ns.length < 1001 by omega) (by decide)
    have more : ∀ v : Int, 0 ≤ v → v < 10000000000000 → (∀ z ∈ ns ++ [v], 0 ≤ z ∧ z < 10000000000000) := by
      intro v h0 h1 z hm
      rcases List.mem_append.mp hm with hm | hm
      · exact hz z hm
      · rw [List.mem_singleton.mp hm]
        exact ⟨h0, h1⟩
    have fin : ∀ v : Int, (upd H' p (HO.lst (ns.map V.int ++ [.int v]))) p = some (.lst ((ns ++ [v]).map V.int)) := by
      intro v
      rw [upd_same, List.map_append]
      rfl
    walk_at "rd"
    by_cases c1 : 0 < rest
    · rw [if_pos c1]
      refine ⟨.inl ⟨rfl, _, SqL.of hp'⟩, _, hp', hsz, ⟨by decide, by decide⟩, ?_⟩
      refine ⟨rest / 10000000000000, ns ++ [rest % 10000000000000], _, _, rfl, Int.ediv_nonneg r0 (by decide), Nat.le_trans (Kv.bits_mono (by omega)) rb, by simp [hl], more _ (Int.emod_nonneg _ (by decide)) (Int.emod_lt_of_pos _ (by decide)), Kv.same_mut hp hs, fin _⟩
    · rw [if_neg c1]
      have bi : Builtin.Int.intBits (i : Int) ≤ 64 := Kv.bits64 (by omega) (by omega)
      refine ⟨Kv.mulX bc (b := 64) (by decide), Kv.mulX bi (b := 64) (by decide), ?_⟩
      generalize hm1 : (c * 48271 + (i : Int) * 69621 + 1013) % 2147483647 = m1
      have m10 : 0 ≤ m1 := by rw [← hm1]; exact Int.emod_nonneg _ (by decide)
      have m11 : m1 < 2147483647 := by rw [← hm1]; exact Int.emod_lt_of_pos _ (by decide)
      have bm1 : Builtin.Int.intBits m1 ≤ 64 := Kv.bits64 (by omega) (by omega)
      refine ⟨Kv.mulX bm1 bm1, Kv.mulX (a := 64) (by decide) bi, ?_⟩
      generalize hm2 : (m1 * m1 + 8191 * (i : Int) + 77) % 2147483629 = m2
      have m20 : 0 ≤ m2 := by rw [← hm2]; exact Int.emod_nonneg _ (by decide)
      have m21 : m2 < 2147483629 := by rw [← hm2]; exact Int.emod_lt_of_pos _ (by decide)
      have bm2 : Builtin.Int.intBits m2 ≤ 64 := Kv.bits64 (by omega) (by omega)
      generalize hm3 : (m2 * m2 + m2) % 2147483587 = m3
      have m30 : 0 ≤ m3 := by rw [← hm3]; exact Int.emod_nonneg _ (by decide)
      have m31 : m3 < 2147483587 := by rw [← hm3]; exact Int.emod_lt_of_pos _ (by decide)
      have bm3 : Builtin.Int.intBits m3 ≤ 64 := Kv.bits64 (by omega) (by omega)
      refine ⟨.inl ⟨rfl, _, SqL.of hp'⟩, Kv.mulX bm2 bm2, Kv.mulX bm3 (b := 64) (by decide), _, hp', hsz, ?_⟩
      exact ⟨rest, ns ++ [m3 * 4001 + i], _, _, rfl, r0, rb, by simp [hl], more _ (by omega) (by omega), Kv.same_mut hp hs, fin _⟩

theorem ok_L_kinds (T : Txt K mg) : Kv.KindsOk P w K mg base T.toErrs 1 T.a__law_kinds T.d__law_kinds := by
  refine Kv.kinds_of T.F__law_kinds sc_L_kinds (fun cdv A outer s H Q p er hz hf h => ?_)
  refine ⟨_, 
      (pss_cons (ps_set (i := 1) sc_L_kinds.nd rfl (Or.inl rfl) (pe_lst pa_nil))
      (pss_cons (ps_if (pt_val (pe_callB (Kv.call_isP List.mem_cons_self (T.exc er) hz hf) (by rfl) T.n_isinstance (by decide +kernel) (pa_cons (pv 0) (pa_cons (pe_glob (v := .ref (T.exa .badValue)) (by rfl) (T.exg .badValue) rfl) pa_nil)))) 
        (pss_one (ps_expr (pe_bm PySem.F.plainAttrs_list PySem.F.slot_list_append PySem.F.type_list_append mt_append (pv 1) (pa_cons pe_str pa_nil)))) pss_nil)
      (pss_cons (ps_if (pt_val (pe_callB (Kv.call_isP List.mem_cons_self (T.exc er) hz hf) (by rfl) T.n_isinstance (by decide +kernel) (pa_cons (pv 0) (pa_cons (pe_glob (v := .ref (T.exa .badDay)) (by rfl) (T.exg .badDay) rfl) pa_nil)))) 
        (pss_one (ps_expr (pe_bm PySem.F.plainAttrs_list PySem.F.slot_list_append PySem.F.type_list_append mt_append (pv 1) (pa_cons pe_str pa_nil)))) pss_nil)
      (pss_cons (ps_if (pt_val (pe_callB (Kv.call_isP List.mem_cons_self (T.exc er) hz hf) (by rfl) T.n_isinstance (by decide +kernel) (pa_cons (pv 0) (pa_cons (pe_glob (v := .ref (T.exa .missing)) (by rfl) (T.exg .missing) rfl) pa_nil)))) 
        (pss_one (ps_expr (pe_bm PySem.F.plainAttrs_list PySem.F.slot_list_append PySem.F.type_list_append mt_append (pv 1) (pa_cons pe_str pa_nil)))) pss_nil)
      (pss_cons (ps_if (pt_val (pe_callB (Kv.call_isP List.mem_cons_self (T.exc er) hz hf) (by rfl) T.n_isinstance (by decide +kernel) (pa_cons (pv 0) (pa_cons (pe_glob (v := .ref (T.exa .refused)) (by rfl) (T.exg .refused) rfl) pa_nil)))) 
        (pss_one (ps_expr (pe_bm PySem.F.plainAttrs_list PySem.F.slot_list_append PySem.F.type_list_append mt_append (pv 1) (pa_cons pe_str pa_nil)))) pss_nil)
      (pss_cons (ps_if (pt_val (pe_callB (Kv.call_isP List.mem_cons_self (T.exc er) hz hf) (by rfl) T.n_isinstance (by decide +kernel) (pa_cons (pv 0) (pa_cons (pe_glob (v := .ref (T.exa .full)) (by rfl) (T.exg .full) rfl) pa_nil)))) 
        (pss_one (ps_expr (pe_bm PySem.F.plainAttrs_list PySem.F.slot_list_append PySem.F.type_list_append mt_append (pv 1) (pa_cons pe_str pa_nil)))) pss_nil)
      (pss_cons (ps_if (pt_val (pe_callB (Kv.call_isP List.mem_cons_self (T.exc er) hz hf) (by rfl) T.n_isinstance (by decide +kernel) (pa_cons (pv 0) (pa_cons (pe_glob (v := .ref (T.exa .notAllowed)) (by rfl) (T.exg .notAllowed) rfl) pa_nil)))) 
        (pss_one (ps_expr (pe_bm PySem.F.plainAttrs_list PySem.F.slot_list_append PySem.F.type_list_append mt_append (pv 1) (pa_cons pe_str pa_nil)))) pss_nil)
      (pss_cons (ps_if (pt_val (pe_callB (Kv.call_isP List.mem_cons_self (T.exc er) hz hf) (by rfl) T.n_isinstance (by decide +kernel) (pa_cons (pv 0) (pa_cons (pe_glob (v := .ref (T.exa .damaged)) (by rfl) (T.exg .damaged) rfl) pa_nil)))) 
        (pss_one (ps_expr (pe_bm PySem.F.plainAttrs_list PySem.F.slot_list_append PySem.F.type_list_append mt_append (pv 1) (pa_cons pe_str pa_nil)))) pss_nil)
      (pss_one (ps_ret (pv 1))))))))))), ?_⟩
  have hi := fun d => T.exi er d
  refine Kv.seq_step fun U hU => ?_
  walk_at "rd"
  intro l hl
  rw [hU]
  cases er
  all_goals
    iterate 7
      refine Kv.seq_step fun U hU => ?_
      walk_at "rd"
      refine ⟨_, hi _, ?_⟩
      first
        | rw [if_neg (by decide)]
        | (rw [if_pos (by decide)]
           refine ⟨.inl ⟨rfl, _, SqL.of upd_same⟩, _, upd_same, by decide, ?_⟩
           rw [upd_upd])
      rw [hU]
    walk_at "rd"
    exact h l hl

def isD (d : Int) : Prop := 0 ≤ d ∧ d ≤ 36524
instance (d : Int) : Decidable (isD d) := by unfold isD; infer_instance
def spIsDay : Sp := fun vs H Q _ => ∃ d, vs = [.int d] ∧ (isD d → Q (.bl true) H) ∧ (¬isD d → Q (.bl false) H)
theorem ok_is_day (T : Txt K mg) : FnOk P w K mg base CX0 1 T.a_is_day T.d_is_day ["number"] spIsDay := by
  refine T.F_is_day.ok sc_is_day (fun vs H Q E h => by obtain ⟨_, rfl, _⟩ := h; rfl) (fun cdv A outer s H vs Q E hr h => ?_)
  refine ⟨_, 
      (pss_one (ps_ret (pe_chain op_le op_le pe_int (pv 0) (pe_glob (by rfl) T.g_LAST_DAY T.r_LAST_DAY)))), ?_⟩
  obtain ⟨d, rfl, ht, hf⟩ := h
  walk_at "rd"
  unfold isD at ht hf
  split
  · by_cases c : d ≤ 36524
    · rw [decide_eq_true c]
      exact ht ⟨by omega, c⟩
    · rw [decide_eq_false c]
      exact hf (by omega)
  · exact hf (by omega)
def spCheckDay (T : Txt K mg) : Sp := fun vs H Q E => ∃ d, vs = [.int d] ∧ (isD d → Q .non H) ∧ (¬isD d → E (.ref (T.exa .badDay)) none H)
theorem ok_check_day (T : Txt K mg) : FnOk P w K mg base (L2.CX P w) 2 T.a_check_day T.d_check_day ["day"] (spCheckDay T) := by
  refine T.F_check_day.okX sc_check_day (fun vs H Q E h => by obtain ⟨_, rfl, _⟩ := h; rfl) (fun cdv A outer s H vs Q E hr h => ?_)
  refine ⟨_, 
      (pss_one (ps_if (pt_not (pt_val (pe_call (ok_is_day T) (hr.mono (by decide : 1 ≤ _)) (by rfl) T.g_is_day T.F_is_day.kp T.b_is_day .nil pass0 (pa_cons (pv 0) pa_nil)))) 
        (pss_one (ps_raise rfl (takes_of rfl rfl rfl rfl) (pmk_own PySem.F.excBase_ValueError (T.exx .badDay) (T.exg .badDay) (T.exk .badDay) (raises_own (T.exb .badDay) (T.ext .badDay)) (by rfl)))) pss_nil)), ?_⟩
  obtain ⟨d, rfl, hq, he⟩ := h
  walk_at "rd"
  refine ⟨d, rfl, fun c => ⟨_, rfl, ?_⟩, fun c => ⟨_, rfl, ?_⟩⟩
  · exact hq c
  · exact he c

def spDom : Sp := fun vs H Q _ => ∃ y m, vs = [.int y, .int m] ∧ 1 ≤ m ∧ m ≤ 12 ∧ Q (.int (dom y m)) H
theorem ok_days_of_month (T : Txt K mg) : FnOk P w K mg base CX0 1 T.a_days_of_month T.d_days_of_month ["year", "month"] spDom := by
  refine T.F_days_of_month.ok sc_days_of_month (fun vs H Q E h => by obtain ⟨_, _, rfl, _⟩ := h; rfl) (fun cdv A outer s H vs Q E hr h => ?_)
  refine ⟨_, 
      (pss_cons (ps_if (PW.pt (pw_and (pt_cmpR op_eq (pv 1) pe_int (nomark _)) (pw_and1 (pt_cmpR op_eq (pe_op op_mod (pv 0) pe_int) pe_int (nomark _))))) 
        (pss_one (ps_ret pe_int)) pss_nil)
      (pss_one (ps_ret (pe_ix ix_tup (pe_glob (by rfl) T.g_DAYS_OF_MONTHS T.r_DAYS_OF_MONTHS) (pe_op op_sub (pv 1) pe_int) (fun _ _ => rfl))))), ?_⟩
  obtain ⟨y, m, rfl, m0, m1, h⟩ := h
  walk_at "rd"
  unfold dom at h
  obtain ⟨n, e, e2, _⟩ := months_get (j := m - 1) (by omega) (by omega)
  by_cases c1 : m = 2
  · rw [if_pos c1]
    by_cases c2 : y % 4 = 0
    · rw [if_pos ⟨c1, c2⟩] at h
      rw [if_pos c2]
      exact h
    · rw [if_neg (fun z => c2 z.2), e] at h
      rw [if_neg c2]
      exact ⟨_, _, _, _, rfl, rfl, T.t_DAYS_OF_MONTHS H, at_of (j := (m - 1).toNat) (by omega) e2, h⟩
  · rw [if_neg (fun z => c1 z.1), e] at h
    rw [if_neg c1]
    exact ⟨_, _, _, _, rfl, rfl, T.t_DAYS_OF_MONTHS H, at_of (j := (m - 1).toNat) (by omega) e2, h⟩

def spFdo : Sp := fun vs H Q _ => ∃ y, vs = [.int y] ∧ -100000 ≤ y ∧ y ≤ 100000 ∧ Q (.int (fdo y)) H
theorem ok_first_day_of (T : Txt K mg) : FnOk P w K mg base CX0 1 T.a_first_day_of T.d_first_day_of ["year"] spFdo := by
  refine T.F_first_day_of.ok sc_first_day_of (fun vs H Q E h => by obtain ⟨_, rfl, _⟩ := h; rfl) (fun cdv A outer s H vs Q E hr h => ?_)
  refine ⟨_, 
      (pss_one (ps_ret (pe_op op_fdivW (pe_op op_add (pe_op op_mulX (pe_glob (by rfl) T.g_DAYS_OF_FOUR_YEARS T.r_DAYS_OF_FOUR_YEARS) (pe_op op_sub (pv 0) (pe_glob (by rfl) T.g_FIRST_YEAR T.r_FIRST_YEAR))) pe_int) pe_int))), ?_⟩
  obtain ⟨y, rfl, y0, y1, h⟩ := h
  walk_at "rd"
  exact ⟨Kv.mulX (a := 64) (b := 64) (by decide) (Kv.bits64 (by omega) (by omega)), h⟩
def spIsDate : Sp := fun vs H Q _ => ∃ y m d, vs = [.int y, .int m, .int d] ∧ (isDate y m d → Q (.bl true) H) ∧ (¬isDate y m d → Q (.bl false) H)
theorem ok_is_date (T : Txt K mg) : FnOk P w K mg base CX0 2 T.a_is_date T.d_is_date ["year", "month", "in_month"] spIsDate := by
  refine T.F_is_date.ok sc_is_date (fun vs H Q E h => by obtain ⟨_, _, _, rfl, _⟩ := h; rfl) (fun cdv A outer s H vs Q E hr h => ?_)
  refine ⟨_, 
      (pss_cons (ps_if (PW.pt (pw_or (pt_not (pt_chain op_le op_le (pe_glob (by rfl) T.g_FIRST_YEAR T.r_FIRST_YEAR) (pv 0) (pe_glob (by rfl) T.g_LAST_YEAR T.r_LAST_YEAR))) (pw_or1 (pt_not (pt_chain op_le op_le pe_int (pv 1) pe_int))))) 
        (pss_one (ps_ret pe_bl)) pss_nil)
      (pss_one (ps_ret (pe_chain op_le op_le pe_int (pv 2) (pe_call (ok_days_of_month T) (hr.mono (by decide : 1 ≤ _)) (by rfl) T.g_days_of_month T.F_days_of_month.kp T.b_days_of_month .nil pass0 (pa_cons (pv 0) (pa_cons (pv 1) pa_nil))))))), ?_⟩
  obtain ⟨y, m, d, rfl, ht, hf⟩ := h
  walk_at "rd"
  unfold isDate at ht hf
  have hf : ¬(2000 ≤ y ∧ y ≤ 2099 ∧ 1 ≤ m ∧ m ≤ 12 ∧ 1 ≤ d) → Q (.bl false) H := fun z => hf (fun q => z ⟨q.1, q.2.1, q.2.2.1, q.2.2.2.1, q.2.2.2.2.1⟩)
  (repeat' split) <;> first
    | exact hf (by omega)
    | skip
  refine ⟨y, m, rfl, by omega, by omega, _, rfl, ?_⟩
  by_cases c : d ≤ dom y m
  · rw [decide_eq_true c]
    exact ht (by omega)
  · rw [decide_eq_false c]
    apply ‹(¬(2000 ≤ y ∧ y ≤ 2099 ∧ 1 ≤ m ∧ m ≤ 12 ∧ 1 ≤ d ∧ d ≤ dom y m)) → Q (.bl false) H›
    omega
def spDayOf (T : Txt K mg) : Sp := fun vs H Q E => ∃ y m d, vs = [.int y, .int m, .int d] ∧ (isDate y m d → ∀ H', Same H H' → Q (.int (dayOf y m d)) H') ∧ (¬isDate y m d → E (.ref (T.exa .badDay)) none H)
theorem ok_day_of (T : Txt K mg) : FnOk P w K mg base (L2.CX P w) 3 T.a_day_of T.d_day_of ["year", "month", "in_month"] (spDayOf T) := by
  refine T.F_day_of.okX sc_day_of (fun vs H Q E h => by obtain ⟨_, _, _, rfl, _⟩ := h; rfl) (fun cdv A outer s H vs Q E hr h => ?_)
  refine ⟨_, 
      (pss_cons (ps_if (pt_not (pt_val (pe_call (ok_is_date T) (hr.mono (by decide : 2 ≤ _)) (by rfl) T.g_is_date T.F_is_date.kp T.b_is_date .nil pass0 (pa_cons (pv 0) (pa_cons (pv 1) (pa_cons (pv 2) pa_nil)))))) 
        (pss_one (ps_raise rfl (takes_of rfl rfl rfl rfl) (pmk_own PySem.F.excBase_ValueError (T.exx .badDay) (T.exg .badDay) (T.exk .badDay) (raises_own (T.exb .badDay) (T.ext .badDay)) (by rfl)))) pss_nil)
      (pss_cons (ps_set (i := 3) sc_day_of.nd rfl (Or.inl rfl) (pe_callB (cr_sum rfl) (by rfl) T.n_sum (by decide +kernel) (pa_cons (pe_lc (own := [("before", 4)]) (g := gName 4) (tt := tYes) rfl sc_day_of.nd (pi_range2 (by rfl) T.n_range (pa_cons pe_int (pa_cons (pv 1) pa_nil))) (blkOk_by (N := ["year", "month", "in_month", "earlier", "before"]) (sc := defScope s_day_of) (by decide +kernel)) (fun _ _ _ _ _ => (pg_name (i := 4) sc_day_of.nd rfl (Or.inl rfl))) (fun _ _ _ _ _ => pts_nil) (fun _ _ _ _ _ => (pe_call (ok_days_of_month T) (hr.mono (by decide : 1 ≤ _)) (by rfl) T.g_days_of_month T.F_days_of_month.kp T.b_days_of_month .nil pass0 (pa_cons (pv 0) (pa_cons (pv 4) pa_nil))))) pa_nil)))
      (pss_one (ps_ret (pe_op op_sub (pe_op op_add (pe_op op_add (pe_call (ok_first_day_of T) (hr.mono (by decide : 1 ≤ _)) (by rfl) T.g_first_day_of T.F_first_day_of.kp T.b_first_day_of .nil pass0 (pa_cons (pv 0) pa_nil)) (pv 3)) (pv 2)) pe_int))))), ?_⟩
  obtain ⟨y, m, d, rfl, hq, he⟩ := h
  walk_at "st"
  refine ⟨y, m, d, rfl, fun c => ⟨_, rfl, ?_⟩, fun c => ⟨_, rfl, ?_⟩⟩
  · rw [if_neg (by decide)]
    have hq := hq c
    obtain ⟨c1, c2, c3, c4, c5, c6⟩ := c
    walk_at "nx"
    refine ⟨by omega, by omega, Kv.lc_pure walk_range ((List.range (m - 1).toNat).map fun (k : Nat) => V.int (dom y ((k : Int) + 1))) (by simp) (Nat.lt_of_le_of_lt (show _ ≤ 12 by omega) (by decide)) (fun _ _ => trivial) (fun i x v H1 H2 U hv _ hY hU => ?_) fun p H1 hp s1 hp1 => ?_⟩
    · obtain ⟨rfl, rfl⟩ := hY
      have hi := (List.getElem?_eq_some_iff.mp hv).1
      simp at hi
      rw [List.getElem?_map, List.getElem?_range (by omega)] at hv
      cases hv
      walk_at "rd"
      refine ⟨y, 1 + (i : Int), rfl, by omega, by omega, ?_⟩
      rw [Int.add_comm 1 (i : Int)]
      exact hU _ (Same.refl _)
    · refine ⟨p, (List.range (m - 1).toNat).map fun (k : Nat) => dom y ((k : Int) + 1), rfl, SqL.of (by rw [hp1, List.map_map]; rfl), ?_⟩
      walk_at "nx"
      refine ⟨y, rfl, by omega, by omega, ?_⟩
      walk_at "rd"
      rw [sdom_sum] at *
      exact hq _ s1
  · rw [if_pos rfl]
    exact he c

/-! ### the date of a day -/
theorem sdom12 (y : Int) : sdom y 12 = fdo (y + 1) - fdo y := by
  have e : sdom y 12 = 337 + dom y 2 := by simp [sdom, dom, months]; omega
  rw [e]
  unfold dom fdo
  have : months.getD ((2 : Int) - 1).toNat 0 = 28 := rfl
  rw [this]
  split
  · omega
  · rename_i c
    have c : y % 4 = 1 ∨ y % 4 = 2 ∨ y % 4 = 3 := by omega
    obtain ⟨k, hk⟩ : ∃ k, y = 4 * k + y % 4 := ⟨y / 4, by omega⟩
    rcases c with c | c | c <;> rw [c] at hk <;> subst hk <;> omega
theorem sdom_step (y : Int) (n : Nat) : sdom y (n + 1) = sdom y n + dom y ((n : Int) + 1) := rfl
theorem sdom_mono {y : Int} {a : Nat} : ∀ b : Nat, a ≤ b → b ≤ 12 → sdom y a ≤ sdom y b
  | 0, h, _ => by rw [Nat.le_zero.mp h]; exact Int.le_refl _
  | b + 1, h, hb => by
    rcases Nat.lt_or_ge a (b + 1) with h2 | h2
    · have ih := sdom_mono (y := y) (a := a) b (by omega) (by omega)
      have d := dom_in (y := y) (m := (b : Int) + 1) (by omega) (by omega)
      rw [sdom_step]
      omega
    · have : a = b + 1 := by omega
      subst this
      exact Int.le_refl _
theorem dayOf_year {y m q : Int} (h : isDate y m q) : fdo y ≤ dayOf y m q ∧ dayOf y m q < fdo (y + 1) := by
  obtain ⟨h1, h2, h3, h4, h5, h6⟩ := h
  have e := sdom12 y
  have a := sdom_mono (y := y) (a := (m - 1).toNat + 1) 12 (by omega) (by omega)
  rw [sdom_step, show (((m - 1).toNat : Nat) : Int) + 1 = m by omega] at a
  have b := (sdom_in y (m - 1).toNat (by omega)).1
  unfold dayOf
  omega
theorem date_inj {y m q y2 m2 q2 : Int} (h : isDate y m q) (h2 : isDate y2 m2 q2) (e : dayOf y m q = dayOf y2 m2 q2) : y = y2 ∧ m = m2 ∧ q = q2 := by
  have a := dayOf_year h
  have b := dayOf_year h2
  have hy : y = y2 := by unfold fdo at a b; omega
  subst hy
  obtain ⟨h1, h2', h3, h4, h5, h6⟩ := h
  obtain ⟨g1, g2, g3, g4, g5, g6⟩ := h2
  unfold dayOf at e
  have hm : m = m2 := by
    rcases Int.lt_trichotomy m m2 with z | z | z
    · have k := sdom_mono (y := y) (a := (m - 1).toNat + 1) (m2 - 1).toNat (by omega) (by omega)
      rw [sdom_step, show (((m - 1).toNat : Nat) : Int) + 1 = m by omega] at k
      omega
    · exact z
    · have k := sdom_mono (y := y) (a := (m2 - 1).toNat + 1) (m - 1).toNat (by omega) (by omega)
      rw [sdom_step, show (((m2 - 1).toNat : Nat) : Int) + 1 = m2 by omega] at k
      omega
  subst hm
  exact ⟨rfl, rfl, by omega⟩
theorem dayOf_in {y m q : Int} (h : isDate y m q) : isD (dayOf y m q) := by
  have a := dayOf_year h
  obtain ⟨h1, h2, _⟩ := h
  unfold fdo at a
  unfold isD
  omega
def spDateOf (T : Txt K mg) : Sp := fun vs H Q E => ∃ d, vs = [.int d] ∧ (isD d → ∀ y m q p H', isDate y m q → dayOf y m q = d → Same H H' → H p = none → H' p = some (.tup [.int y, .int m, .int q]) → Q (.ref p) H') ∧ (¬isD d → E (.ref (T.exa .badDay)) none H)
def invDate (d y : Int) (H : Hp) : L2.St → Hp → Prop := fun σ' H' => ∃ (m l : Int), σ' = [some (.int d), some (.int y), some (.int m), some (.int l)] ∧ H' = H ∧ 1 ≤ m ∧ m ≤ 12 ∧ 0 ≤ l ∧ l = d - fdo y - sdom y (m - 1).toNat
def msDate : L2.St → Hp → Nat := fun σ' _ => match σ'[2]? with
  | some (some (V.int m)) => (12 - m).toNat
  | _ => 0
theorem ok_date_of (T : Txt K mg) : FnOk P w K mg base (L2.CX P w) 3 T.a_date_of T.d_date_of ["day"] (spDateOf T) := by
  refine T.F_date_of.okX sc_date_of (fun vs H Q E h => by obtain ⟨_, rfl, _⟩ := h; rfl) (fun cdv A outer s H vs Q E hr h => ?_)
  refine ⟨_, 
      (pss_cons (ps_expr (pe_call (ok_check_day T) (hr.mono (by decide : 2 ≤ _)) (by rfl) T.g_check_day T.F_check_day.kp T.b_check_day .nil (passes_call (takes_of rfl rfl rfl rfl) (fun _ _ _ _ h => h)) (pa_cons (pv 0) pa_nil)))
      (pss_cons (ps_set (i := 1) sc_date_of.nd rfl (Or.inl rfl) (pe_op op_add (pe_glob (by rfl) T.g_FIRST_YEAR T.r_FIRST_YEAR) (pe_op op_fdivW (pe_op op_mulX pe_int (pv 0)) (pe_glob (by rfl) T.g_DAYS_OF_FOUR_YEARS T.r_DAYS_OF_FOUR_YEARS))))
      (pss_cons (ps_set (i := 2) sc_date_of.nd rfl (Or.inl rfl) pe_int)
      (pss_cons (ps_set (i := 3) sc_date_of.nd rfl (Or.inl rfl) (pe_op op_sub (pv 0) (pe_call (ok_first_day_of T) (hr.mono (by decide : 1 ≤ _)) (by rfl) T.g_first_day_of T.F_first_day_of.kp T.b_first_day_of .nil pass0 (pa_cons (pv 1) pa_nil))))
      (pss_cons (ps_while (passes_of rfl) (pt_cmpR op_ge (pv 3) (pe_call (ok_days_of_month T) (hr.mono (by decide : 1 ≤ _)) (by rfl) T.g_days_of_month T.F_days_of_month.kp T.b_days_of_month .nil pass0 (pa_cons (pv 1) (pa_cons (pv 2) pa_nil))) (nomark _)) 
        (pss_cons (ps_aug (i := 3) sc_date_of.nd rfl (Or.inl rfl) (pe_call (ok_days_of_month T) (hr.mono (by decide : 1 ≤ _)) (by rfl) T.g_days_of_month T.F_days_of_month.kp T.b_days_of_month .nil pass0 (pa_cons (pv 1) (pa_cons (pv 2) pa_nil))) ip_sub)
        (pss_one (ps_aug (i := 2) sc_date_of.nd rfl (Or.inl rfl) pe_int ip_add))))
      (pss_one (ps_ret (pe_tup (pa_cons (pv 1) (pa_cons (pv 2) (pa_cons (pe_op op_add (pv 3) pe_int) pa_nil))))))))))), ?_⟩
  obtain ⟨d, rfl, hq, he⟩ := h
  walk_at "st"
  refine ⟨d, rfl, fun c => ?_, fun c => he c⟩
  have hq := hq c
  obtain ⟨d0, d1⟩ := c
  walk_at "nx"
  refine ⟨Kv.mulX (a := 64) (b := 64) (by decide) (Kv.bits64 (by omega) (by omega)), ⟨by decide, by decide⟩, ?_⟩
  walk_at "nx"
  walk_at "nx"
  have hf : fdo (2000 + 4 * d / 1461) ≤ d ∧ d < fdo (2000 + 4 * d / 1461 + 1) := by
    unfold fdo
    omega
  have h12 := sdom12 (2000 + 4 * d / 1461)
  have hy : 2000 ≤ 2000 + 4 * d / 1461 ∧ 2000 + 4 * d / 1461 ≤ 2099 := by omega
  generalize 2000 + 4 * d / 1461 = y at *
  refine ⟨y, rfl, by omega, by omega, ?_⟩
  walk_at "rd"
  walk_at "nx"
  refine Kv.while_cps (invDate d y H) msDate ⟨_, _, rfl, rfl, by omega, by omega, by omega, by simp [sdom]⟩ ?_
  rintro σ' H' ⟨m, l, rfl, rfl, m0, m1, l0, hl⟩ U2 ht hf2
  walk_at "rd"
  refine ⟨y, m, rfl, m0, m1, _, rfl, ?_⟩
  have sm := sdom_step y (m - 1).toNat
  rw [show (((m - 1).toNat : Nat) : Int) + 1 = m by omega] at sm
  by_cases c : dom y m ≤ l
  · rw [decide_eq_true c]
    refine ht _ ?_
    walk_at "rd"
    have hm : m < 12 := by
      rcases Int.lt_or_le m 12 with z | z
      · exact z
      · have : m = 12 := by omega
        subst this
        have : sdom y ((12 : Int) - 1).toNat + dom y 12 = sdom y 12 := rfl
        omega
    refine ⟨y, m, rfl, m0, m1, ?_⟩
    walk_at "rd"
    refine ⟨⟨m + 1, l - dom y m, rfl, rfl, by omega, by omega, by omega, ?_⟩, ?_⟩
    · rw [show (m + 1 - 1).toNat = (m - 1).toNat + 1 by omega, sm]
      omega
    · show (12 - (m + 1)).toNat < (12 - m).toNat
      omega
  · rw [decide_eq_false c]
    refine hf2 _ ?_
    walk_at "nx"
    intro p hp
    refine hq y m _ p _ ⟨hy.1, hy.2, m0, m1, by omega, by omega⟩ ?_ (Kv.same_upd hp) hp upd_same
    unfold dayOf
    omega

def spWeekday (T : Txt K mg) : Sp := fun vs H Q E => ∃ d, vs = [.int d] ∧ (isD d → Q (.int ((d + 5) % 7)) H) ∧ (¬isD d → E (.ref (T.exa .badDay)) none H)
theorem ok_weekday (T : Txt K mg) : FnOk P w K mg base (L2.CX P w) 3 T.a_weekday T.d_weekday ["day"] (spWeekday T) := by
  refine T.F_weekday.okX sc_weekday (fun vs H Q E h => by obtain ⟨_, rfl, _⟩ := h; rfl) (fun cdv A outer s H vs Q E hr h => ?_)
  refine ⟨_, 
      (pss_cons (ps_expr (pe_call (ok_check_day T) (hr.mono (by decide : 2 ≤ _)) (by rfl) T.g_check_day T.F_check_day.kp T.b_check_day .nil (passes_call (takes_of rfl rfl rfl rfl) (fun _ _ _ _ h => h)) (pa_cons (pv 0) pa_nil)))
      (pss_one (ps_ret (pe_op op_mod (pe_op op_add (pv 0) (pe_glob (by rfl) T.g_SATURDAY T.r_SATURDAY)) pe_int)))), ?_⟩
  obtain ⟨d, rfl, hq, he⟩ := h
  walk_at "rd"
  refine ⟨d, rfl, fun c => ?_, fun c => he c⟩
  walk_at "rd"
  exact hq c

def spIsInteger : Sp := fun vs H Q _ => ∃ z, vs = [.int z] ∧ Q (.bl true) H
theorem ok_L_is_integer (T : Txt K mg) : FnOk P w K mg base CX0 1 T.a__law_is_integer T.d__law_is_integer ["told"] spIsInteger := by
  refine T.F__law_is_integer.ok sc_L_is_integer (fun vs H Q E h => by obtain ⟨_, rfl, _⟩ := h; rfl) (fun cdv A outer s H vs Q E hr h => ?_)
  refine ⟨_, 
      (pss_one (ps_ret (pe_and (pe_callB call_isi (by rfl) T.n_isinstance (by decide +kernel) (pa_cons (pv 0) (pa_cons (pe_bltn (v := .ty "int") (by rfl) T.n_int (by decide +kernel) rfl) pa_nil))) (pe_one (pe_not (pe_callB call_isi (by rfl) T.n_isinstance (by decide +kernel) (pa_cons (pv 0) (pa_cons (pe_bltn (v := .ty "bool") (by rfl) T.n_bool (by decide +kernel) rfl) pa_nil)))))))), ?_⟩
  obtain ⟨z, rfl, h⟩ := h
  walk_at "rd"
  refine Kv.isi_int (b := true) (by decide +kernel) ?_
  walk_at "rd"
  refine Kv.isi_int (b := false) (by decide +kernel) ?_
  walk_at "rd"
  exact h

def spRefs : Sp := fun vs H Q _ => ∃ d, vs = [.int d] ∧ ¬isD d ∧ ∀ p a b H', Same H H' → H' p = some (.lst [.ref a, .ref b]) → H' a = some (.lst [.str "BadDay"]) → H' b = some (.lst [.str "BadDay"]) → Q (.ref p) H'
theorem ok_L_refusals (T : Txt K mg) : FnOk P w K mg base CX0 4 T.a__law_refusals T.d__law_refusals ["day"] spRefs := by
  refine T.F__law_refusals.ok sc_L_refusals (fun vs H Q E h => by obtain ⟨_, rfl, _⟩ := h; rfl) (fun cdv A outer s H vs Q E hr h => ?_)
  refine ⟨_, 
      (pss_cons (ps_set (i := 1) sc_L_refusals.nd rfl (Or.inl rfl) (pe_lst pa_nil))
      (pss_cons (ps_try_as (i := 2) rfl rfl sc_L_refusals.nd rfl rfl ⟨rfl, by decide, .inl T.g_BankError⟩ takes0 (fun W pn xe tk hpo => by exact (
          (pss_one (ps_expr (pe_callS (ok_date_of T) (hr.mono (by decide : 3 ≤ _)) (by rfl) T.g_date_of T.F_date_of.kp T.b_date_of (fun σ => passAt tk σ) (pa_cons (pv 0) pa_nil)))))) (fun a oe cls d pn hz hf => by exact (
          (pss_one (ps_expr (Kv.pe_bmK K PySem.F.plainAttrs_list PySem.F.slot_list_append PySem.F.type_list_append mt_append (pv 1) (pa_cons (Kv.pe_kinds (ok_L_kinds T) hz hf List.mem_cons_self ⟨(hr.mono (by decide : 1 ≤ _)).dp, (hr.mono (by decide : 1 ≤ _)).un⟩ (by rfl) T.g__law_kinds T.F__law_kinds.kp T.b__law_kinds (pa_cons (pv 2) pa_nil)) pa_nil)))))))
      (pss_cons (ps_try_as (i := 2) rfl rfl sc_L_refusals.nd rfl rfl ⟨rfl, by decide, .inl T.g_BankError⟩ takes0 (fun W pn xe tk hpo => by exact (
          (pss_one (ps_expr (pe_callS (ok_weekday T) (hr.mono (by decide : 3 ≤ _)) (by rfl) T.g_weekday T.F_weekday.kp T.b_weekday (fun σ => passAt tk σ) (pa_cons (pv 0) pa_nil)))))) (fun a oe cls d pn hz hf => by exact (
          (pss_one (ps_expr (Kv.pe_bmK K PySem.F.plainAttrs_list PySem.F.slot_list_append PySem.F.type_list_append mt_append (pv 1) (pa_cons (Kv.pe_kinds (ok_L_kinds T) hz hf List.mem_cons_self ⟨(hr.mono (by decide : 1 ≤ _)).dp, (hr.mono (by decide : 1 ≤ _)).un⟩ (by rfl) T.g__law_kinds T.F__law_kinds.kp T.b__law_kinds (pa_cons (pv 2) pa_nil)) pa_nil)))))))
      (pss_one (ps_ret (pv 1)))))), ?_⟩
  obtain ⟨d, rfl, hd, hq⟩ := h
  walk_at "st"
  intro l hl
  walk_at "nx"
  refine ⟨d, rfl, fun c => absurd c hd, fun _ => ⟨true, T.exm _, fun _ a ha => ?_, fun z => nomatch z⟩⟩
  walk_at "rd"
  refine ⟨.inl ⟨rfl, _, SqL.of upd_same⟩, _, rfl, fun p1 hp1 => ⟨_, Kv.same_upd hp1 _ _ upd_same, by show 0 < sizeLine; decide, ?_⟩⟩
  have n1 := Kv.ne_fresh hp1
  generalize hH2 : upd (upd (upd H l (HO.lst [])) p1 (HO.lst [V.str Kv.Er.badDay.nm])) l (HO.lst ([] ++ [V.ref p1])) = H2
  have e1 : H2 p1 = some (.lst [.str "BadDay"]) := by rw [← hH2, upd_ne n1, upd_same]; rfl
  have e2 : H2 l = some (.lst [.ref p1]) := by rw [← hH2, upd_same]; rfl
  have e3 : Same H H2 := by rw [← hH2]; exact Kv.same_mut hl ((Kv.same_upd hl).trans (Kv.same_upd hp1))
  clear hH2
  walk_at "nx"
  refine ⟨d, rfl, fun c => absurd c hd, fun _ => ⟨true, T.exm _, fun _ a ha => ?_, fun z => nomatch z⟩⟩
  walk_at "rd"
  refine ⟨.inl ⟨rfl, _, SqL.of e2⟩, _, rfl, fun p2 hp2 => ⟨_, Kv.same_upd hp2 _ _ e2, by show 1 < sizeLine; decide, ?_⟩⟩
  have n2 : p2 ≠ l := fun z => by rw [z, e2] at hp2; cases hp2
  walk_at "nx"
  refine hq l p1 p2 _ (Kv.same_mut hl (e3.trans (Kv.same_upd hp2))) upd_same ?_ ?_
  · rw [upd_ne n1]
    exact Kv.same_upd hp2 _ _ e1
  · rw [upd_ne n2, upd_same]
    rfl
def After (y m q y2 m2 q2 : Int) : Prop := (y = 2099 ∧ m = 12 ∧ q = 31) ∨ (isDate y2 m2 q2 ∧ dayOf y2 m2 q2 = dayOf y m q + 1)
def spAfter (K : PySem.W.Frag) : Sp := fun vs H Q _ => ∃ (a : Addr) (y m q : Int), vs = [.ref a] ∧ SqT K H a [.int y, .int m, .int q] ∧ isDate y m q ∧ ∀ p y2 m2 q2 H', After y m q y2 m2 q2 → Same H H' → H' p = some (.tup [.int y2, .int m2, .int q2]) → Q (.ref p) H'
theorem ok_L_after (T : Txt K mg) : FnOk P w K mg base CX0 1 T.a__law_after T.d__law_after ["date"] (spAfter K) := by
  refine T.F__law_after.ok sc_L_after (fun vs H Q E h => by obtain ⟨_, _, _, _, rfl, _⟩ := h; rfl) (fun cdv A outer s H vs Q E hr h => ?_)
  refine ⟨_, 
      (pss_cons (ps_asg (pv 0) (pg_tup (n := 3) (by rfl) (pgs_cons (pg_name (i := 1) sc_L_after.nd rfl (Or.inl rfl)) (pgs_cons (pg_name (i := 2) sc_L_after.nd rfl (Or.inl rfl)) (pgs_cons (pg_name (i := 3) sc_L_after.nd rfl (Or.inl rfl)) pgs_nil)))))
      (pss_cons (ps_set (i := 4) sc_L_after.nd rfl (Or.inl rfl) (pe_ix ix_list (pe_lst (pa_cons pe_int (pa_cons pe_int (pa_cons pe_int (pa_cons pe_int (pa_cons pe_int (pa_cons pe_int (pa_cons pe_int (pa_cons pe_int (pa_cons pe_int (pa_cons pe_int (pa_cons pe_int (pa_cons pe_int pa_nil))))))))))))) (pe_op op_sub (pv 2) pe_int) (fun _ _ => rfl)))
      (pss_cons (ps_if (PW.pt (pw_and (pt_cmpR op_eq (pv 2) pe_int (nomark _)) (pw_and1 (pt_cmpR op_eq (pe_op op_mod (pe_callTy call_int1 (by rfl) T.n_int (by decide +kernel) (pa_cons (pv 1) pa_nil)) pe_int) pe_int (nomark _))))) 
        (pss_one (ps_set (i := 4) sc_L_after.nd rfl (Or.inl rfl) pe_int)) pss_nil)
      (pss_cons (ps_if (pt_cmpR op_lt (pv 3) (pv 4) (nomark _)) 
        (pss_one (ps_ret (pe_tup (pa_cons (pv 1) (pa_cons (pv 2) (pa_cons (pe_op op_add (pv 3) pe_int) pa_nil)))))) pss_nil)
      (pss_cons (ps_if (pt_cmpR op_lt (pv 2) pe_int (nomark _)) 
        (pss_one (ps_ret (pe_tup (pa_cons (pv 1) (pa_cons (pe_op op_add (pv 2) pe_int) (pa_cons pe_int pa_nil)))))) pss_nil)
      (pss_one (ps_ret (pe_tup (pa_cons (pe_op op_add (pv 1) pe_int) (pa_cons pe_int (pa_cons pe_int pa_nil))))))))))), ?_⟩
  obtain ⟨a, y, m, q, rfl, hT, hd, hq⟩ := h
  walk_at "st"
  refine Kv.gtupN3 hT ?_
  walk_at "nx"
  intro l hl
  obtain ⟨h1, h2, h3, h4, h5, h6⟩ := hd
  obtain ⟨n, e, e2, n0, n1⟩ := months_get (j := m - 1) (by omega) (by omega)
  refine Kv.ix_at (SqL.of upd_same) (by omega) e2 ?_
  have s1 := Kv.same_upd (o := .lst [.int 31, .int 28, .int 31, .int 30, .int 31, .int 30, .int 31, .int 31, .int 30, .int 31, .int 30, .int 31]) hl
  generalize upd H l (HO.lst [.int 31, .int 28, .int 31, .int 30, .int 31, .int 30, .int 31, .int 31, .int 30, .int 31, .int 30, .int 31]) = H1 at s1
  subst_vars
  refine Kv.seq_cut (fun σ' H' => σ' = [some (.ref a), some (.int y), some (.int m), some (.int q), some (.int (dom y m))] ∧ H' = H1) (fun U hU => ?_) ?_
  · walk_at "rd"
    (repeat' split) <;> refine hU _ _ ⟨?_, rfl⟩ <;> unfold dom
    · rw [if_pos ⟨by assumption, by assumption⟩]
    · rw [if_neg (by omega)]
    · rw [if_neg (by omega)]
  rintro σ' H' ⟨rfl, rfl⟩
  have sm := sdom_step y (m - 1).toNat
  rw [show (((m - 1).toNat : Nat) : Int) + 1 = m by omega] at sm
  walk_at "st"
  split
  · intro t ht
    exact hq t y m (q + 1) _ (.inr ⟨⟨h1, h2, h3, h4, by omega, by omega⟩, by unfold dayOf; omega⟩) (s1.trans (Kv.same_upd ht)) upd_same
  walk_at "nx"
  split
  · intro t ht
    refine hq t y (m + 1) 1 _ (.inr ⟨⟨h1, h2, by omega, by omega, by omega, by have := dom_in (y := y) (m := m + 1) (by omega) (by omega); omega⟩, ?_⟩) (s1.trans (Kv.same_upd ht)) upd_same
    unfold dayOf
    rw [show (m + 1 - 1).toNat = (m - 1).toNat + 1 by omega]
    omega
  walk_at "nx"
  intro t ht
  have hm : m = 12 := by omega
  subst hm
  have s12 := sdom12 y
  have e12 : dom y 12 = 31 := rfl
  have e11 : sdom y ((12 : Int) - 1).toNat + dom y 12 = sdom y 12 := rfl
  refine hq t (y + 1) 1 1 _ ?_ (s1.trans (Kv.same_upd ht)) upd_same
  rcases Int.lt_or_le y 2099 with z | z
  · refine .inr ⟨⟨by omega, by omega, by omega, by omega, by omega, by have := dom_in (y := y + 1) (m := 1) (by omega) (by omega); omega⟩, ?_⟩
    unfold dayOf
    have : sdom (y + 1) ((1 : Int) - 1).toNat = 0 := rfl
    omega
  · exact .inl ⟨by omega, rfl, by omega⟩
def spKnown : Sp := fun vs H Q _ => ∃ d, vs = [.int d] ∧ isD d ∧ ∀ H', Same H H' → Q (.bl true) H'
theorem ok_L_known (T : Txt K mg) : FnOk P w K mg base CX0 4 T.a__law_known T.d__law_known ["day"] spKnown := by
  refine T.F__law_known.ok sc_L_known (fun vs H Q E h => by obtain ⟨_, rfl, _⟩ := h; rfl) (fun cdv A outer s H vs Q E hr h => ?_)
  refine ⟨_, 
      (pss_cons (ps_set (i := 1) sc_L_known.nd rfl (Or.inl rfl) (pe_call (ok_date_of T) (hr.mono (by decide : 3 ≤ _)) (by rfl) T.g_date_of T.F_date_of.kp T.b_date_of .nil passL (pa_cons (pv 0) pa_nil)))
      (pss_cons (ps_if (PW.pt (pw_or (pt_not (pt_val (pe_callB call_isi (by rfl) T.n_isinstance (by decide +kernel) (pa_cons (pv 1) (pa_cons (pe_bltn (v := .ty "tuple") (by rfl) T.n_tuple (by decide +kernel) rfl) pa_nil))))) (pw_or1 (pt_cmpR op_ne (pe_callB call_len_seq (by rfl) T.n_len PySem.boot_len (pa_cons (pv 1) pa_nil)) pe_int (nomark _))))) 
        (pss_one (ps_ret pe_bl)) pss_nil)
      (pss_cons (ps_for PassesOwn.never rfl (pi_tup (pv 1)) (pg_name (i := 2) sc_L_known.nd rfl (Or.inl rfl)) 
        (pss_one (ps_if (pt_not (pt_val (pe_call (ok_L_is_integer T) (hr.mono (by decide : 1 ≤ _)) (by rfl) T.g__law_is_integer T.F__law_is_integer.kp T.b__law_is_integer .nil pass0 (pa_cons (pv 2) pa_nil)))) 
          (pss_one (ps_ret pe_bl)) pss_nil)))
      (pss_cons (ps_if (PW.pt (pw_or (pt_not (pt_cmpR op_le pe_int (pe_ix ix_tup (pv 1) pe_int (fun _ _ => rfl)) (nomark _))) (pw_or (pt_not (pt_cmpR op_le (pe_ix ix_tup (pv 1) pe_int (fun _ _ => rfl)) pe_int (nomark _))) (pw_or (pt_not (pt_cmpR op_le pe_int (pe_ix ix_tup (pv 1) pe_int (fun _ _ => rfl)) (nomark _))) (pw_or1 (pt_not (pt_cmpR op_le (pe_ix ix_tup (pv 1) pe_int (fun _ _ => rfl)) pe_int (nomark _)))))))) 
        (pss_one (ps_ret pe_bl)) pss_nil)
      (pss_cons (ps_set (i := 3) sc_L_known.nd rfl (Or.inl rfl) (pe_call (ok_day_of T) (hr.mono (by decide : 3 ≤ _)) (by rfl) T.g_day_of T.F_day_of.kp T.b_day_of .nil passL (pa_cons (pe_ix ix_tup (pv 1) pe_int (fun _ _ => rfl)) (pa_cons (pe_ix ix_tup (pv 1) pe_int (fun _ _ => rfl)) (pa_cons (pe_ix ix_tup (pv 1) pe_int (fun _ _ => rfl)) pa_nil)))))
      (pss_cons (ps_set (i := 4) sc_L_known.nd rfl (Or.inl rfl) (pe_call (ok_weekday T) (hr.mono (by decide : 3 ≤ _)) (by rfl) T.g_weekday T.F_weekday.kp T.b_weekday .nil passL (pa_cons (pv 0) pa_nil)))
      (pss_one (ps_ret (pe_and (pe_call (ok_L_is_integer T) (hr.mono (by decide : 1 ≤ _)) (by rfl) T.g__law_is_integer T.F__law_is_integer.kp T.b__law_is_integer .nil pass0 (pa_cons (pv 3) pa_nil)) (pe_and (pe_cmpR op_eq (pv 3) (pv 0) (nomark _)) (pe_and (pe_call (ok_L_is_integer T) (hr.mono (by decide : 1 ≤ _)) (by rfl) T.g__law_is_integer T.F__law_is_integer.kp T.b__law_is_integer .nil pass0 (pa_cons (pv 4) pa_nil)) (pe_and (pe_cmpR op_le pe_int (pv 4) (nomark _)) (pe_one (pe_cmpR op_le (pv 4) pe_int (nomark _))))))))))))))), ?_⟩
  obtain ⟨d, rfl, hd, hq⟩ := h
  walk_at "st"
  refine ⟨d, rfl, fun _ y m q p H1 hdt he s1 hp hp1 => ?_, fun z => absurd hd z⟩
  walk_at "nx"
  refine Kv.isi_tup hp1 (b := true) (by decide +kernel) ?_
  walk_at "rd"
  refine ⟨_, .inr (SqT.of hp1), ?_⟩
  walk_at "rd"
  walk_at "nx"
  refine ⟨⟨_, SqT.of hp1⟩, Kv.for_tp [.int y, .int m, .int q] (fun _ σ' H' => ∃ v, σ' = [some (.int (dayOf y m q)), some (.ref p), v, none, none] ∧ H' = H1) ⟨_, rfl, rfl⟩ ?_ ?_ ?_⟩
  · rintro i σ' H' ⟨_, rfl, rfl⟩
    exact SqT.of hp1
  · rintro i x σ' H' hx ⟨_, rfl, rfl⟩
    have hx2 : ∃ k, x = .int k := by
      have hi := (List.getElem?_eq_some_iff.mp hx).1
      rcases (by simpa using hi : i < 3) with hi
      rcases (by omega : i = 0 ∨ i = 1 ∨ i = 2) with e | e | e <;> subst e <;> cases hx <;> exact ⟨_, rfl⟩
    obtain ⟨k, rfl⟩ := hx2
    walk_at "rd"
    exact ⟨k, rfl, _, rfl, by rw [if_neg (by decide)]⟩
  rintro σ' H' ⟨_, rfl, rfl⟩
  have hd2 := hdt
  obtain ⟨h1, h2, h3, h4, h5, h6⟩ := hd2
  have ix : ∀ (k : Int) (v : V) (Q2 : VK), ([.int y, .int m, .int q] : List V)[k.toNat]? = some v → 0 ≤ k → Q2 v H' → rIxT K (.ref p) (.int k) H' Q2 := fun k v Q2 e k0 q => ⟨p, _, k, v, rfl, rfl, SqT.of hp1, at_of (j := k.toNat) (by omega) e, q⟩
  walk_at "nx"
  refine ix 0 _ _ rfl (by decide) ⟨_, rfl, ?_⟩
  rw [if_neg (by omega)]
  refine ix 0 _ _ rfl (by decide) ⟨_, rfl, ?_⟩
  rw [if_neg (by omega)]
  refine ix 1 _ _ rfl (by decide) ⟨_, rfl, ?_⟩
  rw [if_neg (by omega)]
  refine ix 1 _ _ rfl (by decide) ⟨_, rfl, ?_⟩
  rw [if_neg (by omega)]
  walk_at "nx"
  refine ix 0 _ _ rfl (by decide) ?_
  refine ix 1 _ _ rfl (by decide) ?_
  refine ix 2 _ _ rfl (by decide) ?_
  walk_at "rd"
  refine ⟨y, m, q, rfl, fun _ H2 s2 => ?_, fun z => absurd hdt z⟩
  walk_at "nx"
  refine ⟨_, rfl, fun _ => ?_, fun z => absurd hd z⟩
  walk_at "nx"
  refine ⟨_, rfl, _, rfl, ?_⟩
  rw [if_pos rfl]
  refine ⟨_, rfl, _, rfl, ?_⟩
  rw [if_pos rfl, if_pos (by omega), decide_eq_true (by omega)]
  exact hq _ (s1.trans s2)
def spStep : Sp := fun vs H Q _ => ∃ d, vs = [.int d] ∧ isD d ∧ ∀ H', Same H H' → Q (.bl true) H'
theorem ok_L_step (T : Txt K mg) : FnOk P w K mg base CX0 5 T.a__law_step T.d__law_step ["day"] spStep := by
  refine T.F__law_step.ok sc_L_step (fun vs H Q E h => by obtain ⟨_, rfl, _⟩ := h; rfl) (fun cdv A outer s H vs Q E hr h => ?_)
  refine ⟨_, 
      (pss_cons (ps_if (PW.pt (pw_or (pt_not (pt_val (pe_call (ok_L_known T) (hr.mono (by decide : 4 ≤ _)) (by rfl) T.g__law_known T.F__law_known.kp T.b__law_known .nil pass0 (pa_cons (pv 0) pa_nil)))) (pw_or1 (pt_cmpR op_notBl (pe_call (ok_is_day T) (hr.mono (by decide : 1 ≤ _)) (by rfl) T.g_is_day T.F_is_day.kp T.b_is_day .nil pass0 (pa_cons (pv 0) pa_nil)) pe_bl (nomark _))))) 
        (pss_one (ps_ret pe_bl)) pss_nil)
      (pss_cons (ps_if (pt_cmpR op_eq (pv 0) pe_int (nomark _)) 
        (pss_one (ps_ret (pe_cmpR (op_eqD hr.units) (pe_call (ok_date_of T) (hr.mono (by decide : 3 ≤ _)) (by rfl) T.g_date_of T.F_date_of.kp T.b_date_of .nil passL (pa_cons (pv 0) pa_nil)) (pe_tup (pa_cons pe_int (pa_cons pe_int (pa_cons pe_int pa_nil)))) (nomark _)))) pss_nil)
      (pss_cons (ps_if (pt_not (pt_val (pe_call (ok_L_known T) (hr.mono (by decide : 4 ≤ _)) (by rfl) T.g__law_known T.F__law_known.kp T.b__law_known .nil pass0 (pa_cons (pe_op op_add (pv 0) pe_int) pa_nil)))) 
        (pss_one (ps_ret pe_bl)) pss_nil)
      (pss_cons (ps_if (pt_cmpR (op_neD hr.units) (pe_call (ok_date_of T) (hr.mono (by decide : 3 ≤ _)) (by rfl) T.g_date_of T.F_date_of.kp T.b_date_of .nil passL (pa_cons (pe_op op_add (pv 0) pe_int) pa_nil)) (pe_call (ok_L_after T) (hr.mono (by decide : 1 ≤ _)) (by rfl) T.g__law_after T.F__law_after.kp T.b__law_after .nil pass0 (pa_cons (pe_call (ok_date_of T) (hr.mono (by decide : 3 ≤ _)) (by rfl) T.g_date_of T.F_date_of.kp T.b_date_of .nil passL (pa_cons (pv 0) pa_nil)) pa_nil)) (nomark _)) 
        (pss_one (ps_ret pe_bl)) pss_nil)
      (pss_one (ps_ret (pe_cmpR op_eq (pe_call (ok_weekday T) (hr.mono (by decide : 3 ≤ _)) (by rfl) T.g_weekday T.F_weekday.kp T.b_weekday .nil passL (pa_cons (pe_op op_add (pv 0) pe_int) pa_nil)) (pe_op op_mod (pe_op op_add (pe_callTy call_int1 (by rfl) T.n_int (by decide +kernel) (pa_cons (pe_call (ok_weekday T) (hr.mono (by decide : 3 ≤ _)) (by rfl) T.g_weekday T.F_weekday.kp T.b_weekday .nil passL (pa_cons (pv 0) pa_nil)) pa_nil)) pe_int) pe_int) (nomark _)))))))), ?_⟩
  obtain ⟨d, rfl, hd, hq⟩ := h
  walk_at "st"
  refine ⟨d, rfl, hd, fun H1 s1 => ⟨_, rfl, ?_⟩⟩
  rw [if_neg (by decide)]
  refine ⟨d, rfl, fun _ => ⟨_, rfl, ?_⟩, fun z => absurd hd z⟩
  rw [if_neg (by decide)]
  walk_at "nx"
  split
  · rename_i e
    refine ⟨d, rfl, fun _ y m q p H2 hdt he s2 hp hp1 => ?_, fun z => absurd hd z⟩
    intro p2 hp2
    obtain ⟨e1, e2, e3⟩ := date_inj hdt (y2 := 2099) (m2 := 12) (q2 := 31) (by decide +kernel) (by rw [he, e]; decide +kernel)
    subst e1 e2 e3
    refine Kv.eq_same (Kv.dp_3 (SqT.of (Kv.same_upd hp2 _ _ hp1))) (Kv.dp_3 (SqT.of upd_same)) (by walk_at "shp") (by walk_at "eqv") (hq _ (s1.trans (s2.trans (Kv.same_upd hp2))))
  rename_i e
  have hd2 : isD (d + 1) := by unfold isD at hd ⊢; omega
  walk_at "nx"
  refine ⟨d + 1, rfl, hd2, fun H2 s2 => ⟨_, rfl, ?_⟩⟩
  rw [if_neg (by decide)]
  walk_at "nx"
  refine ⟨d + 1, rfl, fun _ y m q p H3 hdt he s3 hp hp1 => ?_, fun z => absurd hd2 z⟩
  refine ⟨d, rfl, fun _ y2 m2 q2 p2 H4 hdt2 he2 s4 hp2 hp3 => ?_, fun z => absurd hd z⟩
  refine ⟨p2, y2, m2, q2, rfl, SqT.of hp3, hdt2, fun p4 y4 m4 q4 H5 ha s5 hp4 => ?_⟩
  have hz : isDate y4 m4 q4 ∧ dayOf y4 m4 q4 = dayOf y2 m2 q2 + 1 := by
    rcases ha with ⟨a1, a2, a3⟩ | ha
    · subst a1 a2 a3
      have : dayOf 2099 12 31 = 36524 := by decide +kernel
      omega
    · exact ha
  obtain ⟨e1, e2, e3⟩ := date_inj hdt hz.1 (by omega)
  subst e1 e2 e3
  refine Kv.ne_same (Kv.dp_3 (SqT.of (s5 _ _ (s4 _ _ hp1)))) (Kv.dp_3 (SqT.of hp4)) (by walk_at "shp") (by walk_at "eqv") ?_
  walk_at "nx"
  refine ⟨_, rfl, fun _ => ?_, fun z => absurd hd2 z⟩
  refine ⟨_, rfl, fun _ => ?_, fun z => absurd hd z⟩
  walk_at "rd"
  rw [decide_eq_true (by omega)]
  exact hq _ (s1.trans (s2.trans (s3.trans (s4.trans s5))))
def midDay (a : Addr) (z : Int) (nl : Addr) (H1 : Hp) : L2.St → Hp → Prop := fun σ' H' => ∃ (d : Int) (v4 v5 v6 : Option V), σ' = [some (.ref a), some (.int z), some (.ref nl), some (.int d), v4, v5, v6] ∧ H' = H1 ∧ isD d
def invOut (a : Addr) (z : Int) (nl : Addr) (d : Int) (p : Addr) (n : Int) (H1 : Hp) : Nat → L2.St → Hp → Prop := fun _ σ' H' => ∃ (v4 v5 v6 : Option V), σ' = [some (.ref a), some (.int z), some (.ref nl), some (.int d), v4, v5, v6] ∧ Same H1 H'
def invLaw (a : Addr) (H1 : Hp) : L2.St → Hp → Prop := fun σ' H' => ∃ v1 v2 v3 v4 v5 v6 : Option V, σ' = [some (.ref a), v1, v2, v3, v4, v5, v6] ∧ Same H1 H'
theorem ok_law (T : Txt K mg) : FnOk P w K mg base CX0 6 T.a_law T.d_law ["script"] (Kv.spLaw K) := by
  refine T.F_law.ok sc_law (fun vs H Q E h => ?_) (fun cdv A outer s H vs Q E hr h => ?_)
  · obtain ⟨a, ns, rfl, _⟩ := h
    rfl
  refine ⟨_, 
      (pss_cons (ps_if (PW.pt (pw_or (pt_cmpR op_ne (pe_glob (by rfl) T.g_LAST_DAY T.r_LAST_DAY) pe_int (nomark _)) (pw_or (pt_cmpR (op_neD hr.units) (pe_call (ok_date_of T) (hr.mono (by decide : 3 ≤ _)) (by rfl) T.g_date_of T.F_date_of.kp T.b_date_of .nil passL (pa_cons pe_int pa_nil)) (pe_tup (pa_cons pe_int (pa_cons pe_int (pa_cons pe_int pa_nil)))) (nomark _)) (pw_or (pt_cmpR op_ne (pe_call (ok_weekday T) (hr.mono (by decide : 3 ≤ _)) (by rfl) T.g_weekday T.F_weekday.kp T.b_weekday .nil passL (pa_cons pe_int pa_nil)) pe_int (nomark _)) (pw_or1 (pt_not (pt_val (pe_call (ok_L_step T) (hr.mono (by decide : 5 ≤ _)) (by rfl) T.g__law_step T.F__law_step.kp T.b__law_step .nil pass0 (pa_cons pe_int pa_nil))))))))) 
        (pss_one (ps_ret pe_bl)) pss_nil)
      (pss_cons (ps_for PassesOwn.never rfl (pi_list (pe_op Kv.op_catS (pe_lst (pa_cons pe_int pa_nil)) (pv 0))) (pg_name (i := 1) sc_law.nd rfl (Or.inl rfl)) 
        (pss_cons (ps_set (i := 2) sc_law.nd rfl (Or.inl rfl) (pe_call (ok_L_numbers T) (hr.mono (by decide : 1 ≤ _)) (by rfl) T.g__law_numbers T.F__law_numbers.kp T.b__law_numbers .nil pass0 (pa_cons (pv 1) (pa_cons pe_int pa_nil))))
        (pss_cons (ps_set (i := 3) sc_law.nd rfl (Or.inl rfl) (pe_op op_mod (pe_ix ix_list (pv 2) pe_int (fun _ _ => rfl)) pe_int))
        (pss_cons (ps_if (pt_cmpR op_eq (pe_op op_mod (pe_ix ix_list (pv 2) pe_int (fun _ _ => rfl)) pe_int) pe_int (nomark _)) 
          (pss_cons (ps_set (i := 4) sc_law.nd rfl (Or.inl rfl) (pe_op op_mod (pe_ix ix_list (pv 2) pe_int (fun _ _ => rfl)) pe_int))
          (pss_one (ps_set (i := 3) sc_law.nd rfl (Or.inl rfl) (pe_op op_add (pe_op op_add (pe_op op_add (pe_op op_mulX pe_int (pv 4)) (pe_op op_fdivW (pe_op op_add (pv 4) pe_int) pe_int)) pe_int) (pe_op op_mod (pe_ix ix_list (pv 2) pe_int (fun _ _ => rfl)) pe_int))))) pss_nil)
        (pss_cons (ps_for PassesOwn.never rfl (pi_list (pe_lst (pa_cons (pe_callB (call_max2 rfl) (by rfl) T.n_max (by decide +kernel) (pa_cons pe_int (pa_cons (pe_op op_sub (pv 3) pe_int) pa_nil))) (pa_cons (pv 3) pa_nil)))) (pg_name (i := 5) sc_law.nd rfl (Or.inl rfl)) 
          (pss_one (ps_if (pt_not (pt_val (pe_call (ok_L_step T) (hr.mono (by decide : 5 ≤ _)) (by rfl) T.g__law_step T.F__law_step.kp T.b__law_step .nil pass0 (pa_cons (pv 5) pa_nil)))) 
            (pss_one (ps_ret pe_bl)) pss_nil)))
        (pss_one (ps_for PassesOwn.never rfl (pi_list (pe_lst (pa_cons (pe_un un_neg pe_int) (pa_cons pe_int (pa_cons (pe_op op_sub (pe_op op_sub pe_int pe_int) (pe_ix ix_list (pv 2) pe_int (fun _ _ => rfl))) (pa_cons (pe_op op_add pe_int (pe_ix ix_list (pv 2) pe_int (fun _ _ => rfl))) pa_nil)))))) (pg_name (i := 6) sc_law.nd rfl (Or.inl rfl)) 
          (pss_one (ps_if (PW.pt (pw_or (pt_cmpR op_notBl (pe_call (ok_is_day T) (hr.mono (by decide : 1 ≤ _)) (by rfl) T.g_is_day T.F_is_day.kp T.b_is_day .nil pass0 (pa_cons (pv 6) pa_nil)) pe_bl (nomark _)) (pw_or1 (pt_cmpR (op_neD hr.units) (pe_call (ok_L_refusals T) (hr.mono (by decide : 4 ≤ _)) (by rfl) T.g__law_refusals T.F__law_refusals.kp T.b__law_refusals .nil pass0 (pa_cons (pv 6) pa_nil)) (pe_lst (pa_cons (pe_lst (pa_cons pe_str pa_nil)) (pa_cons (pe_lst (pa_cons pe_str pa_nil)) pa_nil))) (nomark _))))) 
            (pss_one (ps_ret pe_bl)) pss_nil)))))))))
      (pss_one (ps_ret pe_bl)))), ?_⟩
  obtain ⟨a, ns, rfl, hS, hl, hb, hq⟩ := h
  walk_at "st"
  have z0 : isD 0 := by decide +kernel
  refine ⟨0, rfl, fun _ y m q p H1 hdt he s1 hp hp1 => ?_, fun z => absurd z0 z⟩
  intro p2 hp2
  obtain ⟨e1, e2, e3⟩ := date_inj hdt (y2 := 2000) (m2 := 1) (q2 := 1) (by decide +kernel) (by rw [he]; decide +kernel)
  subst e1 e2 e3
  refine Kv.ne_same (Kv.dp_3 (SqT.of (Kv.same_upd hp2 _ _ hp1))) (Kv.dp_3 (SqT.of upd_same)) (by walk_at "shp") (by walk_at "eqv") ?_
  walk_at "rd"
  refine ⟨0, rfl, fun _ => ?_, fun z => absurd z0 z⟩
  walk_at "rd"
  refine ⟨36524, rfl, by decide +kernel, fun H3 s3 => ?_⟩
  walk_at "rd"
  subst_vars
  have s4 := s1.trans ((Kv.same_upd (o := .tup [.int 2000, .int 1, .int 1]) hp2).trans s3)
  refine Kv.seq_step fun U hU => ?_
  refine Kv.tfor_cells (H0 := H3) rfl (s4.seq hS) hl fun b H1 s5 hb1 => ?_
  refine Kv.for_cells hb1 (by decide) hb (invLaw a H1) ⟨_, _, _, _, _, _, rfl, Same.refl _⟩ ?_ ?_ ?_
  · rintro σ' H' ⟨_, _, _, _, _, _, rfl, hs⟩
    exact hs
  · rintro z σ' H' bz ⟨_, _, _, _, _, _, rfl, hs⟩
    walk_at "st"
    refine ⟨z, 4, rfl, bz, by decide, by decide, fun ms nl H2 ml mr s2 f2 hn2 => ?_⟩
    have hN : SqL K H2 nl (ms.map V.int) := SqL.of hn2
    have hs2 := hs.trans s2
    subst_vars
    refine Kv.seq_cut (midDay a z nl H2) (fun U hU => ?_) ?_
    · walk_at "rd"
      refine Kv.ix_num hN (by omega) ?_
      walk_at "rd"
      exact hU _ _ ⟨_, _, _, _, rfl, rfl, by unfold isD; omega⟩
    rintro σ' H' ⟨d, _, _, _, rfl, rfl, hd⟩
    refine Kv.seq_cut (midDay a z nl H') (fun U hU => ?_) ?_
    · walk_at "rd"
      refine Kv.ix_num hN (by omega) ?_
      walk_at "rd"
      split
      · refine Kv.ix_num hN (by omega) ?_
        walk_at "rd"
        refine ⟨Kv.mulX (a := 64) (b := 64) (by decide) (Kv.bits64 (by omega) (by omega)), Kv.ix_num hN (by omega) ?_⟩
        walk_at "rd"
        exact hU _ _ ⟨_, _, _, _, rfl, rfl, by unfold isD; omega⟩
      · exact hU _ _ ⟨_, _, _, _, rfl, rfl, hd⟩
    rintro σ' H2 ⟨d, _, _, _, rfl, rfl, hd⟩
    walk_at "st"
    intro p5 hp5
    have s6 := Kv.same_upd (o := .lst [.int (if d - 1 > 0 then d - 1 else 0), .int d]) hp5
    refine ⟨⟨_, SqL.of upd_same⟩, ?_⟩
    refine Kv.for_lst [.int (if d - 1 > 0 then d - 1 else 0), .int d] (fun _ σ' H' => ∃ v4 v5 v6, σ' = [some (.ref a), some (.int z), some (.ref nl), some (.int d), v4, v5, v6] ∧ Same (upd H2 p5 (.lst [.int (if d - 1 > 0 then d - 1 else 0), .int d])) H') ⟨_, _, _, rfl, Same.refl _⟩ ?_ ?_ ?_
    · rintro i σ' H' ⟨_, _, _, rfl, s7⟩
      exact SqL.of (s7 _ _ upd_same)
    · rintro i x σ' H' hx ⟨_, _, _, rfl, s7⟩
      have hx2 : ∃ k, x = .int k ∧ isD k := by
        have hi := (List.getElem?_eq_some_iff.mp hx).1
        have hi : i < 2 := by simpa using hi
        unfold isD at hd ⊢
        rcases (by omega : i = 0 ∨ i = 1) with e | e <;> subst e <;> cases hx <;> refine ⟨_, rfl, ?_⟩
        · split <;> omega
        · exact hd
      obtain ⟨k, rfl, hk⟩ := hx2
      walk_at "rd"
      refine ⟨k, rfl, hk, fun H8 s8 => ?_⟩
      walk_at "rd"
      exact s7.trans s8
    rintro σ' H' ⟨_, _, _, rfl, s7⟩
    have s8 := s6.trans s7
    walk_at "nx"
    refine Kv.ix_num (s8.seq hN) (by omega) ?_
    walk_at "rd"
    refine Kv.ix_num (s8.seq hN) (by omega) ?_
    walk_at "rd"
    intro p6 hp6
    have n3 := Kv.num_in mr 3
    generalize ms.getD 3 0 = n at n3
    refine ⟨⟨_, SqL.of upd_same⟩, Kv.for_lst [.int (-1), .int 36525, .int (-1 - n), .int (36525 + n)] (invOut a z nl d p6 n (upd H' p6 (.lst [.int (-1), .int 36525, .int (-1 - n), .int (36525 + n)]))) ⟨_, _, _, rfl, Same.refl _⟩ ?_ ?_ ?_⟩
    · rintro i σ' H' ⟨_, _, _, rfl, s7⟩
      exact SqL.of (s7 _ _ upd_same)
    · rintro i x σ' H7 hx ⟨_, _, _, rfl, s9⟩
      have hx2 : ∃ k, x = .int k ∧ ¬isD k := by
        have hi := (List.getElem?_eq_some_iff.mp hx).1
        have hi : i < 4 := by simpa using hi
        unfold isD
        rcases (by omega : i = 0 ∨ i = 1 ∨ i = 2 ∨ i = 3) with e | e | e | e <;> subst e <;> cases hx <;> exact ⟨_, rfl, by omega⟩
      obtain ⟨k, rfl, hk⟩ := hx2
      walk_at "rd"
      refine ⟨k, rfl, fun z => absurd z hk, fun _ => ?_⟩
      walk_at "rd"
      refine ⟨k, rfl, hk, fun q qa qb H8 s10 e1 e2 e3 => ?_⟩
      walk_at "rd"
      intro r1 hr1 r2 hr2 r3 hr3
      have t1 : Same H8 (upd H8 r1 (.lst [.str "BadDay"])) := Kv.same_upd hr1
      have t2 : Same _ (upd (upd H8 r1 (.lst [.str "BadDay"])) r2 (.lst [.str "BadDay"])) := Kv.same_upd hr2
      have t3 : Same _ (upd (upd (upd H8 r1 (.lst [.str "BadDay"])) r2 (.lst [.str "BadDay"])) r3 (.lst [.ref r1, .ref r2])) := Kv.same_upd hr3
      have t4 := t1.trans (t2.trans t3)
      refine Kv.ne_same (d := .list [.list [.str "BadDay"], .list [.str "BadDay"]]) (.lst (SqL.of (t4 _ _ e1)) (.cons (.lst (SqL.of (t4 _ _ e2)) (.cons (.str _) .nil)) (.cons (.lst (SqL.of (t4 _ _ e3)) (.cons (.str _) .nil)) .nil)))
        (.lst (SqL.of upd_same) (.cons (.lst (SqL.of (t3 _ _ (t2 _ _ upd_same))) (.cons (.str _) .nil)) (.cons (.lst (SqL.of (t3 _ _ upd_same)) (.cons (.str _) .nil)) .nil))) (by walk_at "shp") (by walk_at "eqv") ?_
      walk_at "rd"
      exact ⟨_, _, _, rfl, s9.trans (s10.trans t4)⟩
    rintro σ' H8 ⟨_, _, _, rfl, s9⟩
    exact ⟨_, _, _, _, _, _, rfl, hs2.trans (s8.trans ((Kv.same_upd hp6).trans s9))⟩
  · rintro σ' H' ⟨_, _, _, _, _, _, rfl, hs⟩
    walk_at "nx"
    exact hq _
end
theorem txt_mk {K : PySem.W.Frag} {mg : Str → Option Value} {h : Heap} (X : K.In h) (G : h.Ns mainGlobals mg)
    {C_BadValue : Addr}
    {C_BadDay : Addr}
    {C_Missing : Addr}
    {C_Refused : Addr}
    {C_Full : Addr}
    {C_NotAllowed : Addr}
    {C_Damaged : Addr}
    {C_BankError : Addr}
    {f_is_day : Addr} {od_is_day an_is_day : Option Addr} {sl_is_day : Array (Option Value)} {oc_is_day kV_is_day dc_is_day pm_is_day cd_is_day ct_is_day : Value}
    {f_check_day : Addr} {od_check_day an_check_day : Option Addr} {sl_check_day : Array (Option Value)} {oc_check_day kV_check_day dc_check_day pm_check_day cd_check_day ct_check_day : Value}
    {f_days_of_month : Addr} {od_days_of_month an_days_of_month : Option Addr} {sl_days_of_month : Array (Option Value)} {oc_days_of_month kV_days_of_month dc_days_of_month pm_days_of_month cd_days_of_month ct_days_of_month : Value}
    {f_first_day_of : Addr} {od_first_day_of an_first_day_of : Option Addr} {sl_first_day_of : Array (Option Value)} {oc_first_day_of kV_first_day_of dc_first_day_of pm_first_day_of cd_first_day_of ct_first_day_of : Value}
    {f_date_of : Addr} {od_date_of an_date_of : Option Addr} {sl_date_of : Array (Option Value)} {oc_date_of kV_date_of dc_date_of pm_date_of cd_date_of ct_date_of : Value}
    {f_is_date : Addr} {od_is_date an_is_date : Option Addr} {sl_is_date : Array (Option Value)} {oc_is_date kV_is_date dc_is_date pm_is_date cd_is_date ct_is_date : Value}
    {f_day_of : Addr} {od_day_of an_day_of : Option Addr} {sl_day_of : Array (Option Value)} {oc_day_of kV_day_of dc_day_of pm_day_of cd_day_of ct_day_of : Value}
    {f_weekday : Addr} {od_weekday an_weekday : Option Addr} {sl_weekday : Array (Option Value)} {oc_weekday kV_weekday dc_weekday pm_weekday cd_weekday ct_weekday : Value}
    {f__law_numbers : Addr} {od__law_numbers an__law_numbers : Option Addr} {sl__law_numbers : Array (Option Value)} {oc__law_numbers kV__law_numbers dc__law_numbers pm__law_numbers cd__law_numbers ct__law_numbers : Value}
    {f__law_kinds : Addr} {od__law_kinds an__law_kinds : Option Addr} {sl__law_kinds : Array (Option Value)} {oc__law_kinds kV__law_kinds dc__law_kinds pm__law_kinds cd__law_kinds ct__law_kinds : Value}
    {f__law_is_integer : Addr} {od__law_is_integer an__law_is_integer : Option Addr} {sl__law_is_integer : Array (Option Value)} {oc__law_is_integer kV__law_is_integer dc__law_is_integer pm__law_is_integer cd__law_is_integer ct__law_is_integer : Value}
    {f__law_refusals : Addr} {od__law_refusals an__law_refusals : Option Addr} {sl__law_refusals : Array (Option Value)} {oc__law_refusals kV__law_refusals dc__law_refusals pm__law_refusals cd__law_refusals ct__law_refusals : Value}
    {f__law_after : Addr} {od__law_after an__law_after : Option Addr} {sl__law_after : Array (Option Value)} {oc__law_after kV__law_after dc__law_after pm__law_after cd__law_after ct__law_after : Value}
    {f__law_known : Addr} {od__law_known an__law_known : Option Addr} {sl__law_known : Array (Option Value)} {oc__law_known kV__law_known dc__law_known pm__law_known cd__law_known ct__law_known : Value}
    {f__law_step : Addr} {od__law_step an__law_step : Option Addr} {sl__law_step : Array (Option Value)} {oc__law_step kV__law_step dc__law_step pm__law_step cd__law_step ct__law_step : Value}
    {f_law : Addr} {od_law an_law : Option Addr} {sl_law : Array (Option Value)} {oc_law kV_law dc_law pm_law cd_law ct_law : Value}
    {w_LAST_DAY : Value}
    {w_FIRST_YEAR : Value}
    {w_LAST_YEAR : Value}
    {w_DAYS_OF_FOUR_YEARS : Value}
    {t_DAYS_OF_MONTHS : Addr} {td_DAYS_OF_MONTHS : Option Addr} {ti_DAYS_OF_MONTHS : Array Value} {tn_DAYS_OF_MONTHS : Nat} {ts_DAYS_OF_MONTHS : Array (Option Value)}
    {w_SATURDAY : Value}
    (e_BadValue : PySem.W.nsIn K mainGlobals "BadValue" = some (some (.ref C_BadValue)))
    (e_BadDay : PySem.W.nsIn K mainGlobals "BadDay" = some (some (.ref C_BadDay)))
    (e_Missing : PySem.W.nsIn K mainGlobals "Missing" = some (some (.ref C_Missing)))
    (e_Refused : PySem.W.nsIn K mainGlobals "Refused" = some (some (.ref C_Refused)))
    (e_Full : PySem.W.nsIn K mainGlobals "Full" = some (some (.ref C_Full)))
    (e_NotAllowed : PySem.W.nsIn K mainGlobals "NotAllowed" = some (some (.ref C_NotAllowed)))
    (e_Damaged : PySem.W.nsIn K mainGlobals "Damaged" = some (some (.ref C_Damaged)))
    (e_BankError : PySem.W.nsIn K mainGlobals "BankError" = some (some (.ref C_BankError)))
    (eAll : Kv.errAll K (fun e => match e with | .badValue => C_BadValue | .badDay => C_BadDay | .missing => C_Missing | .refused => C_Refused | .full => C_Full | .notAllowed => C_NotAllowed | .damaged => C_Damaged) C_BankError = true)
    (a_is_day : PySem.W.nsIn K mainGlobals "is_day" = some (some (.ref f_is_day)))
    (l_is_day : K.lookup f_is_day = some ⟨oc_is_day, od_is_day, .func (PySem.W.fnOf "is_day" "is_day" (defArgs s_is_day) (defBody s_is_day) (defScope s_is_day) .none kV_is_day dc_is_day pm_is_day an_is_day cd_is_day ct_is_day), sl_is_day⟩)
    (c_is_day : PySem.W.codeIn K cd_is_day "is_day" = true)
    (k_is_day : PySem.W.keepIn K (.ref f_is_day) = true)
    (a_check_day : PySem.W.nsIn K mainGlobals "check_day" = some (some (.ref f_check_day)))
    (l_check_day : K.lookup f_check_day = some ⟨oc_check_day, od_check_day, .func (PySem.W.fnOf "check_day" "check_day" (defArgs s_check_day) (defBody s_check_day) (defScope s_check_day) .none kV_check_day dc_check_day pm_check_day an_check_day cd_check_day ct_check_day), sl_check_day⟩)
    (c_check_day : PySem.W.codeIn K cd_check_day "check_day" = true)
    (k_check_day : PySem.W.keepIn K (.ref f_check_day) = true)
    (a_days_of_month : PySem.W.nsIn K mainGlobals "days_of_month" = some (some (.ref f_days_of_month)))
    (l_days_of_month : K.lookup f_days_of_month = some ⟨oc_days_of_month, od_days_of_month, .func (PySem.W.fnOf "days_of_month" "days_of_month" (defArgs s_days_of_month) (defBody s_days_of_month) (defScope s_days_of_month) .none kV_days_of_month dc_days_of_month pm_days_of_month an_days_of_month cd_days_of_month ct_days_of_month), sl_days_of_month⟩)
    (c_days_of_month : PySem.W.codeIn K cd_days_of_month "days_of_month" = true)
    (k_days_of_month : PySem.W.keepIn K (.ref f_days_of_month) = true)
    (a_first_day_of : PySem.W.nsIn K mainGlobals "first_day_of" = some (some (.ref f_first_day_of)))
    (l_first_day_of : K.lookup f_first_day_of = some ⟨oc_first_day_of, od_first_day_of, .func (PySem.W.fnOf "first_day_of" "first_day_of" (defArgs s_first_day_of) (defBody s_first_day_of) (defScope s_first_day_of) .none kV_first_day_of dc_first_day_of pm_first_day_of an_first_day_of cd_first_day_of ct_first_day_of), sl_first_day_of⟩)
    (c_first_day_of : PySem.W.codeIn K cd_first_day_of "first_day_of" = true)
    (k_first_day_of : PySem.W.keepIn K (.ref f_first_day_of) = true)
    (a_date_of : PySem.W.nsIn K mainGlobals "date_of" = some (some (.ref f_date_of)))
    (l_date_of : K.lookup f_date_of = some ⟨oc_date_of, od_date_of, .func (PySem.W.fnOf "date_of" "date_of" (defArgs s_date_of) (defBody s_date_of) (defScope s_date_of) .none kV_date_of dc_date_of pm_date_of an_date_of cd_date_of ct_date_of), sl_date_of⟩)
    (c_date_of : PySem.W.codeIn K cd_date_of "date_of" = true)
    (k_date_of : PySem.W.keepIn K (.ref f_date_of) = true)
    (a_is_date : PySem.W.nsIn K mainGlobals "is_date" = some (some (.ref f_is_date)))
    (l_is_date : K.lookup f_is_date = some ⟨oc_is_date, od_is_date, .func (PySem.W.fnOf "is_date" "is_date" (defArgs s_is_date) (defBody s_is_date) (defScope s_is_date) .none kV_is_date dc_is_date pm_is_date an_is_date cd_is_date ct_is_date), sl_is_date⟩)
    (c_is_date : PySem.W.codeIn K cd_is_date "is_date" = true)
    (k_is_date : PySem.W.keepIn K (.ref f_is_date) = true)
    (a_day_of : PySem.W.nsIn K mainGlobals "day_of" = some (some (.ref f_day_of)))
    (l_day_of : K.lookup f_day_of = some ⟨oc_day_of, od_day_of, .func (PySem.W.fnOf "day_of" "day_of" (defArgs s_day_of) (defBody s_day_of) (defScope s_day_of) .none kV_day_of dc_day_of pm_day_of an_day_of cd_day_of ct_day_of), sl_day_of⟩)
    (c_day_of : PySem.W.codeIn K cd_day_of "day_of" = true)
    (k_day_of : PySem.W.keepIn K (.ref f_day_of) = true)
    (a_weekday : PySem.W.nsIn K mainGlobals "weekday" = some (some (.ref f_weekday)))
    (l_weekday : K.lookup f_weekday = some ⟨oc_weekday, od_weekday, .func (PySem.W.fnOf "weekday" "weekday" (defArgs s_weekday) (defBody s_weekday) (defScope s_weekday) .none kV_weekday dc_weekday pm_weekday an_weekday cd_weekday ct_weekday), sl_weekday⟩)
    (c_weekday : PySem.W.codeIn K cd_weekday "weekday" = true)
    (k_weekday : PySem.W.keepIn K (.ref f_weekday) = true)
    (a__law_numbers : PySem.W.nsIn K mainGlobals "_law_numbers" = some (some (.ref f__law_numbers)))
    (l__law_numbers : K.lookup f__law_numbers = some ⟨oc__law_numbers, od__law_numbers, .func (PySem.W.fnOf "_law_numbers" "_law_numbers" (defArgs s_L_numbers) (defBody s_L_numbers) (defScope s_L_numbers) .none kV__law_numbers dc__law_numbers pm__law_numbers an__law_numbers cd__law_numbers ct__law_numbers), sl__law_numbers⟩)
    (c__law_numbers : PySem.W.codeIn K cd__law_numbers "_law_numbers" = true)
    (k__law_numbers : PySem.W.keepIn K (.ref f__law_numbers) = true)
    (a__law_kinds : PySem.W.nsIn K mainGlobals "_law_kinds" = some (some (.ref f__law_kinds)))
    (l__law_kinds : K.lookup f__law_kinds = some ⟨oc__law_kinds, od__law_kinds, .func (PySem.W.fnOf "_law_kinds" "_law_kinds" (defArgs s_L_kinds) (defBody s_L_kinds) (defScope s_L_kinds) .none kV__law_kinds dc__law_kinds pm__law_kinds an__law_kinds cd__law_kinds ct__law_kinds), sl__law_kinds⟩)
    (c__law_kinds : PySem.W.codeIn K cd__law_kinds "_law_kinds" = true)
    (k__law_kinds : PySem.W.keepIn K (.ref f__law_kinds) = true)
    (a__law_is_integer : PySem.W.nsIn K mainGlobals "_law_is_integer" = some (some (.ref f__law_is_integer)))
    (l__law_is_integer : K.lookup f__law_is_integer = some ⟨oc__law_is_integer, od__law_is_integer, .func (PySem.W.fnOf "_law_is_integer" "_law_is_integer" (defArgs s_L_is_integer) (defBody s_L_is_integer) (defScope s_L_is_integer) .none kV__law_is_integer dc__law_is_integer pm__law_is_integer an__law_is_integer cd__law_is_integer ct__law_is_integer), sl__law_is_integer⟩)
    (c__law_is_integer : PySem.W.codeIn K cd__law_is_integer "_law_is_integer" = true)
    (k__law_is_integer : PySem.W.keepIn K (.ref f__law_is_integer) = true)
    (a__law_refusals : PySem.W.nsIn K mainGlobals "_law_refusals" = some (some (.ref f__law_refusals)))
    (l__law_refusals : K.lookup f__law_refusals = some ⟨oc__law_refusals, od__law_refusals, .func (PySem.W.fnOf "_law_refusals" "_law_refusals" (defArgs s_L_refusals) (defBody s_L_refusals) (defScope s_L_refusals) .none kV__law_refusals dc__law_refusals pm__law_refusals an__law_refusals cd__law_refusals ct__law_refusals), sl__law_refusals⟩)
    (c__law_refusals : PySem.W.codeIn K cd__law_refusals "_law_refusals" = true)
    (k__law_refusals : PySem.W.keepIn K (.ref f__law_refusals) = true)
    (a__law_after : PySem.W.nsIn K mainGlobals "_law_after" = some (some (.ref f__law_after)))
    (l__law_after : K.lookup f__law_after = some ⟨oc__law_after, od__law_after, .func (PySem.W.fnOf "_law_after" "_law_after" (defArgs s_L_after) (defBody s_L_after) (defScope s_L_after) .none kV__law_after dc__law_after pm__law_after an__law_after cd__law_after ct__law_after), sl__law_after⟩)
    (c__law_after : PySem.W.codeIn K cd__law_after "_law_after" = true)
    (k__law_after : PySem.W.keepIn K (.ref f__law_after) = true)
    (a__law_known : PySem.W.nsIn K mainGlobals "_law_known" = some (some (.ref f__law_known)))
    (l__law_known : K.lookup f__law_known = some ⟨oc__law_known, od__law_known, .func (PySem.W.fnOf "_law_known" "_law_known" (defArgs s_L_known) (defBody s_L_known) (defScope s_L_known) .none kV__law_known dc__law_known pm__law_known an__law_known cd__law_known ct__law_known), sl__law_known⟩)
    (c__law_known : PySem.W.codeIn K cd__law_known "_law_known" = true)
    (k__law_known : PySem.W.keepIn K (.ref f__law_known) = true)
    (a__law_step : PySem.W.nsIn K mainGlobals "_law_step" = some (some (.ref f__law_step)))
    (l__law_step : K.lookup f__law_step = some ⟨oc__law_step, od__law_step, .func (PySem.W.fnOf "_law_step" "_law_step" (defArgs s_L_step) (defBody s_L_step) (defScope s_L_step) .none kV__law_step dc__law_step pm__law_step an__law_step cd__law_step ct__law_step), sl__law_step⟩)
    (c__law_step : PySem.W.codeIn K cd__law_step "_law_step" = true)
    (k__law_step : PySem.W.keepIn K (.ref f__law_step) = true)
    (a_law : PySem.W.nsIn K mainGlobals "law" = some (some (.ref f_law)))
    (l_law : K.lookup f_law = some ⟨oc_law, od_law, .func (PySem.W.fnOf "law" "law" (defArgs s_law) (defBody s_law) (defScope s_law) .none kV_law dc_law pm_law an_law cd_law ct_law), sl_law⟩)
    (c_law : PySem.W.codeIn K cd_law "law" = true)
    (k_law : PySem.W.keepIn K (.ref f_law) = true)
    (v_LAST_DAY : PySem.W.nsIn K mainGlobals "LAST_DAY" = some (some w_LAST_DAY))
    (vr_LAST_DAY : RelV (.int (36524)) w_LAST_DAY)
    (v_FIRST_YEAR : PySem.W.nsIn K mainGlobals "FIRST_YEAR" = some (some w_FIRST_YEAR))
    (vr_FIRST_YEAR : RelV (.int (2000)) w_FIRST_YEAR)
    (v_LAST_YEAR : PySem.W.nsIn K mainGlobals "LAST_YEAR" = some (some w_LAST_YEAR))
    (vr_LAST_YEAR : RelV (.int (2099)) w_LAST_YEAR)
    (v_DAYS_OF_FOUR_YEARS : PySem.W.nsIn K mainGlobals "DAYS_OF_FOUR_YEARS" = some (some w_DAYS_OF_FOUR_YEARS))
    (vr_DAYS_OF_FOUR_YEARS : RelV (.int (1461)) w_DAYS_OF_FOUR_YEARS)
    (v_DAYS_OF_MONTHS : PySem.W.nsIn K mainGlobals "DAYS_OF_MONTHS" = some (some (.ref t_DAYS_OF_MONTHS)))
    (vl_DAYS_OF_MONTHS : K.lookup t_DAYS_OF_MONTHS = some ⟨.type "tuple", td_DAYS_OF_MONTHS, .seq ti_DAYS_OF_MONTHS tn_DAYS_OF_MONTHS, ts_DAYS_OF_MONTHS⟩)
    (vz_DAYS_OF_MONTHS : ti_DAYS_OF_MONTHS.size ≤ sizeLine)
    (vr_DAYS_OF_MONTHS : Vals ([.int (31), .int (28), .int (31), .int (30), .int (31), .int (30), .int (31), .int (31), .int (30), .int (31), .int (30), .int (31)] : List V) ti_DAYS_OF_MONTHS.toList)
    (v_SATURDAY : PySem.W.nsIn K mainGlobals "SATURDAY" = some (some w_SATURDAY))
    (vr_SATURDAY : RelV (.int (5)) w_SATURDAY)
    (n_bool : PySem.W.nsIn K mainGlobals "bool" = some none)
    (n_int : PySem.W.nsIn K mainGlobals "int" = some none)
    (n_isinstance : PySem.W.nsIn K mainGlobals "isinstance" = some none)
    (n_len : PySem.W.nsIn K mainGlobals "len" = some none)
    (n_max : PySem.W.nsIn K mainGlobals "max" = some none)
    (n_range : PySem.W.nsIn K mainGlobals "range" = some none)
    (n_sum : PySem.W.nsIn K mainGlobals "sum" = some none)
    (n_tuple : PySem.W.nsIn K mainGlobals "tuple" = some none) :
    ∃ T : Txt K mg, T.d_law = PySem.W.fnOf "law" "law" (defArgs s_law) (defBody s_law) (defScope s_law) .none kV_law dc_law pm_law an_law cd_law ct_law :=
  ⟨{ exa := fun e => match e with | .badValue => C_BadValue | .badDay => C_BadDay | .missing => C_Missing | .refused => C_Refused | .full => C_Full | .notAllowed => C_NotAllowed | .damaged => C_Damaged,
       exg := fun e => by cases e <;> first | exact PySem.W.mg_of X G e_BadValue | exact PySem.W.mg_of X G e_BadDay | exact PySem.W.mg_of X G e_Missing | exact PySem.W.mg_of X G e_Refused | exact PySem.W.mg_of X G e_Full | exact PySem.W.mg_of X G e_NotAllowed | exact PySem.W.mg_of X G e_Damaged,
       a_BankError := C_BankError,
       g_BankError := PySem.W.mg_of X G e_BankError,
       exAll := eAll,
       a_is_day := f_is_day,
       d_is_day := PySem.W.fnOf "is_day" "is_day" (defArgs s_is_day) (defBody s_is_day) (defScope s_is_day) .none kV_is_day dc_is_day pm_is_day an_is_day cd_is_day ct_is_day,
       g_is_day := PySem.W.mg_of X G a_is_day,
       F_is_day := fun_mk (st := s_is_day) l_is_day c_is_day k_is_day,
       b_is_day := (fun_mk (st := s_is_day) l_is_day c_is_day k_is_day).binds (ps := ["number"]) fun _ _ _ _ _ _ us hl => match us, hl with | [_], _ => rfl,
       a_check_day := f_check_day,
       d_check_day := PySem.W.fnOf "check_day" "check_day" (defArgs s_check_day) (defBody s_check_day) (defScope s_check_day) .none kV_check_day dc_check_day pm_check_day an_check_day cd_check_day ct_check_day,
       g_check_day := PySem.W.mg_of X G a_check_day,
       F_check_day := fun_mk (st := s_check_day) l_check_day c_check_day k_check_day,
       b_check_day := (fun_mk (st := s_check_day) l_check_day c_check_day k_check_day).binds (ps := ["day"]) fun _ _ _ _ _ _ us hl => match us, hl with | [_], _ => rfl,
       a_days_of_month := f_days_of_month,
       d_days_of_month := PySem.W.fnOf "days_of_month" "days_of_month" (defArgs s_days_of_month) (defBody s_days_of_month) (defScope s_days_of_month) .none kV_days_of_month dc_days_of_month pm_days_of_month an_days_of_month cd_days_of_month ct_days_of_month,
       g_days_of_month := PySem.W.mg_of X G a_days_of_month,
       F_days_of_month := fun_mk (st := s_days_of_month) l_days_of_month c_days_of_month k_days_of_month,
       b_days_of_month := (fun_mk (st := s_days_of_month) l_days_of_month c_days_of_month k_days_of_month).binds (ps := ["year", "month"]) fun _ _ _ _ _ _ us hl => match us, hl with | [_, _], _ => rfl,
       a_first_day_of := f_first_day_of,
       d_first_day_of := PySem.W.fnOf "first_day_of" "first_day_of" (defArgs s_first_day_of) (defBody s_first_day_of) (defScope s_first_day_of) .none kV_first_day_of dc_first_day_of pm_first_day_of an_first_day_of cd_first_day_of ct_first_day_of,
       g_first_day_of := PySem.W.mg_of X G a_first_day_of,
       F_first_day_of := fun_mk (st := s_first_day_of) l_first_day_of c_first_day_of k_first_day_of,
       b_first_day_of := (fun_mk (st := s_first_day_of) l_first_day_of c_first_day_of k_first_day_of).binds (ps := ["year"]) fun _ _ _ _ _ _ us hl => match us, hl with | [_], _ => rfl,
       a_date_of := f_date_of,
       d_date_of := PySem.W.fnOf "date_of" "date_of" (defArgs s_date_of) (defBody s_date_of) (defScope s_date_of) .none kV_date_of dc_date_of pm_date_of an_date_of cd_date_of ct_date_of,
       g_date_of := PySem.W.mg_of X G a_date_of,
       F_date_of := fun_mk (st := s_date_of) l_date_of c_date_of k_date_of,
       b_date_of := (fun_mk (st := s_date_of) l_date_of c_date_of k_date_of).binds (ps := ["day"]) fun _ _ _ _ _ _ us hl => match us, hl with | [_], _ => rfl,
       a_is_date := f_is_date,
       d_is_date := PySem.W.fnOf "is_date" "is_date" (defArgs s_is_date) (defBody s_is_date) (defScope s_is_date) .none kV_is_date dc_is_date pm_is_date an_is_date cd_is_date ct_is_date,
       g_is_date := PySem.W.mg_of X G a_is_date,
       F_is_date := fun_mk (st := s_is_date) l_is_date c_is_date k_is_date,
       b_is_date := (fun_mk (st := s_is_date) l_is_date c_is_date k_is_date).binds (ps := ["year", "month", "in_month"]) fun _ _ _ _ _ _ us hl => match us, hl with | [_, _, _], _ => rfl,
       a_day_of := f_day_of,
       d_day_of := PySem.W.fnOf "day_of" "day_of" (defArgs s_day_of) (defBody s_day_of) (defScope s_day_of) .none kV_day_of dc_day_of pm_day_of an_day_of cd_day_of ct_day_of,
       g_day_of := PySem.W.mg_of X G a_day_of,
       F_day_of := fun_mk (st := s_day_of) l_day_of c_day_of k_day_of,
       b_day_of := (fun_mk (st := s_day_of) l_day_of c_day_of k_day_of).binds (ps := ["year", "month", "in_month"]) fun _ _ _ _ _ _ us hl => match us, hl with | [_, _, _], _ => rfl,
       a_weekday := f_weekday,
       d_weekday := PySem.W.fnOf "weekday" "weekday" (defArgs s_weekday) (defBody s_weekday) (defScope s_weekday) .none kV_weekday dc_weekday pm_weekday an_weekday cd_weekday ct_weekday,
       g_weekday := PySem.W.mg_of X G a_weekday,
       F_weekday := fun_mk (st := s_weekday) l_weekday c_weekday k_weekday,
       b_weekday := (fun_mk (st := s_weekday) l_weekday c_weekday k_weekday).binds (ps := ["day"]) fun _ _ _ _ _ _ us hl => match us, hl with | [_], _ => rfl,
       a__law_numbers := f__law_numbers,
       d__law_numbers := PySem.W.fnOf "_law_numbers" "_law_numbers" (defArgs s_L_numbers) (defBody s_L_numbers) (defScope s_L_numbers) .none kV__law_numbers dc__law_numbers pm__law_numbers an__law_numbers cd__law_numbers ct__law_numbers,
       g__law_numbers := PySem.W.mg_of X G a__law_numbers,
       F__law_numbers := fun_mk (st := s_L_numbers) l__law_numbers c__law_numbers k__law_numbers,
       b__law_numbers := (fun_mk (st := s_L_numbers) l__law_numbers c__law_numbers k__law_numbers).binds (ps := ["cell", "count"]) fun _ _ _ _ _ _ us hl => match us, hl with | [_, _], _ => rfl,
       a__law_kinds := f__law_kinds,
       d__law_kinds := PySem.W.fnOf "_law_kinds" "_law_kinds" (defArgs s_L_kinds) (defBody s_L_kinds) (defScope s_L_kinds) .none kV__law_kinds dc__law_kinds pm__law_kinds an__law_kinds cd__law_kinds ct__law_kinds,
       g__law_kinds := PySem.W.mg_of X G a__law_kinds,
       F__law_kinds := fun_mk (st := s_L_kinds) l__law_kinds c__law_kinds k__law_kinds,
       b__law_kinds := (fun_mk (st := s_L_kinds) l__law_kinds c__law_kinds k__law_kinds).binds (ps := ["error"]) fun _ _ _ _ _ _ us hl => match us, hl with | [_], _ => rfl,
       a__law_is_integer := f__law_is_integer,
       d__law_is_integer := PySem.W.fnOf "_law_is_integer" "_law_is_integer" (defArgs s_L_is_integer) (defBody s_L_is_integer) (defScope s_L_is_integer) .none kV__law_is_integer dc__law_is_integer pm__law_is_integer an__law_is_integer cd__law_is_integer ct__law_is_integer,
       g__law_is_integer := PySem.W.mg_of X G a__law_is_integer,
       F__law_is_integer := fun_mk (st := s_L_is_integer) l__law_is_integer c__law_is_integer k__law_is_integer,
       b__law_is_integer := (fun_mk (st := s_L_is_integer) l__law_is_integer c__law_is_integer k__law_is_integer).binds (ps := ["told"]) fun _ _ _ _ _ _ us hl => match us, hl with | [_], _ => rfl,
       a__law_refusals := f__law_refusals,
       d__law_refusals := PySem.W.fnOf "_law_refusals" "_law_refusals" (defArgs s_L_refusals) (defBody s_L_refusals) (defScope s_L_refusals) .none kV__law_refusals dc__law_refusals pm__law_refusals an__law_refusals cd__law_refusals ct__law_refusals,
       g__law_refusals := PySem.W.mg_of X G a__law_refusals,
       F__law_refusals := fun_mk (st := s_L_refusals) l__law_refusals c__law_refusals k__law_refusals,
       b__law_refusals := (fun_mk (st := s_L_refusals) l__law_refusals c__law_refusals k__law_refusals).binds (ps := ["day"]) fun _ _ _ _ _ _ us hl => match us, hl with | [_], _ => rfl,
       a__law_after := f__law_after,
       d__law_after := PySem.W.fnOf "_law_after" "_law_after" (defArgs s_L_after) (defBody s_L_after) (defScope s_L_after) .none kV__law_after dc__law_after pm__law_after an__law_after cd__law_after ct__law_after,
       g__law_after := PySem.W.mg_of X G a__law_after,
       F__law_after := fun_mk (st := s_L_after) l__law_after c__law_after k__law_after,
       b__law_after := (fun_mk (st := s_L_after) l__law_after c__law_after k__law_after).binds (ps := ["date"]) fun _ _ _ _ _ _ us hl => match us, hl with | [_], _ => rfl,
       a__law_known := f__law_known,
       d__law_known := PySem.W.fnOf "_law_known" "_law_known" (defArgs s_L_known) (defBody s_L_known) (defScope s_L_known) .none kV__law_known dc__law_known pm__law_known an__law_known cd__law_known ct__law_known,
       g__law_known := PySem.W.mg_of X G a__law_known,
       F__law_known := fun_mk (st := s_L_known) l__law_known c__law_known k__law_known,
       b__law_known := (fun_mk (st := s_L_known) l__law_known c__law_known k__law_known).binds (ps := ["day"]) fun _ _ _ _ _ _ us hl => match us, hl with | [_], _ => rfl,
       a__law_step := f__law_step,
       d__law_step := PySem.W.fnOf "_law_step" "_law_step" (defArgs s_L_step) (defBody s_L_step) (defScope s_L_step) .none kV__law_step dc__law_step pm__law_step an__law_step cd__law_step ct__law_step,
       g__law_step := PySem.W.mg_of X G a__law_step,
       F__law_step := fun_mk (st := s_L_step) l__law_step c__law_step k__law_step,
       b__law_step := (fun_mk (st := s_L_step) l__law_step c__law_step k__law_step).binds (ps := ["day"]) fun _ _ _ _ _ _ us hl => match us, hl with | [_], _ => rfl,
       a_law := f_law,
       d_law := PySem.W.fnOf "law" "law" (defArgs s_law) (defBody s_law) (defScope s_law) .none kV_law dc_law pm_law an_law cd_law ct_law,
       g_law := PySem.W.mg_of X G a_law,
       F_law := fun_mk (st := s_law) l_law c_law k_law,
       b_law := (fun_mk (st := s_law) l_law c_law k_law).binds (ps := ["script"]) fun _ _ _ _ _ _ us hl => match us, hl with | [_], _ => rfl,
       u_LAST_DAY := w_LAST_DAY,
       g_LAST_DAY := PySem.W.mg_of X G v_LAST_DAY,
       r_LAST_DAY := vr_LAST_DAY,
       u_FIRST_YEAR := w_FIRST_YEAR,
       g_FIRST_YEAR := PySem.W.mg_of X G v_FIRST_YEAR,
       r_FIRST_YEAR := vr_FIRST_YEAR,
       u_LAST_YEAR := w_LAST_YEAR,
       g_LAST_YEAR := PySem.W.mg_of X G v_LAST_YEAR,
       r_LAST_YEAR := vr_LAST_YEAR,
       u_DAYS_OF_FOUR_YEARS := w_DAYS_OF_FOUR_YEARS,
       g_DAYS_OF_FOUR_YEARS := PySem.W.mg_of X G v_DAYS_OF_FOUR_YEARS,
       r_DAYS_OF_FOUR_YEARS := vr_DAYS_OF_FOUR_YEARS,
       a_DAYS_OF_MONTHS := t_DAYS_OF_MONTHS,
       g_DAYS_OF_MONTHS := PySem.W.mg_of X G v_DAYS_OF_MONTHS,
       r_DAYS_OF_MONTHS := rfl,
       t_DAYS_OF_MONTHS := fun H => Or.inr ⟨_, _, _, vl_DAYS_OF_MONTHS, rfl, rfl, vz_DAYS_OF_MONTHS, vr_DAYS_OF_MONTHS⟩,
       u_SATURDAY := w_SATURDAY,
       g_SATURDAY := PySem.W.mg_of X G v_SATURDAY,
       r_SATURDAY := vr_SATURDAY,
       n_bool := PySem.W.mg_none_of X G n_bool,
       n_int := PySem.W.mg_none_of X G n_int,
       n_isinstance := PySem.W.mg_none_of X G n_isinstance,
       n_len := PySem.W.mg_none_of X G n_len,
       n_max := PySem.W.mg_none_of X G n_max,
       n_range := PySem.W.mg_none_of X G n_range,
       n_sum := PySem.W.mg_none_of X G n_sum,
       n_tuple := PySem.W.mg_none_of X G n_tuple }, rfl⟩
end K06
open PySem PySem.W PyProof.Rows
set_option maxRecDepth 100000 in
set_option maxHeartbeats 0 in
theorem PySem.Challenge.cw_corebank_k06_whole_dates_follow_one_anot_holds : PySem.Challenge.rw_corebank_k06_whole_dates_follow_one_anot.Holds := by
  w_on; o_law; k_head; (case hw => w_witness2)
  k_fill
  refine Kv.walk (l := PySem.Challenge.rw_corebank_k06_whole_dates_follow_one_anot) (k := 6) rfl rfl ⟨rfl, by decide, by decide⟩ (fun w h Y => PySem.W.kIn_of Y) ?F
  case F =>
    intro w mg fa h KX G hmg
    obtain ⟨T, hT⟩ : ∃ T : K06.Txt _ mg, ∃ a b c d e f, T.d_law = PySem.W.fnOf "law" "law" (L2.defArgs K06.s_law) (L2.defBody K06.s_law) (L2.defScope K06.s_law) .none a b c d e f := by
      refine' (fun z => ⟨z.choose, _, _, _, _, _, _, z.choose_spec⟩) (K06.txt_mk KX G ?e_BadValue ?e_BadDay ?e_Missing ?e_Refused ?e_Full ?e_NotAllowed ?e_Damaged ?e_BankError ?eAll ?a_is_day ?l_is_day ?c_is_day ?k_is_day ?a_check_day ?l_check_day ?c_check_day ?k_check_day ?a_days_of_month ?l_days_of_month ?c_days_of_month ?k_days_of_month ?a_first_day_of ?l_first_day_of ?c_first_day_of ?k_first_day_of ?a_date_of ?l_date_of ?c_date_of ?k_date_of ?a_is_date ?l_is_date ?c_is_date ?k_is_date ?a_day_of ?l_day_of ?c_day_of ?k_day_of ?a_weekday ?l_weekday ?c_weekday ?k_weekday ?a__law_numbers ?l__law_numbers ?c__law_numbers ?k__law_numbers ?a__law_kinds ?l__law_kinds ?c__law_kinds ?k__law_kinds ?a__law_is_integer ?l__law_is_integer ?c__law_is_integer ?k__law_is_integer ?a__law_refusals ?l__law_refusals ?c__law_refusals ?k__law_refusals ?a__law_after ?l__law_after ?c__law_after ?k__law_after ?a__law_known ?l__law_known ?c__law_known ?k__law_known ?a__law_step ?l__law_step ?c__law_step ?k__law_step ?a_law ?l_law ?c_law ?k_law ?v_LAST_DAY ?vr_LAST_DAY ?v_FIRST_YEAR ?vr_FIRST_YEAR ?v_LAST_YEAR ?vr_LAST_YEAR ?v_DAYS_OF_FOUR_YEARS ?vr_DAYS_OF_FOUR_YEARS ?v_DAYS_OF_MONTHS ?vl_DAYS_OF_MONTHS ?vz_DAYS_OF_MONTHS ?vr_DAYS_OF_MONTHS ?v_SATURDAY ?vr_SATURDAY ?n_bool ?n_int ?n_isinstance ?n_len ?n_max ?n_range ?n_sum ?n_tuple)
      (case e_BadValue => k_is)
      (case e_BadDay => k_is)
      (case e_Missing => k_is)
      (case e_Refused => k_is)
      (case e_Full => k_is)
      (case e_NotAllowed => k_is)
      (case e_Damaged => k_is)
      (case e_BankError => k_is)
      (case eAll => first | rfl | with_unfolding_all rfl | kernel_rfl)
      (case a_is_day => k_is)
      (case l_is_day => k_is)
      (case c_is_day => k_is)
      (case k_is_day => k_is)
      (case a_check_day => k_is)
      (case l_check_day => k_is)
      (case c_check_day => k_is)
      (case k_check_day => k_is)
      (case a_days_of_month => k_is)
      (case l_days_of_month => k_is)
      (case c_days_of_month => k_is)
      (case k_days_of_month => k_is)
      (case a_first_day_of => k_is)
      (case l_first_day_of => k_is)
      (case c_first_day_of => k_is)
      (case k_first_day_of => k_is)
      (case a_date_of => k_is)
      (case l_date_of => k_is)
      (case c_date_of => k_is)
      (case k_date_of => k_is)
      (case a_is_date => k_is)
      (case l_is_date => k_is)
      (case c_is_date => k_is)
      (case k_is_date => k_is)
      (case a_day_of => k_is)
      (case l_day_of => k_is)
      (case c_day_of => k_is)
      (case k_day_of => k_is)
      (case a_weekday => k_is)
      (case l_weekday => k_is)
      (case c_weekday => k_is)
      (case k_weekday => k_is)
      (case a__law_numbers => k_is)
      (case l__law_numbers => k_is)
      (case c__law_numbers => k_is)
      (case k__law_numbers => k_is)
      (case a__law_kinds => k_is)
      (case l__law_kinds => k_is)
      (case c__law_kinds => k_is)
      (case k__law_kinds => k_is)
      (case a__law_is_integer => k_is)
      (case l__law_is_integer => k_is)
      (case c__law_is_integer => k_is)
      (case k__law_is_integer => k_is)
      (case a__law_refusals => k_is)
      (case l__law_refusals => k_is)
      (case c__law_refusals => k_is)
      (case k__law_refusals => k_is)
      (case a__law_after => k_is)
      (case l__law_after => k_is)
      (case c__law_after => k_is)
      (case k__law_after => k_is)
      (case a__law_known => k_is)
      (case l__law_known => k_is)
      (case c__law_known => k_is)
      (case k__law_known => k_is)
      (case a__law_step => k_is)
      (case l__law_step => k_is)
      (case c__law_step => k_is)
      (case k__law_step => k_is)
      (case a_law => k_is)
      (case l_law => k_is)
      (case c_law => k_is)
      (case k_law => k_is)
      (case v_LAST_DAY => k_is)
      (case vr_LAST_DAY => exact ⟨_, rfl⟩)
      (case v_FIRST_YEAR => k_is)
      (case vr_FIRST_YEAR => exact ⟨_, rfl⟩)
      (case v_LAST_YEAR => k_is)
      (case vr_LAST_YEAR => exact ⟨_, rfl⟩)
      (case v_DAYS_OF_FOUR_YEARS => k_is)
      (case vr_DAYS_OF_FOUR_YEARS => exact ⟨_, rfl⟩)
      (case v_DAYS_OF_MONTHS => k_is)
      (case vl_DAYS_OF_MONTHS => k_is)
      (case vz_DAYS_OF_MONTHS => decide)
      (case vr_DAYS_OF_MONTHS => exact (.cons ⟨_, rfl⟩ (.cons ⟨_, rfl⟩ (.cons ⟨_, rfl⟩ (.cons ⟨_, rfl⟩ (.cons ⟨_, rfl⟩ (.cons ⟨_, rfl⟩ (.cons ⟨_, rfl⟩ (.cons ⟨_, rfl⟩ (.cons ⟨_, rfl⟩ (.cons ⟨_, rfl⟩ (.cons ⟨_, rfl⟩ (.cons ⟨_, rfl⟩ .nil)))))))))))))
      (case v_SATURDAY => k_is)
      (case vr_SATURDAY => exact ⟨_, rfl⟩)
      (case n_bool => k_is)
      (case n_int => k_is)
      (case n_isinstance => k_is)
      (case n_len => k_is)
      (case n_max => k_is)
      (case n_range => k_is)
      (case n_sum => k_is)
      (case n_tuple => k_is)
    obtain ⟨_, _, _, _, _, _, hT⟩ := hT
    have ea : fa = T.a_law := by
      have z := hmg.symm.trans T.g_law
      cases z; rfl
    subst ea
    exact ⟨T.d_law, fun s u => by rw [hT]; exact .of_eq rfl, fun base _ _ => K06.ok_law T⟩
#print axioms PySem.Challenge.cw_corebank_k06_whole_dates_follow_one_anot_holds
