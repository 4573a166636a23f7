import PyProof.Rows.All
import Wide.All
import OpenK.AllK
import Wide.FinOn
import HandS.ForMost
import HandS.ForExc
import HandS.Wide
import HandS.WideMore
import HandS.WideBits
import HandS.EndBits
import HandS.IsInst
import HandS.ExcIs
import HandS.HotCalls
import HandS.StrMore
import HandS.Style
import HandS.TupAny
import HandS.SortInts
import HandS.SortKw
import HandS.Walk
import HandS.SortRule
import HandS.TupLe
import PySem.Challenge.RW_corebank_k09_whole_due_days
set_option Elab.async false
set_option linter.all false
set_option maxRecDepth 100000
set_option maxHeartbeats 4000000
/-! What all the proofs share: the library's errors, lists joined, the def that tells an error's kinds. -/
namespace Kv
open PySem PySem.Spec PyProof.Rows L2
abbrev Frag := PySem.W.Frag
inductive Er where
  | badValue | badDay | missing | refused | full | notAllowed | damaged
  deriving DecidableEq
def Er.nm : Er → Str
  | .badValue => "BadValue" | .badDay => "BadDay" | .missing => "Missing" | .refused => "Refused" | .full => "Full" | .notAllowed => "NotAllowed" | .damaged => "Damaged"
def Er.every : List Er := [.badValue, .badDay, .missing, .refused, .full, .notAllowed, .damaged]
theorem Er.mem (e : Er) : e ∈ Er.every := by cases e <;> decide
abbrev veChain : List Value := [.type "ValueError", .type "Exception", .type "BaseException", .type "object"]
/-- what the written part must say of one error class -/
def errOne (K : Frag) (a : Er → Addr) (b : Addr) (e : Er) : Bool :=
  PySem.W.excIn K (a e) veChain "ValueError.__new__" && PySem.W.keepIn K (.ref (a e)) && (PySem.W.subIn K (.ref (a e)) (.type "BaseException") == some true) && (PySem.W.typeIn K (.ref (a e)) == some (.type "type")) &&
  (PySem.W.findIn K (.ref (a e)) "__getattribute__" == some (some (.builtin "BaseException.__getattribute__"))) && (PySem.W.findIn K (.ref (a e)) "__getattr__" == some none) && PySem.W.hasDictIn K (a e) &&
  (PySem.W.findIn K (.ref (a e)) "__class__" == some (some (.builtin "object.__class__"))) && (PySem.W.mroIn K (a e) (.type "object") == some true) && (PySem.W.exmOne K (.ref (a e)) (.ref b) == some true) &&
  Er.every.all fun d => PySem.W.kitOne K (.ref (a e)) (.ref (a d)) == some (decide (e = d))
def errAll (K : Frag) (a : Er → Addr) (b : Addr) : Bool :=
  (PySem.W.specialIn K (.builtin "object.__class__") "__get__" == some (some (.builtin "getset_descriptor.__get__"))) && (PySem.W.takesIn K (.builtin "object.__class__") == some true) && Er.every.all (errOne K a b)
structure Errs (K : Frag) (mg : Str → Option Value) where
  exa : Er → Addr
  exg : ∀ e, mg e.nm = some (.ref (exa e))
  a_BankError : Addr
  g_BankError : mg "BankError" = some (.ref a_BankError)
  exAll : errAll K exa a_BankError = true
namespace Errs
variable {K : Frag} {mg : Str → Option Value} (T : Errs K mg)
theorem one (e : Er) : errOne K T.exa T.a_BankError e = true := by
  have h := T.exAll
  unfold errAll at h
  simp only [Bool.and_eq_true, List.all_eq_true] at h
  exact h.2 e e.mem
theorem split (e : Er) : PySem.W.excIn K (T.exa e) veChain "ValueError.__new__" = true ∧ PySem.W.keepIn K (.ref (T.exa e)) = true ∧ PySem.W.subIn K (.ref (T.exa e)) (.type "BaseException") = some true ∧ PySem.W.typeIn K (.ref (T.exa e)) = some (.type "type") ∧
    ExcC K (T.exa e) ∧ PySem.W.exmOne K (.ref (T.exa e)) (.ref T.a_BankError) = some true ∧ ∀ d, PySem.W.kitOne K (.ref (T.exa e)) (.ref (T.exa d)) = some (decide (e = d)) := by
  have h := T.one e
  have g := T.exAll
  unfold errOne at h
  unfold errAll at g
  simp only [Bool.and_eq_true, List.all_eq_true, beq_iff_eq] at h g
  obtain ⟨⟨⟨⟨⟨⟨⟨⟨⟨⟨h1, h2⟩, h3⟩, h4⟩, h5⟩, h6⟩, h7⟩, h8⟩, h9⟩, h10⟩, h11⟩ := h
  exact ⟨h1, h2, h3, h4, ⟨h5, h6, h3, h7, h8, g.1.1, g.1.2, h9⟩, h10, fun d => h11 d d.mem⟩
theorem exx (e : Er) : PySem.W.excIn K (T.exa e) veChain "ValueError.__new__" = true := (T.split e).1
theorem exk (e : Er) : PySem.W.keepIn K (.ref (T.exa e)) = true := (T.split e).2.1
theorem exb (e : Er) : PySem.W.subIn K (.ref (T.exa e)) (.type "BaseException") = some true := (T.split e).2.2.1
theorem ext (e : Er) : PySem.W.typeIn K (.ref (T.exa e)) = some (.type "type") := (T.split e).2.2.2.1
theorem exc (e : Er) : ExcC K (T.exa e) := (T.split e).2.2.2.2.1
theorem exm (e : Er) : PySem.W.exmOne K (.ref (T.exa e)) (.ref T.a_BankError) = some true := (T.split e).2.2.2.2.2.1
theorem exi (e d : Er) : PySem.W.kitOne K (.ref (T.exa e)) (.ref (T.exa d)) = some (decide (e = d)) := (T.split e).2.2.2.2.2.2 d
end Errs

/-- .. where the text has some of the classes alone -/
def errAllP (K : Frag) (a : Er → Addr) (b : Addr) (es : List Er) : Bool :=
  (PySem.W.specialIn K (.builtin "object.__class__") "__get__" == some (some (.builtin "getset_descriptor.__get__"))) && (PySem.W.takesIn K (.builtin "object.__class__") == some true) && es.all fun e =>
  PySem.W.excIn K (a e) veChain "ValueError.__new__" && PySem.W.keepIn K (.ref (a e)) && (PySem.W.subIn K (.ref (a e)) (.type "BaseException") == some true) && (PySem.W.typeIn K (.ref (a e)) == some (.type "type")) &&
  (PySem.W.exmOne K (.ref (a e)) (.ref b) == some true)
structure ErrsP (K : Frag) (mg : Str → Option Value) (es : List Er) where
  exa : Er → Addr
  exgP : ∀ e, e ∈ es → mg e.nm = some (.ref (exa e))
  a_BankError : Addr
  g_BankError : mg "BankError" = some (.ref a_BankError)
  exAll : errAllP K exa a_BankError es = true
namespace ErrsP
variable {K : Frag} {mg : Str → Option Value} {es : List Er} (T : ErrsP K mg es)
theorem split (e : Er) (he : e ∈ es) : PySem.W.excIn K (T.exa e) veChain "ValueError.__new__" = true ∧ PySem.W.keepIn K (.ref (T.exa e)) = true ∧ PySem.W.subIn K (.ref (T.exa e)) (.type "BaseException") = some true ∧ PySem.W.typeIn K (.ref (T.exa e)) = some (.type "type") ∧
    PySem.W.exmOne K (.ref (T.exa e)) (.ref T.a_BankError) = some true := by
  have g := T.exAll
  unfold errAllP at g
  simp only [Bool.and_eq_true, List.all_eq_true, beq_iff_eq] at g
  obtain ⟨⟨⟨⟨h1, h2⟩, h3⟩, h4⟩, h5⟩ := g.2 e he
  exact ⟨h1, h2, h3, h4, h5⟩
theorem exg (e : Er) (he : e ∈ es := by decide) : mg e.nm = some (.ref (T.exa e)) := T.exgP e he
theorem exx (e : Er) (he : e ∈ es := by decide) : PySem.W.excIn K (T.exa e) veChain "ValueError.__new__" = true := (T.split e he).1
theorem exk (e : Er) (he : e ∈ es := by decide) : PySem.W.keepIn K (.ref (T.exa e)) = true := (T.split e he).2.1
theorem exb (e : Er) (he : e ∈ es := by decide) : PySem.W.subIn K (.ref (T.exa e)) (.type "BaseException") = some true := (T.split e he).2.2.1
theorem ext (e : Er) (he : e ∈ es := by decide) : PySem.W.typeIn K (.ref (T.exa e)) = some (.type "type") := (T.split e he).2.2.2.1
theorem exm (e : Er) (he : e ∈ es := by decide) : PySem.W.exmOne K (.ref (T.exa e)) (.ref T.a_BankError) = some true := (T.split e he).2.2.2.2
end ErrsP

/-! ### two lists joined, whatever may be read of them -/
section
variable {X : Cx}
def rCatS (K : Frag) : R2 := fun x y H Q => ∃ l b xs zs, x = .ref l ∧ y = .ref b ∧ SqL K H l xs ∧ SqL K H b zs ∧ xs.length + zs.length ≤ sizeLine ∧ ∀ p, H p = none → Q (.ref p) (upd H p (.lst (xs ++ zs)))
theorem op_catS : OpR X (binaryOp .Add) (rCatS X.K) := by
  intro pins s σ H x y v u Q I rx ry h
  obtain ⟨l, b, xs, zs, e1, e2, hl, hb, hz, q⟩ := h
  subst e1 e2
  cases rx
  cases ry
  obtain ⟨i1, r1, p1, z1⟩ := I.list hl
  obtain ⟨i2, r2, p2, z2⟩ := I.list hb
  obtain ⟨⟨c1, d1, t1, w1⟩, n1, g1, k1, m1, j1⟩ := p1
  obtain ⟨⟨c2, d2, t2, w2⟩, n2, g2, k2, m2, j2⟩ := p2
  dsimp only at k1 m1 j1 k2 m2 j2
  subst k1 m1 j1 k2 m2 j2
  have l1 := r1.length
  have l2 := r2.length
  have fits : i1.toArray.size + i2.toArray.size ≤ sizeLine := by
    rw [List.size_toArray, List.size_toArray]
    omega
  have joined : i1.toArray ++ i2.toArray = (i1 ++ i2).toArray := by simp
  have meets := list_addW l b i1.toArray i2.toArray n1 n2 none none w1 w2 fits
  refine concat_meets (s := s) ⟨_, g1, rfl⟩ ⟨_, g2, rfl⟩ noFill_list_add seq_list_add
    PySem.F.slot_list_add PySem.F.entry_list_add (PySem.F.args_list_add_2 _ _) meets ⟨g1, g2, ?_⟩
  rw [joined]
  exact ⟨.ref _, _, I.lnew (t' := s.toks) (r1.append r2) (by rw [List.length_append]; exact hz), rfl, q _ I.fresh⟩
end

/-! ### a def that is handed the error which a suite holds, and tells its kind -/
section
variable {P : Program} {w : World} {K : Frag} {mg : Str → Option Value} {base : Heap}
structure KindsOk (P : Program) (w : World) (K : Frag) (mg : Str → Option Value) (base : Heap) (T : Errs K mg) (lv : Nat) (f : Addr) (fd : FuncData) : Prop where
  run : ∀ (A : Around) (outer : List Env) (s : Shared) (H : Hp) (args : Args) (us : List Value) (Q : VK) (p : Addr × Obj) (er : Er), L2H.RoomH lv A → L2H.PinOk outer H s p → Zc (.ref (T.exa er)) none p.2 → (∃ vs, p.2.data = .fields vs) →
    Env0 P w K mg base A outer s H → BindsTo s fd args ((["error"] : List Str).zip us) → Vals [.ref p.1] us → (∀ q, H q = none → Q (.ref q) (upd H q (.lst [.str er.nm]))) →
    codeAny (model P w) A (.call (.ref f) args) (CR CX0 outer P w H s Q E0) s
/-- isinstance of an error that every state bears -/
def rIsP (K : Frag) (D a : Addr) : List V → Hp → VK → Prop := fun xs H Q => ∃ (C : Addr) (b : Bool), xs = [.ref a, .ref C] ∧ PySem.W.kitOne K (.ref D) (.ref C) = some b ∧ Q (.bl b) H
theorem call_isP {X : Cx} {D : Addr} {p : Addr × Obj} (hp : p ∈ X.pn) (C : ExcC X.K D) (hz : Zc (.ref D) none p.2) (hf : ∃ vs, p.2.data = .fields vs) : CallR X (.builtin "isinstance") (rIsP X.K D p.1) := by
  intro pins s σ H xs us Q I r h
  obtain ⟨c, b, e1, e, q⟩ := h
  subst e1
  cases r with
  | cons rx rr =>
    cases rr with
    | cons rt rr2 =>
      cases rr2
      cases rx
      cases rt
      have hget := (I.pin p (List.mem_append.mpr (.inl hp))).1
      have J : PySem.W.InstAt s.heap p.1 p.2 D none := by
        obtain ⟨pa, oc, od, oda, osl⟩ := p
        obtain ⟨vs, hv⟩ := hf
        obtain ⟨h1, h2⟩ := hz
        dsimp only at h1 h2 hv hget ⊢
        subst h1 h2 hv
        exact ⟨hget, rfl, rfl, trivial⟩
      have kit := PySem.W.handS_kitx_exc C.hg C.hk C.hs C.hd C.ha C.hn C.ht C.hm (x := p.1) (ox := p.2)
      exact PySem.W.kia_one kit I.kIn J e (fun z => nomatch z) fun tk => ⟨.bl b, H, I.kept (t' := tk) fun _ _ z => z, rfl, q⟩
/-- such a def by its body -/
theorem kinds_of {T : Errs K mg} {lv : Nat} {f : Addr} {fd : FuncData} {st : Stmt} {N : List Str} (F : Fun K "_law_kinds" "_law_kinds" st f fd) (S : FnScope N ["error"] (defScope st))
    (hb : ∀ (cdv : Value) (A : Around) (outer : List Env) (s : Shared) (H : Hp) (Q : VK) (p : Addr × Obj) (er : Er), Zc (.ref (T.exa er)) none p.2 → (∃ vs, p.2.data = .fields vs) → (∀ q, H q = none → Q (.ref q) (upd H q (.lst [.str er.nm]))) →
      ∃ t, PSs (L2H.cxH CX0 P w K mg base N "_law_kinds" (defScope st) f cdv A outer s H E0 p) (defBody st) t ∧ t { nx := fun _ H' => Q .non H', rt := Q } (start N [.ref p.1]) H) :
    KindsOk P w K mg base T (lv + 1) f fd := by
  obtain ⟨oc, od, kV, doc, pm, an, cdv, ct, osl, rfl, lk, hcd⟩ := F.ex
  refine ⟨fun A outer s H args us Q p er hr hpin hz hf e0 hbi r hk => ?_⟩
  have KX : K.In s.heap := e0.mod.kin.keeps fun b o e => (e0.bs b o e).1
  have lim : s.heap.NoLimit := e0.mod.nolimit.keeps fun b o e => (e0.bs b o e).1
  have kinds : ∀ y ∈ (["error"] : List Str).zip us, (defScope st).names.lookup y.1 = some .local ∨ ((defScope st).names.lookup y.1 = some .cell ∧ ((cellsFrom (s.heap.objs.size + 1) (defScope st).names []).lookup y.1).isSome = true) := by
    intro ⟨n, v⟩ hy
    rcases S.par n (List.of_mem_zip hy).1 with z | z
    · exact .inl z
    · exact .inr ⟨z, PySem.W.cellsFrom_some _ _ _ (.inl z)⟩
  refine codeAny_call_function hr.depth (KX _ _ lk) rfl S.co S.gen rfl (PySem.W.codeRec_of KX hcd) (hbi _ _ _ _ ?_)
  refine wpAny_newFunctionEnv_cells S.kind kinds fun env he s1 x => ?_
  subst he
  refine ⟨lim.keeps x.toInCall.keep, codeAny_func ?_⟩
  obtain ⟨t, ht, hq⟩ := hb cdv A outer s H Q p er hz hf hk
  have I := L2H.inv_startH (CX := CX0) (E := E0) S hpin e0 (show ([.ref p.1] : List V).length = (["error"] : List Str).length from rfl) r x
  refine wpAny_mono (ht.run [] s1 _ H _ I hq) (fun fl s' hs => ?_) fun e s' hs => hs
  have fin : ∀ {σ' : L2.St} {H' : Hp} {v : V} {u : Value}, Inv _ [] σ' H' s' → RelV v u → Q v H' → CE outer P w H s Q u s' :=
    fun {σ' H' v u} (J : Inv (L2H.cxH CX0 P w K mg base N "_law_kinds" (defScope st) f cdv A outer s H E0 p) [] σ' H' s') rv qq => ⟨v, H', J.os, J.bare, J.base, J.hok, rv, qq⟩
  cases fl with
  | next =>
    obtain ⟨σ', H', J, qq⟩ := hs
    exact fin (v := V.non) (u := Value.none) J rfl qq
  | ret u =>
    obtain ⟨v, σ', H', J, rv, qq⟩ := hs
    exact fin J rv qq
  | brk =>
    obtain ⟨_, _, _, qq⟩ := hs
    exact qq.elim
  | cont =>
    obtain ⟨_, _, _, qq⟩ := hs
    exact qq.elim
end
section
variable {X : Cx} {CX : CXT} {f : Addr} {fd : FuncData} {lv : Nat} {x : Str} {q pos : Pos} {e : Expr} {te : TE}
/-- kinds(e), e the error that the suite holds -/
def tKinds {K : Frag} {mg : Str → Option Value} (T : Errs K mg) (cls : Value) (d : Option Addr) (a : Addr) (ta : TA) : TE := fun σ H Q => ta σ H fun vs H1 => vs = [.ref a] ∧ d = none ∧ ∃ er, cls = .ref (T.exa er) ∧ ∀ r, H1 r = none → Q (.ref r) (upd H1 r (.lst [.str er.nm]))
theorem pe_kinds {a : Addr} {oe : Obj} {cls : Value} {d : Option Addr} {P : Program} {w : World} {K : Frag} {mg : Str → Option Value} {base : Heap} {T : Errs K mg} {ta : TA} (F : KindsOk P w K mg base T lv f fd) (hz : Zc cls d oe) (hf : ∃ vs, oe.data = .fields vs) (hp : (a, oe) ∈ X.pn) (hr : L2H.RoomH lv X.A) (hg : Gl X x)
    (hm : X.mg x = some (.ref f)) (hk : PySem.W.keepIn K (.ref f) = true) (hb : Binds K fd ["error"] []) (ha : PA X [e] ta) (hP : X.prog = P := by rfl) (hw : X.w = w := by rfl) (hK : X.K = K := by rfl) (hM : X.mg = mg := by rfl) (hB : X.base = base := by rfl) (hdb : (x == ("__debug__" : Str)) = false := by decide)
    (he : starEach (e :: []) X.env = (false, eval e X.env) :: starEach [] X.env := by rfl) (hpl : (backTo pos (starEach [] X.env)).any (·.1) = false := by rfl) :
    PE X (.Call (.Name x q) [e] [] pos) (tKinds T cls d a ta) := by
  subst hP hw hK hM hB
  refine ⟨fun pins s σ H Q I h => ?_⟩
  refine wpAny_Call_Name_kw (ld_glob I hg hm ?_ hdb)
  refine PySem.W.callWith_K (h₀ := X.base) I.ok.mod.kin hk (thn (ha.run pos pins s σ H _ I h) fun us s1 ⟨vs, H1, I1, r, e1, e2, er, e3, k⟩ => ⟨I1.kIn, ?_⟩) he hpl
  subst e1 e2 e3
  have P1 := I1.pin (a, oe) (List.mem_append.mpr (.inl hp))
  have hl : us.length = 1 := r.length.symm
  have b := hb s1 us I1.kIn (by rw [List.append_nil]; exact hl)
  rw [List.append_nil] at b
  have hpin : L2H.PinOk X.stack H1 s1 (a, oe) := ⟨P1.1, P1.2.1, fun hm => (List.mem_cons.mp (I1.stkSub a hm)).elim P1.2.2.1 P1.2.2.2.1, P1.2.2.2.2⟩
  refine wpAny_call (codeAny_mono (F.run _ X.stack s1 H1 ⟨us, []⟩ us Q (a, oe) er hr hpin hz hf I1.env0 b r k) fun r' s' hq => ?_)
  cases r' with
  | error e => exact False.elim hq
  | ok fl =>
    cases fl with
    | ret u => exact I1.after hq
    | next => exact False.elim hq
    | brk => exact False.elim hq
    | cont => exact False.elim hq
end
/-! ### what may be compared -/
theorem sc_ii {a b : Int} : scal (.int a) (.int b) = true := rfl
theorem sc_ss {a b : Str} : scal (.str a) (.str b) = true := rfl
theorem sc_bb {a b : Bool} : scal (.bl a) (.bl b) = true := rfl
theorem sc_nn : scal .non .non = true := rfl
theorem sc_ni {a : Int} : scal .non (.int a) = true := rfl
theorem sc_in {a : Int} : scal (.int a) .non = true := rfl
theorem sc_sn {a : Str} : scal (.str a) .non = true := rfl
theorem sc_ns {a : Str} : scal .non (.str a) = true := rfl
theorem sc_bn {a : Bool} : scal (.bl a) .non = true := rfl
theorem sc_nb {a : Bool} : scal .non (.bl a) = true := rfl
theorem sc_is {a : Int} {b : Str} : scal (.int a) (.str b) = true := rfl
theorem sc_si {a : Int} {b : Str} : scal (.str b) (.int a) = true := rfl
theorem isi_int {K : Frag} {z : Int} {n : String} {b : Bool} {H : Hp} {Q : VK} (h : kitB "int" n = some b) (q : Q (.bl b) H) : rIsi K [.int z, .ty n] H Q := ⟨_, _, .type "int", .type n, b, rfl, .ty _, .base (.int _), kit_ty h, q⟩
theorem isi_bl {K : Frag} {z : Bool} {n : String} {b : Bool} {H : Hp} {Q : VK} (h : kitB "bool" n = some b) (q : Q (.bl b) H) : rIsi K [.bl z, .ty n] H Q := ⟨_, _, .type "bool", .type n, b, rfl, .ty _, .base (.bl _), kit_ty h, q⟩
theorem isi_str {K : Frag} {z : Str} {n : String} {b : Bool} {H : Hp} {Q : VK} (h : kitB "str" n = some b) (q : Q (.bl b) H) : rIsi K [.str z, .ty n] H Q := ⟨_, _, .type "str", .type n, b, rfl, .ty _, .base (.str _), kit_ty h, q⟩
theorem isi_tup {K : Frag} {a : Addr} {xs : List V} {n : String} {b : Bool} {H : Hp} {Q : VK} (e : H a = some (.tup xs)) (h : kitB "tuple" n = some b) (q : Q (.bl b) H) : rIsi K [.ref a, .ty n] H Q := ⟨_, _, .type "tuple", .type n, b, rfl, .ty _, .base (.tup e), kit_ty h, q⟩
theorem isi_lst {K : Frag} {a : Addr} {xs : List V} {n : String} {b : Bool} {H : Hp} {Q : VK} (e : H a = some (.lst xs)) (h : kitB "list" n = some b) (q : Q (.bl b) H) : rIsi K [.ref a, .ty n] H Q := ⟨_, _, .type "list", .type n, b, rfl, .ty _, .base (.lst e), kit_ty h, q⟩
theorem isi_non {K : Frag} {n : String} {b : Bool} {H : Hp} {Q : VK} (h : kitB "NoneType" n = some b) (q : Q (.bl b) H) : rIsi K [.non, .ty n] H Q := ⟨_, _, .type "NoneType", .type n, b, rfl, .ty _, .base .non, kit_ty h, q⟩
/-! ### [i] >= [j] -/
section listge
open PySem PySem.SeqAt PySem.MeetsSeq PySem.MeetsSeq2 PySem.MeetsSeq3
open PySem.AutoSeq1 (wpAny_loadPart')
/-- a list stands there -/
def Lat (s : Shared) (a : Addr) (xs : Array Value) (n : Nat) (dd : Option Addr) (sl : Array (Option Value)) : Prop := s.heap.get? a = some { cls := .type "list", dict := dd, data := .seq xs n, slots := sl }
theorem ge_two (a b : Addr) (xs ys : Array Value) (n m : Nat) (d1 d2 : Option Addr) (s1 s2 : Array (Option Value)) (hx : xs.size = 1) (hy : ys.size = 1) :
    Meets (Builtin.«list.__eq__.loop» ⟨[.ref a, .ref b, rawInt 1, rawInt 5], []⟩) (fun _ R s => Lat s a xs n d1 s1 ∧ Lat s b ys m d2 s2 ∧ R (.ok (.ret (.bool true))) s) := by
  rintro prog w A R ⟨hh, gg, dp, tk, oo⟩ ⟨ha, hb, k⟩
  unfold Lat at ha hb
  have e1 : xs[(1 : Int).toNat]? = none := by simp [hx]
  have e2 : ys[(1 : Int).toNat]? = none := by simp [hy]
  wp_walk using wpAny_loadPart' ha, wpAny_loadPart' hb
  rw [e1]
  wp_walk using wpAny_loadPart' ha, wpAny_loadPart' hb
  rw [hx, hy]
  exact k
theorem ge_one (a b : Addr) (xs ys : Array Value) (v u : Value) (n m : Nat) (d1 d2 : Option Addr) (s1 s2 : Array (Option Value)) (e r : Bool) (hx : xs.size = 1) (hy : ys.size = 1) (hv : xs[(0 : Int).toNat]? = some v) (hu : ys[(0 : Int).toNat]? = some u) :
    Meets (Builtin.«list.__eq__.loop» ⟨[.ref a, .ref b, rawInt 0, rawInt 5], []⟩) (fun A R s => Lat s a xs n d1 s1 ∧ Lat s b ys m d2 s2 ∧ EqAt A.in1 s v u e ∧ (e = false → Ob.RcOp .GtE A.in1 s v u r) ∧ R (.ok (.ret (.bool (e || r)))) s) := by
  rintro prog w A R ⟨hh, gg, dp, tk, oo⟩ ⟨ha, hb, he, hr, k⟩
  unfold Lat at ha hb
  wp_walk using wpAny_loadPart' ha, wpAny_loadPart' hb
  rw [hv, hu]
  refine wpAny_bind (he prog w _ _ ?_)
  cases e with
  | true =>
    wp_walk
    exact ⟨plainId_quiet plain_eq_loop _, codeAny_builtin entry_eq_loop (by
      rw [Around.under_plainId plain_eq_loop _]
      exact ge_two a b xs ys n m d1 d2 s1 s2 hx hy prog w A R _ ⟨ha, hb, k⟩)⟩
  | false =>
    wp_walk using wpAny_loadPart' ha, wpAny_loadPart' hb
    rw [hv, hu]
    refine wpAny_bind (hr rfl prog w _ _ ?_)
    wp_walk
    exact k
theorem ge_call (a b : Addr) (xs ys : Array Value) (v u : Value) (n m : Nat) (d1 d2 : Option Addr) (s1 s2 : Array (Option Value)) (e r : Bool) (hx : xs.size = 1) (hy : ys.size = 1) (hv : xs[(0 : Int).toNat]? = some v) (hu : ys[(0 : Int).toNat]? = some u) :
    Meets (Builtin.«list.__ge__» ⟨[.ref a, .ref b], []⟩) (fun A R s => Lat s a xs n d1 s1 ∧ Lat s b ys m d2 s2 ∧ EqAt A.in1 s v u e ∧ (e = false → Ob.RcOp .GtE A.in1 s v u r) ∧ R (.ok (.ret (.bool (e || r)))) s) := by
  rintro prog w A R ⟨hh, gg, dp, tk, oo⟩ ⟨ha, hb, he, hr, k⟩
  have sub := AutoSeq1.sub_list_list
  have ha' := ha
  have hb' := hb
  unfold Lat at ha' hb'
  wp_walk using wpAny_loadPart' ha', wpAny_loadPart' hb'
  exact ⟨plainId_quiet plain_eq_loop _, codeAny_builtin entry_eq_loop (by
    rw [Around.under_plainId plain_eq_loop _]
    exact ge_one a b xs ys v u n m d1 d2 s1 s2 e r hx hy hv hu prog w A R _ ⟨ha, hb, he, hr, k⟩)⟩
theorem lge_slot : Slot "list" (cmpInfo .GtE).2.1 "list.__ge__" :=
  .of (owner := "list") (n := "__ge__") (by rw [typeLookup_type, builtinLookup_eq_fast]; kernel_rfl) (by decide +kernel) (by decide +kernel) (by decide +kernel)
    (by exact .inl (by decide +kernel)) (by rw [isSubtype_type]; kernel_rfl)
theorem lge_entry : entryFor table "list.__ge__" = some Builtin.«list.__ge__» := entryFor_of_tree (by kernel_rfl)
theorem lge_args (a b : Value) : argsOk "list.__ge__" ⟨[a, b], []⟩ := by
  unfold argsOk
  rw [signature?_of (id := "list.__ge__") (n := ['_', '_', 'e', 'g', '_', '_']) (o := ['t', 's', 'i', 'l']) (by kernel_rfl) F.owner_list]
  kernel_rfl
end listge
section
open PySem PySem.Spec PyProof.Rows L2
variable {X : Cx}
/-- [i] >= [j] -/
def rGeL (K : Frag) : R2 := fun x y H Q => ∃ a b i j, x = .ref a ∧ y = .ref b ∧ SqL K H a [.int i] ∧ SqL K H b [.int j] ∧ Q (.bl (decide (j ≤ i))) H
theorem op_geL (hu : X.A.units < cLine) : OpR X (compareOp .GtE) (rGeL X.K) := by
  intro pins s σ H x y v u Q I rx ry h
  obtain ⟨a, b, i, j, rfl, rfl, ha, hb, q⟩ := h
  cases rx
  cases ry
  obtain ⟨its, r1, p1, z1⟩ := I.list ha
  obtain ⟨its2, r2, p2, z2⟩ := I.list hb
  cases r1 with
  | cons rv r1 =>
    cases r1
    cases r2 with
    | cons ru r2 =>
      cases r2
      obtain ⟨t1, rfl⟩ := rv
      obtain ⟨t2, rfl⟩ := ru
      obtain ⟨⟨c1, d1, q1, w1⟩, n1, g1, k1, m1, j1⟩ := p1
      obtain ⟨⟨c2, d2, q2, w2⟩, n2, g2, k2, m2, j2⟩ := p2
      dsimp only at k1 m1 j1 k2 m2 j2
      subst k1 m1 j1 k2 m2 j2
      have both : (i == j || decide (j ≤ i)) = decide (j ≤ i) := by
        by_cases c : i = j
        · subst c; simp
        · simp [c]
      have meets := ge_call a b #[.int i t1] #[.int j t2] (.int i t1) (.int j t2) n1 n2 none none w1 w2 (i == j) (decide (j ≤ i)) rfl rfl rfl rfl
      rw [both] at meets
      exact richCompare_meets_room (op := .GtE) ⟨_, g1, rfl⟩ ⟨_, g2, rfl⟩ lge_slot lge_entry (lge_args _ _) meets ⟨g1, g2, PySem.SeqAt.EqAt.int_int _ _ _ _, fun _ => Ob.RcOp.ge_int _ _ _ _, ⟨(fun x => nomatch x), ⟨.bl _, H, I, rfl, q⟩⟩⟩ hu
end
/-! ### xs[i] ahead of a store in place -/
section
variable {X : Cx}
def rGetL (K : Frag) : V → V → Hp → VK → Prop := fun o i H Q => ∃ p xs k v, o = .ref p ∧ i = .int k ∧ SqL K H p xs ∧ 0 ≤ k ∧ xs[k.toNat]? = some v ∧ Q v H
theorem get_list : PGet X (rGetL X.K) := by
  intro pins s σ H o i ov iv Q I ro ri h
  obtain ⟨p, xs, k, v, rfl, rfl, hq, k0, e, q⟩ := h
  cases ro
  obtain ⟨t, rfl⟩ := ri
  obtain ⟨its, r, pl, hz⟩ := I.list hq
  obtain ⟨u, eu, ru⟩ := r.get e
  have hl := r.length
  have hn := line63
  have hi := (List.getElem?_eq_some_iff.mp e).1
  exact getItem_listL pl.isList k0 (by omega) eu ⟨v, H, I, ru, q⟩
end
/-! ### in a comprehension's block, in an except suite: what is read is told by the outer K -/
theorem pe_bmK (K : Frag) {X : Cx} {T name id : String} {r : V → List V → Hp → VK → Prop} {o e : Expr} {es : List Expr} {to : TE} {t : TA} {apos cpos : Pos} (pa : PlainAttrs T) (slot : Slot T name id) (hty : typeOf (.builtin id) = pure (.type "method_descriptor")) (hm : MtR X id r) (ho : PE X o to) (ha : PA X (e :: es) t)
    (hbase : attributeBase o name X.env (eval o X.env) = eval o X.env := by rfl)
    (hfew : ((backTo cpos (starEach (e :: es) X.env)).all (fun x => !x.1) && (backToKw cpos (keywordEach [] X.env)).all (fun x => x.1.isSome)
      && decide ((e :: es).length + ([] : List Keyword).length + (if ([] : List Keyword).isEmpty then 0 else 1) < 30)) = true := by rfl)
    (hline : (apos.endLine == cpos.line) = true := by rfl) (hs : starEach (e :: es) X.env = (false, eval e X.env) :: starEach es X.env := by rfl) (hplain : (backTo cpos (starEach es X.env)).any (·.1) = false := by rfl) (h : X.K = K := by rfl) :
    PE X (.Call (.Attribute o name apos) (e :: es) [] cpos) (tBM K T r to t) := by subst h; exact pe_bm pa slot hty hm ho ha hbase hfew hline hs hplain
theorem call_lenK (K : Frag) {X : Cx} (h : X.K = K := by rfl) : CallR X (.builtin "len") (fun xs H Q => ∃ p ys, xs = [.ref p] ∧ (SqL K H p ys ∨ SqT K H p ys) ∧ Q (.int (ys.length : Nat)) H) := by subst h; exact call_len_seq
theorem ixl (K : Frag) {X : Cx} (h : X.K = K := by rfl) : IxR X (rIxL K) := by subst h; exact ix_list
theorem ixt (K : Frag) {X : Cx} (h : X.K = K := by rfl) : IxR X (rIxT K) := by subst h; exact ix_tup
theorem cdiv_1 {i : Int} : CDivW i 1 = True := eq_true ⟨by decide, by decide⟩
theorem cdiv_2 {i : Int} : CDivW i 2 = True := eq_true ⟨by decide, by decide⟩
theorem cdiv_3 {i : Int} : CDivW i 3 = True := eq_true ⟨by decide, by decide⟩
theorem cdiv_4 {i : Int} : CDivW i 4 = True := eq_true ⟨by decide, by decide⟩
theorem cdiv_5 {i : Int} : CDivW i 5 = True := eq_true ⟨by decide, by decide⟩
theorem cdiv_6 {i : Int} : CDivW i 6 = True := eq_true ⟨by decide, by decide⟩
theorem cdiv_7 {i : Int} : CDivW i 7 = True := eq_true ⟨by decide, by decide⟩
theorem cdiv_8 {i : Int} : CDivW i 8 = True := eq_true ⟨by decide, by decide⟩
theorem cdiv_9 {i : Int} : CDivW i 9 = True := eq_true ⟨by decide, by decide⟩
theorem cdiv_10 {i : Int} : CDivW i 10 = True := eq_true ⟨by decide, by decide⟩
theorem cdiv_11 {i : Int} : CDivW i 11 = True := eq_true ⟨by decide, by decide⟩
theorem cdiv_12 {i : Int} : CDivW i 12 = True := eq_true ⟨by decide, by decide⟩
theorem cdiv_13 {i : Int} : CDivW i 13 = True := eq_true ⟨by decide, by decide⟩
theorem cdiv_14 {i : Int} : CDivW i 14 = True := eq_true ⟨by decide, by decide⟩
theorem cdiv_16 {i : Int} : CDivW i 16 = True := eq_true ⟨by decide, by decide⟩
theorem cdiv_20 {i : Int} : CDivW i 20 = True := eq_true ⟨by decide, by decide⟩
theorem cdiv_30 {i : Int} : CDivW i 30 = True := eq_true ⟨by decide, by decide⟩
theorem cdiv_50 {i : Int} : CDivW i 50 = True := eq_true ⟨by decide, by decide⟩
theorem cdiv_60 {i : Int} : CDivW i 60 = True := eq_true ⟨by decide, by decide⟩
theorem cdiv_64 {i : Int} : CDivW i 64 = True := eq_true ⟨by decide, by decide⟩
theorem cdiv_100 {i : Int} : CDivW i 100 = True := eq_true ⟨by decide, by decide⟩
theorem cdiv_400 {i : Int} : CDivW i 400 = True := eq_true ⟨by decide, by decide⟩
theorem cdiv_1000 {i : Int} : CDivW i 1000 = True := eq_true ⟨by decide, by decide⟩
theorem cdiv_2000 {i : Int} : CDivW i 2000 = True := eq_true ⟨by decide, by decide⟩
theorem cdiv_10000 {i : Int} : CDivW i 10000 = True := eq_true ⟨by decide, by decide⟩
theorem cdiv_1000000 {i : Int} : CDivW i 1000000 = True := eq_true ⟨by decide, by decide⟩
theorem sz_0 : (0 ≤ sizeLine) = True := eq_true (by decide)
theorem szl_0 : (0 < sizeLine) = True := eq_true (by decide)
theorem sz_1 : (1 ≤ sizeLine) = True := eq_true (by decide)
theorem szl_1 : (1 < sizeLine) = True := eq_true (by decide)
theorem sz_2 : (2 ≤ sizeLine) = True := eq_true (by decide)
theorem szl_2 : (2 < sizeLine) = True := eq_true (by decide)
theorem sz_3 : (3 ≤ sizeLine) = True := eq_true (by decide)
theorem szl_3 : (3 < sizeLine) = True := eq_true (by decide)
theorem sz_4 : (4 ≤ sizeLine) = True := eq_true (by decide)
theorem szl_4 : (4 < sizeLine) = True := eq_true (by decide)
theorem sz_5 : (5 ≤ sizeLine) = True := eq_true (by decide)
theorem szl_5 : (5 < sizeLine) = True := eq_true (by decide)
theorem sz_6 : (6 ≤ sizeLine) = True := eq_true (by decide)
theorem szl_6 : (6 < sizeLine) = True := eq_true (by decide)
theorem sz_7 : (7 ≤ sizeLine) = True := eq_true (by decide)
theorem szl_7 : (7 < sizeLine) = True := eq_true (by decide)
theorem sz_8 : (8 ≤ sizeLine) = True := eq_true (by decide)
theorem szl_8 : (8 < sizeLine) = True := eq_true (by decide)
theorem sz_9 : (9 ≤ sizeLine) = True := eq_true (by decide)
theorem szl_9 : (9 < sizeLine) = True := eq_true (by decide)
theorem sz_10 : (10 ≤ sizeLine) = True := eq_true (by decide)
theorem szl_10 : (10 < sizeLine) = True := eq_true (by decide)
theorem sz_11 : (11 ≤ sizeLine) = True := eq_true (by decide)
theorem szl_11 : (11 < sizeLine) = True := eq_true (by decide)
theorem sz_12 : (12 ≤ sizeLine) = True := eq_true (by decide)
theorem szl_12 : (12 < sizeLine) = True := eq_true (by decide)
theorem sz_13 : (13 ≤ sizeLine) = True := eq_true (by decide)
theorem szl_13 : (13 < sizeLine) = True := eq_true (by decide)
theorem sz_14 : (14 ≤ sizeLine) = True := eq_true (by decide)
theorem szl_14 : (14 < sizeLine) = True := eq_true (by decide)
theorem sz_15 : (15 ≤ sizeLine) = True := eq_true (by decide)
theorem szl_15 : (15 < sizeLine) = True := eq_true (by decide)
theorem sz_16 : (16 ≤ sizeLine) = True := eq_true (by decide)
theorem szl_16 : (16 < sizeLine) = True := eq_true (by decide)
theorem sz_17 : (17 ≤ sizeLine) = True := eq_true (by decide)
theorem szl_17 : (17 < sizeLine) = True := eq_true (by decide)
theorem sz_18 : (18 ≤ sizeLine) = True := eq_true (by decide)
theorem szl_18 : (18 < sizeLine) = True := eq_true (by decide)
theorem sz_19 : (19 ≤ sizeLine) = True := eq_true (by decide)
theorem szl_19 : (19 < sizeLine) = True := eq_true (by decide)
theorem sz_20 : (20 ≤ sizeLine) = True := eq_true (by decide)
theorem szl_20 : (20 < sizeLine) = True := eq_true (by decide)
theorem sz_21 : (21 ≤ sizeLine) = True := eq_true (by decide)
theorem szl_21 : (21 < sizeLine) = True := eq_true (by decide)
theorem sz_22 : (22 ≤ sizeLine) = True := eq_true (by decide)
theorem szl_22 : (22 < sizeLine) = True := eq_true (by decide)
theorem sz_23 : (23 ≤ sizeLine) = True := eq_true (by decide)
theorem szl_23 : (23 < sizeLine) = True := eq_true (by decide)
theorem sz_24 : (24 ≤ sizeLine) = True := eq_true (by decide)
theorem szl_24 : (24 < sizeLine) = True := eq_true (by decide)
theorem sz_25 : (25 ≤ sizeLine) = True := eq_true (by decide)
theorem szl_25 : (25 < sizeLine) = True := eq_true (by decide)
theorem sz_26 : (26 ≤ sizeLine) = True := eq_true (by decide)
theorem szl_26 : (26 < sizeLine) = True := eq_true (by decide)
theorem cdivw {i j : Int} (h0 : 0 < j) (h1 : j < 18446744073709551616) : CDivW i j := by
  refine ⟨h0, ?_⟩
  have z : j.natAbs < 2 ^ 64 := by omega
  have := PySem.Flt.log2_lt_of (by decide : 0 < 64) z
  omega
/-! ### small words -/
theorem ne_fresh {H : Hp} {p q : Addr} {o : HO} (h : upd H p o q = none) : q ≠ p := by
  intro e
  subst e
  rw [upd_same] at h
  cases h
theorem fresh_was {H : Hp} {p q : Addr} {o : HO} (h : upd H p o q = none) : H q = none := by
  have e := ne_fresh h
  rw [upd_ne e] at h
  exact h
theorem same_upd {H : Hp} {p : Addr} {o : HO} (h : H p = none) : Same H (upd H p o) := fun b u e => by
  rw [upd_ne (ne_of_none e h)]
  exact e
/-- behind a store to what was not there at first -/
theorem same_mut {H H' : Hp} {p : Addr} {o : HO} (h : H p = none) (k : Same H H') : Same H (upd H' p o) := fun b u e => by
  rw [upd_ne (ne_of_none e h)]
  exact k b u e
theorem same_fresh {H H' : Hp} {p : Addr} (k : Same H H') (h : H' p = none) : H p = none := k.free h
theorem same_tup {K : Frag} {H H' : Hp} {a : Addr} {xs : List V} (e : Same H H') (h : SqT K H a xs) : SqT K H' a xs := by
  rcases h with (h | ⟨o, h⟩) | h
  · exact .inl (.inl (e _ _ h))
  · exact .inl (.inr ⟨o, e _ _ h⟩)
  · exact .inr h
/-- a tuple stays where a list is written -/
theorem tup_keep {H : Hp} {r a : Addr} {xs ys zs : List V} (hr : H r = some (.tup ys)) (ha : H a = some (.lst xs)) : (upd H a (.lst zs)) r = some (.tup ys) := by
  rw [upd_ne (ne_of hr ha (by intro z; cases z))]
  exact hr
theorem bits64 {k : Int} (h1 : -(2 ^ 64) < k) (h2 : k < 2 ^ 64) : Builtin.Int.intBits k ≤ 64 := intBits_le_64 h1 h2
theorem bitsPow {k : Int} {n : Nat} (h0 : 0 < n) (h1 : -(2 ^ n) < k) (h2 : k < 2 ^ n) : Builtin.Int.intBits k ≤ n := by
  have z : k.natAbs < 2 ^ n := by
    have e : ((2 ^ n : Nat) : Int) = (2 : Int) ^ n := by simp
    omega
  unfold Builtin.Int.intBits
  split
  · omega
  · have := PySem.Flt.log2_lt_of h0 z
    omega
theorem bits_mono {i j : Int} (h : i.natAbs ≤ j.natAbs) : Builtin.Int.intBits i ≤ Builtin.Int.intBits j := by
  unfold Builtin.Int.intBits
  by_cases c : i = 0
  · rw [if_pos (beq_iff_eq.mpr c)]
    exact Nat.zero_le _
  · have hj : ¬ j = 0 := by omega
    rw [if_neg (fun z => hj (beq_iff_eq.mp z)), if_neg (fun z => c (beq_iff_eq.mp z))]
    have hi : i.natAbs ≠ 0 := by omega
    have hj' : j.natAbs ≠ 0 := by omega
    have z : i.natAbs.log2 ≤ j.natAbs.log2 := (Nat.le_log2 hj').mpr (Nat.le_trans (Nat.log2_self_le hi) h)
    omega
theorem mulX {i j : Int} {a b : Nat} (h1 : Builtin.Int.intBits i ≤ a) (h2 : Builtin.Int.intBits j ≤ b) (h : a + b ≤ 134217728 := by decide) : CMulX i j := by
  unfold CMulX
  omega
theorem ix_num {K : Frag} {a : Addr} {ns : List Int} {k : Int} {H : Hp} {Q : VK} (hS : SqL K H a (ns.map V.int)) (h : 0 ≤ k ∧ k < (ns.length : Int)) (q : Q (.int (ns.getD k.toNat 0)) H) : rIxL K (.ref a) (.int k) H Q := by
  refine ⟨a, _, k, _, rfl, rfl, hS, ?_, q⟩
  have e : (ns.map V.int)[k.toNat]? = some (V.int (ns.getD k.toNat 0)) := by
    rw [List.getElem?_map, List.getD_eq_getElem?_getD]
    have z : k.toNat < ns.length := by omega
    rw [List.getElem?_eq_getElem z]
    rfl
  exact at_of (j := k.toNat) (by omega) e
theorem ix_at {K : Frag} {a : Addr} {xs : List V} {k : Int} {v : V} {H : Hp} {Q : VK} (hS : SqL K H a xs) (h : 0 ≤ k) (e : xs[k.toNat]? = some v) (q : Q v H) : rIxL K (.ref a) (.int k) H Q :=
  ⟨a, xs, k, v, rfl, rfl, hS, at_of (j := k.toNat) (by omega) e, q⟩
theorem inV_ints {d : Int} : ∀ hs : List Int, inV (.int d) (hs.map V.int) = decide (d ∈ hs)
  | [] => by simp [inV]
  | x :: r => by
    have ih := inV_ints (d := d) r
    unfold inV at ih ⊢
    rw [List.map_cons, List.any_cons, ih]
    by_cases e : x = d
    · subst e; simp [eqV]
    · have e2 : ¬d = x := fun z => e z.symm
      simp [eqV, e, e2]
theorem flat_int (hs : List Int) : (hs.map V.int).all flatV = true := by
  rw [List.all_map]
  exact List.all_eq_true.mpr fun _ _ => rfl
theorem in_ints {K : Frag} {d : Int} {a : Addr} {hs : List Int} {H : Hp} {Q : VK} (hS : SqL K H a (hs.map V.int)) (q : Q (.bl (decide (d ∈ hs))) H) : rIn K false (.int d) (.ref a) H Q :=
  ⟨a, _, rfl, .inl hS, rfl, flat_int hs, by rw [inV_ints]; exact q⟩
theorem nin_ints {K : Frag} {d : Int} {a : Addr} {hs : List Int} {H : Hp} {Q : VK} (hS : SqL K H a (hs.map V.int)) (q : Q (.bl (!decide (d ∈ hs))) H) : rIn K true (.int d) (.ref a) H Q :=
  ⟨a, _, rfl, .inl hS, rfl, flat_int hs, by rw [inV_ints]; exact q⟩
/-- what is known of a number that a law draws -/
theorem num_in {ns : List Int} (hn : ∀ z ∈ ns, 0 ≤ z ∧ z < 10000000000000) (k : Nat) : 0 ≤ ns.getD k 0 ∧ ns.getD k 0 < 10000000000000 := by
  rw [List.getD_eq_getElem?_getD]
  cases e : ns[k]? with
  | none => exact ⟨by decide, by decide⟩
  | some z => exact hn z (List.mem_of_getElem? e)
theorem ix_sign {z : Str} {k : Int} {H : Hp} {Q : VK} (hz : z.length ≤ sizeLine) (h : 0 ≤ k ∧ k < (z.length : Int)) (q : ∀ c, z.cps.toList[k.toNat]? = some c → Q (.str ⟨#[c]⟩) H) : rIxS (.str z) (.int k) H Q := by
  have hl : k.toNat < z.cps.toList.length := by
    rw [Array.length_toList]
    show k.toNat < z.length
    omega
  have e : z.cps.toList[k.toNat]? = some z.cps.toList[k.toNat] := List.getElem?_eq_getElem hl
  refine ⟨z, k, _, rfl, rfl, hz, ?_, q _ e⟩
  unfold atI
  rw [show ixN z.cps.toList.length k = some k.toNat by unfold ixN; rw [if_pos h.1, if_pos (by omega)]]
  exact e
theorem ix_signc {z : Str} {k : Int} {c : Nat} {H : Hp} {Q : VK} (hz : z.length ≤ sizeLine) (h : 0 ≤ k) (e : z.cps.toList[k.toNat]? = some c) (q : Q (.str ⟨#[c]⟩) H) : rIxS (.str z) (.int k) H Q := by
  have hl : k.toNat < z.cps.toList.length := (List.getElem?_eq_some_iff.mp e).1
  refine ⟨z, k, c, rfl, rfl, hz, ?_, q⟩
  unfold atI
  rw [show ixN z.cps.toList.length k = some k.toNat by unfold ixN; rw [if_pos h, if_pos (by omega)]]
  exact e
theorem len_one (c : Nat) : (⟨#[c]⟩ : Str).length = 1 := rfl
theorem ref_num {ns : List Int} {i : Nat} {x : V} (h : (ns.map V.int)[i]? = some x) : ∃ z, ns[i]? = some z ∧ x = .int z := by
  rw [List.getElem?_map] at h
  cases e : ns[i]? with
  | none => rw [e] at h; cases h
  | some z => rw [e] at h; exact ⟨z, rfl, (Option.some.inj h).symm⟩
/-! ### one statement at a time -/
theorem seq_step {t u : TS} {D : Ends} {σ : L2.St} {H : Hp} (h : ∀ U : Ends → L2.St → Hp → Prop, U = u → t { D with nx := U D } σ H) : tSeq t u D σ H := h u rfl
theorem gseq_step {t u : TS} {D : Ends} {i : Nat} {x : V} {σ : L2.St} {H : Hp} (h : ∀ U : Ends → L2.St → Hp → Prop, U = u → t { D with nx := U D } (σ.set i (some x)) H) : gName i x σ H fun σ2 H2 => tSeq t u D σ2 H2 := h u rfl
/-- .. what stands between the two told -/
theorem seq_cut {t u : TS} {D : Ends} {σ : L2.St} {H : Hp} (M : L2.St → Hp → Prop) (h1 : ∀ U : L2.St → Hp → Prop, (∀ σ' H', M σ' H' → U σ' H') → t { D with nx := U } σ H) (h2 : ∀ σ' H', M σ' H' → u D σ' H') : tSeq t u D σ H := h1 (u D) h2
/-! ### a tuple taken apart -/
theorem gtup2 {K : Frag} {p : Addr} {x y : V} {g1 g2 : TG} {σ : L2.St} {H : Hp} {k : L2.St → Hp → Prop} (h : SqT K H p [x, y]) (q : g1 x σ H fun σ1 H1 => g2 y σ1 H1 k) (mono : ∀ v σ H, (∀ Q Q' : L2.St → Hp → Prop, (∀ a b, Q a b → Q' a b) → g1 v σ H Q → g1 v σ H Q') ∧ (∀ Q Q' : L2.St → Hp → Prop, (∀ a b, Q a b → Q' a b) → g2 v σ H Q → g2 v σ H Q')) : gTup K 2 (gCons g1 (gCons g2 gNil)) (.ref p) σ H k :=
  ⟨p, _, rfl, h, rfl, x, [y], rfl, (mono _ _ _).1 _ _ (fun σ1 H1 q1 => ⟨y, [], rfl, (mono _ _ _).2 _ _ (fun _ _ q2 => ⟨rfl, q2⟩) q1⟩) q⟩
theorem gtupN2 {K : Frag} {p : Addr} {x y : V} {i j : Nat} {σ : L2.St} {H : Hp} {k : L2.St → Hp → Prop} (h : SqT K H p [x, y]) (q : k ((σ.set i (some x)).set j (some y)) H) : gTup K 2 (gCons (gName i) (gCons (gName j) gNil)) (.ref p) σ H k :=
  ⟨p, _, rfl, h, rfl, x, [y], rfl, y, [], rfl, rfl, q⟩
theorem gtupN3 {K : Frag} {p : Addr} {x y z : V} {i j l : Nat} {σ : L2.St} {H : Hp} {k : L2.St → Hp → Prop} (h : SqT K H p [x, y, z]) (q : k (((σ.set i (some x)).set j (some y)).set l (some z)) H) : gTup K 3 (gCons (gName i) (gCons (gName j) (gCons (gName l) gNil))) (.ref p) σ H k :=
  ⟨p, _, rfl, h, rfl, x, [y, z], rfl, y, [z], rfl, z, [], rfl, rfl, q⟩
/-! ### lists of texts, lists of ints compared -/
theorem dp_strs {K : Frag} {H : Hp} : ∀ xs : List Str, DpAll K H (xs.map V.str) (xs.map PyData.str)
  | [] => .nil
  | x :: r => .cons (.str x) (dp_strs r)
theorem dp_ints {K : Frag} {H : Hp} : ∀ xs : List Int, DpAll K H (xs.map V.int) (xs.map PyData.int)
  | [] => .nil
  | x :: r => .cons (.int x) (dp_ints r)
theorem eqv_strs : ∀ xs ys : List Str, PyData.eqvAll (xs.map PyData.str) (ys.map PyData.str) = decide (xs = ys)
  | [], [] => by simp [PyData.eqvAll]
  | [], y :: ys => by simp [PyData.eqvAll]
  | x :: xs, [] => by simp [PyData.eqvAll]
  | x :: xs, y :: ys => by
    have ih := eqv_strs xs ys
    simp only [List.map_cons, PyData.eqvAll, PyData.eqv, ih, List.cons.injEq]
    by_cases e : x = y <;> simp [e]
theorem eqv_ints : ∀ xs ys : List Int, PyData.eqvAll (xs.map PyData.int) (ys.map PyData.int) = decide (xs = ys)
  | [], [] => by simp [PyData.eqvAll]
  | [], y :: ys => by simp [PyData.eqvAll]
  | x :: xs, [] => by simp [PyData.eqvAll]
  | x :: xs, y :: ys => by
    have ih := eqv_ints xs ys
    simp only [List.map_cons, PyData.eqvAll, PyData.eqv, ih, List.cons.injEq]
    by_cases e : x = y <;> simp [e]
theorem lay_strs : ∀ xs : List Str, xs.all PyData.strOk = true → PyData.canLayAll0 (xs.map PyData.str) = true
  | [], _ => rfl
  | x :: r, h => by
    rw [List.all_cons, Bool.and_eq_true] at h
    simp only [List.map_cons, PyData.canLayAll0, PyData.canLay0, h.1, lay_strs r h.2, Bool.and_self]
theorem lay_ints : ∀ xs : List Int, PyData.canLayAll0 (xs.map PyData.int) = true
  | [] => rfl
  | x :: r => by simp only [List.map_cons, PyData.canLayAll0, PyData.canLay0, lay_ints r, Bool.and_self]
theorem flat_strs : ∀ xs : List Str, PyData.depthAll (xs.map PyData.str) = 0
  | [] => rfl
  | x :: r => by simp only [List.map_cons, PyData.depthAll, PyData.depth, flat_strs r, Nat.max_self]
theorem flat_ints : ∀ xs : List Int, PyData.depthAll (xs.map PyData.int) = 0
  | [] => rfl
  | x :: r => by simp only [List.map_cons, PyData.depthAll, PyData.depth, flat_ints r, Nat.max_self]
theorem shaped_strs {xs : List Str} (h : xs.all PyData.strOk = true) : SeqAt.shaped (.list (xs.map PyData.str)) = true := by
  unfold SeqAt.shaped
  simp only [PyData.canLay0, lay_strs xs h, PyData.depth, flat_strs, Bool.true_and]
  decide
theorem shaped_ints {xs : List Int} : SeqAt.shaped (.list (xs.map PyData.int)) = true := by
  unfold SeqAt.shaped
  simp only [PyData.canLay0, lay_ints xs, PyData.depth, flat_ints, Bool.true_and]
  decide
theorem ne_strs {K : Frag} {H : Hp} {p q : Addr} {xs ys : List Str} {Q : VK} (hp : SqL K H p (xs.map V.str)) (hq : SqL K H q (ys.map V.str)) (ox : xs.all PyData.strOk = true) (oy : ys.all PyData.strOk = true) (k : Q (.bl (!decide (xs = ys))) H) : rNeD K (.ref p) (.ref q) H Q :=
  ⟨_, _, .lst hp (dp_strs xs), .lst hq (dp_strs ys), shaped_strs ox, shaped_strs oy, by simp only [PyData.eqv, eqv_strs]; exact k⟩
theorem eq_strs {K : Frag} {H : Hp} {p q : Addr} {xs ys : List Str} {Q : VK} (hp : SqL K H p (xs.map V.str)) (hq : SqL K H q (ys.map V.str)) (ox : xs.all PyData.strOk = true) (oy : ys.all PyData.strOk = true) (k : Q (.bl (decide (xs = ys))) H) : rEqD K (.ref p) (.ref q) H Q :=
  ⟨_, _, .lst hp (dp_strs xs), .lst hq (dp_strs ys), shaped_strs ox, shaped_strs oy, by simp only [PyData.eqv, eqv_strs]; exact k⟩
theorem ne_ints {K : Frag} {H : Hp} {p q : Addr} {xs ys : List Int} {Q : VK} (hp : SqL K H p (xs.map V.int)) (hq : SqL K H q (ys.map V.int)) (k : Q (.bl (!decide (xs = ys))) H) : rNeD K (.ref p) (.ref q) H Q :=
  ⟨_, _, .lst hp (dp_ints xs), .lst hq (dp_ints ys), shaped_ints, shaped_ints, by simp only [PyData.eqv, eqv_ints]; exact k⟩
theorem eq_ints {K : Frag} {H : Hp} {p q : Addr} {xs ys : List Int} {Q : VK} (hp : SqL K H p (xs.map V.int)) (hq : SqL K H q (ys.map V.int)) (k : Q (.bl (decide (xs = ys))) H) : rEqD K (.ref p) (.ref q) H Q :=
  ⟨_, _, .lst hp (dp_ints xs), .lst hq (dp_ints ys), shaped_ints, shaped_ints, by simp only [PyData.eqv, eqv_ints]; exact k⟩
/-- kinds as a law compares them -/
theorem ne_kind {K : Frag} {H : Hp} {p q : Addr} {x : Str} {Q : VK} (hp : H p = some (.lst [.str x])) (hq : H q = some (.lst [.str x])) (ox : PyData.strOk x = true) (k : Q (.bl false) H) : rNeD K (.ref p) (.ref q) H Q :=
  ne_strs (xs := [x]) (ys := [x]) (SqL.of hp) (SqL.of hq) (by simp [ox]) (by simp [ox]) (by simpa using k)
theorem shaped_of {d : PyData} (h1 : PyData.canLay0 d = true) (h2 : d.depth ≤ 64) : SeqAt.shaped d = true := by
  unfold SeqAt.shaped
  rw [h1, Bool.true_and]
  exact decide_eq_true h2
/-- two that say the same -/
theorem ne_same {K : Frag} {H : Hp} {x y : V} {d : PyData} {Q : VK} (hx : Dp K H x d) (hy : Dp K H y d) (hs : SeqAt.shaped d = true) (he : PyData.eqv d d = true) (k : Q (.bl false) H) : rNeD K x y H Q :=
  ⟨d, d, hx, hy, hs, hs, by rw [he]; exact k⟩
theorem eq_same {K : Frag} {H : Hp} {x y : V} {d : PyData} {Q : VK} (hx : Dp K H x d) (hy : Dp K H y d) (hs : SeqAt.shaped d = true) (he : PyData.eqv d d = true) (k : Q (.bl true) H) : rEqD K x y H Q :=
  ⟨d, d, hx, hy, hs, hs, by rw [he]; exact k⟩
theorem dp_3 {K : Frag} {H : Hp} {t : Addr} {a b c : Int} (ht : SqT K H t [.int a, .int b, .int c]) : Dp K H (.ref t) (.tuple [.int a, .int b, .int c]) :=
  .tup ht (.cons (.int _) (.cons (.int _) (.cons (.int _) .nil)))
theorem dp_pair {K : Frag} {H : Hp} {t l : Addr} {x y : V} {d e : PyData} (ht : SqT K H t [x, .ref l]) (hx : Dp K H x d) (hl : SqL K H l [y]) (hy : Dp K H y e) : Dp K H (.ref t) (.tuple [d, .list [e]]) :=
  .tup ht (.cons hx (.cons (.lst hl (.cons hy .nil)) .nil))
/-! ### loops -/
theorem tfor_range1 {ta : TA} {g : TG} {tb : TS} {D : Ends} {σ : L2.St} {H : Hp} {n : Int} (ha : ∀ Q : List V → Hp → Prop, Q [.int n] H → ta σ H Q) (hn : -1000000 ≤ n ∧ n ≤ 1000000) (Pv : Nat → L2.St → Hp → Prop) (h0 : Pv 0 σ H)
    (hs : ∀ (i : Nat) σ' H', (i : Int) < n → Pv i σ' H' → g (.int (i : Int)) σ' H' fun σ2 H2 => tb { D with nx := Pv (i + 1), ct := Pv (i + 1), bk := D.nx } σ2 H2) (hd : ∀ σ' H', Pv n.toNat σ' H' → D.nx σ' H') : tFor (iRng1 ta) g tb D σ H :=
  ha _ ⟨n, rfl, by omega, by omega, for_range (lo := 0) (n := n.toNat) Pv h0 (fun i σ' H' hi p => by
    rw [Int.zero_add]
    exact hs i σ' H' (by omega) p) hd⟩
theorem tfor_range2 {ta : TA} {g : TG} {tb : TS} {D : Ends} {σ : L2.St} {H : Hp} {lo hi : Int} (ha : ∀ Q : List V → Hp → Prop, Q [.int lo, .int hi] H → ta σ H Q) (hn : -1000000 ≤ lo ∧ lo ≤ 1000000 ∧ -1000000 ≤ hi ∧ hi ≤ 1000000) (Pv : Nat → L2.St → Hp → Prop) (h0 : Pv 0 σ H)
    (hs : ∀ (i : Nat) σ' H', lo + (i : Int) < hi → Pv i σ' H' → g (.int (lo + (i : Int))) σ' H' fun σ2 H2 => tb { D with nx := Pv (i + 1), ct := Pv (i + 1), bk := D.nx } σ2 H2) (hd : ∀ σ' H', Pv (hi - lo).toNat σ' H' → D.nx σ' H') : tFor (iRng2 ta) g tb D σ H :=
  ha _ ⟨lo, hi, rfl, ⟨by omega, by omega, by omega, by omega⟩, for_range (lo := lo) (n := (hi - lo).toNat) Pv h0 (fun i σ' H' hi p => hs i σ' H' (by omega) p) hd⟩
theorem tfor_lvar {K : Frag} {j : Nat} {a : Addr} {xs : List V} {g : TG} {tb : TS} {D : Ends} {σ : L2.St} {H : Hp} (hj : σ[j]? = some (some (.ref a))) (hS : SqL K H a xs) (Pv : Nat → L2.St → Hp → Prop) (h0 : Pv 0 σ H) (hl : ∀ i σ' H', i ≤ xs.length → Pv i σ' H' → SqL K H' a xs)
    (hs : ∀ i x σ' H', xs[i]? = some x → Pv i σ' H' → g x σ' H' fun σ2 H2 => tb { D with nx := Pv (i + 1), ct := Pv (i + 1), bk := D.nx } σ2 H2) (hd : ∀ σ' H', Pv xs.length σ' H' → D.nx σ' H') : tFor (iList K (tVar j)) g tb D σ H :=
  ⟨_, hj, a, rfl, ⟨xs, hS⟩, for_list (xs := xs) Pv h0 hl hs hd⟩
theorem tfor_five {K : Frag} {j : Nat} {n : Int} {a : Addr} {xs : List V} {g : TG} {tb : TS} {D : Ends} {σ : L2.St} {H : Hp} (hj : σ[j]? = some (some (.ref a))) (hS : SqL K H a xs) (hz : xs.length ≤ 100000)
    (h : ∀ b H1, Same H H1 → H1 b = some (.lst (.int n :: xs)) → H b = none → ∃ Pv : Nat → L2.St → Hp → Prop, Pv 0 σ H1 ∧ (∀ i σ' H', i ≤ (V.int n :: xs).length → Pv i σ' H' → SqL K H' b (.int n :: xs)) ∧
    (∀ i x σ' H', (V.int n :: xs)[i]? = some x → Pv i σ' H' → g x σ' H' fun σ2 H2 => tb { D with nx := Pv (i + 1), ct := Pv (i + 1), bk := D.nx } σ2 H2) ∧ (∀ σ' H', Pv (V.int n :: xs).length σ' H' → D.nx σ' H')) :
    tFor (iList K (tOp (rCatS K) (tLst (tCons (tC (.int n)) tNil)) (tVar j))) g tb D σ H := by
  refine ⟨by show 1 ≤ sizeLine; decide, fun p hp => ⟨_, hj, p, a, [.int n], xs, rfl, rfl, SqL.of upd_same, (same_upd hp).seq hS, ?_, fun b hb => ?_⟩⟩
  · show 1 + xs.length ≤ sizeLine
    exact Nat.le_trans (show 1 + xs.length ≤ 100001 by omega) (by decide)
  · have s2 : Same H (upd (upd H p (.lst [.int n])) b (.lst ([.int n] ++ xs))) := (same_upd hp).trans (same_upd hb)
    obtain ⟨Pv, h0, hl, hs, hd⟩ := h b _ s2 upd_same (fresh_was hb)
    exact ⟨b, rfl, ⟨_, SqL.of upd_same⟩, for_list (xs := V.int n :: xs) Pv h0 hl hs hd⟩
theorem tfor_list {K : Frag} {tl : TE} {g : TG} {tb : TS} {D : Ends} {σ : L2.St} {H : Hp}
    (h : tl σ H fun x H1 => ∃ a xs, x = .ref a ∧ SqL K H1 a xs ∧ ∃ Pv : Nat → L2.St → Hp → Prop, Pv 0 σ H1 ∧ (∀ i σ' H', i ≤ xs.length → Pv i σ' H' → SqL K H' a xs) ∧
      (∀ i x σ' H', xs[i]? = some x → Pv i σ' H' → g x σ' H' fun σ2 H2 => tb { D with nx := Pv (i + 1), ct := Pv (i + 1), bk := D.nx } σ2 H2) ∧ ∀ σ' H', Pv xs.length σ' H' → D.nx σ' H')
    (mono : ∀ Q Q' : VK, (∀ v H', Q v H' → Q' v H') → tl σ H Q → tl σ H Q') : tFor (iList K tl) g tb D σ H :=
  mono _ _ (fun v H' ⟨a, xs, e, hS, Pv, h0, hl, hs, hd⟩ => ⟨a, e, ⟨xs, hS⟩, for_list (xs := xs) Pv h0 hl hs hd⟩) h
theorem tfor_disp {K : Frag} {ta : TA} (vs : List V) {g : TG} {tb : TS} {D : Ends} {σ : L2.St} {H : Hp} (hz : vs.length ≤ 1000) (ha : ∀ Q : List V → Hp → Prop, (∀ H1, Same H H1 → Q vs H1) → ta σ H Q)
    (h : ∀ b H1, Same H H1 → H1 b = some (.lst vs) → H b = none → ∃ Pv : Nat → L2.St → Hp → Prop, Pv 0 σ H1 ∧ (∀ i σ' H', Pv i σ' H' → SqL K H' b vs) ∧
    (∀ i x σ' H', vs[i]? = some x → Pv i σ' H' → g x σ' H' fun σ2 H2 => tb { D with nx := Pv (i + 1), ct := Pv (i + 1), bk := D.nx } σ2 H2) ∧ (∀ σ' H', Pv vs.length σ' H' → D.nx σ' H')) :
    tFor (iList K (tLst ta)) g tb D σ H :=
  ha _ fun H1 s1 => ⟨Nat.le_trans hz (by decide), fun p hp => by
    obtain ⟨Pv, h0, hl, hs, hd⟩ := h p _ (s1.trans (same_upd hp)) upd_same (s1.free hp)
    exact ⟨p, rfl, ⟨_, SqL.of upd_same⟩, for_list (xs := vs) Pv h0 (fun i σ' H' _ => hl i σ' H') hs hd⟩⟩
/-! ### any walk -/
def ForGoal (J : It) (g : TG) (tb : TS) (D : Ends) (σ : L2.St) (H : Hp) : Prop :=
  ∃ W : Nat → Nat → L2.St → Hp → Prop, (∃ m, W 0 m σ H) ∧ ∀ i m σ H, W i m σ H →
      (J.stop i H ∧ D.nx σ H) ∨ (J.go i H ∧ ∃ N : L2.St → Hp → Prop, (∀ σ' H', N σ' H' → ∃ m', m' < m ∧ W (i + 1) m' σ' H') ∧ ∀ x H', J.yld i H x H' → g x σ H' fun σ2 H2 => tb { D with nx := N, ct := N, bk := D.nx } σ2 H2)
theorem tFor_eq {wi : TI} {g : TG} {tb : TS} {D : Ends} {σ : L2.St} {H : Hp} : tFor wi g tb D σ H = wi σ H fun J H1 => ForGoal J g tb D σ H1 := rfl
theorem for_go {J : It} {n : Nat} {G : Hp → Prop} {Y : Nat → Hp → V → Hp → Prop} (w : Walk J n G Y) {g : TG} {tb : TS} {D : Ends} {σ : L2.St} {H : Hp} (Pv : Nat → L2.St → Hp → Prop) (h0 : Pv 0 σ H) (hG : ∀ i σ H, i ≤ n → Pv i σ H → G H)
    (hs : ∀ i x σ H H', i < n → Pv i σ H → Y i H x H' → g x σ H' fun σ2 H2 => tb { D with nx := Pv (i + 1), ct := Pv (i + 1), bk := D.nx } σ2 H2) (hd : ∀ σ H, Pv n σ H → D.nx σ H) : ForGoal J g tb D σ H := for_it w Pv h0 hG hs hd
theorem for_rng {lo : Int} {n : Nat} {g : TG} {tb : TS} {D : Ends} {σ : L2.St} {H : Hp} (Pv : Nat → L2.St → Hp → Prop) (h0 : Pv 0 σ H)
    (hs : ∀ (i : Nat) σ H, i < n → Pv i σ H → g (.int (lo + (i : Int))) σ H fun σ2 H2 => tb { D with nx := Pv (i + 1), ct := Pv (i + 1), bk := D.nx } σ2 H2) (hd : ∀ σ H, Pv n σ H → D.nx σ H) : ForGoal (Itr lo n) g tb D σ H := for_range Pv h0 hs hd
theorem for_rng0 {n : Nat} {g : TG} {tb : TS} {D : Ends} {σ : L2.St} {H : Hp} (Pv : Nat → L2.St → Hp → Prop) (h0 : Pv 0 σ H)
    (hs : ∀ (i : Nat) σ H, i < n → Pv i σ H → g (.int (i : Int)) σ H fun σ2 H2 => tb { D with nx := Pv (i + 1), ct := Pv (i + 1), bk := D.nx } σ2 H2) (hd : ∀ σ H, Pv n σ H → D.nx σ H) : ForGoal (Itr 0 n) g tb D σ H :=
  for_range Pv h0 (fun i σ H hi p => by rw [Int.zero_add]; exact hs i σ H hi p) hd
theorem for_lst {K : Frag} {a : Addr} (xs : List V) {g : TG} {tb : TS} {D : Ends} {σ : L2.St} {H : Hp} (Pv : Nat → L2.St → Hp → Prop) (h0 : Pv 0 σ H) (hl : ∀ i σ H, Pv i σ H → SqL K H a xs)
    (hs : ∀ (i : Nat) x σ H, xs[i]? = some x → Pv i σ H → g x σ H fun σ2 H2 => tb { D with nx := Pv (i + 1), ct := Pv (i + 1), bk := D.nx } σ2 H2) (hd : ∀ σ H, Pv xs.length σ H → D.nx σ H) : ForGoal (Itl K a) g tb D σ H :=
  for_list Pv h0 (fun i σ H _ p => hl i σ H p) hs hd
theorem for_zp {K : Frag} {a b : Addr} (xs ys : List V) (n : Nat) (hn : n = min xs.length ys.length) {g : TG} {tb : TS} {D : Ends} {σ : L2.St} {H : Hp} (Pv : Nat → L2.St → Hp → Prop) (h0 : Pv 0 σ H) (hG : ∀ i σ H, Pv i σ H → SqL K H a xs ∧ SqL K H b ys)
    (hs : ∀ (i : Nat) x y (T : Addr) σ H, i < n → xs[i]? = some x → ys[i]? = some y → Pv i σ H → H T = none → g (.ref T) σ (upd H T (.tup [x, y])) fun σ2 H2 => tb { D with nx := Pv (i + 1), ct := Pv (i + 1), bk := D.nx } σ2 H2) (hd : ∀ σ H, Pv n σ H → D.nx σ H) : ForGoal (Itz K a b) g tb D σ H :=
  for_go (walk_zip hn) Pv h0 (fun i σ H _ p => hG i σ H p) (fun i v σ H H' hi p y => by obtain ⟨T, x, y, rfl, hT, rfl, hx, hy⟩ := y; exact hs i x y T σ H hi hx hy p hT) hd
theorem for_en {K : Frag} {a : Addr} (xs : List V) {g : TG} {tb : TS} {D : Ends} {σ : L2.St} {H : Hp} (Pv : Nat → L2.St → Hp → Prop) (h0 : Pv 0 σ H) (hG : ∀ i σ H, Pv i σ H → SqL K H a xs)
    (hs : ∀ (i : Nat) x (T : Addr) σ H, xs[i]? = some x → Pv i σ H → H T = none → g (.ref T) σ (upd H T (.tup [.int (i : Int), x])) fun σ2 H2 => tb { D with nx := Pv (i + 1), ct := Pv (i + 1), bk := D.nx } σ2 H2) (hd : ∀ σ H, Pv xs.length σ H → D.nx σ H) : ForGoal (Ite K a) g tb D σ H :=
  for_go walk_enum Pv h0 (fun i σ H _ p => hG i σ H p) (fun i v σ H H' hi p y => by obtain ⟨T, x, y, rfl, hT, rfl, hx, hy⟩ := y; cases hx; exact hs i y T σ H hy p hT) hd
/-- the law's own loop, over [n] + script -/
theorem for_cells {K : Frag} {H0 : Hp} {n : Int} {b : Addr} {ns : List Int} {g : TG} {tb : TS} {D : Ends} {σ : L2.St} (hb : H0 b = some (.lst (.int n :: ns.map V.int))) (hn : Builtin.Int.intBits n ≤ 64) (hz : ∀ z ∈ ns, Builtin.Int.intBits z ≤ 1048576) (J : L2.St → Hp → Prop) (h0 : J σ H0) (hl : ∀ σ H, J σ H → Same H0 H)
    (hs : ∀ z σ H, Builtin.Int.intBits z ≤ 1048576 → J σ H → g (.int z) σ H fun σ2 H2 => tb { D with nx := J, ct := J, bk := D.nx } σ2 H2) (hd : ∀ σ H, J σ H → D.nx σ H) : ForGoal (Itl K b) g tb D σ H0 := by
  refine for_lst (.int n :: ns.map V.int) (fun _ => J) h0 (fun _ σ H j => SqL.of (hl σ H j _ _ hb)) (fun i x σ H e j => ?_) hd
  cases i with
  | zero => cases e; exact hs n σ H (Nat.le_trans hn (by decide)) j
  | succ i =>
    obtain ⟨z, e1, rfl⟩ := ref_num (ns := ns) (i := i) e
    exact hs z σ H (hz z (List.mem_of_getElem? e1)) j
theorem tfor_cells {K : Frag} {j : Nat} {n : Int} {a : Addr} {ns : List Int} {g : TG} {tb : TS} {D : Ends} {σ : L2.St} {H0 : Hp} (hj : σ[j]? = some (some (.ref a))) (hS : SqL K H0 a (ns.map V.int)) (hz : ns.length ≤ 63)
    (h : ∀ b H1, Same H0 H1 → H1 b = some (.lst (.int n :: ns.map V.int)) → ForGoal (Itl K b) g tb D σ H1) :
    tFor (iList K (tOp (rCatS K) (tLst (tCons (tC (.int n)) tNil)) (tVar j))) g tb D σ H0 := by
  refine ⟨by show 1 ≤ sizeLine; decide, fun p hp => ⟨_, hj, p, a, [.int n], ns.map V.int, rfl, rfl, SqL.of upd_same, (same_upd hp).seq hS, ?_, fun b hb => ⟨b, rfl, ⟨_, SqL.of upd_same⟩, h b _ ((same_upd hp).trans (same_upd hb)) upd_same⟩⟩⟩
  rw [List.length_map]
  exact Nat.le_trans (show 1 + ns.length ≤ 100 by omega) (by decide)
theorem for_tp {K : Frag} {a : Addr} (xs : List V) {g : TG} {tb : TS} {D : Ends} {σ : L2.St} {H : Hp} (Pv : Nat → L2.St → Hp → Prop) (h0 : Pv 0 σ H) (hl : ∀ i σ H, Pv i σ H → SqT K H a xs)
    (hs : ∀ (i : Nat) x σ H, xs[i]? = some x → Pv i σ H → g x σ H fun σ2 H2 => tb { D with nx := Pv (i + 1), ct := Pv (i + 1), bk := D.nx } σ2 H2) (hd : ∀ σ H, Pv xs.length σ H → D.nx σ H) : ForGoal (Itt K a) g tb D σ H :=
  for_tup Pv h0 (fun i σ H _ p => hl i σ H p) hs hd
theorem while_cps {c : TT} {tb : TS} {D : Ends} {σ : L2.St} {H : Hp} (Pv : L2.St → Hp → Prop) (μ : L2.St → Hp → Nat) (h0 : Pv σ H)
    (hs : ∀ σ' H', Pv σ' H' → ∀ U : Bool → Hp → Prop, (∀ H1, tb { D with nx := fun σ2 H2 => Pv σ2 H2 ∧ μ σ2 H2 < μ σ' H', ct := fun σ2 H2 => Pv σ2 H2 ∧ μ σ2 H2 < μ σ' H', bk := D.nx } σ' H1 → U true H1) → (∀ H1, D.nx σ' H1 → U false H1) → c σ' H' U) : tWhile c tb D σ H := by
  refine ⟨fun m σ H => m = μ σ H ∧ Pv σ H, ⟨_, rfl, h0⟩, ?_⟩
  rintro m σ H ⟨rfl, p⟩
  refine hs σ H p _ (fun H1 h => ?_) (fun H1 h => ?_)
  · show if true = true then _ else _
    rw [if_pos rfl]
    exact ⟨_, fun σ' H' ⟨p', l⟩ => ⟨_, l, rfl, p'⟩, h⟩
  · show if false = true then _ else _
    rw [if_neg (by decide)]
    exact h
def LcGoal (J : It) (g : TG) (tt : TT) (te : TE) (vs : List Nat) (σ : L2.St) (H1 : Hp) (Q : VK) : Prop := ∀ D, H1 D = none → ∃ W : Nat → Nat → Hp → Prop, (∃ m, W 0 m (upd H1 D (.lst []))) ∧ ∀ i m H, W i m H →
  (J.stop i H ∧ Q (.ref D) H) ∨ (J.go i H ∧ ∃ Nx : Hp → Prop, (∀ H', Nx H' → ∃ m', m' < m ∧ W (i + 1) m' H') ∧ ∀ x H', J.yld i H x H' → g x (wipe σ vs) H' fun σ2 H2 => wipe σ2 vs = wipe σ vs ∧ tt σ2 H2 fun b H3 =>
    if b = true then te σ2 H3 fun y H4 => ∃ acc, H4 D = some (.lst acc) ∧ acc.length < sizeLine ∧ Nx (upd H4 D (.lst (acc ++ [y]))) else Nx H3)
theorem tLc_eq {wi : TI} {g : TG} {tt : TT} {te : TE} {vs : List Nat} {σ : L2.St} {H : Hp} {Q : VK} : tLc wi g tt te vs σ H Q = wi σ H fun J H1 => LcGoal J g tt te vs σ H1 Q := rfl
/-- a comprehension without a test; what is told of the i-th item is told in a heap that only grows -/
theorem lc_go {J : It} {n : Nat} {G : Hp → Prop} {Y : Nat → Hp → V → Hp → Prop} (w : Walk J n G Y) {g : TG} {te : TE} {vs : List Nat} {σ : L2.St} {H1 : Hp} {Q : VK} (R : Nat → V → Hp → Prop) (hn : n < sizeLine)
    (hR : ∀ i y H H' D, H1 D = none → (∃ xs, H D = some (.lst xs)) → Same H1 H → R i y H → (∀ b o, b ≠ D → H b = some o → H' b = some o) → R i y H') (hG : ∀ H, Same H1 H → G H)
    (hs : ∀ i x H H' D (U : VK), i < n → H1 D = none → (∃ xs, H D = some (.lst xs)) → Same H1 H → Y i H x H' → (∀ y H4, R i y H4 → Same H H4 → U y H4) → g x (wipe σ vs) H' fun σ2 H2 => wipe σ2 vs = wipe σ vs ∧ te σ2 H2 U)
    (hd : ∀ p ys H, H1 p = none → Same H1 H → ys.length = n → (∀ i y, ys[i]? = some y → R i y H) → H p = some (.lst ys) → Q (.ref p) H) : LcGoal J g tYes te vs σ H1 Q := by
  intro D hD
  refine lc_it w (Pv := fun i H => Same H1 H ∧ ∃ ys : List V, H D = some (.lst ys) ∧ ys.length = i ∧ ∀ (j : Nat) y, ys[j]? = some y → R j y H) ⟨same_upd hD, [], upd_same, rfl, fun j y e => by simp at e⟩ (fun i H hi p => hG H p.1) ?_ ?_
  · rintro i x H H' hi ⟨s1, ys, hy, hl, hr⟩ y
    refine hs i x H H' D _ hi hD ⟨_, hy⟩ s1 y fun y2 H4 r s2 => ?_
    have g0 : ∀ b o, b ≠ D → H b = some o → (upd H4 D (HO.lst (ys ++ [y2]))) b = some o := fun b o hb e => by rw [upd_ne hb]; exact s2 _ _ e
    refine ⟨ys, s2 _ _ hy, by omega, fun b o e => ?_, ys ++ [y2], upd_same, by simp [hl], fun j y3 e => ?_⟩
    · have hb : b ≠ D := ne_of_none e hD
      rw [upd_ne hb]
      exact s2 _ _ (s1 _ _ e)
    · rcases Nat.lt_or_ge j ys.length with hj | hj
      · rw [List.getElem?_append_left hj] at e
        exact hR _ _ H _ D hD ⟨_, hy⟩ s1 (hr _ _ e) g0
      · have hj2 : j = i := by
          have z := (List.getElem?_eq_some_iff.mp e).1
          simp at z
          omega
        subst hj2
        rw [List.getElem?_append_right hj, hl, Nat.sub_self] at e
        cases e
        exact hR _ _ H4 _ D hD ⟨_, s2 _ _ hy⟩ (s1.trans s2) r fun b o hb e => by rw [upd_ne hb]; exact e
  · rintro H ⟨s1, ys, hy, hl, hr⟩
    exact hd D ys H hD s1 hl hr hy
/-- .. where the items are known beforehand -/
theorem lc_pure {J : It} {n : Nat} {G : Hp → Prop} {Y : Nat → Hp → V → Hp → Prop} (w : Walk J n G Y) {g : TG} {te : TE} {vs : List Nat} {σ : L2.St} {H1 : Hp} {Q : VK} (ys : List V) (hl : ys.length = n) (hn : n < sizeLine) (hG : ∀ H, Same H1 H → G H)
    (hs : ∀ (i : Nat) x y H H' (U : VK), ys[i]? = some y → Same H1 H → Y i H x H' → (∀ H4, Same H H4 → U y H4) → g x (wipe σ vs) H' fun σ2 H2 => wipe σ2 vs = wipe σ vs ∧ te σ2 H2 U)
    (hd : ∀ p H, H1 p = none → Same H1 H → H p = some (.lst ys) → Q (.ref p) H) : LcGoal J g tYes te vs σ H1 Q := by
  refine lc_go w (fun i y _ => ys[i]? = some y) hn (fun _ _ _ _ _ _ _ _ r _ => r) hG (fun i x H H' D U hi _ _ s1 y hu => ?_) fun p zs H hp s1 hz hr e => ?_
  · have e : ys[i]? = some ys[i] := List.getElem?_eq_getElem (by omega)
    exact hs i x _ H H' U e s1 y fun H4 s2 => hu _ _ e s2
  · have z : zs = ys := by
      refine List.ext_getElem? fun i => ?_
      rcases Nat.lt_or_ge i zs.length with h | h
      · rw [hr i _ (List.getElem?_eq_getElem h), List.getElem?_eq_getElem h]
      · rw [List.getElem?_eq_none h, List.getElem?_eq_none (by omega)]
    subst z
    exact hd p H hp s1 e
/-- .. with a test, over a list whose items stand for those of ts -/
theorem lc_filter {K : Frag} {α : Type} {a : Addr} {xs : List V} (ts : List α) (hl : xs.length = ts.length) (f : α → Bool) (v : α → V) {g : TG} {tt : TT} {te : TE} {vs : List Nat} {σ : L2.St} {H1 : Hp} {Q : VK} (hn : xs.length < sizeLine) (hS : SqL K H1 a xs)
    (hs : ∀ (i : Nat) x t H (U : VK) (N : Hp → Prop), xs[i]? = some x → ts[i]? = some t → Same H1 H → (f t = true → ∀ H4, Same H H4 → U (v t) H4) → (f t = false → ∀ H4, Same H H4 → N H4) → g x (wipe σ vs) H fun σ2 H2 => wipe σ2 vs = wipe σ vs ∧ tt σ2 H2 fun b H3 => if b = true then te σ2 H3 U else N H3)
    (hd : ∀ p H, H1 p = none → Same H1 H → H p = some (.lst ((ts.filter f).map v)) → Q (.ref p) H) : LcGoal (Itl K a) g tt te vs σ H1 Q := by
  intro D hD
  refine lc_list (xs := xs) (fun i H => Same H1 H ∧ H D = some (.lst (((ts.take i).filter f).map v))) ⟨same_upd hD, by simp [upd_same]⟩ (fun i H _ p => p.1.seq hS) ?_ ?_
  · rintro i x H hx ⟨s1, e⟩
    have hi := (List.getElem?_eq_some_iff.mp hx).1
    obtain ⟨t, ht⟩ : ∃ t, ts[i]? = some t := ⟨_, List.getElem?_eq_getElem (by omega)⟩
    have tk : ts.take (i + 1) = ts.take i ++ [t] := by rw [List.take_add_one, ht]; rfl
    refine hs i x t H _ _ hx ht s1 (fun ft H4 s2 => ⟨_, s2 _ _ e, ?_, fun b o e2 => ?_, ?_⟩) fun ft H4 s2 => ⟨s1.trans s2, ?_⟩
    · refine Nat.lt_of_le_of_lt ?_ hn
      rw [List.length_map]
      exact Nat.le_trans (List.length_filter_le _ _) (by simp; omega)
    · rw [upd_ne (ne_of_none e2 hD)]
      exact s2 _ _ (s1 _ _ e2)
    · rw [upd_same, tk, List.filter_append, List.map_append]
      simp [ft]
    · rw [s2 _ _ e, tk, List.filter_append, List.map_append]
      simp [ft]
  · rintro H ⟨s1, e⟩
    rw [hl, List.take_length] at e
    exact hd D H hD s1 e
theorem ix_last {K : Frag} {a : Addr} {xs : List V} {v : V} {H : Hp} {Q : VK} (hS : SqL K H a xs) (e : xs.getLast? = some v) (q : Q v H) : rIxL K (.ref a) (.int (-1)) H Q := by
  have hn : xs ≠ [] := by intro z; rw [z] at e; cases e
  have hl : xs.length ≠ 0 := fun z => hn (List.length_eq_zero_iff.mp z)
  refine ⟨a, xs, -1, v, rfl, rfl, hS, ?_, q⟩
  unfold atI ixN
  rw [if_neg (by decide), if_pos (by omega), show ((-1 : Int) + (xs.length : Int)).toNat = xs.length - 1 by omega]
  rw [List.getLast?_eq_getElem?] at e
  exact e
theorem ints_of {P : Int → Prop} : ∀ {ys : List V}, (∀ (i : Nat) y, ys[i]? = some y → ∃ v, y = .int v ∧ P v) → ∃ ns : List Int, ys = ns.map V.int ∧ ∀ v ∈ ns, P v
  | [], _ => ⟨[], rfl, fun _ h => by simp at h⟩
  | y :: r, h => by
    obtain ⟨v, rfl, hv⟩ := h 0 y rfl
    obtain ⟨ns, rfl, hn⟩ := ints_of (ys := r) fun i y e => h (i + 1) y e
    exact ⟨v :: ns, rfl, fun w hw => by rcases List.mem_cons.mp hw with rfl | hw; exact hv; exact hn w hw⟩
/-- a comprehension whose items are ints of which P holds -/
theorem lc_ints {J : It} {n : Nat} {G : Hp → Prop} {Y : Nat → Hp → V → Hp → Prop} (w : Walk J n G Y) (P : Int → Prop) {g : TG} {te : TE} {vs : List Nat} {σ : L2.St} {H1 : Hp} {Q : VK} (hn : n < sizeLine) (hG : ∀ H, Same H1 H → G H)
    (hs : ∀ i x H H' (U : VK), i < n → Same H1 H → Y i H x H' → (∀ v H4, P v → Same H H4 → U (.int v) H4) → g x (wipe σ vs) H' fun σ2 H2 => wipe σ2 vs = wipe σ vs ∧ te σ2 H2 U)
    (hd : ∀ p (ns : List Int) H, H1 p = none → Same H1 H → ns.length = n → (∀ v ∈ ns, P v) → H p = some (.lst (ns.map V.int)) → Q (.ref p) H) : LcGoal J g tYes te vs σ H1 Q := by
  refine lc_go w (fun _ y _ => ∃ v, y = .int v ∧ P v) hn (fun _ _ _ _ _ _ _ _ r _ => r) hG (fun i x H H' D U hi _ _ s1 y hu => hs i x H H' U hi s1 y fun v H4 p s2 => hu _ _ ⟨v, rfl, p⟩ s2) fun p ys H hp s1 hl hr e => ?_
  obtain ⟨ns, rfl, hp2⟩ := ints_of hr
  exact hd p ns H hp s1 (by simpa using hl) hp2 e
/-! ### slices -/
theorem cut_from {xs : List V} {k : Int} (hk : 0 ≤ k) : cutV xs (some k) none = xs.drop k.toNat := by
  obtain ⟨j, rfl⟩ := Int.eq_ofNat_of_zero_le hk
  unfold cutV
  rw [HT.sIx_nat, HT.sIx_none, Int.toNat_natCast]
  rcases Nat.le_total j xs.length with h | h
  · rw [Nat.min_eq_left h, List.take_of_length_le (by simp)]
  · rw [Nat.min_eq_right h, List.drop_of_length_le h, List.drop_length, List.take_nil]
theorem cut_to {xs : List V} {k : Int} (hk : 0 ≤ k) : cutV xs none (some k) = xs.take k.toNat := by
  obtain ⟨j, rfl⟩ := Int.eq_ofNat_of_zero_le hk
  unfold cutV
  rw [HT.sIx_nat, HT.sIx_none, Int.toNat_natCast, List.drop_zero, Nat.sub_zero]
  rcases Nat.le_total j xs.length with h | h
  · rw [Nat.min_eq_left h]
  · rw [Nat.min_eq_right h, List.take_of_length_le h, List.take_length]
/-! ### lists whose items tell something -/
inductive All2 {α : Type} (R : V → α → Prop) : List V → List α → Prop
  | nil : All2 R [] []
  | cons {x t xs ts} : R x t → All2 R xs ts → All2 R (x :: xs) (t :: ts)
namespace All2
variable {α : Type} {R S : V → α → Prop}
theorem len {xs : List V} {ts : List α} (h : All2 R xs ts) : xs.length = ts.length := by
  induction h with
  | nil => rfl
  | cons _ _ ih => rw [List.length_cons, List.length_cons, ih]
theorem mono {xs : List V} {ts : List α} (h : All2 R xs ts) (k : ∀ x t, R x t → S x t) : All2 S xs ts := by
  induction h with
  | nil => exact .nil
  | cons r _ ih => exact .cons (k _ _ r) ih
theorem get {xs : List V} {ts : List α} (h : All2 R xs ts) : ∀ {i : Nat} {x : V}, xs[i]? = some x → ∃ t, ts[i]? = some t ∧ R x t := by
  induction h with
  | nil => intro i x e; simp at e
  | cons r _ ih =>
    intro i x e
    cases i with
    | zero => cases e; exact ⟨_, rfl, r⟩
    | succ j => exact ih e
theorem of {xs : List V} : ∀ {ts : List α}, xs.length = ts.length → (∀ (i : Nat) x t, xs[i]? = some x → ts[i]? = some t → R x t) → All2 R xs ts := by
  induction xs with
  | nil => intro ts hl _; cases ts with
    | nil => exact .nil
    | cons _ _ => cases hl
  | cons x xs ih => intro ts hl h; cases ts with
    | nil => cases hl
    | cons t ts => exact .cons (h 0 x t rfl rfl) (ih (by simpa using hl) fun i x t e1 e2 => h (i + 1) x t e1 e2)
theorem snoc {xs : List V} {ts : List α} {x : V} {t : α} (h : All2 R xs ts) (r : R x t) : All2 R (xs ++ [x]) (ts ++ [t]) := by
  induction h with
  | nil => exact .cons r .nil
  | cons r2 _ ih => exact .cons r2 ih
theorem append {xs ys : List V} {ts us : List α} (h : All2 R xs ts) (h2 : All2 R ys us) : All2 R (xs ++ ys) (ts ++ us) := by
  induction h with
  | nil => exact h2
  | cons r _ ih => exact .cons r ih
theorem drop {xs : List V} {ts : List α} (h : All2 R xs ts) : ∀ k, All2 R (xs.drop k) (ts.drop k) := by
  induction h with
  | nil => intro k; rw [List.drop_nil, List.drop_nil]; exact .nil
  | cons r h ih => intro k; cases k with
    | zero => exact .cons r h
    | succ k => exact ih k
theorem take {xs : List V} {ts : List α} (h : All2 R xs ts) : ∀ k, All2 R (xs.take k) (ts.take k) := by
  induction h with
  | nil => intro k; rw [List.take_nil, List.take_nil]; exact .nil
  | cons r h ih => intro k; cases k with
    | zero => exact .nil
    | succ k => exact .cons r (ih k)
end All2
/-- a pair of ints -/
def Pr (K : Frag) (H : Hp) : V → Int × Int → Prop := fun x t => ∃ r, x = .ref r ∧ SqT K H r [.int t.1, .int t.2]
theorem Pr.same {K : Frag} {H H' : Hp} {x : V} {t : Int × Int} (s : Same H H') (h : Pr K H x t) : Pr K H' x t := by
  obtain ⟨r, e, q⟩ := h
  exact ⟨r, e, same_tup s q⟩
/-- a list of pairs of ints -/
def Prs (K : Frag) (H : Hp) (a : Addr) (ts : List (Int × Int)) : Prop := ∃ xs, SqL K H a xs ∧ All2 (Pr K H) xs ts
theorem Prs.same {K : Frag} {H H' : Hp} {a : Addr} {ts : List (Int × Int)} (s : Same H H') (h : Prs K H a ts) : Prs K H' a ts := by
  obtain ⟨xs, q, h⟩ := h
  exact ⟨xs, s.seq q, h.mono fun _ _ => Pr.same s⟩
/-- .. compared -/
def pdP (t : Int × Int) : PyData := .tuple [.int t.1, .int t.2]
theorem dp_prs {K : Frag} {H : Hp} {xs : List V} {ts : List (Int × Int)} (h : All2 (Pr K H) xs ts) : DpAll K H xs (ts.map pdP) := by
  induction h with
  | nil => exact .nil
  | cons r _ ih =>
    obtain ⟨r, rfl, hr⟩ := r
    exact .cons (.tup hr (.cons (.int _) (.cons (.int _) .nil))) ih
theorem Prs.dp {K : Frag} {H : Hp} {a : Addr} {ts : List (Int × Int)} (h : Prs K H a ts) : Dp K H (.ref a) (.list (ts.map pdP)) := by
  obtain ⟨xs, hS, hA⟩ := h
  exact .lst hS (dp_prs hA)
theorem lay_prs : ∀ ts : List (Int × Int), PyData.canLayAll0 (ts.map pdP) = true
  | [] => rfl
  | t :: r => by simp only [List.map_cons, PyData.canLayAll0, lay_prs r, pdP, PyData.canLay0, Bool.and_true]
theorem depth_prs : ∀ ts : List (Int × Int), PyData.depthAll (ts.map pdP) ≤ 1
  | [] => by simp [PyData.depthAll]
  | t :: r => by
    have := depth_prs r
    simp only [List.map_cons, PyData.depthAll, pdP, PyData.depth]
    omega
theorem shaped_prs {ts : List (Int × Int)} : SeqAt.shaped (.list (ts.map pdP)) = true :=
  shaped_of (by simp only [PyData.canLay0]; exact lay_prs ts) (by have := depth_prs ts; simp only [PyData.depth]; omega)
theorem eqv_prs : ∀ ts us : List (Int × Int), PyData.eqvAll (ts.map pdP) (us.map pdP) = decide (ts = us)
  | [], [] => by simp [PyData.eqvAll]
  | [], y :: ys => by simp [PyData.eqvAll]
  | x :: xs, [] => by simp [PyData.eqvAll]
  | x :: xs, y :: ys => by
    have ih := eqv_prs xs ys
    simp only [List.map_cons, PyData.eqvAll, ih, List.cons.injEq, pdP, PyData.eqv, Bool.and_true]
    by_cases e : x = y
    · subst e; simp
    · have : ¬(x.1 = y.1 ∧ x.2 = y.2) := fun z => e (Prod.ext z.1 z.2)
      by_cases e1 : x.1 = y.1 <;> by_cases e2 : x.2 = y.2 <;> simp_all
theorem ne_prs {K : Frag} {H : Hp} {p q : Addr} {ts us : List (Int × Int)} {Q : VK} (hp : Prs K H p ts) (hq : Prs K H q us) (k : Q (.bl (!decide (ts = us))) H) : rNeD K (.ref p) (.ref q) H Q :=
  ⟨_, _, hp.dp, hq.dp, shaped_prs, shaped_prs, by simp only [PyData.eqv, eqv_prs]; exact k⟩
theorem eq_prs {K : Frag} {H : Hp} {p q : Addr} {ts us : List (Int × Int)} {Q : VK} (hp : Prs K H p ts) (hq : Prs K H q us) (k : Q (.bl (decide (ts = us))) H) : rEqD K (.ref p) (.ref q) H Q :=
  ⟨_, _, hp.dp, hq.dp, shaped_prs, shaped_prs, by simp only [PyData.eqv, eqv_prs]; exact k⟩
/-! ### the law's end -/
def spLaw (K : Frag) : Sp := fun vs H Q _ => ∃ (a : Addr) (ns : List Int), vs = [.ref a] ∧ SqL K H a (ns.map V.int) ∧ ns.length ≤ 63 ∧ (∀ z ∈ ns, Builtin.Int.intBits z ≤ 1048576) ∧ ∀ H', Q (.bl true) H'
theorem walk {l : PySem.W.OpenLaw} {k : Nat} {q : Program} {loose : List Str} {XP : (Str → Option Value) → Heap → Prop} {YP : World → Heap → Prop} {d : DefRec} {K : Params → Frag}
    (hn : l.most = some 63) (hdf : d.params.defaults = []) (hr : Room k callerA) (hY : ∀ (w : World) (h : Heap), YP w h → (K w.params).In h)
    (F : ∀ (w : World) (mg : Str → Option Value) (fa : Addr) (h : Heap), (K w.params).In h → h.Ns mainGlobals mg → mg d.name = some (.ref fa) →
      ∃ fd : FuncData, (∀ (s : Shared) (u : Value), BindsTo s fd ⟨[u], []⟩ [(("script" : Str), u)]) ∧ ∀ base : Heap, (K w.params).In base → base.Ns mainGlobals mg → FnOk l.prog w (K w.params) mg base CX0 k fa fd ["script"] (spLaw (K w.params))) :
    PySem.W.WalkO q loose XP YP l.row.toRowW d [] (fun f vs => PySem.call f vs) :=
  L2.walk_ofB (n := 63) (k := k) (x := "script") (CX := fun _ => CX0) (sp := fun w => spLaw (K w.params)) hn (by decide) hdf hr hY F
    (fun _ _ a ns hl hb _ hS => ⟨a, ns, rfl, hS, hl, hb, fun _ => rfl⟩) fun _ _ _ _ _ z => z
end Kv

set_option Elab.async false
set_option linter.all false
set_option maxRecDepth 100000
set_option maxHeartbeats 4000000
namespace K09
open PySem PySem.Spec PyProof.Rows L2
def top (i : Nat) : Stmt := PySem.Challenge.pw_corebank_k09_whole_due_days.main.body.getD i (.Pass ⟨0, 0, 0, 0⟩)
abbrev s_is_day : Stmt := top 17
abbrev s_check_day : Stmt := top 18
abbrev s_days_of_month : Stmt := top 19
abbrev s_first_day_of : Stmt := top 20
abbrev s_date_of : Stmt := top 21
abbrev s_is_date : Stmt := top 22
abbrev s_day_of : Stmt := top 23
abbrev s_due_day : Stmt := top 24
abbrev s_L_numbers : Stmt := top 26
abbrev s_L_kinds : Stmt := top 27
abbrev s_L_length : Stmt := top 28
abbrev s_L_date : Stmt := top 29
abbrev s_L_count : Stmt := top 30
abbrev s_L_due : Stmt := top 31
abbrev s_L_told : Stmt := top 32
abbrev s_L_start : Stmt := top 33
abbrev s_law : Stmt := top 34
theorem sc_is_day : FnScope ["number"] ["number"] (defScope s_is_day) := ⟨rfl, rfl, rfl, by decide +kernel, rfl, by decide +kernel, by decide +kernel⟩
theorem sc_check_day : FnScope ["day"] ["day"] (defScope s_check_day) := ⟨rfl, rfl, rfl, by decide +kernel, rfl, by decide +kernel, by decide +kernel⟩
theorem sc_days_of_month : FnScope ["year", "month"] ["year", "month"] (defScope s_days_of_month) := ⟨rfl, rfl, rfl, by decide +kernel, rfl, by decide +kernel, by decide +kernel⟩
theorem sc_first_day_of : FnScope ["year"] ["year"] (defScope s_first_day_of) := ⟨rfl, rfl, rfl, by decide +kernel, rfl, by decide +kernel, by decide +kernel⟩
theorem sc_date_of : FnScope ["day", "year", "month", "left"] ["day"] (defScope s_date_of) := ⟨rfl, rfl, rfl, by decide +kernel, rfl, by decide +kernel, by decide +kernel⟩
theorem sc_is_date : FnScope ["year", "month", "in_month"] ["year", "month", "in_month"] (defScope s_is_date) := ⟨rfl, rfl, rfl, by decide +kernel, rfl, by decide +kernel, by decide +kernel⟩
theorem sc_day_of : FnScope ["year", "month", "in_month", "earlier", "before"] ["year", "month", "in_month"] (defScope s_day_of) := ⟨rfl, rfl, rfl, by decide +kernel, rfl, by decide +kernel, by decide +kernel⟩
theorem sc_due_day : FnScope ["start", "months", "number", "year", "month", "in_month", "years", "month_from_0", "last"] ["start", "months", "number"] (defScope s_due_day) := ⟨rfl, rfl, rfl, by decide +kernel, rfl, by decide +kernel, by decide +kernel⟩
theorem sc_L_numbers : FnScope ["cell", "count", "rest", "numbers", "k", "mixed"] ["cell", "count"] (defScope s_L_numbers) := ⟨rfl, rfl, rfl, by decide +kernel, rfl, by decide +kernel, by decide +kernel⟩
theorem sc_L_kinds : FnScope ["error", "kinds"] ["error"] (defScope s_L_kinds) := ⟨rfl, rfl, rfl, by decide +kernel, rfl, by decide +kernel, by decide +kernel⟩
theorem sc_L_length : FnScope ["year", "month"] ["year", "month"] (defScope s_L_length) := ⟨rfl, rfl, rfl, by decide +kernel, rfl, by decide +kernel, by decide +kernel⟩
theorem sc_L_date : FnScope ["day", "year", "k", "size", "month"] ["day"] (defScope s_L_date) := ⟨rfl, rfl, rfl, by decide +kernel, rfl, by decide +kernel, by decide +kernel⟩
theorem sc_L_count : FnScope ["year", "month", "in_month", "total", "k"] ["year", "month", "in_month"] (defScope s_L_count) := ⟨rfl, rfl, rfl, by decide +kernel, rfl, by decide +kernel, by decide +kernel⟩
theorem sc_L_due : FnScope ["start", "months", "number", "date", "index", "year", "month"] ["start", "months", "number"] (defScope s_L_due) := ⟨rfl, rfl, rfl, by decide +kernel, rfl, by decide +kernel, by decide +kernel⟩
theorem sc_L_told : FnScope ["start", "months", "number", "told", "e"] ["start", "months", "number"] (defScope s_L_told) := ⟨rfl, rfl, rfl, by decide +kernel, rfl, by decide +kernel, by decide +kernel⟩
theorem sc_L_start : FnScope ["numbers", "start", "date", "last"] ["numbers"] (defScope s_L_start) := ⟨rfl, rfl, rfl, by decide +kernel, rfl, by decide +kernel, by decide +kernel⟩
theorem sc_law : FnScope ["script", "cell", "numbers", "start", "months", "number", "far", "starts", "periods", "counts", "cases", "count", "period", "other", "first", "one", "two"] ["script"] (defScope s_law) := ⟨rfl, rfl, rfl, by decide +kernel, rfl, by decide +kernel, by decide +kernel⟩
structure Txt (K : PySem.W.Frag) (mg : Str → Option Value) extends Kv.Errs K mg where
  a_is_day : Addr
  d_is_day : FuncData
  g_is_day : mg "is_day" = some (.ref a_is_day)
  F_is_day : Fun K "is_day" "is_day" s_is_day a_is_day d_is_day
  b_is_day : Binds K d_is_day ["number"] []
  a_check_day : Addr
  d_check_day : FuncData
  g_check_day : mg "check_day" = some (.ref a_check_day)
  F_check_day : Fun K "check_day" "check_day" s_check_day a_check_day d_check_day
  b_check_day : Binds K d_check_day ["day"] []
  a_days_of_month : Addr
  d_days_of_month : FuncData
  g_days_of_month : mg "days_of_month" = some (.ref a_days_of_month)
  F_days_of_month : Fun K "days_of_month" "days_of_month" s_days_of_month a_days_of_month d_days_of_month
  b_days_of_month : Binds K d_days_of_month ["year", "month"] []
  a_first_day_of : Addr
  d_first_day_of : FuncData
  g_first_day_of : mg "first_day_of" = some (.ref a_first_day_of)
  F_first_day_of : Fun K "first_day_of" "first_day_of" s_first_day_of a_first_day_of d_first_day_of
  b_first_day_of : Binds K d_first_day_of ["year"] []
  a_date_of : Addr
  d_date_of : FuncData
  g_date_of : mg "date_of" = some (.ref a_date_of)
  F_date_of : Fun K "date_of" "date_of" s_date_of a_date_of d_date_of
  b_date_of : Binds K d_date_of ["day"] []
  a_is_date : Addr
  d_is_date : FuncData
  g_is_date : mg "is_date" = some (.ref a_is_date)
  F_is_date : Fun K "is_date" "is_date" s_is_date a_is_date d_is_date
  b_is_date : Binds K d_is_date ["year", "month", "in_month"] []
  a_day_of : Addr
  d_day_of : FuncData
  g_day_of : mg "day_of" = some (.ref a_day_of)
  F_day_of : Fun K "day_of" "day_of" s_day_of a_day_of d_day_of
  b_day_of : Binds K d_day_of ["year", "month", "in_month"] []
  a_due_day : Addr
  d_due_day : FuncData
  g_due_day : mg "due_day" = some (.ref a_due_day)
  F_due_day : Fun K "due_day" "due_day" s_due_day a_due_day d_due_day
  b_due_day : Binds K d_due_day ["start", "months", "number"] []
  a__law_numbers : Addr
  d__law_numbers : FuncData
  g__law_numbers : mg "_law_numbers" = some (.ref a__law_numbers)
  F__law_numbers : Fun K "_law_numbers" "_law_numbers" s_L_numbers a__law_numbers d__law_numbers
  b__law_numbers : Binds K d__law_numbers ["cell", "count"] []
  a__law_kinds : Addr
  d__law_kinds : FuncData
  g__law_kinds : mg "_law_kinds" = some (.ref a__law_kinds)
  F__law_kinds : Fun K "_law_kinds" "_law_kinds" s_L_kinds a__law_kinds d__law_kinds
  b__law_kinds : Binds K d__law_kinds ["error"] []
  a__law_length : Addr
  d__law_length : FuncData
  g__law_length : mg "_law_length" = some (.ref a__law_length)
  F__law_length : Fun K "_law_length" "_law_length" s_L_length a__law_length d__law_length
  b__law_length : Binds K d__law_length ["year", "month"] []
  a__law_date : Addr
  d__law_date : FuncData
  g__law_date : mg "_law_date" = some (.ref a__law_date)
  F__law_date : Fun K "_law_date" "_law_date" s_L_date a__law_date d__law_date
  b__law_date : Binds K d__law_date ["day"] []
  a__law_count : Addr
  d__law_count : FuncData
  g__law_count : mg "_law_count" = some (.ref a__law_count)
  F__law_count : Fun K "_law_count" "_law_count" s_L_count a__law_count d__law_count
  b__law_count : Binds K d__law_count ["year", "month", "in_month"] []
  a__law_due : Addr
  d__law_due : FuncData
  g__law_due : mg "_law_due" = some (.ref a__law_due)
  F__law_due : Fun K "_law_due" "_law_due" s_L_due a__law_due d__law_due
  b__law_due : Binds K d__law_due ["start", "months", "number"] []
  a__law_told : Addr
  d__law_told : FuncData
  g__law_told : mg "_law_told" = some (.ref a__law_told)
  F__law_told : Fun K "_law_told" "_law_told" s_L_told a__law_told d__law_told
  b__law_told : Binds K d__law_told ["start", "months", "number"] []
  a__law_start : Addr
  d__law_start : FuncData
  g__law_start : mg "_law_start" = some (.ref a__law_start)
  F__law_start : Fun K "_law_start" "_law_start" s_L_start a__law_start d__law_start
  b__law_start : Binds K d__law_start ["numbers"] []
  a_law : Addr
  d_law : FuncData
  g_law : mg "law" = some (.ref a_law)
  F_law : Fun K "law" "law" s_law a_law d_law
  b_law : Binds K d_law ["script"] []
  u_LAST_DAY : Value
  g_LAST_DAY : mg "LAST_DAY" = some u_LAST_DAY
  r_LAST_DAY : RelV (.int 36524) u_LAST_DAY
  u_FIRST_YEAR : Value
  g_FIRST_YEAR : mg "FIRST_YEAR" = some u_FIRST_YEAR
  r_FIRST_YEAR : RelV (.int 2000) u_FIRST_YEAR
  u_LAST_YEAR : Value
  g_LAST_YEAR : mg "LAST_YEAR" = some u_LAST_YEAR
  r_LAST_YEAR : RelV (.int 2099) u_LAST_YEAR
  u_DAYS_OF_FOUR_YEARS : Value
  g_DAYS_OF_FOUR_YEARS : mg "DAYS_OF_FOUR_YEARS" = some u_DAYS_OF_FOUR_YEARS
  r_DAYS_OF_FOUR_YEARS : RelV (.int 1461) u_DAYS_OF_FOUR_YEARS
  a_DAYS_OF_MONTHS : Addr
  g_DAYS_OF_MONTHS : mg "DAYS_OF_MONTHS" = some (.ref a_DAYS_OF_MONTHS)
  r_DAYS_OF_MONTHS : RelV (.ref a_DAYS_OF_MONTHS) (.ref a_DAYS_OF_MONTHS)
  t_DAYS_OF_MONTHS : ∀ H : Hp, SqT K H a_DAYS_OF_MONTHS [.int (31), .int (28), .int (31), .int (30), .int (31), .int (30), .int (31), .int (31), .int (30), .int (31), .int (30), .int (31)]
  u_MOST_MONTHS : Value
  g_MOST_MONTHS : mg "MOST_MONTHS" = some u_MOST_MONTHS
  r_MOST_MONTHS : RelV (.int 120) u_MOST_MONTHS
  u_MOST_TIMES : Value
  g_MOST_TIMES : mg "MOST_TIMES" = some u_MOST_TIMES
  r_MOST_TIMES : RelV (.int 1200) u_MOST_TIMES
  n_bool : mg "bool" = none
  n_divmod : mg "divmod" = none
  n_int : mg "int" = none
  n_isinstance : mg "isinstance" = none
  n_max : mg "max" = none
  n_min : mg "min" = none
  n_range : mg "range" = none
  n_sum : mg "sum" = none
local macro_rules | `(tactic| walk_at "rd") => `(tactic| try simp only [L2.start, tSeq, tIfS, tTest, tOp, tVar, tC, tRet, tRetN, tNext, tAsg, gName, tDrop, tCons, tNil, tCB, tB, rI0, rI, rEq, rNe, tAnd, tOr, tNot, tAndV, tOrV, tNotV, tIf, tUn, rU, Kv.sc_ii, Kv.sc_ss, Kv.sc_bb, Kv.sc_nn, Kv.sc_ni, Kv.sc_in, Kv.sc_sn, Kv.sc_ns, Kv.sc_bn, Kv.sc_nb, Kv.sc_is, Kv.sc_si, cxOf, and_assoc, rAppend, Kv.rIsP, L2H.cxH, tCall, tCallS, tTup, tLst, tBM, tBM0, tM0, tM1, tSl, tPart, tNoPart, tAug, ipI, gSub, tPar, tBreak, tCont, Kv.tKinds, tChain, tAugS, rIsB, rNotB, tYes, tCKw, wipe, List.foldl_cons, List.foldl_nil, iList, iTup, iRng1, iRng2, iEnum, iZip, Kv.tFor_eq, Kv.tLc_eq, Kv.sz_0, Kv.szl_0, Kv.sz_1, Kv.szl_1, Kv.sz_2, Kv.szl_2, Kv.sz_3, Kv.szl_3, Kv.sz_4, Kv.szl_4, Kv.sz_5, Kv.szl_5, Kv.sz_6, Kv.szl_6, Kv.sz_7, Kv.szl_7, Kv.sz_8, Kv.szl_8, Kv.sz_9, Kv.szl_9, Kv.sz_10, Kv.szl_10, Kv.sz_11, Kv.szl_11, Kv.sz_12, Kv.szl_12, Kv.sz_13, Kv.szl_13, Kv.sz_14, Kv.szl_14, Kv.sz_15, Kv.szl_15, Kv.sz_16, Kv.szl_16, Kv.sz_17, Kv.szl_17, Kv.sz_18, Kv.szl_18, Kv.sz_19, Kv.szl_19, Kv.sz_20, Kv.szl_20, Kv.sz_21, Kv.szl_21, Kv.sz_22, Kv.szl_22, Kv.sz_23, Kv.szl_23, Kv.sz_24, Kv.szl_24, Kv.sz_25, Kv.szl_25, Kv.sz_26, Kv.szl_26, Kv.cdiv_1, Kv.cdiv_2, Kv.cdiv_3, Kv.cdiv_4, Kv.cdiv_5, Kv.cdiv_6, Kv.cdiv_7, Kv.cdiv_8, Kv.cdiv_9, Kv.cdiv_10, Kv.cdiv_11, Kv.cdiv_12, Kv.cdiv_13, Kv.cdiv_14, Kv.cdiv_16, Kv.cdiv_20, Kv.cdiv_30, Kv.cdiv_50, Kv.cdiv_60, Kv.cdiv_64, Kv.cdiv_100, Kv.cdiv_400, Kv.cdiv_1000, Kv.cdiv_2000, Kv.cdiv_10000, Kv.cdiv_1000000,
  CPow, List.map_cons, List.map_nil, List.cons_append, List.nil_append, List.append_nil, List.length_cons, List.length_nil, List.replicate,
  List.getElem?_cons_zero, List.getElem?_cons_succ, List.set_cons_zero, List.set_cons_succ, Option.some.injEq, exists_eq_left', exists_eq_left, exists_eq_right, exists_eq_right', V.int.injEq, V.str.injEq, V.bl.injEq, V.ref.injEq, List.cons.injEq, exists_and_left, exists_and_right, and_true, true_and, and_self, false_and, and_false, or_false, false_or, exists_false, exists_const, reduceCtorEq, Nat.reduceSub, Nat.reduceAdd, Nat.reduceLeDiff, Nat.reduceLT,
  Int.reduceLT, Int.reduceLE, Int.reduceAdd, Int.reduceMul, Int.reduceSub, Int.reducePow, Int.reduceToNat, Int.reduceNeg, Int.reduceAbs, Nat.reducePow, decide_eq_true_eq, Bool.not_true, Bool.not_false, Bool.false_eq_true, ite_true, ite_false, if_true, if_false, decide_true, decide_false, Bool.not_eq_true', decide_eq_false_iff_not, not_true, not_false_eq_true, ne_eq])
local macro_rules | `(tactic| walk_at "st") => `(tactic| ((first | with_reducible refine Kv.seq_step fun U hU => ?_ | with_reducible refine Kv.gseq_step fun U hU => ?_); walk_at "rd"))
local macro_rules | `(tactic| walk_at "shp") => `(tactic| (refine Kv.shaped_of ?_ ?_ <;> (simp only [PyData.canLay0, PyData.canLayAll0, PyData.depth, PyData.depthAll, Bool.and_true, Bool.true_and]) <;> first | done | decide +kernel | omega))
local macro_rules | `(tactic| walk_at "eqv") => `(tactic| simp [PyData.eqv, PyData.eqvAll])
local macro_rules | `(tactic| walk_at "nx") => `(tactic| (subst_vars; (try dsimp only); first | walk_at "st" | walk_at "rd"))
/-! ### the days -/
def months : List Int := [31, 28, 31, 30, 31, 30, 31, 31, 30, 31, 30, 31]
def dom (y m : Int) : Int := if m = 2 ∧ y % 4 = 0 then 29 else months.getD (m - 1).toNat 0
def fdo (y : Int) : Int := (1461 * (y - 2000) + 3) / 4
def sdom (y : Int) : Nat → Int
  | 0 => 0
  | n + 1 => sdom y n + dom y ((n : Int) + 1)
def isDate (y m d : Int) : Prop := 2000 ≤ y ∧ y ≤ 2099 ∧ 1 ≤ m ∧ m ≤ 12 ∧ 1 ≤ d ∧ d ≤ dom y m
instance (y m d : Int) : Decidable (isDate y m d) := by unfold isDate; infer_instance
def dayOf (y m d : Int) : Int := fdo y + sdom y (m - 1).toNat + d - 1
theorem months_get {j : Int} (h0 : 0 ≤ j) (h1 : j < 12) : ∃ n, months.getD j.toNat 0 = n ∧ ([.int 31, .int 28, .int 31, .int 30, .int 31, .int 30, .int 31, .int 31, .int 30, .int 31, .int 30, .int 31] : List V)[j.toNat]? = some (.int n) ∧ 28 ≤ n ∧ n ≤ 31 := by
  have h : j.toNat < 12 := by omega
  generalize j.toNat = k at h
  rcases (by omega : k = 0 ∨ k = 1 ∨ k = 2 ∨ k = 3 ∨ k = 4 ∨ k = 5 ∨ k = 6 ∨ k = 7 ∨ k = 8 ∨ k = 9 ∨ k = 10 ∨ k = 11) with e | e | e | e | e | e | e | e | e | e | e | e <;> subst e <;> exact ⟨_, rfl, rfl, by decide, by decide⟩
theorem dom_in {y m : Int} (h0 : 1 ≤ m) (h1 : m ≤ 12) : 28 ≤ dom y m ∧ dom y m ≤ 31 := by
  obtain ⟨n, e, _, n0, n1⟩ := months_get (j := m - 1) (by omega) (by omega)
  unfold dom
  split
  · omega
  · rw [e]
    exact ⟨n0, n1⟩
theorem sdom_in (y : Int) : ∀ n : Nat, n ≤ 12 → 28 * (n : Int) ≤ sdom y n ∧ sdom y n ≤ 31 * (n : Int)
  | 0, _ => by simp [sdom]
  | n + 1, h => by
    have ih := sdom_in y n (by omega)
    have d := dom_in (y := y) (m := (n : Int) + 1) (by omega) (by omega)
    unfold sdom
    omega
theorem sdom_sum (y : Int) : ∀ n : Nat, ((List.range n).map fun (k : Nat) => dom y ((k : Int) + 1)).sum = sdom y n
  | 0 => rfl
  | n + 1 => by
    rw [List.range_succ, List.map_append, List.sum_append, sdom_sum y n]
    simp [sdom]

section
variable {P : Program} {w : World} {K : PySem.W.Frag} {mg : Str → Option Value} {base : Heap}
/-- the numbers that a law makes of one cell: so many, none below 0, none beyond 10 ^ 13 -/
def spNumbers : Sp := fun vs H Q _ => ∃ c n, vs = [.int c, .int n] ∧ Builtin.Int.intBits c ≤ 1048576 ∧ 0 ≤ n ∧ n ≤ 1000 ∧
  ∀ (ns : List Int) p H', (ns.length : Int) = n → (∀ z ∈ ns, 0 ≤ z ∧ z < 10000000000000) → Same H H' → H p = none → H' p = some (.lst (ns.map V.int)) → Q (.ref p) H'
def invNumbers (c n : Int) (p : Addr) (H : Hp) : Nat → L2.St → Hp → Prop := fun i σ' H' => ∃ (rest : Int) (ns : List Int) (x y : Option V), σ' = [some (.int c), some (.int n), some (.int rest), some (.ref p), x, y] ∧ 0 ≤ rest ∧ Builtin.Int.intBits rest ≤ 1048576 ∧
  ns.length = i ∧ (∀ z ∈ ns, 0 ≤ z ∧ z < 10000000000000) ∧ Same H H' ∧ H' p = some (.lst (ns.map V.int))
theorem ok_L_numbers (T : Txt K mg) : FnOk P w K mg base CX0 1 T.a__law_numbers T.d__law_numbers ["cell", "count"] spNumbers := by
  refine T.F__law_numbers.ok sc_L_numbers (fun vs H Q E h => by obtain ⟨_, _, rfl, _⟩ := h; rfl) (fun cdv A outer s H vs Q E hr h => ?_)
  refine ⟨_, 
      (pss_cons (ps_set (i := 2) sc_L_numbers.nd rfl (Or.inl rfl) pe_int)
      (pss_cons (ps_if (pt_cmpR op_ge (pv 0) (pe_op op_pow pe_int pe_int) (nomark _)) 
        (pss_one (ps_set (i := 2) sc_L_numbers.nd rfl (Or.inl rfl) (pe_op op_fdivW (pv 0) (pe_op op_pow pe_int pe_int)))) pss_nil)
      (pss_cons (ps_set (i := 3) sc_L_numbers.nd rfl (Or.inl rfl) (pe_lst pa_nil))
      (pss_cons (ps_for PassesOwn.never rfl (pi_range1 (by rfl) T.n_range (pa_cons (pv 1) pa_nil)) (pg_name (i := 4) sc_L_numbers.nd rfl (Or.inl rfl)) 
        (pss_one (ps_if (pt_cmpR op_gt (pv 2) pe_int (nomark _)) 
          (pss_cons (ps_expr (pe_bm PySem.F.plainAttrs_list PySem.F.slot_list_append PySem.F.type_list_append mt_append (pv 3) (pa_cons (pe_op op_mod (pe_callTy call_int1 (by rfl) T.n_int (by decide +kernel) (pa_cons (pv 2) pa_nil)) (pe_op op_pow pe_int pe_int)) pa_nil)))
          (pss_one (ps_set (i := 2) sc_L_numbers.nd rfl (Or.inl rfl) (pe_op op_fdivW (pv 2) (pe_op op_pow pe_int pe_int))))) 
          (pss_cons (ps_set (i := 5) sc_L_numbers.nd rfl (Or.inl rfl) (pe_op op_mod (pe_callTy call_int1 (by rfl) T.n_int (by decide +kernel) (pa_cons (pe_op op_add (pe_op op_add (pe_op op_mulX (pv 0) pe_int) (pe_op op_mulX (pv 4) pe_int)) pe_int) pa_nil)) pe_int))
          (pss_cons (ps_set (i := 5) sc_L_numbers.nd rfl (Or.inl rfl) (pe_op op_mod (pe_callTy call_int1 (by rfl) T.n_int (by decide +kernel) (pa_cons (pe_op op_add (pe_op op_add (pe_op op_mulX (pv 5) (pv 5)) (pe_op op_mulX pe_int (pv 4))) pe_int) pa_nil)) pe_int))
          (pss_one (ps_expr (pe_bm PySem.F.plainAttrs_list PySem.F.slot_list_append PySem.F.type_list_append mt_append (pv 3) (pa_cons (pe_op op_add (pe_op op_mulX (pe_op op_mod (pe_callTy call_int1 (by rfl) T.n_int (by decide +kernel) (pa_cons (pe_op op_add (pe_op op_mulX (pv 5) (pv 5)) (pv 5)) pa_nil)) pe_int) pe_int) (pv 4)) pa_nil)))))))))
      (pss_one (ps_ret (pv 3))))))), ?_⟩
  obtain ⟨c, n, rfl, bc, n0, n1, hq⟩ := h
  walk_at "rd"
  split
  all_goals
    first
      | refine ⟨⟨by decide, by decide⟩, fun p hp => ?_⟩
      | intro p hp
    refine ⟨by omega, by omega, Kv.for_rng0 (invNumbers c n p H) ?_ ?_ ?_⟩
  case isTrue.refine_1 =>
    refine ⟨_, [], _, _, rfl, by omega, ?_, rfl, fun z hz => by simp at hz, Kv.same_upd hp, upd_same⟩
    exact Nat.le_trans (Kv.bits_mono (by omega)) bc
  case isFalse.refine_1 => exact ⟨_, [], _, _, rfl, by omega, by decide, rfl, fun z hz => by simp at hz, Kv.same_upd hp, upd_same⟩
  case isTrue.refine_3 | isFalse.refine_3 =>
    rintro σ' H' ⟨rest, ns, x, y, rfl, r0, rb, hl, hz, hs, hp'⟩
    walk_at "rd"
    exact hq ns p H' (by omega) hz hs hp hp'
  case isTrue.refine_2 | isFalse.refine_2 =>
    rintro i σ' H' hi ⟨rest, ns, x, y, rfl, r0, rb, hl, hz, hs, hp'⟩
    have hsz : (ns.map V.int).length < sizeLine := by
      rw [List.length_map]
      exact Nat.lt_of_lt_of_le (show ns.length < 1001 by omega) (by decide)
    have more : ∀ v : Int, 0 ≤ v → v < 10000000000000 → (∀ z ∈ ns ++ [v], 0 ≤ z ∧ z < 10000000000000) := by
      intro v h0 h1 z hm
      rcases List.mem_append.mp hm with hm | hm
      · exact hz z hm
      · rw [List.mem_singleton.mp hm]
        exact ⟨h0, h1⟩
    have fin : ∀ v : Int, (upd H' p (HO.lst (ns.map V.int ++ [.int v]))) p = some (.lst ((ns ++ [v]).map V.int)) := by
      intro v
      rw [upd_same, List.map_append]
      rfl
    walk_at "rd"
    by_cases c1 : 0 < rest
    · rw [if_pos c1]
      refine ⟨.inl ⟨rfl, _, SqL.of hp'⟩, _, hp', hsz, ⟨by decide, by decide⟩, ?_⟩
      refine ⟨rest / 10000000000000, ns ++ [rest % 10000000000000], _, _, rfl, Int.ediv_nonneg r0 (by decide), Nat.le_trans (Kv.bits_mono (by omega)) rb, by simp [hl], more _ (Int.emod_nonneg _ (by decide)) (Int.emod_lt_of_pos _ (by decide)), Kv.same_mut hp hs, fin _⟩
    · rw [if_neg c1]
      have bi : Builtin.Int.intBits (i : Int) ≤ 64 := Kv.bits64 (by omega) (by omega)
      refine ⟨Kv.mulX bc (b := 64) (by decide), Kv.mulX bi (b := 64) (by decide), ?_⟩
      generalize hm1 : (c * 48271 + (i : Int) * 69621 + 1013) % 2147483647 = m1
      have m10 : 0 ≤ m1 := by rw [← hm1]; exact Int.emod_nonneg _ (by decide)
      have m11 : m1 < 2147483647 := by rw [← hm1]; exact Int.emod_lt_of_pos _ (by decide)
      have bm1 : Builtin.Int.intBits m1 ≤ 64 := Kv.bits64 (by omega) (by omega)
      refine ⟨Kv.mulX bm1 bm1, Kv.mulX (a := 64) (by decide) bi, ?_⟩
      generalize hm2 : (m1 * m1 + 8191 * (i : Int) + 77) % 2147483629 = m2
      have m20 : 0 ≤ m2 := by rw [← hm2]; exact Int.emod_nonneg _ (by decide)
      have m21 : m2 < 2147483629 := by rw [← hm2]; exact Int.emod_lt_of_pos _ (by decide)
      have bm2 : Builtin.Int.intBits m2 ≤ 64 := Kv.bits64 (by omega) (by omega)
      generalize hm3 : (m2 * m2 + m2) % 2147483587 = m3
      have m30 : 0 ≤ m3 := by rw [← hm3]; exact Int.emod_nonneg _ (by decide)
      have m31 : m3 < 2147483587 := by rw [← hm3]; exact Int.emod_lt_of_pos _ (by decide)
      have bm3 : Builtin.Int.intBits m3 ≤ 64 := Kv.bits64 (by omega) (by omega)
      refine ⟨.inl ⟨rfl, _, SqL.of hp'⟩, Kv.mulX bm2 bm2, Kv.mulX bm3 (b := 64) (by decide), _, hp', hsz, ?_⟩
      exact ⟨rest, ns ++ [m3 * 4001 + i], _, _, rfl, r0, rb, by simp [hl], more _ (by omega) (by omega), Kv.same_mut hp hs, fin _⟩

theorem ok_L_kinds (T : Txt K mg) : Kv.KindsOk P w K mg base T.toErrs 1 T.a__law_kinds T.d__law_kinds := by
  refine Kv.kinds_of T.F__law_kinds sc_L_kinds (fun cdv A outer s H Q p er hz hf h => ?_)
  refine ⟨_, 
      (pss_cons (ps_set (i := 1) sc_L_kinds.nd rfl (Or.inl rfl) (pe_lst pa_nil))
      (pss_cons (ps_if (pt_val (pe_callB (Kv.call_isP List.mem_cons_self (T.exc er) hz hf) (by rfl) T.n_isinstance (by decide +kernel) (pa_cons (pv 0) (pa_cons (pe_glob (v := .ref (T.exa .badValue)) (by rfl) (T.exg .badValue) rfl) pa_nil)))) 
        (pss_one (ps_expr (pe_bm PySem.F.plainAttrs_list PySem.F.slot_list_append PySem.F.type_list_append mt_append (pv 1) (pa_cons pe_str pa_nil)))) pss_nil)
      (pss_cons (ps_if (pt_val (pe_callB (Kv.call_isP List.mem_cons_self (T.exc er) hz hf) (by rfl) T.n_isinstance (by decide +kernel) (pa_cons (pv 0) (pa_cons (pe_glob (v := .ref (T.exa .badDay)) (by rfl) (T.exg .badDay) rfl) pa_nil)))) 
        (pss_one (ps_expr (pe_bm PySem.F.plainAttrs_list PySem.F.slot_list_append PySem.F.type_list_append mt_append (pv 1) (pa_cons pe_str pa_nil)))) pss_nil)
      (pss_cons (ps_if (pt_val (pe_callB (Kv.call_isP List.mem_cons_self (T.exc er) hz hf) (by rfl) T.n_isinstance (by decide +kernel) (pa_cons (pv 0) (pa_cons (pe_glob (v := .ref (T.exa .missing)) (by rfl) (T.exg .missing) rfl) pa_nil)))) 
        (pss_one (ps_expr (pe_bm PySem.F.plainAttrs_list PySem.F.slot_list_append PySem.F.type_list_append mt_append (pv 1) (pa_cons pe_str pa_nil)))) pss_nil)
      (pss_cons (ps_if (pt_val (pe_callB (Kv.call_isP List.mem_cons_self (T.exc er) hz hf) (by rfl) T.n_isinstance (by decide +kernel) (pa_cons (pv 0) (pa_cons (pe_glob (v := .ref (T.exa .refused)) (by rfl) (T.exg .refused) rfl) pa_nil)))) 
        (pss_one (ps_expr (pe_bm PySem.F.plainAttrs_list PySem.F.slot_list_append PySem.F.type_list_append mt_append (pv 1) (pa_cons pe_str pa_nil)))) pss_nil)
      (pss_cons (ps_if (pt_val (pe_callB (Kv.call_isP List.mem_cons_self (T.exc er) hz hf) (by rfl) T.n_isinstance (by decide +kernel) (pa_cons (pv 0) (pa_cons (pe_glob (v := .ref (T.exa .full)) (by rfl) (T.exg .full) rfl) pa_nil)))) 
        (pss_one (ps_expr (pe_bm PySem.F.plainAttrs_list PySem.F.slot_list_append PySem.F.type_list_append mt_append (pv 1) (pa_cons pe_str pa_nil)))) pss_nil)
      (pss_cons (ps_if (pt_val (pe_callB (Kv.call_isP List.mem_cons_self (T.exc er) hz hf) (by rfl) T.n_isinstance (by decide +kernel) (pa_cons (pv 0) (pa_cons (pe_glob (v := .ref (T.exa .notAllowed)) (by rfl) (T.exg .notAllowed) rfl) pa_nil)))) 
        (pss_one (ps_expr (pe_bm PySem.F.plainAttrs_list PySem.F.slot_list_append PySem.F.type_list_append mt_append (pv 1) (pa_cons pe_str pa_nil)))) pss_nil)
      (pss_cons (ps_if (pt_val (pe_callB (Kv.call_isP List.mem_cons_self (T.exc er) hz hf) (by rfl) T.n_isinstance (by decide +kernel) (pa_cons (pv 0) (pa_cons (pe_glob (v := .ref (T.exa .damaged)) (by rfl) (T.exg .damaged) rfl) pa_nil)))) 
        (pss_one (ps_expr (pe_bm PySem.F.plainAttrs_list PySem.F.slot_list_append PySem.F.type_list_append mt_append (pv 1) (pa_cons pe_str pa_nil)))) pss_nil)
      (pss_one (ps_ret (pv 1))))))))))), ?_⟩
  have hi := fun d => T.exi er d
  refine Kv.seq_step fun U hU => ?_
  walk_at "rd"
  intro l hl
  rw [hU]
  cases er
  all_goals
    iterate 7
      refine Kv.seq_step fun U hU => ?_
      walk_at "rd"
      refine ⟨_, hi _, ?_⟩
      first
        | rw [if_neg (by decide)]
        | (rw [if_pos (by decide)]
           refine ⟨.inl ⟨rfl, _, SqL.of upd_same⟩, _, upd_same, by decide, ?_⟩
           rw [upd_upd])
      rw [hU]
    walk_at "rd"
    exact h l hl

def isD (d : Int) : Prop := 0 ≤ d ∧ d ≤ 36524
instance (d : Int) : Decidable (isD d) := by unfold isD; infer_instance
def spIsDay : Sp := fun vs H Q _ => ∃ d, vs = [.int d] ∧ (isD d → Q (.bl true) H) ∧ (¬isD d → Q (.bl false) H)
theorem ok_is_day (T : Txt K mg) : FnOk P w K mg base CX0 1 T.a_is_day T.d_is_day ["number"] spIsDay := by
  refine T.F_is_day.ok sc_is_day (fun vs H Q E h => by obtain ⟨_, rfl, _⟩ := h; rfl) (fun cdv A outer s H vs Q E hr h => ?_)
  refine ⟨_, 
      (pss_one (ps_ret (pe_chain op_le op_le pe_int (pv 0) (pe_glob (by rfl) T.g_LAST_DAY T.r_LAST_DAY)))), ?_⟩
  obtain ⟨d, rfl, ht, hf⟩ := h
  walk_at "rd"
  unfold isD at ht hf
  split
  · by_cases c : d ≤ 36524
    · rw [decide_eq_true c]
      exact ht ⟨by omega, c⟩
    · rw [decide_eq_false c]
      exact hf (by omega)
  · exact hf (by omega)
def spCheckDay (T : Txt K mg) : Sp := fun vs H Q E => ∃ d, vs = [.int d] ∧ (isD d → Q .non H) ∧ (¬isD d → E (.ref (T.exa .badDay)) none H)
theorem ok_check_day (T : Txt K mg) : FnOk P w K mg base (L2.CX P w) 2 T.a_check_day T.d_check_day ["day"] (spCheckDay T) := by
  refine T.F_check_day.okX sc_check_day (fun vs H Q E h => by obtain ⟨_, rfl, _⟩ := h; rfl) (fun cdv A outer s H vs Q E hr h => ?_)
  refine ⟨_, 
      (pss_one (ps_if (pt_not (pt_val (pe_call (ok_is_day T) (hr.mono (by decide : 1 ≤ _)) (by rfl) T.g_is_day T.F_is_day.kp T.b_is_day .nil pass0 (pa_cons (pv 0) pa_nil)))) 
        (pss_one (ps_raise rfl (takes_of rfl rfl rfl rfl) (pmk_own PySem.F.excBase_ValueError (T.exx .badDay) (T.exg .badDay) (T.exk .badDay) (raises_own (T.exb .badDay) (T.ext .badDay)) (by rfl)))) pss_nil)), ?_⟩
  obtain ⟨d, rfl, hq, he⟩ := h
  walk_at "rd"
  refine ⟨d, rfl, fun c => ⟨_, rfl, ?_⟩, fun c => ⟨_, rfl, ?_⟩⟩
  · exact hq c
  · exact he c

def spDom : Sp := fun vs H Q _ => ∃ y m, vs = [.int y, .int m] ∧ 1 ≤ m ∧ m ≤ 12 ∧ Q (.int (dom y m)) H
theorem ok_days_of_month (T : Txt K mg) : FnOk P w K mg base CX0 1 T.a_days_of_month T.d_days_of_month ["year", "month"] spDom := by
  refine T.F_days_of_month.ok sc_days_of_month (fun vs H Q E h => by obtain ⟨_, _, rfl, _⟩ := h; rfl) (fun cdv A outer s H vs Q E hr h => ?_)
  refine ⟨_, 
      (pss_cons (ps_if (PW.pt (pw_and (pt_cmpR op_eq (pv 1) pe_int (nomark _)) (pw_and1 (pt_cmpR op_eq (pe_op op_mod (pv 0) pe_int) pe_int (nomark _))))) 
        (pss_one (ps_ret pe_int)) pss_nil)
      (pss_one (ps_ret (pe_ix ix_tup (pe_glob (by rfl) T.g_DAYS_OF_MONTHS T.r_DAYS_OF_MONTHS) (pe_op op_sub (pv 1) pe_int) (fun _ _ => rfl))))), ?_⟩
  obtain ⟨y, m, rfl, m0, m1, h⟩ := h
  walk_at "rd"
  unfold dom at h
  obtain ⟨n, e, e2, _⟩ := months_get (j := m - 1) (by omega) (by omega)
  by_cases c1 : m = 2
  · rw [if_pos c1]
    by_cases c2 : y % 4 = 0
    · rw [if_pos ⟨c1, c2⟩] at h
      rw [if_pos c2]
      exact h
    · rw [if_neg (fun z => c2 z.2), e] at h
      rw [if_neg c2]
      exact ⟨_, _, _, _, rfl, rfl, T.t_DAYS_OF_MONTHS H, at_of (j := (m - 1).toNat) (by omega) e2, h⟩
  · rw [if_neg (fun z => c1 z.1), e] at h
    rw [if_neg c1]
    exact ⟨_, _, _, _, rfl, rfl, T.t_DAYS_OF_MONTHS H, at_of (j := (m - 1).toNat) (by omega) e2, h⟩

def spFdo : Sp := fun vs H Q _ => ∃ y, vs = [.int y] ∧ -100000 ≤ y ∧ y ≤ 100000 ∧ Q (.int (fdo y)) H
theorem ok_first_day_of (T : Txt K mg) : FnOk P w K mg base CX0 1 T.a_first_day_of T.d_first_day_of ["year"] spFdo := by
  refine T.F_first_day_of.ok sc_first_day_of (fun vs H Q E h => by obtain ⟨_, rfl, _⟩ := h; rfl) (fun cdv A outer s H vs Q E hr h => ?_)
  refine ⟨_, 
      (pss_one (ps_ret (pe_op op_fdivW (pe_op op_add (pe_op op_mulX (pe_glob (by rfl) T.g_DAYS_OF_FOUR_YEARS T.r_DAYS_OF_FOUR_YEARS) (pe_op op_sub (pv 0) (pe_glob (by rfl) T.g_FIRST_YEAR T.r_FIRST_YEAR))) pe_int) pe_int))), ?_⟩
  obtain ⟨y, rfl, y0, y1, h⟩ := h
  walk_at "rd"
  exact ⟨Kv.mulX (a := 64) (b := 64) (by decide) (Kv.bits64 (by omega) (by omega)), h⟩

def spIsDate : Sp := fun vs H Q _ => ∃ y m d, vs = [.int y, .int m, .int d] ∧ (isDate y m d → Q (.bl true) H) ∧ (¬isDate y m d → Q (.bl false) H)
theorem ok_is_date (T : Txt K mg) : FnOk P w K mg base CX0 2 T.a_is_date T.d_is_date ["year", "month", "in_month"] spIsDate := by
  refine T.F_is_date.ok sc_is_date (fun vs H Q E h => by obtain ⟨_, _, _, rfl, _⟩ := h; rfl) (fun cdv A outer s H vs Q E hr h => ?_)
  refine ⟨_, 
      (pss_cons (ps_if (PW.pt (pw_or (pt_not (pt_chain op_le op_le (pe_glob (by rfl) T.g_FIRST_YEAR T.r_FIRST_YEAR) (pv 0) (pe_glob (by rfl) T.g_LAST_YEAR T.r_LAST_YEAR))) (pw_or1 (pt_not (pt_chain op_le op_le pe_int (pv 1) pe_int))))) 
        (pss_one (ps_ret pe_bl)) pss_nil)
      (pss_one (ps_ret (pe_chain op_le op_le pe_int (pv 2) (pe_call (ok_days_of_month T) (hr.mono (by decide : 1 ≤ _)) (by rfl) T.g_days_of_month T.F_days_of_month.kp T.b_days_of_month .nil pass0 (pa_cons (pv 0) (pa_cons (pv 1) pa_nil))))))), ?_⟩
  obtain ⟨y, m, d, rfl, ht, hf⟩ := h
  walk_at "rd"
  unfold isDate at ht hf
  have hf : ¬(2000 ≤ y ∧ y ≤ 2099 ∧ 1 ≤ m ∧ m ≤ 12 ∧ 1 ≤ d) → Q (.bl false) H := fun z => hf (fun q => z ⟨q.1, q.2.1, q.2.2.1, q.2.2.2.1, q.2.2.2.2.1⟩)
  (repeat' split) <;> first
    | exact hf (by omega)
    | skip
  refine ⟨y, m, rfl, by omega, by omega, _, rfl, ?_⟩
  by_cases c : d ≤ dom y m
  · rw [decide_eq_true c]
    exact ht (by omega)
  · rw [decide_eq_false c]
    apply ‹(¬(2000 ≤ y ∧ y ≤ 2099 ∧ 1 ≤ m ∧ m ≤ 12 ∧ 1 ≤ d ∧ d ≤ dom y m)) → Q (.bl false) H›
    omega
def spDayOf (T : Txt K mg) : Sp := fun vs H Q E => ∃ y m d, vs = [.int y, .int m, .int d] ∧ (isDate y m d → ∀ H', Same H H' → Q (.int (dayOf y m d)) H') ∧ (¬isDate y m d → E (.ref (T.exa .badDay)) none H)
theorem ok_day_of (T : Txt K mg) : FnOk P w K mg base (L2.CX P w) 3 T.a_day_of T.d_day_of ["year", "month", "in_month"] (spDayOf T) := by
  refine T.F_day_of.okX sc_day_of (fun vs H Q E h => by obtain ⟨_, _, _, rfl, _⟩ := h; rfl) (fun cdv A outer s H vs Q E hr h => ?_)
  refine ⟨_, 
      (pss_cons (ps_if (pt_not (pt_val (pe_call (ok_is_date T) (hr.mono (by decide : 2 ≤ _)) (by rfl) T.g_is_date T.F_is_date.kp T.b_is_date .nil pass0 (pa_cons (pv 0) (pa_cons (pv 1) (pa_cons (pv 2) pa_nil)))))) 
        (pss_one (ps_raise rfl (takes_of rfl rfl rfl rfl) (pmk_own PySem.F.excBase_ValueError (T.exx .badDay) (T.exg .badDay) (T.exk .badDay) (raises_own (T.exb .badDay) (T.ext .badDay)) (by rfl)))) pss_nil)
      (pss_cons (ps_set (i := 3) sc_day_of.nd rfl (Or.inl rfl) (pe_callB (cr_sum rfl) (by rfl) T.n_sum (by decide +kernel) (pa_cons (pe_lc (own := [("before", 4)]) (g := gName 4) (tt := tYes) rfl sc_day_of.nd (pi_range2 (by rfl) T.n_range (pa_cons pe_int (pa_cons (pv 1) pa_nil))) (blkOk_by (N := ["year", "month", "in_month", "earlier", "before"]) (sc := defScope s_day_of) (by decide +kernel)) (fun _ _ _ _ _ => (pg_name (i := 4) sc_day_of.nd rfl (Or.inl rfl))) (fun _ _ _ _ _ => pts_nil) (fun _ _ _ _ _ => (pe_call (ok_days_of_month T) (hr.mono (by decide : 1 ≤ _)) (by rfl) T.g_days_of_month T.F_days_of_month.kp T.b_days_of_month .nil pass0 (pa_cons (pv 0) (pa_cons (pv 4) pa_nil))))) pa_nil)))
      (pss_one (ps_ret (pe_op op_sub (pe_op op_add (pe_op op_add (pe_call (ok_first_day_of T) (hr.mono (by decide : 1 ≤ _)) (by rfl) T.g_first_day_of T.F_first_day_of.kp T.b_first_day_of .nil pass0 (pa_cons (pv 0) pa_nil)) (pv 3)) (pv 2)) pe_int))))), ?_⟩
  obtain ⟨y, m, d, rfl, hq, he⟩ := h
  walk_at "st"
  refine ⟨y, m, d, rfl, fun c => ⟨_, rfl, ?_⟩, fun c => ⟨_, rfl, ?_⟩⟩
  · rw [if_neg (by decide)]
    have hq := hq c
    obtain ⟨c1, c2, c3, c4, c5, c6⟩ := c
    walk_at "nx"
    refine ⟨by omega, by omega, Kv.lc_pure walk_range ((List.range (m - 1).toNat).map fun (k : Nat) => V.int (dom y ((k : Int) + 1))) (by simp) (Nat.lt_of_le_of_lt (show _ ≤ 12 by omega) (by decide)) (fun _ _ => trivial) (fun i x v H1 H2 U hv _ hY hU => ?_) fun p H1 hp s1 hp1 => ?_⟩
    · obtain ⟨rfl, rfl⟩ := hY
      have hi := (List.getElem?_eq_some_iff.mp hv).1
      simp at hi
      rw [List.getElem?_map, List.getElem?_range (by omega)] at hv
      cases hv
      walk_at "rd"
      refine ⟨y, 1 + (i : Int), rfl, by omega, by omega, ?_⟩
      rw [Int.add_comm 1 (i : Int)]
      exact hU _ (Same.refl _)
    · refine ⟨p, (List.range (m - 1).toNat).map fun (k : Nat) => dom y ((k : Int) + 1), rfl, SqL.of (by rw [hp1, List.map_map]; rfl), ?_⟩
      walk_at "nx"
      refine ⟨y, rfl, by omega, by omega, ?_⟩
      walk_at "rd"
      rw [sdom_sum] at *
      exact hq _ s1
  · rw [if_pos rfl]
    exact he c

/-! ### the date of a day -/
theorem sdom12 (y : Int) : sdom y 12 = fdo (y + 1) - fdo y := by
  have e : sdom y 12 = 337 + dom y 2 := by simp [sdom, dom, months]; omega
  rw [e]
  unfold dom fdo
  have : months.getD ((2 : Int) - 1).toNat 0 = 28 := rfl
  rw [this]
  split
  · omega
  · rename_i c
    have c : y % 4 = 1 ∨ y % 4 = 2 ∨ y % 4 = 3 := by omega
    obtain ⟨k, hk⟩ : ∃ k, y = 4 * k + y % 4 := ⟨y / 4, by omega⟩
    rcases c with c | c | c <;> rw [c] at hk <;> subst hk <;> omega
theorem sdom_step (y : Int) (n : Nat) : sdom y (n + 1) = sdom y n + dom y ((n : Int) + 1) := rfl
theorem sdom_mono {y : Int} {a : Nat} : ∀ b : Nat, a ≤ b → b ≤ 12 → sdom y a ≤ sdom y b
  | 0, h, _ => by rw [Nat.le_zero.mp h]; exact Int.le_refl _
  | b + 1, h, hb => by
    rcases Nat.lt_or_ge a (b + 1) with h2 | h2
    · have ih := sdom_mono (y := y) (a := a) b (by omega) (by omega)
      have d := dom_in (y := y) (m := (b : Int) + 1) (by omega) (by omega)
      rw [sdom_step]
      omega
    · have : a = b + 1 := by omega
      subst this
      exact Int.le_refl _
theorem dayOf_year {y m q : Int} (h : isDate y m q) : fdo y ≤ dayOf y m q ∧ dayOf y m q < fdo (y + 1) := by
  obtain ⟨h1, h2, h3, h4, h5, h6⟩ := h
  have e := sdom12 y
  have a := sdom_mono (y := y) (a := (m - 1).toNat + 1) 12 (by omega) (by omega)
  rw [sdom_step, show (((m - 1).toNat : Nat) : Int) + 1 = m by omega] at a
  have b := (sdom_in y (m - 1).toNat (by omega)).1
  unfold dayOf
  omega
theorem date_inj {y m q y2 m2 q2 : Int} (h : isDate y m q) (h2 : isDate y2 m2 q2) (e : dayOf y m q = dayOf y2 m2 q2) : y = y2 ∧ m = m2 ∧ q = q2 := by
  have a := dayOf_year h
  have b := dayOf_year h2
  have hy : y = y2 := by unfold fdo at a b; omega
  subst hy
  obtain ⟨h1, h2', h3, h4, h5, h6⟩ := h
  obtain ⟨g1, g2, g3, g4, g5, g6⟩ := h2
  unfold dayOf at e
  have hm : m = m2 := by
    rcases Int.lt_trichotomy m m2 with z | z | z
    · have k := sdom_mono (y := y) (a := (m - 1).toNat + 1) (m2 - 1).toNat (by omega) (by omega)
      rw [sdom_step, show (((m - 1).toNat : Nat) : Int) + 1 = m by omega] at k
      omega
    · exact z
    · have k := sdom_mono (y := y) (a := (m2 - 1).toNat + 1) (m - 1).toNat (by omega) (by omega)
      rw [sdom_step, show (((m2 - 1).toNat : Nat) : Int) + 1 = m2 by omega] at k
      omega
  subst hm
  exact ⟨rfl, rfl, by omega⟩
theorem dayOf_in {y m q : Int} (h : isDate y m q) : isD (dayOf y m q) := by
  have a := dayOf_year h
  obtain ⟨h1, h2, _⟩ := h
  unfold fdo at a
  unfold isD
  omega
def spDateOf (T : Txt K mg) : Sp := fun vs H Q E => ∃ d, vs = [.int d] ∧ (isD d → ∀ y m q p H', isDate y m q → dayOf y m q = d → Same H H' → H p = none → H' p = some (.tup [.int y, .int m, .int q]) → Q (.ref p) H') ∧ (¬isD d → E (.ref (T.exa .badDay)) none H)
def invDate (d y : Int) (H : Hp) : L2.St → Hp → Prop := fun σ' H' => ∃ (m l : Int), σ' = [some (.int d), some (.int y), some (.int m), some (.int l)] ∧ H' = H ∧ 1 ≤ m ∧ m ≤ 12 ∧ 0 ≤ l ∧ l = d - fdo y - sdom y (m - 1).toNat
def msDate : L2.St → Hp → Nat := fun σ' _ => match σ'[2]? with
  | some (some (V.int m)) => (12 - m).toNat
  | _ => 0
theorem ok_date_of (T : Txt K mg) : FnOk P w K mg base (L2.CX P w) 3 T.a_date_of T.d_date_of ["day"] (spDateOf T) := by
  refine T.F_date_of.okX sc_date_of (fun vs H Q E h => by obtain ⟨_, rfl, _⟩ := h; rfl) (fun cdv A outer s H vs Q E hr h => ?_)
  refine ⟨_, 
      (pss_cons (ps_expr (pe_call (ok_check_day T) (hr.mono (by decide : 2 ≤ _)) (by rfl) T.g_check_day T.F_check_day.kp T.b_check_day .nil (passes_call (takes_of rfl rfl rfl rfl) (fun _ _ _ _ h => h)) (pa_cons (pv 0) pa_nil)))
      (pss_cons (ps_set (i := 1) sc_date_of.nd rfl (Or.inl rfl) (pe_op op_add (pe_glob (by rfl) T.g_FIRST_YEAR T.r_FIRST_YEAR) (pe_op op_fdivW (pe_op op_mulX pe_int (pv 0)) (pe_glob (by rfl) T.g_DAYS_OF_FOUR_YEARS T.r_DAYS_OF_FOUR_YEARS))))
      (pss_cons (ps_set (i := 2) sc_date_of.nd rfl (Or.inl rfl) pe_int)
      (pss_cons (ps_set (i := 3) sc_date_of.nd rfl (Or.inl rfl) (pe_op op_sub (pv 0) (pe_call (ok_first_day_of T) (hr.mono (by decide : 1 ≤ _)) (by rfl) T.g_first_day_of T.F_first_day_of.kp T.b_first_day_of .nil pass0 (pa_cons (pv 1) pa_nil))))
      (pss_cons (ps_while (passes_of rfl) (pt_cmpR op_ge (pv 3) (pe_call (ok_days_of_month T) (hr.mono (by decide : 1 ≤ _)) (by rfl) T.g_days_of_month T.F_days_of_month.kp T.b_days_of_month .nil pass0 (pa_cons (pv 1) (pa_cons (pv 2) pa_nil))) (nomark _)) 
        (pss_cons (ps_aug (i := 3) sc_date_of.nd rfl (Or.inl rfl) (pe_call (ok_days_of_month T) (hr.mono (by decide : 1 ≤ _)) (by rfl) T.g_days_of_month T.F_days_of_month.kp T.b_days_of_month .nil pass0 (pa_cons (pv 1) (pa_cons (pv 2) pa_nil))) ip_sub)
        (pss_one (ps_aug (i := 2) sc_date_of.nd rfl (Or.inl rfl) pe_int ip_add))))
      (pss_one (ps_ret (pe_tup (pa_cons (pv 1) (pa_cons (pv 2) (pa_cons (pe_op op_add (pv 3) pe_int) pa_nil))))))))))), ?_⟩
  obtain ⟨d, rfl, hq, he⟩ := h
  walk_at "st"
  refine ⟨d, rfl, fun c => ?_, fun c => he c⟩
  have hq := hq c
  obtain ⟨d0, d1⟩ := c
  walk_at "nx"
  refine ⟨Kv.mulX (a := 64) (b := 64) (by decide) (Kv.bits64 (by omega) (by omega)), ⟨by decide, by decide⟩, ?_⟩
  walk_at "nx"
  walk_at "nx"
  have hf : fdo (2000 + 4 * d / 1461) ≤ d ∧ d < fdo (2000 + 4 * d / 1461 + 1) := by
    unfold fdo
    omega
  have h12 := sdom12 (2000 + 4 * d / 1461)
  have hy : 2000 ≤ 2000 + 4 * d / 1461 ∧ 2000 + 4 * d / 1461 ≤ 2099 := by omega
  generalize 2000 + 4 * d / 1461 = y at *
  refine ⟨y, rfl, by omega, by omega, ?_⟩
  walk_at "rd"
  walk_at "nx"
  refine Kv.while_cps (invDate d y H) msDate ⟨_, _, rfl, rfl, by omega, by omega, by omega, by simp [sdom]⟩ ?_
  rintro σ' H' ⟨m, l, rfl, rfl, m0, m1, l0, hl⟩ U2 ht hf2
  walk_at "rd"
  refine ⟨y, m, rfl, m0, m1, _, rfl, ?_⟩
  have sm := sdom_step y (m - 1).toNat
  rw [show (((m - 1).toNat : Nat) : Int) + 1 = m by omega] at sm
  by_cases c : dom y m ≤ l
  · rw [decide_eq_true c]
    refine ht _ ?_
    walk_at "rd"
    have hm : m < 12 := by
      rcases Int.lt_or_le m 12 with z | z
      · exact z
      · have : m = 12 := by omega
        subst this
        have : sdom y ((12 : Int) - 1).toNat + dom y 12 = sdom y 12 := rfl
        omega
    refine ⟨y, m, rfl, m0, m1, ?_⟩
    walk_at "rd"
    refine ⟨⟨m + 1, l - dom y m, rfl, rfl, by omega, by omega, by omega, ?_⟩, ?_⟩
    · rw [show (m + 1 - 1).toNat = (m - 1).toNat + 1 by omega, sm]
      omega
    · show (12 - (m + 1)).toNat < (12 - m).toNat
      omega
  · rw [decide_eq_false c]
    refine hf2 _ ?_
    walk_at "nx"
    intro p hp
    refine hq y m _ p _ ⟨hy.1, hy.2, m0, m1, by omega, by omega⟩ ?_ (Kv.same_upd hp) hp upd_same
    unfold dayOf
    omega

def spLen : Sp := fun vs H Q _ => ∃ y m, vs = [.int y, .int m] ∧ 1 ≤ m ∧ m ≤ 12 ∧ ∀ H', Same H H' → Q (.int (dom y m)) H'
theorem ok_L_length (T : Txt K mg) : FnOk P w K mg base CX0 1 T.a__law_length T.d__law_length ["year", "month"] spLen := by
  refine T.F__law_length.ok sc_L_length (fun vs H Q E h => by obtain ⟨_, _, rfl, _⟩ := h; rfl) (fun cdv A outer s H vs Q E hr h => ?_)
  refine ⟨_, 
      (pss_cons (ps_if (PW.pt (pw_and (pt_cmpR op_eq (pv 1) pe_int (nomark _)) (pw_and1 (pt_cmpR op_eq (pe_op op_mod (pe_callTy call_int1 (by rfl) T.n_int (by decide +kernel) (pa_cons (pv 0) pa_nil)) pe_int) pe_int (nomark _))))) 
        (pss_one (ps_ret pe_int)) pss_nil)
      (pss_one (ps_ret (pe_ix ix_list (pe_lst (pa_cons pe_int (pa_cons pe_int (pa_cons pe_int (pa_cons pe_int (pa_cons pe_int (pa_cons pe_int (pa_cons pe_int (pa_cons pe_int (pa_cons pe_int (pa_cons pe_int (pa_cons pe_int (pa_cons pe_int pa_nil))))))))))))) (pe_op op_sub (pv 1) pe_int) (fun _ _ => rfl))))), ?_⟩
  obtain ⟨y, m, rfl, m0, m1, h⟩ := h
  walk_at "rd"
  unfold dom at h
  obtain ⟨n, e, e2, _⟩ := months_get (j := m - 1) (by omega) (by omega)
  have hl : ∀ Q2 : VK, Q2 (.int n) (upd H 0 (.lst [])) → True := fun _ _ => trivial
  by_cases c1 : m = 2
  · rw [if_pos c1]
    by_cases c2 : y % 4 = 0
    · simp only [if_pos c2, if_pos (And.intro c1 c2)] at h ⊢
      exact h _ (Same.refl _)
    · simp only [if_neg c2, if_neg (fun z : m = 2 ∧ y % 4 = 0 => c2 z.2), e] at h ⊢
      intro l hl
      exact Kv.ix_at (SqL.of upd_same) (by omega) e2 (h _ (Kv.same_upd hl))
  · simp only [if_neg c1, if_neg (fun z : m = 2 ∧ y % 4 = 0 => c1 z.1), e] at h ⊢
    intro l hl
    exact Kv.ix_at (SqL.of upd_same) (by omega) e2 (h _ (Kv.same_upd hl))

def spLDate : Sp := fun vs H Q _ => ∃ d, vs = [.int d] ∧ isD d ∧ ∀ y m q p H', isDate y m q → dayOf y m q = d → Same H H' → H p = none → H' p = some (.tup [.int y, .int m, .int q]) → Q (.ref p) H'
def invLY (d : Int) (H : Hp) : Nat → L2.St → Hp → Prop := fun i σ' H' => ∃ (v3 v4 v5 : Option V) (y l : Int), σ' = [some (.int l), some (.int y), v3, v4, v5] ∧ H' = H ∧ y = 2000 + 4 * (d / 1461) + i ∧ 0 ≤ l ∧ l = d % 1461 - (if i = 0 then 0 else 365 * (i : Int) + 1)
def midLY (d : Int) (H : Hp) : L2.St → Hp → Prop := fun σ' H' => ∃ (y l : Int) (v3 v4 v5 : Option V), σ' = [some (.int l), some (.int y), v3, v4, v5] ∧ H' = H ∧ 0 ≤ l ∧ l < fdo (y + 1) - fdo y ∧ fdo y + l = d ∧ 2000 ≤ y ∧ y ≤ 2099
def invLM (y d : Int) (H : Hp) : Nat → L2.St → Hp → Prop := fun i σ' H' => ∃ (l : Int) (v3 v4 v5 : Option V), σ' = [some (.int l), some (.int y), v3, v4, v5] ∧ Same H H' ∧ 0 ≤ l ∧ fdo y + sdom y i + l = d
theorem ok_L_date (T : Txt K mg) : FnOk P w K mg base CX0 2 T.a__law_date T.d__law_date ["day"] spLDate := by
  refine T.F__law_date.ok sc_L_date (fun vs H Q E h => by obtain ⟨_, rfl, _⟩ := h; rfl) (fun cdv A outer s H vs Q E hr h => ?_)
  refine ⟨_, 
      (pss_cons (ps_set (i := 1) sc_L_date.nd rfl (Or.inl rfl) (pe_op op_add pe_int (pe_op op_mulX pe_int (pe_op op_fdivW (pv 0) pe_int))))
      (pss_cons (ps_set (i := 0) sc_L_date.nd rfl (Or.inl rfl) (pe_op op_mod (pe_callTy call_int1 (by rfl) T.n_int (by decide +kernel) (pa_cons (pv 0) pa_nil)) pe_int))
      (pss_cons (ps_for PassesOwn.never rfl (pi_range1 (by rfl) T.n_range (pa_cons pe_int pa_nil)) (pg_name (i := 2) sc_L_date.nd rfl (Or.inl rfl)) 
        (pss_cons (ps_set (i := 3) sc_L_date.nd rfl (Or.inl rfl) (pe_op op_add pe_int (pe_callTy call_int1 (by rfl) T.n_int (by decide +kernel) (pa_cons (pe_cmpR op_eq (pv 2) pe_int (nomark _)) pa_nil))))
        (pss_cons (ps_if (pt_cmpR op_lt (pv 0) (pv 3) (nomark _)) 
          (pss_one ps_break) pss_nil)
        (pss_cons (ps_set (i := 0) sc_L_date.nd rfl (Or.inl rfl) (pe_op op_sub (pv 0) (pv 3)))
        (pss_one (ps_set (i := 1) sc_L_date.nd rfl (Or.inl rfl) (pe_op op_add (pv 1) pe_int)))))))
      (pss_cons (ps_for PassesOwn.never rfl (pi_range2 (by rfl) T.n_range (pa_cons pe_int (pa_cons pe_int pa_nil))) (pg_name (i := 4) sc_L_date.nd rfl (Or.inl rfl)) 
        (pss_cons (ps_if (pt_cmpR op_lt (pv 0) (pe_call (ok_L_length T) (hr.mono (by decide : 1 ≤ _)) (by rfl) T.g__law_length T.F__law_length.kp T.b__law_length .nil pass0 (pa_cons (pv 1) (pa_cons (pv 4) pa_nil))) (nomark _)) 
          (pss_one (ps_ret (pe_tup (pa_cons (pv 1) (pa_cons (pv 4) (pa_cons (pe_op op_add (pv 0) pe_int) pa_nil)))))) pss_nil)
        (pss_one (ps_set (i := 0) sc_L_date.nd rfl (Or.inl rfl) (pe_op op_sub (pv 0) (pe_call (ok_L_length T) (hr.mono (by decide : 1 ≤ _)) (by rfl) T.g__law_length T.F__law_length.kp T.b__law_length .nil pass0 (pa_cons (pv 1) (pa_cons (pv 4) pa_nil))))))))
      (pss_one (ps_ret pe_non)))))), ?_⟩
  obtain ⟨d, rfl, ⟨d0, d1⟩, hq⟩ := h
  walk_at "st"
  refine ⟨⟨by decide, by decide⟩, Kv.mulX (a := 64) (b := 64) (by decide) (Kv.bits64 (by omega) (by omega)), ?_⟩
  walk_at "nx"
  have c3 : ∀ i : Nat, i < 3 → i = 0 ∨ i = 1 ∨ i = 2 := fun i h => by omega
  subst_vars
  refine Kv.seq_cut (midLY d H) (fun U hU => ?_) ?_
  · walk_at "rd"
    refine Kv.for_rng0 (invLY d H) ⟨_, _, _, _, _, rfl, rfl, by simp, by omega, by simp⟩ ?_ ?_
    · rintro i σ' H' hi ⟨v3, v4, v5, y, l, rfl, rfl, hy, l0, hl⟩
      walk_at "rd"
      by_cases c : l < 365 + if (i : Int) = 0 then 1 else 0
      · rw [if_pos c]
        refine hU _ _ ⟨_, _, _, _, _, rfl, rfl, l0, ?_, ?_, ?_, ?_⟩ <;> (try unfold fdo) <;> rcases c3 i hi with e | e | e <;> subst e <;> simp at hl hy c ⊢ <;> omega
      · rw [if_neg c]
        refine ⟨_, _, _, _, _, rfl, rfl, ?_, ?_, ?_⟩ <;> rcases c3 i hi with e | e | e <;> subst e <;> simp at hl hy c ⊢ <;> omega
    · rintro σ' H' ⟨v3, v4, v5, y, l, rfl, rfl, hy, l0, hl⟩
      refine hU _ _ ⟨_, _, _, _, _, rfl, rfl, l0, ?_, ?_, ?_, ?_⟩ <;> (try unfold fdo) <;> simp at hl hy <;> omega
  rintro σ' H' ⟨y, l, v3, v4, v5, rfl, rfl, l0, l1, l2, y0, y1⟩
  walk_at "st"
  refine Kv.for_rng (invLM y d H') ⟨_, _, _, _, rfl, Same.refl _, l0, by simp only [sdom]; omega⟩ ?_ ?_
  · rintro i σ' H2 hi ⟨l, v3, v4, v5, rfl, s2, l0, hl⟩
    walk_at "rd"
    refine ⟨y, 1 + (i : Int), rfl, by omega, by omega, fun H3 s3 => ⟨_, rfl, ?_⟩⟩
    rw [Int.add_comm 1 (i : Int)]
    split
    · intro p hp
      refine hq y _ _ p _ ⟨y0, y1, by omega, by omega, ?_, ?_⟩ ?_ (s2.trans (s3.trans (Kv.same_upd hp))) (Same.free (s2.trans s3) hp) upd_same
      · omega
      · omega
      · unfold dayOf
        rw [show (((i : Int) + 1) - 1).toNat = i by omega]
        omega
    · refine ⟨y, _, rfl, by omega, by omega, fun H4 s4 => ?_⟩
      walk_at "rd"
      refine ⟨_, _, _, _, rfl, s2.trans (s3.trans s4), by omega, ?_⟩
      rw [sdom_step]
      omega
  · rintro σ' H2 ⟨l, v3, v4, v5, rfl, s2, l0, hl⟩
    have := sdom12 y
    omega

/-! ### what is due -/
def ok2 (m n : Int) : Prop := 1 ≤ m ∧ m ≤ 120 ∧ 0 ≤ n ∧ n ≤ 1200
theorem mn_in {m n : Int} (h : ok2 m n) : 0 ≤ m * n ∧ m * n ≤ 144000 := by
  obtain ⟨a, b, c, d⟩ := h
  have x := Int.mul_nonneg (show 0 ≤ m by omega) c
  have y := Int.mul_le_mul_of_nonneg_right b c
  omega
def mn (a b : Int) : Int := if b < a then b else a
def far (y mo q k : Int) : Except Kv.Er Int := if y + k / 12 ≤ 2099 then .ok (dayOf (y + k / 12) (k % 12 + 1) (mn q (dom (y + k / 12) (k % 12 + 1)))) else .error .badDay
def DueR (s m n : Int) (r : Except Kv.Er Int) : Prop := (¬isD s ∧ r = .error .badDay) ∨ (isD s ∧ ¬ok2 m n ∧ r = .error .badValue) ∨ (ok2 m n ∧ ∃ y mo q, isDate y mo q ∧ dayOf y mo q = s ∧ r = far y mo q (mo - 1 + m * n))
theorem DueR.one {s m n : Int} {r r2 : Except Kv.Er Int} (h : DueR s m n r) (h2 : DueR s m n r2) : r = r2 := by
  rcases h with ⟨a, rfl⟩ | ⟨a, b, rfl⟩ | ⟨b, y, mo, q, d, e, rfl⟩
  · rcases h2 with ⟨a2, rfl⟩ | ⟨a2, b2, rfl⟩ | ⟨b2, y2, mo2, q2, d2, e2, rfl⟩
    · rfl
    · exact absurd a2 a
    · exact absurd (e2 ▸ dayOf_in d2) a
  · rcases h2 with ⟨a2, rfl⟩ | ⟨a2, b2, rfl⟩ | ⟨b2, y2, mo2, q2, d2, e2, rfl⟩
    · exact absurd a a2
    · rfl
    · exact absurd b2 b
  · rcases h2 with ⟨a2, rfl⟩ | ⟨a2, b2, rfl⟩ | ⟨b2, y2, mo2, q2, d2, e2, rfl⟩
    · exact absurd (e ▸ dayOf_in d) a2
    · exact absurd b b2
    · obtain ⟨rfl, rfl, rfl⟩ := date_inj d d2 (by omega)
      rfl
/-- where the month begins that is so many months behind January of the year 0 -/
def MS (k : Int) : Int := fdo (k / 12) + sdom (k / 12) (k % 12).toNat
theorem MS_step (k : Int) : MS (k + 1) = MS k + dom (k / 12) (k % 12 + 1) := by
  unfold MS
  rcases (by omega : k % 12 = 11 ∨ k % 12 < 11) with c | c
  · have e1 : (k + 1) / 12 = k / 12 + 1 := by omega
    have e2 : ((k + 1) % 12).toNat = 0 := by omega
    have e3 : (k % 12).toNat = 11 := by omega
    rw [e1, e2, e3, c]
    have s12 := sdom12 (k / 12)
    have e11 : sdom (k / 12) 11 + dom (k / 12) (11 + 1) = sdom (k / 12) 12 := rfl
    have z : sdom (k / 12 + 1) 0 = 0 := rfl
    omega
  · have e1 : (k + 1) / 12 = k / 12 := by omega
    have e2 : ((k + 1) % 12).toNat = (k % 12).toNat + 1 := by omega
    rw [e1, e2, sdom_step]
    rw [show (((k % 12).toNat : Nat) : Int) = k % 12 by omega]
    omega
theorem MS_mono (k : Int) : ∀ n : Nat, MS k ≤ MS (k + n)
  | 0 => by simp
  | n + 1 => by
    have ih := MS_mono k n
    have d := dom_in (y := (k + n) / 12) (m := (k + n) % 12 + 1) (by omega) (by omega)
    rw [show k + ((n + 1 : Nat) : Int) = (k + n) + 1 by omega, MS_step]
    omega
theorem dayOf_MS (y k q : Int) : dayOf (y + k / 12) (k % 12 + 1) q = MS (12 * y + k) + q - 1 := by
  unfold MS dayOf
  rw [show (12 * y + k) / 12 = y + k / 12 by omega, show (12 * y + k) % 12 = k % 12 by omega, show k % 12 + 1 - 1 = k % 12 by omega]
theorem DueR.later {s m n d e : Int} (h : DueR s m n (.ok d)) (h2 : DueR s m (n + 1) (.ok e)) : d < e := by
  rcases h with ⟨_, h⟩ | ⟨_, _, h⟩ | ⟨b, y, mo, q, c, g, h⟩
  · cases h
  · cases h
  rcases h2 with ⟨_, h2⟩ | ⟨_, _, h2⟩ | ⟨b2, y2, mo2, q2, c2, g2, h2⟩
  · cases h2
  · cases h2
  obtain ⟨rfl, rfl, rfl⟩ := date_inj c c2 (by omega)
  unfold far at h h2
  split at h
  · split at h2
    · have h := Except.ok.inj h
      have h2 := Except.ok.inj h2
      rw [dayOf_MS] at h h2
      have hm : m * (n + 1) = m * n + m := by rw [Int.mul_add, Int.mul_one]
      rw [hm] at h2
      have d1 := dom_in (y := y + (mo - 1 + m * n) / 12) (m := (mo - 1 + m * n) % 12 + 1) (by omega) (by omega)
      have d2 := dom_in (y := y + (mo - 1 + (m * n + m)) / 12) (m := (mo - 1 + (m * n + m)) % 12 + 1) (by omega) (by omega)
      have st := MS_step (12 * y + (mo - 1 + m * n))
      have mo1 := MS_mono (12 * y + (mo - 1 + m * n) + 1) (m - 1).toNat
      have b1 := b.1
      rw [show 12 * y + (mo - 1 + m * n) + 1 + (((m - 1).toNat : Nat) : Int) = 12 * y + (mo - 1 + (m * n + m)) by omega] at mo1
      rw [show (12 * y + (mo - 1 + m * n)) / 12 = y + (mo - 1 + m * n) / 12 by omega, show (12 * y + (mo - 1 + m * n)) % 12 = (mo - 1 + m * n) % 12 by omega] at st
      have q1 := c.2.2.2.2.1
      unfold mn at h h2
      split at h <;> split at h2 <;> omega
    · cases h2
  · cases h
theorem DueR.start {s m : Int} {r : Except Kv.Er Int} (hs : isD s) (hm : 1 ≤ m ∧ m ≤ 120) (h : DueR s m 0 r) : r = .ok s := by
  rcases h with ⟨a, _⟩ | ⟨_, b, _⟩ | ⟨_, y, mo, q, ⟨c1, c2, c3, c4, c5, c6⟩, g, h⟩
  · exact absurd hs a
  · exact absurd ⟨hm.1, hm.2, by omega, by omega⟩ b
  · rw [h]
    unfold far
    have e1 : (mo - 1 + m * 0) / 12 = 0 := by omega
    have e2 : (mo - 1 + m * 0) % 12 + 1 = mo := by omega
    rw [e1, e2, Int.add_zero, if_pos c2]
    unfold mn
    rw [if_neg (by omega), g]
def spDueDay (T : Txt K mg) : Sp := fun vs H Q E => ∃ s m n, vs = [.int s, .int m, .int n] ∧ ∀ r H', DueR s m n r → Same H H' → match r with | .error e => E (.ref (T.exa e)) none H' | .ok d => Q (.int d) H'
theorem ok_due_day (T : Txt K mg) : FnOk P w K mg base (L2.CX P w) 4 T.a_due_day T.d_due_day ["start", "months", "number"] (spDueDay T) := by
  refine T.F_due_day.okX sc_due_day (fun vs H Q E h => by obtain ⟨_, _, _, rfl, _⟩ := h; rfl) (fun cdv A outer s H vs Q E hr h => ?_)
  refine ⟨_, 
      (pss_cons (ps_asg (pe_call (ok_date_of T) (hr.mono (by decide : 3 ≤ _)) (by rfl) T.g_date_of T.F_date_of.kp T.b_date_of .nil (passes_call (takes_of rfl rfl rfl rfl) (fun _ _ _ _ h => h)) (pa_cons (pv 0) pa_nil)) (pg_tup (n := 3) (by rfl) (pgs_cons (pg_name (i := 3) sc_due_day.nd rfl (Or.inl rfl)) (pgs_cons (pg_name (i := 4) sc_due_day.nd rfl (Or.inl rfl)) (pgs_cons (pg_name (i := 5) sc_due_day.nd rfl (Or.inl rfl)) pgs_nil)))))
      (pss_cons (ps_if (pt_not (pt_chain op_le op_le pe_int (pv 1) (pe_glob (by rfl) T.g_MOST_MONTHS T.r_MOST_MONTHS))) 
        (pss_one (ps_raise rfl (takes_of rfl rfl rfl rfl) (pmk_own PySem.F.excBase_ValueError (T.exx .badValue) (T.exg .badValue) (T.exk .badValue) (raises_own (T.exb .badValue) (T.ext .badValue)) (by rfl)))) pss_nil)
      (pss_cons (ps_if (pt_not (pt_chain op_le op_le pe_int (pv 2) (pe_glob (by rfl) T.g_MOST_TIMES T.r_MOST_TIMES))) 
        (pss_one (ps_raise rfl (takes_of rfl rfl rfl rfl) (pmk_own PySem.F.excBase_ValueError (T.exx .badValue) (T.exg .badValue) (T.exk .badValue) (raises_own (T.exb .badValue) (T.ext .badValue)) (by rfl)))) pss_nil)
      (pss_cons (ps_asg (pe_callB call_divmodW (by rfl) T.n_divmod (by decide +kernel) (pa_cons (pe_op op_add (pe_op op_sub (pv 4) pe_int) (pe_op op_mulX (pv 1) (pv 2))) (pa_cons pe_int pa_nil))) (pg_tup (n := 2) (by rfl) (pgs_cons (pg_name (i := 6) sc_due_day.nd rfl (Or.inl rfl)) (pgs_cons (pg_name (i := 7) sc_due_day.nd rfl (Or.inl rfl)) pgs_nil))))
      (pss_cons (ps_set (i := 8) sc_due_day.nd rfl (Or.inl rfl) (pe_call (ok_days_of_month T) (hr.mono (by decide : 1 ≤ _)) (by rfl) T.g_days_of_month T.F_days_of_month.kp T.b_days_of_month .nil pass0 (pa_cons (pe_op op_add (pv 3) (pv 6)) (pa_cons (pe_op op_add (pv 7) pe_int) pa_nil))))
      (pss_one (ps_ret (pe_call (ok_day_of T) (hr.mono (by decide : 3 ≤ _)) (by rfl) T.g_day_of T.F_day_of.kp T.b_day_of .nil (passes_call (takes_of rfl rfl rfl rfl) (fun _ _ _ _ h => h)) (pa_cons (pe_op op_add (pv 3) (pv 6)) (pa_cons (pe_op op_add (pv 7) pe_int) (pa_cons (pe_callB (call_min2 rfl) (by rfl) T.n_min (by decide +kernel) (pa_cons (pv 5) (pa_cons (pv 8) pa_nil))) pa_nil))))))))))), ?_⟩
  obtain ⟨s, m, n, rfl, hq⟩ := h
  walk_at "st"
  refine ⟨s, rfl, fun hs y mo q p H1 hd he s1 hp hp1 => ?_, fun c => hq (.error .badDay) _ (.inl ⟨c, rfl⟩) (Same.refl _)⟩
  refine Kv.gtupN3 (SqT.of hp1) ?_
  have bad : ¬ok2 m n → E (.ref (T.exa .badValue)) none H1 := fun c => hq (.error .badValue) _ (.inr (.inl ⟨hs, c, rfl⟩)) s1
  walk_at "nx"
  (repeat' split) <;> first
    | exact bad (fun z => by have := z.1; have := z.2.1; omega)
    | skip
  walk_at "nx"
  (repeat' split) <;> first
    | exact bad (fun z => by have := z.2.2.1; have := z.2.2.2; omega)
    | skip
  have hok : ok2 m n := ⟨by omega, by omega, by omega, by omega⟩
  have mnb := mn_in hok
  have mo0 := hd.2.2.1
  have mo1 := hd.2.2.2.1
  walk_at "nx"
  refine ⟨Kv.mulX (Kv.bits64 (by omega) (by omega)) (Kv.bits64 (by omega) (by omega)), divp_ok (by decide) (Nat.le_trans (Kv.bits64 (by omega) (by omega)) (by omega)), fun p2 hp2 => Kv.gtupN2 (SqT.of upd_same) ?_⟩
  have s2 := Kv.same_upd (o := .tup [.int ((mo - 1 + m * n) / 12), .int ((mo - 1 + m * n) % 12)]) hp2
  have fin : ∀ r H', r = far y mo q (mo - 1 + m * n) → Same H1 H' → match r with | .error e => E (.ref (T.exa e)) none H' | .ok d => Q (.int d) H' := fun r H' hr s3 => hq r H' (.inr (.inr ⟨hok, y, mo, q, hd, rfl, hr⟩)) (s1.trans s3)
  obtain ⟨c1, c2, c3, c4, c5, c6⟩ := hd
  have dm := dom_in (y := y + (mo - 1 + m * n) / 12) (m := (mo - 1 + m * n) % 12 + 1) (by omega) (by omega)
  walk_at "nx"
  refine ⟨_, _, rfl, by omega, by omega, ?_⟩
  walk_at "nx"
  have hy0 : 0 ≤ (mo - 1 + m * n) / 12 := by
    have := Int.mul_nonneg (show 0 ≤ m by omega) (show 0 ≤ n by omega)
    omega
  refine ⟨_, _, _, rfl, fun hd2 H3 s3 => ?_, fun hd2 => ?_⟩
  · refine fin (.ok _) H3 ?_ (s2.trans s3)
    unfold far mn
    rw [if_pos hd2.2.1]
  · refine fin (.error .badDay) _ ?_ s2
    unfold far
    rw [if_neg]
    intro z
    refine hd2 ⟨by omega, z, by omega, by omega, ?_, ?_⟩ <;> split <;> omega
/-- a word and a list of one, as both defs tell -/
def Said (H : Hp) (t : Addr) : Except Kv.Er Int → Prop
  | .error e => ∃ l, H t = some (.tup [.str "raised", .ref l]) ∧ H l = some (.lst [.str e.nm])
  | .ok x => ∃ l, H t = some (.tup [.str "day", .ref l]) ∧ H l = some (.lst [.int x])
theorem Said.same {H H' : Hp} {t : Addr} {o : Except Kv.Er Int} (s : Same H H') (h : Said H t o) : Said H' t o := by
  cases o with
  | error e => obtain ⟨l, e1, e2⟩ := h; exact ⟨l, s _ _ e1, s _ _ e2⟩
  | ok x => obtain ⟨l, e1, e2⟩ := h; exact ⟨l, s _ _ e1, s _ _ e2⟩
theorem er_shaped (e : Kv.Er) : SeqAt.shaped (PyData.tuple [PyData.str "raised", PyData.list [PyData.str e.nm]]) = true := by cases e <;> (walk_at "shp")
theorem said_ne {K : PySem.W.Frag} {H : Hp} {t t2 : Addr} {o : Except Kv.Er Int} {Q : VK} (h : Said H t o) (h2 : Said H t2 o) (q : Q (.bl false) H) : rNeD K (.ref t) (.ref t2) H Q := by
  cases o with
  | error e =>
    obtain ⟨l, e1, e2⟩ := h
    obtain ⟨l2, e3, e4⟩ := h2
    exact Kv.ne_same (Kv.dp_pair (SqT.of e1) (.str _) (SqL.of e2) (.str _)) (Kv.dp_pair (SqT.of e3) (.str _) (SqL.of e4) (.str _)) (er_shaped e) (by walk_at "eqv") q
  | ok x =>
    obtain ⟨l, e1, e2⟩ := h
    obtain ⟨l2, e3, e4⟩ := h2
    have hshp : SeqAt.shaped (PyData.tuple [PyData.str "day", PyData.list [PyData.int x]]) = true := by walk_at "shp"
    exact Kv.ne_same (Kv.dp_pair (SqT.of e1) (.str _) (SqL.of e2) (.int _)) (Kv.dp_pair (SqT.of e3) (.str _) (SqL.of e4) (.int _)) hshp (by walk_at "eqv") q
def spTold : Sp := fun vs H Q _ => ∃ s m n, vs = [.int s, .int m, .int n] ∧ ∀ r t H', DueR s m n r → Same H H' → Said H' t r → Q (.ref t) H'
theorem ok_L_told (T : Txt K mg) : FnOk P w K mg base CX0 5 T.a__law_told T.d__law_told ["start", "months", "number"] spTold := by
  refine T.F__law_told.ok sc_L_told (fun vs H Q E h => by obtain ⟨_, _, _, rfl, _⟩ := h; rfl) (fun cdv A outer s H vs Q E hr h => ?_)
  refine ⟨_, 
      (pss_cons (ps_try_as (i := 4) rfl rfl sc_L_told.nd rfl rfl ⟨rfl, by decide, .inl T.g_BankError⟩ takes0 (fun W pn xe tk hpo => by exact (
          (pss_one (ps_set (i := 3) sc_L_told.nd rfl (Or.inl rfl) (pe_callS (ok_due_day T) (hr.mono (by decide : 4 ≤ _)) (by rfl) T.g_due_day T.F_due_day.kp T.b_due_day (fun σ => passAt tk σ) (pa_cons (pv 0) (pa_cons (pv 1) (pa_cons (pv 2) pa_nil)))))))) (fun a oe cls d pn hz hf => by exact (
          (pss_one (ps_ret (pe_tup (pa_cons pe_str (pa_cons (Kv.pe_kinds (ok_L_kinds T) hz hf List.mem_cons_self ⟨(hr.mono (by decide : 1 ≤ _)).dp, (hr.mono (by decide : 1 ≤ _)).un⟩ (by rfl) T.g__law_kinds T.F__law_kinds.kp T.b__law_kinds (pa_cons (pv 4) pa_nil)) pa_nil))))))))
      (pss_cons (ps_if (PW.pt (pw_or (pt_val (pe_callB call_isi (by rfl) T.n_isinstance (by decide +kernel) (pa_cons (pv 3) (pa_cons (pe_bltn (v := .ty "bool") (by rfl) T.n_bool (by decide +kernel) rfl) pa_nil)))) (pw_or1 (pt_not (pt_val (pe_callB call_isi (by rfl) T.n_isinstance (by decide +kernel) (pa_cons (pv 3) (pa_cons (pe_bltn (v := .ty "int") (by rfl) T.n_int (by decide +kernel) rfl) pa_nil)))))))) 
        (pss_one (ps_ret (pe_tup (pa_cons pe_str (pa_cons (pe_lst pa_nil) pa_nil))))) pss_nil)
      (pss_one (ps_ret (pe_tup (pa_cons pe_str (pa_cons (pe_lst (pa_cons (pv 3) pa_nil)) pa_nil))))))), ?_⟩
  obtain ⟨s, m, n, rfl, hq⟩ := h
  walk_at "st"
  refine ⟨s, m, n, rfl, fun r H1 hD s1 => ?_⟩
  cases r with
  | error e =>
    refine ⟨true, T.exm _, fun _ a ha => ?_, fun z => nomatch z⟩
    walk_at "rd"
    refine ⟨e, rfl, fun p1 hp1 => fun t htt => ?_⟩
    exact hq _ t _ hD (s1.trans ((Kv.same_upd hp1).trans (Kv.same_upd htt))) ⟨p1, upd_same, Kv.same_upd htt _ _ upd_same⟩
  | ok x =>
    show (_ : Prop)
    walk_at "rd"
    walk_at "nx"
    refine Kv.isi_int (b := false) (by decide +kernel) ?_
    walk_at "rd"
    refine Kv.isi_int (b := true) (by decide +kernel) ?_
    walk_at "rd"
    walk_at "nx"
    intro l hl t ht
    exact hq _ t _ hD (s1.trans ((Kv.same_upd hl).trans (Kv.same_upd ht))) ⟨l, upd_same, Kv.same_upd ht _ _ upd_same⟩
def spCount : Sp := fun vs H Q _ => ∃ y m q, vs = [.int y, .int m, .int q] ∧ 2000 ≤ y ∧ y ≤ 2099 ∧ 1 ≤ m ∧ m ≤ 12 ∧ ∀ H', Same H H' → Q (.int (dayOf y m q)) H'
def invCnt (y m q : Int) (H : Hp) : Nat → L2.St → Hp → Prop := fun i σ' H' => ∃ (v : Int) (v4 : Option V), σ' = [some (.int y), some (.int m), some (.int q), some (.int v), v4] ∧ v = fdo y + sdom y i + q - 1 ∧ Same H H'
theorem ok_L_count (T : Txt K mg) : FnOk P w K mg base CX0 2 T.a__law_count T.d__law_count ["year", "month", "in_month"] spCount := by
  refine T.F__law_count.ok sc_L_count (fun vs H Q E h => by obtain ⟨_, _, _, rfl, _⟩ := h; rfl) (fun cdv A outer s H vs Q E hr h => ?_)
  refine ⟨_, 
      (pss_cons (ps_set (i := 3) sc_L_count.nd rfl (Or.inl rfl) (pe_op op_sub (pe_op op_add (pe_op op_add (pe_op op_mulX pe_int (pe_op op_sub (pv 0) pe_int)) (pe_op op_fdivW (pe_op op_add (pe_op op_sub (pv 0) pe_int) pe_int) pe_int)) (pv 2)) pe_int))
      (pss_cons (ps_for PassesOwn.never rfl (pi_range2 (by rfl) T.n_range (pa_cons pe_int (pa_cons (pv 1) pa_nil))) (pg_name (i := 4) sc_L_count.nd rfl (Or.inl rfl)) 
        (pss_one (ps_set (i := 3) sc_L_count.nd rfl (Or.inl rfl) (pe_op op_add (pv 3) (pe_call (ok_L_length T) (hr.mono (by decide : 1 ≤ _)) (by rfl) T.g__law_length T.F__law_length.kp T.b__law_length .nil pass0 (pa_cons (pv 0) (pa_cons (pv 4) pa_nil)))))))
      (pss_one (ps_ret (pv 3))))), ?_⟩
  obtain ⟨y, m, q, rfl, y0, y1, m0, m1, hq⟩ := h
  walk_at "st"
  refine ⟨Kv.mulX (a := 64) (b := 64) (by decide) (Kv.bits64 (by omega) (by omega)), ?_⟩
  walk_at "nx"
  refine ⟨by omega, by omega, Kv.for_rng (invCnt y m q H) ⟨_, _, rfl, by simp only [sdom, fdo]; omega, Same.refl _⟩ ?_ ?_⟩
  · rintro i σ' H' hi ⟨v, _, rfl, hv, s2⟩
    walk_at "rd"
    refine ⟨y, 1 + (i : Int), rfl, by omega, by omega, fun H3 s3 => ?_⟩
    walk_at "rd"
    refine ⟨_, _, rfl, ?_, s2.trans s3⟩
    simp only [sdom, Int.add_comm 1 (i : Int)]
    omega
  rintro σ' H2 ⟨v, _, rfl, hv, s2⟩
  walk_at "nx"
  have e : fdo y + sdom y (m - 1).toNat + q - 1 = dayOf y m q := rfl
  rw [e]
  exact hq _ s2
theorem ok_L_due (T : Txt K mg) : FnOk P w K mg base CX0 3 T.a__law_due T.d__law_due ["start", "months", "number"] spTold := by
  refine T.F__law_due.ok sc_L_due (fun vs H Q E h => by obtain ⟨_, _, _, rfl, _⟩ := h; rfl) (fun cdv A outer s H vs Q E hr h => ?_)
  refine ⟨_, 
      (pss_cons (ps_if (PW.pt (pw_or (pt_cmpR op_lt (pv 0) pe_int (nomark _)) (pw_or1 (pt_cmpR op_gt (pv 0) pe_int (nomark _))))) 
        (pss_one (ps_ret (pe_tup (pa_cons pe_str (pa_cons (pe_lst (pa_cons pe_str pa_nil)) pa_nil))))) pss_nil)
      (pss_cons (ps_if (PW.pt (pw_or (pt_cmpR op_lt (pv 1) pe_int (nomark _)) (pw_or (pt_cmpR op_gt (pv 1) pe_int (nomark _)) (pw_or (pt_cmpR op_lt (pv 2) pe_int (nomark _)) (pw_or1 (pt_cmpR op_gt (pv 2) pe_int (nomark _))))))) 
        (pss_one (ps_ret (pe_tup (pa_cons pe_str (pa_cons (pe_lst (pa_cons pe_str pa_nil)) pa_nil))))) pss_nil)
      (pss_cons (ps_set (i := 3) sc_L_due.nd rfl (Or.inl rfl) (pe_call (ok_L_date T) (hr.mono (by decide : 2 ≤ _)) (by rfl) T.g__law_date T.F__law_date.kp T.b__law_date .nil pass0 (pa_cons (pv 0) pa_nil)))
      (pss_cons (ps_set (i := 4) sc_L_due.nd rfl (Or.inl rfl) (pe_op op_add (pe_op op_sub (pe_op op_add (pe_op op_mulX pe_int (pe_ix ix_tup (pv 3) pe_int (fun _ _ => rfl))) (pe_ix ix_tup (pv 3) pe_int (fun _ _ => rfl))) pe_int) (pe_op op_mulX (pv 1) (pv 2))))
      (pss_cons (ps_set (i := 5) sc_L_due.nd rfl (Or.inl rfl) (pe_op op_fdivW (pv 4) pe_int))
      (pss_cons (ps_set (i := 6) sc_L_due.nd rfl (Or.inl rfl) (pe_op op_add pe_int (pe_op op_mod (pv 4) pe_int)))
      (pss_cons (ps_if (pt_cmpR op_gt (pv 5) pe_int (nomark _)) 
        (pss_one (ps_ret (pe_tup (pa_cons pe_str (pa_cons (pe_lst (pa_cons pe_str pa_nil)) pa_nil))))) pss_nil)
      (pss_one (ps_ret (pe_tup (pa_cons pe_str (pa_cons (pe_lst (pa_cons (pe_call (ok_L_count T) (hr.mono (by decide : 2 ≤ _)) (by rfl) T.g__law_count T.F__law_count.kp T.b__law_count .nil pass0 (pa_cons (pv 5) (pa_cons (pv 6) (pa_cons (pe_callB (call_min2 rfl) (by rfl) T.n_min (by decide +kernel) (pa_cons (pe_ix ix_tup (pv 3) pe_int (fun _ _ => rfl)) (pa_cons (pe_call (ok_L_length T) (hr.mono (by decide : 1 ≤ _)) (by rfl) T.g__law_length T.F__law_length.kp T.b__law_length .nil pass0 (pa_cons (pv 5) (pa_cons (pv 6) pa_nil))) pa_nil))) pa_nil)))) pa_nil)) pa_nil)))))))))))), ?_⟩
  obtain ⟨s, m, n, rfl, hq⟩ := h
  have raised : ∀ e H1 l t, DueR s m n (.error e) → Same H H1 → H1 l = none → upd H1 l (.lst [.str e.nm]) t = none → Q (.ref t) (upd (upd H1 l (.lst [.str e.nm])) t (.tup [.str "raised", .ref l])) := fun e H1 l t hD s1 hl ht =>
    hq (.error e) t _ hD (s1.trans ((Kv.same_upd hl).trans (Kv.same_upd ht))) ⟨l, upd_same, Kv.same_upd ht _ _ upd_same⟩
  walk_at "st"
  split
  · exact fun l hl t ht => raised .badDay H l t (.inl ⟨fun z => by have := z.1; omega, rfl⟩) (Same.refl _) hl ht
  split
  · exact fun l hl t ht => raised .badDay H l t (.inl ⟨fun z => by have := z.2; omega, rfl⟩) (Same.refl _) hl ht
  have hs : isD s := ⟨by omega, by omega⟩
  have bad : ¬ok2 m n → ∀ l, H l = none → ∀ t, upd H l (.lst [.str "BadValue"]) t = none → Q (.ref t) (upd (upd H l (.lst [.str "BadValue"])) t (.tup [.str "raised", .ref l])) := fun c l hl t ht => raised .badValue H l t (.inr (.inl ⟨hs, c, rfl⟩)) (Same.refl _) hl ht
  walk_at "nx"
  (repeat' split) <;> first
    | exact bad (fun z => by have := z.1; have := z.2.1; have := z.2.2.1; have := z.2.2.2; omega)
    | skip
  have hok : ok2 m n := ⟨by omega, by omega, by omega, by omega⟩
  have mnb := mn_in hok
  obtain ⟨k1, k2, k3, k4⟩ := id hok
  walk_at "nx"
  refine ⟨s, rfl, hs, fun y mo q p H1 hd he s1 hp hp1 => ?_⟩
  have ix : ∀ (k : Int) (v : V) (H2 : Hp) (Q2 : VK), Same H1 H2 → ([.int y, .int mo, .int q] : List V)[k.toNat]? = some v → 0 ≤ k → Q2 v H2 → rIxT K (.ref p) (.int k) H2 Q2 := fun k v H2 Q2 s2 e k0 q => ⟨p, _, k, v, rfl, rfl, SqT.of (s2 _ _ hp1), at_of (j := k.toNat) (by omega) e, q⟩
  have fin : ∀ r t H', r = far y mo q (mo - 1 + m * n) → Same H1 H' → Said H' t r → Q (.ref t) H' := fun r t H' hr s3 hS => hq r t H' (.inr (.inr ⟨hok, y, mo, q, hd, he, hr⟩)) (s1.trans s3) hS
  obtain ⟨c1, c2, c3, c4, c5, c6⟩ := hd
  clear he
  walk_at "nx"
  refine ix 0 _ _ _ (Same.refl _) rfl (by decide) ?_
  walk_at "rd"
  refine ⟨Kv.mulX (a := 64) (b := 64) (by decide) (Kv.bits64 (by omega) (by omega)), ix 1 _ _ _ (Same.refl _) rfl (by decide) ?_⟩
  walk_at "rd"
  refine ⟨Kv.mulX (Kv.bits64 (by omega) (by omega)) (Kv.bits64 (by omega) (by omega)), ?_⟩
  walk_at "nx"
  walk_at "nx"
  walk_at "nx"
  have ey : (12 * y + mo - 1 + m * n) / 12 = y + (mo - 1 + m * n) / 12 := by omega
  have em : 1 + (12 * y + mo - 1 + m * n) % 12 = (mo - 1 + m * n) % 12 + 1 := by omega
  have dm := dom_in (y := y + (mo - 1 + m * n) / 12) (m := (mo - 1 + m * n) % 12 + 1) (by omega) (by omega)
  rw [ey, em]
  split
  · rename_i c
    exact fun l hl t ht => fin (.error .badDay) t _ (by unfold far; rw [if_neg (by omega)]) ((Kv.same_upd hl).trans (Kv.same_upd ht)) ⟨l, upd_same, Kv.same_upd ht _ _ upd_same⟩
  rename_i c'
  have c2' : y + (mo - 1 + m * n) / 12 ≤ 2099 := by omega
  have c0' : 2000 ≤ y + (mo - 1 + m * n) / 12 := by omega
  walk_at "nx"
  refine ix 2 _ _ _ (Same.refl _) rfl (by decide) ?_
  refine ⟨_, _, rfl, by omega, by omega, fun H2 s2 => ?_⟩
  walk_at "rd"
  refine ⟨_, _, _, rfl, c0', c2', by omega, by omega, fun H3 s3 => ?_⟩
  walk_at "rd"
  intro l hl t ht
  refine fin (.ok _) t _ ?_ (s2.trans (s3.trans ((Kv.same_upd hl).trans (Kv.same_upd ht)))) ⟨l, upd_same, Kv.same_upd ht _ _ upd_same⟩
  unfold far
  rw [if_pos c2']
  rfl
def spStart (K : PySem.W.Frag) : Sp := fun vs H Q _ => ∃ (a : Addr) (ns : List Int), vs = [.ref a] ∧ SqL K H a (ns.map V.int) ∧ ns.length = 9 ∧ ∀ s H', isD s → Same H H' → Q (.int s) H'
theorem ok_L_start (T : Txt K mg) : FnOk P w K mg base CX0 3 T.a__law_start T.d__law_start ["numbers"] (spStart K) := by
  refine T.F__law_start.ok sc_L_start (fun vs H Q E h => by obtain ⟨_, _, rfl, _⟩ := h; rfl) (fun cdv A outer s H vs Q E hr h => ?_)
  refine ⟨_, 
      (pss_cons (ps_set (i := 1) sc_L_start.nd rfl (Or.inl rfl) (pe_op op_mod (pe_ix ix_list (pv 0) pe_int (fun _ _ => rfl)) pe_int))
      (pss_cons (ps_if (pt_cmpR op_eq (pe_op op_mod (pe_ix ix_list (pv 0) pe_int (fun _ _ => rfl)) pe_int) pe_int (nomark _)) 
        (pss_cons (ps_set (i := 2) sc_L_start.nd rfl (Or.inl rfl) (pe_call (ok_L_date T) (hr.mono (by decide : 2 ≤ _)) (by rfl) T.g__law_date T.F__law_date.kp T.b__law_date .nil pass0 (pa_cons (pv 1) pa_nil)))
        (pss_cons (ps_set (i := 3) sc_L_start.nd rfl (Or.inl rfl) (pe_call (ok_L_length T) (hr.mono (by decide : 1 ≤ _)) (by rfl) T.g__law_length T.F__law_length.kp T.b__law_length .nil pass0 (pa_cons (pe_ix ix_tup (pv 2) pe_int (fun _ _ => rfl)) (pa_cons (pe_ix ix_tup (pv 2) pe_int (fun _ _ => rfl)) pa_nil))))
        (pss_one (ps_set (i := 1) sc_L_start.nd rfl (Or.inl rfl) (pe_call (ok_L_count T) (hr.mono (by decide : 2 ≤ _)) (by rfl) T.g__law_count T.F__law_count.kp T.b__law_count .nil pass0 (pa_cons (pe_ix ix_tup (pv 2) pe_int (fun _ _ => rfl)) (pa_cons (pe_ix ix_tup (pv 2) pe_int (fun _ _ => rfl)) (pa_cons (pe_callB (call_max2 rfl) (by rfl) T.n_max (by decide +kernel) (pa_cons pe_int (pa_cons (pe_op op_sub (pv 3) (pe_op op_mod (pe_ix ix_list (pv 0) pe_int (fun _ _ => rfl)) pe_int)) pa_nil))) pa_nil)))))))) pss_nil)
      (pss_one (ps_ret (pv 1))))), ?_⟩
  obtain ⟨a, ns, rfl, hS, hl, hq⟩ := h
  walk_at "st"
  refine Kv.ix_num hS (by omega) ?_
  walk_at "rd"
  have hd : isD (ns.getD 0 0 % 36525) := by unfold isD; omega
  walk_at "nx"
  refine Kv.ix_num hS (by omega) ?_
  walk_at "rd"
  split
  · generalize ns.getD 0 0 % 36525 = s0 at hd ⊢
    refine ⟨s0, rfl, hd, fun y mo q p H1 hdt he s1 hp hp1 => ?_⟩
    have ix : ∀ (k : Int) (v : V) (H2 : Hp) (Q2 : VK), Same H1 H2 → ([.int y, .int mo, .int q] : List V)[k.toNat]? = some v → 0 ≤ k → Q2 v H2 → rIxT K (.ref p) (.int k) H2 Q2 := fun k v H2 Q2 s2 e k0 q => ⟨p, _, k, v, rfl, rfl, SqT.of (s2 _ _ hp1), at_of (j := k.toNat) (by omega) e, q⟩
    obtain ⟨c1, c2, c3, c4, c5, c6⟩ := hdt
    have dm := dom_in (y := y) (m := mo) c3 c4
    refine ix 0 _ _ _ (Same.refl _) rfl (by decide) ?_
    refine ix 1 _ _ _ (Same.refl _) rfl (by decide) ?_
    refine ⟨y, mo, rfl, c3, c4, fun H2 s2 => ?_⟩
    refine ix 0 _ _ _ s2 rfl (by decide) ?_
    refine ix 1 _ _ _ s2 rfl (by decide) ?_
    refine Kv.ix_num ((s1.trans s2).seq hS) (by omega) ?_
    walk_at "rd"
    refine ⟨y, mo, _, rfl, c1, c2, c3, c4, fun H3 s3 => ?_⟩
    walk_at "rd"
    walk_at "nx"
    refine hq _ _ (dayOf_in ⟨c1, c2, c3, c4, ?_, ?_⟩) (s1.trans (s2.trans s3)) <;> split <;> omega
  · walk_at "nx"
    exact hq _ _ hd (Same.refl _)
def mid4 (a : Addr) (z : Int) (nl : Addr) (st : Int) (H : Hp) : L2.St → Hp → Prop := fun σ' H' => ∃ (mo : Int) (v5 v6 v7 v8 v9 v10 v11 v12 v13 v14 v15 v16 : Option V), σ' = [some (.ref a), some (.int z), some (.ref nl), some (.int st), some (.int mo), v5, v6, v7, v8, v9, v10, v11, v12, v13, v14, v15, v16] ∧ H' = H ∧ 1 ≤ mo ∧ mo ≤ 120
def mid5 (a : Addr) (z : Int) (nl : Addr) (st mo : Int) (H : Hp) : L2.St → Hp → Prop := fun σ' H' => ∃ (nu : Int) (v6 v7 v8 v9 v10 v11 v12 v13 v14 v15 v16 : Option V), σ' = [some (.ref a), some (.int z), some (.ref nl), some (.int st), some (.int mo), some (.int nu), v6, v7, v8, v9, v10, v11, v12, v13, v14, v15, v16] ∧ H' = H ∧ 0 ≤ nu ∧ nu ≤ 1200
def Tri (H : Hp) (y : V) : Prop := ∃ (r : Addr) (x1 x2 x3 : Int), y = .ref r ∧ H r = some (.tup [.int x1, .int x2, .int x3])
def mid10 (a : Addr) (z : Int) (nl : Addr) (st mo nu fr : Int) (ps pp pc : Addr) (B : Nat) (H : Hp) : L2.St → Hp → Prop := fun σ' H' => ∃ (q : Addr) (ys : List V) (v11 v12 v13 v14 v15 v16 : Option V), σ' = [some (.ref a), some (.int z), some (.ref nl), some (.int st), some (.int mo), some (.int nu), some (.int fr), some (.ref ps), some (.ref pp), some (.ref pc), some (.ref q), v11, v12, v13, v14, v15, v16] ∧ Same H H' ∧ ys.length ≤ B ∧
  H' q = some (.lst ys) ∧ ∀ y ∈ ys, Tri H' y
def invCs (a : Addr) (z : Int) (nl : Addr) (st mo nu fr : Int) (ps pp pc q : Addr) (H : Hp) : Nat → L2.St → Hp → Prop := fun _ σ' H' => ∃ (v11 v12 v13 v14 v15 v16 : Option V), σ' = [some (.ref a), some (.int z), some (.ref nl), some (.int st), some (.int mo), some (.int nu), some (.int fr), some (.ref ps), some (.ref pp), some (.ref pc), some (.ref q), v11, v12, v13, v14, v15, v16] ∧ Same H H'
def invLaw (a : Addr) (H1 : Hp) : L2.St → Hp → Prop := fun σ' H' => ∃ v1 v2 v3 v4 v5 v6 v7 v8 v9 v10 v11 v12 v13 v14 v15 v16 : Option V, σ' = [some (.ref a), v1, v2, v3, v4, v5, v6, v7, v8, v9, v10, v11, v12, v13, v14, v15, v16] ∧ Same H1 H'
theorem ok_law (T : Txt K mg) : FnOk P w K mg base CX0 6 T.a_law T.d_law ["script"] (Kv.spLaw K) := by
  refine T.F_law.ok sc_law (fun vs H Q E h => ?_) (fun cdv A outer s H vs Q E hr h => ?_)
  · obtain ⟨a, ns, rfl, _⟩ := h
    rfl
  refine ⟨_, 
      (pss_cons (ps_for PassesOwn.never rfl (pi_list (pe_op Kv.op_catS (pe_lst (pa_cons pe_int pa_nil)) (pv 0))) (pg_name (i := 1) sc_law.nd rfl (Or.inl rfl)) 
        (pss_cons (ps_set (i := 2) sc_law.nd rfl (Or.inr rfl) (pe_call (ok_L_numbers T) (hr.mono (by decide : 1 ≤ _)) (by rfl) T.g__law_numbers T.F__law_numbers.kp T.b__law_numbers .nil pass0 (pa_cons (pv 1) (pa_cons pe_int pa_nil))))
        (pss_cons (ps_set (i := 3) sc_law.nd rfl (Or.inr rfl) (pe_call (ok_L_start T) (hr.mono (by decide : 3 ≤ _)) (by rfl) T.g__law_start T.F__law_start.kp T.b__law_start .nil pass0 (pa_cons (pv 2) pa_nil)))
        (pss_cons (ps_set (i := 4) sc_law.nd rfl (Or.inr rfl) (pe_op op_add pe_int (pe_op op_mod (pe_ix ix_list (pv 2) pe_int (fun _ _ => rfl)) pe_int)))
        (pss_cons (ps_if (pt_cmpR op_eq (pe_op op_mod (pe_op op_fdivW (pe_ix ix_list (pv 2) pe_int (fun _ _ => rfl)) pe_int) pe_int) pe_int (nomark _)) 
          (pss_one (ps_set (i := 4) sc_law.nd rfl (Or.inr rfl) (pe_op op_add pe_int (pe_op op_mod (pe_ix ix_list (pv 2) pe_int (fun _ _ => rfl)) pe_int)))) pss_nil)
        (pss_cons (ps_set (i := 5) sc_law.nd rfl (Or.inr rfl) (pe_op op_mod (pe_ix ix_list (pv 2) pe_int (fun _ _ => rfl)) pe_int))
        (pss_cons (ps_if (pt_cmpR op_eq (pe_op op_mod (pe_op op_fdivW (pe_ix ix_list (pv 2) pe_int (fun _ _ => rfl)) pe_int) pe_int) pe_int (nomark _)) 
          (pss_one (ps_set (i := 5) sc_law.nd rfl (Or.inr rfl) (pe_op op_mod (pe_ix ix_list (pv 2) pe_int (fun _ _ => rfl)) pe_int))) pss_nil)
        (pss_cons (ps_set (i := 6) sc_law.nd rfl (Or.inl rfl) (pe_ix ix_list (pv 2) pe_int (fun _ _ => rfl)))
        (pss_cons (ps_set (i := 7) sc_law.nd rfl (Or.inl rfl) (pe_lst (pa_cons (pv 3) (pa_cons (pe_un un_neg pe_int) (pa_cons pe_int (pa_cons (pe_op op_sub (pe_op op_sub pe_int pe_int) (pv 6)) (pa_cons (pe_op op_add pe_int (pv 6)) pa_nil)))))))
        (pss_cons (ps_set (i := 8) sc_law.nd rfl (Or.inr rfl) (pe_lst (pa_cons (pv 4) (pa_cons pe_int (pa_cons pe_int (pa_cons (pe_op op_sub pe_int (pv 6)) (pa_cons (pe_op op_add pe_int (pv 6)) pa_nil)))))))
        (pss_cons (ps_set (i := 9) sc_law.nd rfl (Or.inr rfl) (pe_lst (pa_cons (pv 5) (pa_cons (pe_op op_add (pv 5) pe_int) (pa_cons pe_int (pa_cons (pe_un un_neg pe_int) (pa_cons pe_int (pa_cons (pe_op op_sub (pe_op op_sub pe_int pe_int) (pv 6)) (pa_cons (pe_op op_add pe_int (pv 6)) pa_nil)))))))))
        (pss_cons (ps_setLc (i := 10) (own := [("count", 11)]) (g := gName 11) (tt := tYes) rfl sc_law.nd rfl rfl (sw_true rfl rfl rfl (by decide +kernel)) (pi_list (pv 9)) (blkOk_by (N := ["script", "cell", "numbers", "start", "months", "number", "far", "starts", "periods", "counts", "cases", "count", "period", "other", "first", "one", "two"]) (sc := defScope s_law) (by decide +kernel)) (fun _ _ _ _ _ => (pg_name (i := 11) sc_law.nd rfl (Or.inl rfl))) (fun _ _ _ _ _ => pts_nil) (fun _ _ _ _ _ => (pe_tup (pa_cons (pv 3) (pa_cons (pv 4) (pa_cons (pv 11) pa_nil))))))
        (pss_cons (ps_set (i := 10) sc_law.nd rfl (Or.inl rfl) (pe_op Kv.op_catS (pv 10) (pe_lc (own := [("period", 12)]) (g := gName 12) (tt := tYes) rfl sc_law.nd (pi_list (pv 8)) (blkOk_by (N := ["script", "cell", "numbers", "start", "months", "number", "far", "starts", "periods", "counts", "cases", "count", "period", "other", "first", "one", "two"]) (sc := defScope s_law) (by decide +kernel)) (fun _ _ _ _ _ => (pg_name (i := 12) sc_law.nd rfl (Or.inl rfl))) (fun _ _ _ _ _ => pts_nil) (fun _ _ _ _ _ => (pe_tup (pa_cons (pv 3) (pa_cons (pv 12) (pa_cons (pv 5) pa_nil))))))))
        (pss_cons (ps_set (i := 10) sc_law.nd rfl (Or.inl rfl) (pe_op Kv.op_catS (pv 10) (pe_lc (own := [("other", 13)]) (g := gName 13) (tt := tYes) rfl sc_law.nd (pi_list (pv 7)) (blkOk_by (N := ["script", "cell", "numbers", "start", "months", "number", "far", "starts", "periods", "counts", "cases", "count", "period", "other", "first", "one", "two"]) (sc := defScope s_law) (by decide +kernel)) (fun _ _ _ _ _ => (pg_name (i := 13) sc_law.nd rfl (Or.inl rfl))) (fun _ _ _ _ _ => pts_nil) (fun _ _ _ _ _ => (pe_tup (pa_cons (pv 13) (pa_cons (pe_ix (Kv.ixl K) (pv 8) (pe_op op_mod (pe_ix (Kv.ixl K) (pv 2) pe_int (fun _ _ => rfl)) pe_int) (fun _ _ => rfl)) (pa_cons (pe_ix (Kv.ixl K) (pv 9) (pe_op op_mod (pe_ix (Kv.ixl K) (pv 2) pe_int (fun _ _ => rfl)) pe_int) (fun _ _ => rfl)) pa_nil))))))))
        (pss_cons (ps_for PassesOwn.never rfl (pi_list (pv 10)) (pg_tup (n := 3) (by rfl) (pgs_cons (pg_name (i := 14) sc_law.nd rfl (Or.inl rfl)) (pgs_cons (pg_name (i := 12) sc_law.nd rfl (Or.inl rfl)) (pgs_cons (pg_name (i := 11) sc_law.nd rfl (Or.inl rfl)) pgs_nil)))) 
          (pss_one (ps_if (pt_cmpR (op_neD hr.units) (pe_call (ok_L_told T) (hr.mono (by decide : 5 ≤ _)) (by rfl) T.g__law_told T.F__law_told.kp T.b__law_told .nil pass0 (pa_cons (pv 14) (pa_cons (pv 12) (pa_cons (pv 11) pa_nil)))) (pe_call (ok_L_due T) (hr.mono (by decide : 3 ≤ _)) (by rfl) T.g__law_due T.F__law_due.kp T.b__law_due .nil pass0 (pa_cons (pv 14) (pa_cons (pv 12) (pa_cons (pv 11) pa_nil)))) (nomark _)) 
            (pss_one (ps_ret pe_bl)) pss_nil)))
        (pss_cons (ps_if (pt_cmpR (op_neD hr.units) (pe_call (ok_L_told T) (hr.mono (by decide : 5 ≤ _)) (by rfl) T.g__law_told T.F__law_told.kp T.b__law_told .nil pass0 (pa_cons (pv 3) (pa_cons (pv 4) (pa_cons pe_int pa_nil)))) (pe_tup (pa_cons pe_str (pa_cons (pe_lst (pa_cons (pv 3) pa_nil)) pa_nil))) (nomark _)) 
          (pss_one (ps_ret pe_bl)) pss_nil)
        (pss_cons (ps_set (i := 15) sc_law.nd rfl (Or.inl rfl) (pe_call (ok_L_told T) (hr.mono (by decide : 5 ≤ _)) (by rfl) T.g__law_told T.F__law_told.kp T.b__law_told .nil pass0 (pa_cons (pv 3) (pa_cons (pv 4) (pa_cons (pv 5) pa_nil)))))
        (pss_cons (ps_set (i := 16) sc_law.nd rfl (Or.inl rfl) (pe_call (ok_L_told T) (hr.mono (by decide : 5 ≤ _)) (by rfl) T.g__law_told T.F__law_told.kp T.b__law_told .nil pass0 (pa_cons (pv 3) (pa_cons (pv 4) (pa_cons (pe_op op_add (pv 5) pe_int) pa_nil)))))
        (pss_one (ps_if (PW.pt (pw_and (pt_cmpR op_eq (pe_ix ix_tup (pv 15) pe_int (fun _ _ => rfl)) pe_str (nomark _)) (pw_and (pt_cmpR op_eq (pe_ix ix_tup (pv 16) pe_int (fun _ _ => rfl)) pe_str (nomark _)) (pw_and1 (pt_cmpR (Kv.op_geL (Nat.lt_of_le_of_lt (Nat.le_add_right _ 64) hr.units)) (pe_ix ix_tup (pv 15) pe_int (fun _ _ => rfl)) (pe_ix ix_tup (pv 16) pe_int (fun _ _ => rfl)) (nomark _)))))) 
          (pss_one (ps_ret pe_bl)) pss_nil))))))))))))))))))))
      (pss_one (ps_ret pe_bl))), ?_⟩
  obtain ⟨a, ns, rfl, hS, hl, hb, hq⟩ := h
  refine Kv.seq_step fun U hU => ?_
  refine Kv.tfor_cells (H0 := H) rfl hS hl fun b H1 s1 hb1 => ?_
  refine Kv.for_cells hb1 (by decide) hb (invLaw a H1) ⟨_, _, _, _, _, _, _, _, _, _, _, _, _, _, _, _, rfl, Same.refl _⟩ ?_ ?_ ?_
  · rintro σ' H' ⟨_, _, _, _, _, _, _, _, _, _, _, _, _, _, _, _, rfl, hs⟩
    exact hs
  · rintro z σ' H' bz ⟨_, _, _, _, _, _, _, _, _, _, _, _, _, _, _, _, rfl, hs⟩
    walk_at "st"
    refine ⟨z, 9, rfl, bz, by decide, by decide, fun ms nl H2 ml mr s2 f2 hn2 => ?_⟩
    walk_at "nx"
    refine ⟨nl, ms, rfl, SqL.of hn2, by omega, fun st H3 hst s3 => ?_⟩
    have hN : SqL K H3 nl (ms.map V.int) := SqL.of (s3 _ _ hn2)
    have hs3 := hs.trans (s2.trans s3)
    subst_vars
    refine Kv.seq_cut (mid4 a z nl st H3) (fun U hU => ?_) ?_
    · walk_at "rd"
      refine Kv.ix_num hN (by omega) ?_
      walk_at "rd"
      exact hU _ _ ⟨_, _, _, _, _, _, _, _, _, _, _, _, _, rfl, rfl, by omega, by omega⟩
    rintro σ' H4 ⟨mo, _, _, _, _, _, _, _, _, _, _, _, _, rfl, rfl, m0, m1⟩
    refine Kv.seq_cut (mid4 a z nl st H4) (fun U hU => ?_) ?_
    · walk_at "rd"
      refine Kv.ix_num hN (by omega) ?_
      walk_at "rd"
      split
      · refine Kv.ix_num hN (by omega) ?_
        walk_at "rd"
        exact hU _ _ ⟨_, _, _, _, _, _, _, _, _, _, _, _, _, rfl, rfl, by omega, by omega⟩
      · exact hU _ _ ⟨_, _, _, _, _, _, _, _, _, _, _, _, _, rfl, rfl, m0, m1⟩
    rintro σ' H3 ⟨mo, _, _, _, _, _, _, _, _, _, _, _, _, rfl, rfl, m0, m1⟩
    refine Kv.seq_cut (mid5 a z nl st mo H3) (fun U hU => ?_) ?_
    · walk_at "rd"
      refine Kv.ix_num hN (by omega) ?_
      walk_at "rd"
      exact hU _ _ ⟨_, _, _, _, _, _, _, _, _, _, _, _, rfl, rfl, by omega, by omega⟩
    rintro σ' H4 ⟨nu, _, _, _, _, _, _, _, _, _, _, _, rfl, rfl, n0, n1⟩
    refine Kv.seq_cut (mid5 a z nl st mo H4) (fun U hU => ?_) ?_
    · walk_at "rd"
      refine Kv.ix_num hN (by omega) ?_
      walk_at "rd"
      split
      · refine Kv.ix_num hN (by omega) ?_
        walk_at "rd"
        exact hU _ _ ⟨_, _, _, _, _, _, _, _, _, _, _, _, rfl, rfl, by omega, by omega⟩
      · exact hU _ _ ⟨_, _, _, _, _, _, _, _, _, _, _, _, rfl, rfl, n0, n1⟩
    rintro σ' H3 ⟨nu, _, _, _, _, _, _, _, _, _, _, _, rfl, rfl, n0, n1⟩
    walk_at "st"
    refine Kv.ix_num hN (by omega) ?_
    generalize ms.getD (5 : Int).toNat 0 = fr
    walk_at "nx"
    intro ps hps
    have t1 := Kv.same_upd (o := .lst [V.int st, V.int (-1), V.int 36525, V.int (-1 - fr), V.int (36525 + fr)]) hps
    walk_at "nx"
    intro pp hpp
    have t2 := Kv.same_upd (o := .lst [V.int mo, V.int 0, V.int 121, V.int (0 - fr), V.int (121 + fr)]) hpp
    walk_at "nx"
    intro pc hpc
    have t3 := Kv.same_upd (o := .lst [V.int nu, V.int (nu + 1), V.int 0, V.int (-1), V.int 1201, V.int (-1 - fr), V.int (1201 + fr)]) hpc
    have e1 := t3 _ _ (t2 _ _ (upd_same (H := H3) (a := ps) (o := .lst [V.int st, V.int (-1), V.int 36525, V.int (-1 - fr), V.int (36525 + fr)])))
    have e2 := t3 _ _ (upd_same (H := upd H3 ps (.lst [V.int st, V.int (-1), V.int 36525, V.int (-1 - fr), V.int (36525 + fr)])) (a := pp) (o := .lst [V.int mo, V.int 0, V.int 121, V.int (0 - fr), V.int (121 + fr)]))
    have e3 := upd_same (H := upd (upd H3 ps (.lst [V.int st, V.int (-1), V.int 36525, V.int (-1 - fr), V.int (36525 + fr)])) pp (.lst [V.int mo, V.int 0, V.int 121, V.int (0 - fr), V.int (121 + fr)])) (a := pc) (o := .lst [V.int nu, V.int (nu + 1), V.int 0, V.int (-1), V.int 1201, V.int (-1 - fr), V.int (1201 + fr)])
    have tA := t1.trans (t2.trans t3)
    generalize upd (upd (upd H3 ps (HO.lst [V.int st, V.int (-1), V.int 36525, V.int (-1 - fr), V.int (36525 + fr)])) pp (HO.lst [V.int mo, V.int 0, V.int 121, V.int (0 - fr), V.int (121 + fr)])) pc (HO.lst [V.int nu, V.int (nu + 1), V.int 0, V.int (-1), V.int 1201, V.int (-1 - fr), V.int (1201 + fr)]) = H4 at *
    obtain ⟨SS, hSS, lS⟩ : ∃ SS : List Int, H4 ps = some (.lst (SS.map V.int)) ∧ SS.length = 5 := ⟨[st, -1, 36525, -1 - fr, 36525 + fr], e1, rfl⟩
    obtain ⟨PP, hPP, lP⟩ : ∃ PP : List Int, H4 pp = some (.lst (PP.map V.int)) ∧ PP.length = 5 := ⟨[mo, 0, 121, 0 - fr, 121 + fr], e2, rfl⟩
    obtain ⟨CC, hCC, lC⟩ : ∃ CC : List Int, H4 pc = some (.lst (CC.map V.int)) ∧ CC.length = 7 := ⟨[nu, nu + 1, 0, -1, 1201, -1 - fr, 1201 + fr], e3, rfl⟩
    clear e1 e2 e3 t1 t2 t3
    have hN4 := tA.seq hN
    have hs4 := hs3.trans tA
    subst_vars
    have keep : ∀ (y : V) (H H' : Hp) (D : Addr), (∃ xs, H D = some (.lst xs)) → Tri H y → (∀ b o, b ≠ D → H b = some o → H' b = some o) → Tri H' y := fun y H H' D ⟨zs, hD⟩ ⟨r, x1, x2, x3, e1, e2⟩ k => ⟨r, x1, x2, x3, e1, k _ _ (ne_of e2 hD (by intro z; cases z)) e2⟩
    have trS : ∀ (y : V) (H H' : Hp), Tri H y → Same H H' → Tri H' y := fun y H H' ⟨r, x1, x2, x3, e1, e2⟩ k => ⟨r, x1, x2, x3, e1, k _ _ e2⟩
    refine Kv.seq_cut (mid10 a z nl st mo nu fr ps pp pc 10 H4) (fun U hU => ?_) ?_
    · walk_at "rd"
      refine ⟨⟨_, SqL.of hCC⟩, Kv.lc_go (walk_list (xs := CC.map V.int)) (fun _ y H => Tri H y) (Nat.lt_of_le_of_lt (show _ ≤ 10 by simp; omega) (by decide)) (fun i y H H' D _ hD _ r k => keep y H H' D hD r k) (fun H6 s6 => SqL.of (s6 _ _ hCC)) (fun i x H5 H6 D U2 hi _ _ s5 hY hu => ?_) fun q ys H5 hq5 s5 hl5 hR e5 => ?_⟩
      · obtain ⟨rfl, hx⟩ := hY
        obtain ⟨v, hv, rfl⟩ := Kv.ref_num hx
        walk_at "rd"
        intro T2 hT2
        exact hu _ _ ⟨T2, _, _, _, rfl, upd_same⟩ (Kv.same_upd hT2)
      · exact hU _ _ ⟨q, ys, _, _, _, _, _, _, rfl, s5, by simp at hl5; omega, e5, fun y hy => by obtain ⟨i, hi⟩ := List.getElem?_of_mem hy; exact hR i y hi⟩
    rintro σ' H5 ⟨q, ys, _, _, _, _, _, _, rfl, s5, ly, hq5, hT5⟩
    refine Kv.seq_cut (mid10 a z nl st mo nu fr ps pp pc 20 H4) (fun U hU => ?_) ?_
    · walk_at "rd"
      have hPP5 := s5 _ _ hPP
      refine ⟨⟨_, SqL.of hPP5⟩, Kv.lc_go (walk_list (xs := PP.map V.int)) (fun _ y H => Tri H y) (Nat.lt_of_le_of_lt (show _ ≤ 10 by simp; omega) (by decide)) (fun i y H H' D _ hD _ r k => keep y H H' D hD r k) (fun H6 s6 => SqL.of (s6 _ _ hPP5)) (fun i x H6 H7 D U2 hi _ _ s6 hY hu => ?_) fun q2 ys2 H6 hq6 s6 hl6 hR e6 => ?_⟩
      · obtain ⟨rfl, hx⟩ := hY
        obtain ⟨v, hv, rfl⟩ := Kv.ref_num hx
        walk_at "rd"
        intro T2 hT2
        exact hu _ _ ⟨T2, _, _, _, rfl, upd_same⟩ (Kv.same_upd hT2)
      · simp at hl6
        refine ⟨q, q2, ys, ys2, rfl, rfl, SqL.of (s6 _ _ hq5), SqL.of e6, Nat.le_trans (show ys.length + ys2.length ≤ 100 by omega) (by decide), fun q3 hq3 => ?_⟩
        have s7 := Kv.same_upd (o := .lst (ys ++ ys2)) hq3
        refine hU _ _ ⟨q3, ys ++ ys2, _, _, _, _, _, _, rfl, s5.trans (s6.trans s7), by simp; omega, upd_same, fun y hy => ?_⟩
        rcases List.mem_append.mp hy with hy | hy
        · exact trS y _ _ (hT5 y hy) (s6.trans s7)
        · obtain ⟨i, hi⟩ := List.getElem?_of_mem hy
          exact trS y _ _ (hR i y hi) s7
    rintro σ' H6 ⟨q, ys, _, _, _, _, _, _, rfl, s6, ly, hq6, hT6⟩
    refine Kv.seq_cut (mid10 a z nl st mo nu fr ps pp pc 30 H4) (fun U hU => ?_) ?_
    · walk_at "rd"
      have hSS6 := s6 _ _ hSS
      refine ⟨⟨_, SqL.of hSS6⟩, Kv.lc_go (walk_list (xs := SS.map V.int)) (fun _ y H => Tri H y) (Nat.lt_of_le_of_lt (show _ ≤ 10 by simp; omega) (by decide)) (fun i y H H' D _ hD _ r k => keep y H H' D hD r k) (fun H7 s7 => SqL.of (s7 _ _ hSS6)) (fun i x H7 H8 D U2 hi _ _ s7 hY hu => ?_) fun q2 ys2 H7 hq7 s7 hl7 hR e7 => ?_⟩
      · obtain ⟨rfl, hx⟩ := hY
        obtain ⟨v, hv, rfl⟩ := Kv.ref_num hx
        have s67 := s6.trans s7
        walk_at "rd"
        refine Kv.ix_num (s67.seq hN4) (by omega) ?_
        walk_at "rd"
        refine Kv.ix_num (SqL.of (s67 _ _ hPP)) (by omega) ?_
        walk_at "rd"
        refine Kv.ix_num (s67.seq hN4) (by omega) ?_
        walk_at "rd"
        refine Kv.ix_num (SqL.of (s67 _ _ hCC)) (by omega) ?_
        walk_at "rd"
        intro T2 hT2
        exact hu _ _ ⟨T2, _, _, _, rfl, upd_same⟩ (Kv.same_upd hT2)
      · simp at hl7
        refine ⟨q, q2, ys, ys2, rfl, rfl, SqL.of (s7 _ _ hq6), SqL.of e7, Nat.le_trans (show ys.length + ys2.length ≤ 100 by omega) (by decide), fun q3 hq3 => ?_⟩
        have s8 := Kv.same_upd (o := .lst (ys ++ ys2)) hq3
        refine hU _ _ ⟨q3, ys ++ ys2, _, _, _, _, _, _, rfl, s6.trans (s7.trans s8), by simp; omega, upd_same, fun y hy => ?_⟩
        rcases List.mem_append.mp hy with hy | hy
        · exact trS y _ _ (hT6 y hy) (s7.trans s8)
        · obtain ⟨i, hi⟩ := List.getElem?_of_mem hy
          exact trS y _ _ (hR i y hi) s8
    rintro σ' H7 ⟨q, ys, _, _, _, _, _, _, rfl, s7, ly, hq7, hT7⟩
    walk_at "st"
    refine ⟨⟨_, SqL.of hq7⟩, Kv.for_lst ys (invCs a z nl st mo nu fr ps pp pc q H7) ⟨_, _, _, _, _, _, rfl, Same.refl _⟩ ?_ ?_ ?_⟩
    · rintro i σ' H8 ⟨_, _, _, _, _, _, rfl, s8⟩
      exact SqL.of (s8 _ _ hq7)
    · rintro i x σ' H8 hx ⟨_, _, _, _, _, _, rfl, s8⟩
      obtain ⟨r, x1, x2, x3, rfl, hr⟩ := hT7 x (List.mem_of_getElem? hx)
      refine Kv.gtupN3 (SqT.of (s8 _ _ hr)) ?_
      walk_at "rd"
      refine ⟨x1, x2, x3, rfl, fun r1 ta H9 d1 s9 w1 => ?_⟩
      refine ⟨x1, x2, x3, rfl, fun r2 tb H10 d2 s10 w2 => ?_⟩
      have e := d1.one d2
      subst e
      refine said_ne (w1.same s10) w2 ?_
      walk_at "rd"
      exact ⟨_, _, _, _, _, _, rfl, s8.trans (s9.trans s10)⟩
    rintro σ' H8 ⟨_, _, _, _, _, _, rfl, s8⟩
    have hs8 := hs4.trans (s7.trans s8)
    walk_at "nx"
    refine ⟨st, mo, 0, rfl, fun r1 ta H9 d1 s9 w1 => ?_⟩
    have e1 := d1.start hst ⟨m0, m1⟩
    subst e1
    walk_at "rd"
    intro l1 hl1 l2 hl2
    have s10 := (Kv.same_upd (o := .lst [.int st]) hl1).trans (Kv.same_upd (o := .tup [.str "day", .ref l1]) hl2)
    refine said_ne (o := .ok st) (w1.same s10) ⟨l1, upd_same, Kv.same_upd hl2 _ _ upd_same⟩ ?_
    walk_at "rd"
    have s11 := s9.trans s10
    generalize upd (upd H9 l1 (HO.lst [V.int st])) l2 (HO.tup [V.str "day", V.ref l1]) = H10 at *
    walk_at "nx"
    refine ⟨st, mo, nu, rfl, fun r1 ta H11 d1 s12 w1 => ?_⟩
    walk_at "nx"
    refine ⟨st, mo, nu + 1, rfl, fun r2 tb H12 d2 s13 w2 => ?_⟩
    have w1 := w1.same s13
    have fin := hs8.trans (s11.trans (s12.trans s13))
    have nd : ¬((V.str "raised") = V.str "day") := fun z => absurd (V.str.inj z) (by decide +kernel)
    have ix : ∀ (t : Addr) (x y : V) (k : Int) (v : V) (Q2 : VK), H12 t = some (.tup [x, y]) → ([x, y] : List V)[k.toNat]? = some v → 0 ≤ k → Q2 v H12 → rIxT K (.ref t) (.int k) H12 Q2 := fun t x y k v Q2 ht e k0 q => ⟨t, _, k, v, rfl, rfl, SqT.of ht, at_of (j := k.toNat) (by omega) e, q⟩
    walk_at "nx"
    cases r1 with
    | error e =>
      obtain ⟨l, g1, g2⟩ := w1
      refine ix ta _ _ 0 _ _ g1 rfl (by decide) ⟨rfl, ?_⟩
      rw [if_neg nd]
      exact ⟨_, _, _, _, _, _, _, _, _, _, _, _, _, _, _, _, rfl, fin⟩
    | ok x1 =>
      obtain ⟨l, g1, g2⟩ := w1
      refine ix ta _ _ 0 _ _ g1 rfl (by decide) ⟨rfl, ?_⟩
      rw [if_pos rfl]
      cases r2 with
      | error e =>
        obtain ⟨l2, g3, g4⟩ := w2
        refine ix tb _ _ 0 _ _ g3 rfl (by decide) ⟨rfl, ?_⟩
        rw [if_neg nd]
        exact ⟨_, _, _, _, _, _, _, _, _, _, _, _, _, _, _, _, rfl, fin⟩
      | ok x2 =>
        obtain ⟨l2, g3, g4⟩ := w2
        refine ix tb _ _ 0 _ _ g3 rfl (by decide) ⟨rfl, ?_⟩
        rw [if_pos rfl]
        refine ix ta _ _ 1 _ _ g1 rfl (by decide) ?_
        refine ix tb _ _ 1 _ _ g3 rfl (by decide) ?_
        have lt := d1.later d2
        refine ⟨l, l2, x1, x2, rfl, rfl, SqL.of g2, SqL.of g4, _, rfl, ?_⟩
        rw [decide_eq_false (by omega), if_neg (by decide)]
        exact ⟨_, _, _, _, _, _, _, _, _, _, _, _, _, _, _, _, rfl, fin⟩
  · rintro σ' H' ⟨_, _, _, _, _, _, _, _, _, _, _, _, _, _, _, _, rfl, hs⟩
    walk_at "nx"
    exact hq _
end
theorem txt_mk {K : PySem.W.Frag} {mg : Str → Option Value} {h : Heap} (X : K.In h) (G : h.Ns mainGlobals mg)
    {C_BadValue : Addr}
    {C_BadDay : Addr}
    {C_Missing : Addr}
    {C_Refused : Addr}
    {C_Full : Addr}
    {C_NotAllowed : Addr}
    {C_Damaged : Addr}
    {C_BankError : Addr}
    {f_is_day : Addr} {od_is_day an_is_day : Option Addr} {sl_is_day : Array (Option Value)} {oc_is_day kV_is_day dc_is_day pm_is_day cd_is_day ct_is_day : Value}
    {f_check_day : Addr} {od_check_day an_check_day : Option Addr} {sl_check_day : Array (Option Value)} {oc_check_day kV_check_day dc_check_day pm_check_day cd_check_day ct_check_day : Value}
    {f_days_of_month : Addr} {od_days_of_month an_days_of_month : Option Addr} {sl_days_of_month : Array (Option Value)} {oc_days_of_month kV_days_of_month dc_days_of_month pm_days_of_month cd_days_of_month ct_days_of_month : Value}
    {f_first_day_of : Addr} {od_first_day_of an_first_day_of : Option Addr} {sl_first_day_of : Array (Option Value)} {oc_first_day_of kV_first_day_of dc_first_day_of pm_first_day_of cd_first_day_of ct_first_day_of : Value}
    {f_date_of : Addr} {od_date_of an_date_of : Option Addr} {sl_date_of : Array (Option Value)} {oc_date_of kV_date_of dc_date_of pm_date_of cd_date_of ct_date_of : Value}
    {f_is_date : Addr} {od_is_date an_is_date : Option Addr} {sl_is_date : Array (Option Value)} {oc_is_date kV_is_date dc_is_date pm_is_date cd_is_date ct_is_date : Value}
    {f_day_of : Addr} {od_day_of an_day_of : Option Addr} {sl_day_of : Array (Option Value)} {oc_day_of kV_day_of dc_day_of pm_day_of cd_day_of ct_day_of : Value}
    {f_due_day : Addr} {od_due_day an_due_day : Option Addr} {sl_due_day : Array (Option Value)} {oc_due_day kV_due_day dc_due_day pm_due_day cd_due_day ct_due_day : Value}
    {f__law_numbers : Addr} {od__law_numbers an__law_numbers : Option Addr} {sl__law_numbers : Array (Option Value)} {oc__law_numbers kV__law_numbers dc__law_numbers pm__law_numbers cd__law_numbers ct__law_numbers : Value}
    {f__law_kinds : Addr} {od__law_kinds an__law_kinds : Option Addr} {sl__law_kinds : Array (Option Value)} {oc__law_kinds kV__law_kinds dc__law_kinds pm__law_kinds cd__law_kinds ct__law_kinds : Value}
    {f__law_length : Addr} {od__law_length an__law_length : Option Addr} {sl__law_length : Array (Option Value)} {oc__law_length kV__law_length dc__law_length pm__law_length cd__law_length ct__law_length : Value}
    {f__law_date : Addr} {od__law_date an__law_date : Option Addr} {sl__law_date : Array (Option Value)} {oc__law_date kV__law_date dc__law_date pm__law_date cd__law_date ct__law_date : Value}
    {f__law_count : Addr} {od__law_count an__law_count : Option Addr} {sl__law_count : Array (Option Value)} {oc__law_count kV__law_count dc__law_count pm__law_count cd__law_count ct__law_count : Value}
    {f__law_due : Addr} {od__law_due an__law_due : Option Addr} {sl__law_due : Array (Option Value)} {oc__law_due kV__law_due dc__law_due pm__law_due cd__law_due ct__law_due : Value}
    {f__law_told : Addr} {od__law_told an__law_told : Option Addr} {sl__law_told : Array (Option Value)} {oc__law_told kV__law_told dc__law_told pm__law_told cd__law_told ct__law_told : Value}
    {f__law_start : Addr} {od__law_start an__law_start : Option Addr} {sl__law_start : Array (Option Value)} {oc__law_start kV__law_start dc__law_start pm__law_start cd__law_start ct__law_start : Value}
    {f_law : Addr} {od_law an_law : Option Addr} {sl_law : Array (Option Value)} {oc_law kV_law dc_law pm_law cd_law ct_law : Value}
    {w_LAST_DAY : Value}
    {w_FIRST_YEAR : Value}
    {w_LAST_YEAR : Value}
    {w_DAYS_OF_FOUR_YEARS : Value}
    {t_DAYS_OF_MONTHS : Addr} {td_DAYS_OF_MONTHS : Option Addr} {ti_DAYS_OF_MONTHS : Array Value} {tn_DAYS_OF_MONTHS : Nat} {ts_DAYS_OF_MONTHS : Array (Option Value)}
    {w_MOST_MONTHS : Value}
    {w_MOST_TIMES : Value}
    (e_BadValue : PySem.W.nsIn K mainGlobals "BadValue" = some (some (.ref C_BadValue)))
    (e_BadDay : PySem.W.nsIn K mainGlobals "BadDay" = some (some (.ref C_BadDay)))
    (e_Missing : PySem.W.nsIn K mainGlobals "Missing" = some (some (.ref C_Missing)))
    (e_Refused : PySem.W.nsIn K mainGlobals "Refused" = some (some (.ref C_Refused)))
    (e_Full : PySem.W.nsIn K mainGlobals "Full" = some (some (.ref C_Full)))
    (e_NotAllowed : PySem.W.nsIn K mainGlobals "NotAllowed" = some (some (.ref C_NotAllowed)))
    (e_Damaged : PySem.W.nsIn K mainGlobals "Damaged" = some (some (.ref C_Damaged)))
    (e_BankError : PySem.W.nsIn K mainGlobals "BankError" = some (some (.ref C_BankError)))
    (eAll : Kv.errAll K (fun e => match e with | .badValue => C_BadValue | .badDay => C_BadDay | .missing => C_Missing | .refused => C_Refused | .full => C_Full | .notAllowed => C_NotAllowed | .damaged => C_Damaged) C_BankError = true)
    (a_is_day : PySem.W.nsIn K mainGlobals "is_day" = some (some (.ref f_is_day)))
    (l_is_day : K.lookup f_is_day = some ⟨oc_is_day, od_is_day, .func (PySem.W.fnOf "is_day" "is_day" (defArgs s_is_day) (defBody s_is_day) (defScope s_is_day) .none kV_is_day dc_is_day pm_is_day an_is_day cd_is_day ct_is_day), sl_is_day⟩)
    (c_is_day : PySem.W.codeIn K cd_is_day "is_day" = true)
    (k_is_day : PySem.W.keepIn K (.ref f_is_day) = true)
    (a_check_day : PySem.W.nsIn K mainGlobals "check_day" = some (some (.ref f_check_day)))
    (l_check_day : K.lookup f_check_day = some ⟨oc_check_day, od_check_day, .func (PySem.W.fnOf "check_day" "check_day" (defArgs s_check_day) (defBody s_check_day) (defScope s_check_day) .none kV_check_day dc_check_day pm_check_day an_check_day cd_check_day ct_check_day), sl_check_day⟩)
    (c_check_day : PySem.W.codeIn K cd_check_day "check_day" = true)
    (k_check_day : PySem.W.keepIn K (.ref f_check_day) = true)
    (a_days_of_month : PySem.W.nsIn K mainGlobals "days_of_month" = some (some (.ref f_days_of_month)))
    (l_days_of_month : K.lookup f_days_of_month = some ⟨oc_days_of_month, od_days_of_month, .func (PySem.W.fnOf "days_of_month" "days_of_month" (defArgs s_days_of_month) (defBody s_days_of_month) (defScope s_days_of_month) .none kV_days_of_month dc_days_of_month pm_days_of_month an_days_of_month cd_days_of_month ct_days_of_month), sl_days_of_month⟩)
    (c_days_of_month : PySem.W.codeIn K cd_days_of_month "days_of_month" = true)
    (k_days_of_month : PySem.W.keepIn K (.ref f_days_of_month) = true)
    (a_first_day_of : PySem.W.nsIn K mainGlobals "first_day_of" = some (some (.ref f_first_day_of)))
    (l_first_day_of : K.lookup f_first_day_of = some ⟨oc_first_day_of, od_first_day_of, .func (PySem.W.fnOf "first_day_of" "first_day_of" (defArgs s_first_day_of) (defBody s_first_day_of) (defScope s_first_day_of) .none kV_first_day_of dc_first_day_of pm_first_day_of an_first_day_of cd_first_day_of ct_first_day_of), sl_first_day_of⟩)
    (c_first_day_of : PySem.W.codeIn K cd_first_day_of "first_day_of" = true)
    (k_first_day_of : PySem.W.keepIn K (.ref f_first_day_of) = true)
    (a_date_of : PySem.W.nsIn K mainGlobals "date_of" = some (some (.ref f_date_of)))
    (l_date_of : K.lookup f_date_of = some ⟨oc_date_of, od_date_of, .func (PySem.W.fnOf "date_of" "date_of" (defArgs s_date_of) (defBody s_date_of) (defScope s_date_of) .none kV_date_of dc_date_of pm_date_of an_date_of cd_date_of ct_date_of), sl_date_of⟩)
    (c_date_of : PySem.W.codeIn K cd_date_of "date_of" = true)
    (k_date_of : PySem.W.keepIn K (.ref f_date_of) = true)
    (a_is_date : PySem.W.nsIn K mainGlobals "is_date" = some (some (.ref f_is_date)))
    (l_is_date : K.lookup f_is_date = some ⟨oc_is_date, od_is_date, .func (PySem.W.fnOf "is_date" "is_date" (defArgs s_is_date) (defBody s_is_date) (defScope s_is_date) .none kV_is_date dc_is_date pm_is_date an_is_date cd_is_date ct_is_date), sl_is_date⟩)
    (c_is_date : PySem.W.codeIn K cd_is_date "is_date" = true)
    (k_is_date : PySem.W.keepIn K (.ref f_is_date) = true)
    (a_day_of : PySem.W.nsIn K mainGlobals "day_of" = some (some (.ref f_day_of)))
    (l_day_of : K.lookup f_day_of = some ⟨oc_day_of, od_day_of, .func (PySem.W.fnOf "day_of" "day_of" (defArgs s_day_of) (defBody s_day_of) (defScope s_day_of) .none kV_day_of dc_day_of pm_day_of an_day_of cd_day_of ct_day_of), sl_day_of⟩)
    (c_day_of : PySem.W.codeIn K cd_day_of "day_of" = true)
    (k_day_of : PySem.W.keepIn K (.ref f_day_of) = true)
    (a_due_day : PySem.W.nsIn K mainGlobals "due_day" = some (some (.ref f_due_day)))
    (l_due_day : K.lookup f_due_day = some ⟨oc_due_day, od_due_day, .func (PySem.W.fnOf "due_day" "due_day" (defArgs s_due_day) (defBody s_due_day) (defScope s_due_day) .none kV_due_day dc_due_day pm_due_day an_due_day cd_due_day ct_due_day), sl_due_day⟩)
    (c_due_day : PySem.W.codeIn K cd_due_day "due_day" = true)
    (k_due_day : PySem.W.keepIn K (.ref f_due_day) = true)
    (a__law_numbers : PySem.W.nsIn K mainGlobals "_law_numbers" = some (some (.ref f__law_numbers)))
    (l__law_numbers : K.lookup f__law_numbers = some ⟨oc__law_numbers, od__law_numbers, .func (PySem.W.fnOf "_law_numbers" "_law_numbers" (defArgs s_L_numbers) (defBody s_L_numbers) (defScope s_L_numbers) .none kV__law_numbers dc__law_numbers pm__law_numbers an__law_numbers cd__law_numbers ct__law_numbers), sl__law_numbers⟩)
    (c__law_numbers : PySem.W.codeIn K cd__law_numbers "_law_numbers" = true)
    (k__law_numbers : PySem.W.keepIn K (.ref f__law_numbers) = true)
    (a__law_kinds : PySem.W.nsIn K mainGlobals "_law_kinds" = some (some (.ref f__law_kinds)))
    (l__law_kinds : K.lookup f__law_kinds = some ⟨oc__law_kinds, od__law_kinds, .func (PySem.W.fnOf "_law_kinds" "_law_kinds" (defArgs s_L_kinds) (defBody s_L_kinds) (defScope s_L_kinds) .none kV__law_kinds dc__law_kinds pm__law_kinds an__law_kinds cd__law_kinds ct__law_kinds), sl__law_kinds⟩)
    (c__law_kinds : PySem.W.codeIn K cd__law_kinds "_law_kinds" = true)
    (k__law_kinds : PySem.W.keepIn K (.ref f__law_kinds) = true)
    (a__law_length : PySem.W.nsIn K mainGlobals "_law_length" = some (some (.ref f__law_length)))
    (l__law_length : K.lookup f__law_length = some ⟨oc__law_length, od__law_length, .func (PySem.W.fnOf "_law_length" "_law_length" (defArgs s_L_length) (defBody s_L_length) (defScope s_L_length) .none kV__law_length dc__law_length pm__law_length an__law_length cd__law_length ct__law_length), sl__law_length⟩)
    (c__law_length : PySem.W.codeIn K cd__law_length "_law_length" = true)
    (k__law_length : PySem.W.keepIn K (.ref f__law_length) = true)
    (a__law_date : PySem.W.nsIn K mainGlobals "_law_date" = some (some (.ref f__law_date)))
    (l__law_date : K.lookup f__law_date = some ⟨oc__law_date, od__law_date, .func (PySem.W.fnOf "_law_date" "_law_date" (defArgs s_L_date) (defBody s_L_date) (defScope s_L_date) .none kV__law_date dc__law_date pm__law_date an__law_date cd__law_date ct__law_date), sl__law_date⟩)
    (c__law_date : PySem.W.codeIn K cd__law_date "_law_date" = true)
    (k__law_date : PySem.W.keepIn K (.ref f__law_date) = true)
    (a__law_count : PySem.W.nsIn K mainGlobals "_law_count" = some (some (.ref f__law_count)))
    (l__law_count : K.lookup f__law_count = some ⟨oc__law_count, od__law_count, .func (PySem.W.fnOf "_law_count" "_law_count" (defArgs s_L_count) (defBody s_L_count) (defScope s_L_count) .none kV__law_count dc__law_count pm__law_count an__law_count cd__law_count ct__law_count), sl__law_count⟩)
    (c__law_count : PySem.W.codeIn K cd__law_count "_law_count" = true)
    (k__law_count : PySem.W.keepIn K (.ref f__law_count) = true)
    (a__law_due : PySem.W.nsIn K mainGlobals "_law_due" = some (some (.ref f__law_due)))
    (l__law_due : K.lookup f__law_due = some ⟨oc__law_due, od__law_due, .func (PySem.W.fnOf "_law_due" "_law_due" (defArgs s_L_due) (defBody s_L_due) (defScope s_L_due) .none kV__law_due dc__law_due pm__law_due an__law_due cd__law_due ct__law_due), sl__law_due⟩)
    (c__law_due : PySem.W.codeIn K cd__law_due "_law_due" = true)
    (k__law_due : PySem.W.keepIn K (.ref f__law_due) = true)
    (a__law_told : PySem.W.nsIn K mainGlobals "_law_told" = some (some (.ref f__law_told)))
    (l__law_told : K.lookup f__law_told = some ⟨oc__law_told, od__law_told, .func (PySem.W.fnOf "_law_told" "_law_told" (defArgs s_L_told) (defBody s_L_told) (defScope s_L_told) .none kV__law_told dc__law_told pm__law_told an__law_told cd__law_told ct__law_told), sl__law_told⟩)
    (c__law_told : PySem.W.codeIn K cd__law_told "_law_told" = true)
    (k__law_told : PySem.W.keepIn K (.ref f__law_told) = true)
    (a__law_start : PySem.W.nsIn K mainGlobals "_law_start" = some (some (.ref f__law_start)))
    (l__law_start : K.lookup f__law_start = some ⟨oc__law_start, od__law_start, .func (PySem.W.fnOf "_law_start" "_law_start" (defArgs s_L_start) (defBody s_L_start) (defScope s_L_start) .none kV__law_start dc__law_start pm__law_start an__law_start cd__law_start ct__law_start), sl__law_start⟩)
    (c__law_start : PySem.W.codeIn K cd__law_start "_law_start" = true)
    (k__law_start : PySem.W.keepIn K (.ref f__law_start) = true)
    (a_law : PySem.W.nsIn K mainGlobals "law" = some (some (.ref f_law)))
    (l_law : K.lookup f_law = some ⟨oc_law, od_law, .func (PySem.W.fnOf "law" "law" (defArgs s_law) (defBody s_law) (defScope s_law) .none kV_law dc_law pm_law an_law cd_law ct_law), sl_law⟩)
    (c_law : PySem.W.codeIn K cd_law "law" = true)
    (k_law : PySem.W.keepIn K (.ref f_law) = true)
    (v_LAST_DAY : PySem.W.nsIn K mainGlobals "LAST_DAY" = some (some w_LAST_DAY))
    (vr_LAST_DAY : RelV (.int (36524)) w_LAST_DAY)
    (v_FIRST_YEAR : PySem.W.nsIn K mainGlobals "FIRST_YEAR" = some (some w_FIRST_YEAR))
    (vr_FIRST_YEAR : RelV (.int (2000)) w_FIRST_YEAR)
    (v_LAST_YEAR : PySem.W.nsIn K mainGlobals "LAST_YEAR" = some (some w_LAST_YEAR))
    (vr_LAST_YEAR : RelV (.int (2099)) w_LAST_YEAR)
    (v_DAYS_OF_FOUR_YEARS : PySem.W.nsIn K mainGlobals "DAYS_OF_FOUR_YEARS" = some (some w_DAYS_OF_FOUR_YEARS))
    (vr_DAYS_OF_FOUR_YEARS : RelV (.int (1461)) w_DAYS_OF_FOUR_YEARS)
    (v_DAYS_OF_MONTHS : PySem.W.nsIn K mainGlobals "DAYS_OF_MONTHS" = some (some (.ref t_DAYS_OF_MONTHS)))
    (vl_DAYS_OF_MONTHS : K.lookup t_DAYS_OF_MONTHS = some ⟨.type "tuple", td_DAYS_OF_MONTHS, .seq ti_DAYS_OF_MONTHS tn_DAYS_OF_MONTHS, ts_DAYS_OF_MONTHS⟩)
    (vz_DAYS_OF_MONTHS : ti_DAYS_OF_MONTHS.size ≤ sizeLine)
    (vr_DAYS_OF_MONTHS : Vals ([.int (31), .int (28), .int (31), .int (30), .int (31), .int (30), .int (31), .int (31), .int (30), .int (31), .int (30), .int (31)] : List V) ti_DAYS_OF_MONTHS.toList)
    (v_MOST_MONTHS : PySem.W.nsIn K mainGlobals "MOST_MONTHS" = some (some w_MOST_MONTHS))
    (vr_MOST_MONTHS : RelV (.int (120)) w_MOST_MONTHS)
    (v_MOST_TIMES : PySem.W.nsIn K mainGlobals "MOST_TIMES" = some (some w_MOST_TIMES))
    (vr_MOST_TIMES : RelV (.int (1200)) w_MOST_TIMES)
    (n_bool : PySem.W.nsIn K mainGlobals "bool" = some none)
    (n_divmod : PySem.W.nsIn K mainGlobals "divmod" = some none)
    (n_int : PySem.W.nsIn K mainGlobals "int" = some none)
    (n_isinstance : PySem.W.nsIn K mainGlobals "isinstance" = some none)
    (n_max : PySem.W.nsIn K mainGlobals "max" = some none)
    (n_min : PySem.W.nsIn K mainGlobals "min" = some none)
    (n_range : PySem.W.nsIn K mainGlobals "range" = some none)
    (n_sum : PySem.W.nsIn K mainGlobals "sum" = some none) :
    ∃ T : Txt K mg, T.d_law = PySem.W.fnOf "law" "law" (defArgs s_law) (defBody s_law) (defScope s_law) .none kV_law dc_law pm_law an_law cd_law ct_law :=
  ⟨{ exa := fun e => match e with | .badValue => C_BadValue | .badDay => C_BadDay | .missing => C_Missing | .refused => C_Refused | .full => C_Full | .notAllowed => C_NotAllowed | .damaged => C_Damaged,
       exg := fun e => by cases e <;> first | exact PySem.W.mg_of X G e_BadValue | exact PySem.W.mg_of X G e_BadDay | exact PySem.W.mg_of X G e_Missing | exact PySem.W.mg_of X G e_Refused | exact PySem.W.mg_of X G e_Full | exact PySem.W.mg_of X G e_NotAllowed | exact PySem.W.mg_of X G e_Damaged,
       a_BankError := C_BankError,
       g_BankError := PySem.W.mg_of X G e_BankError,
       exAll := eAll,
       a_is_day := f_is_day,
       d_is_day := PySem.W.fnOf "is_day" "is_day" (defArgs s_is_day) (defBody s_is_day) (defScope s_is_day) .none kV_is_day dc_is_day pm_is_day an_is_day cd_is_day ct_is_day,
       g_is_day := PySem.W.mg_of X G a_is_day,
       F_is_day := fun_mk (st := s_is_day) l_is_day c_is_day k_is_day,
       b_is_day := (fun_mk (st := s_is_day) l_is_day c_is_day k_is_day).binds (ps := ["number"]) fun _ _ _ _ _ _ us hl => match us, hl with | [_], _ => rfl,
       a_check_day := f_check_day,
       d_check_day := PySem.W.fnOf "check_day" "check_day" (defArgs s_check_day) (defBody s_check_day) (defScope s_check_day) .none kV_check_day dc_check_day pm_check_day an_check_day cd_check_day ct_check_day,
       g_check_day := PySem.W.mg_of X G a_check_day,
       F_check_day := fun_mk (st := s_check_day) l_check_day c_check_day k_check_day,
       b_check_day := (fun_mk (st := s_check_day) l_check_day c_check_day k_check_day).binds (ps := ["day"]) fun _ _ _ _ _ _ us hl => match us, hl with | [_], _ => rfl,
       a_days_of_month := f_days_of_month,
       d_days_of_month := PySem.W.fnOf "days_of_month" "days_of_month" (defArgs s_days_of_month) (defBody s_days_of_month) (defScope s_days_of_month) .none kV_days_of_month dc_days_of_month pm_days_of_month an_days_of_month cd_days_of_month ct_days_of_month,
       g_days_of_month := PySem.W.mg_of X G a_days_of_month,
       F_days_of_month := fun_mk (st := s_days_of_month) l_days_of_month c_days_of_month k_days_of_month,
       b_days_of_month := (fun_mk (st := s_days_of_month) l_days_of_month c_days_of_month k_days_of_month).binds (ps := ["year", "month"]) fun _ _ _ _ _ _ us hl => match us, hl with | [_, _], _ => rfl,
       a_first_day_of := f_first_day_of,
       d_first_day_of := PySem.W.fnOf "first_day_of" "first_day_of" (defArgs s_first_day_of) (defBody s_first_day_of) (defScope s_first_day_of) .none kV_first_day_of dc_first_day_of pm_first_day_of an_first_day_of cd_first_day_of ct_first_day_of,
       g_first_day_of := PySem.W.mg_of X G a_first_day_of,
       F_first_day_of := fun_mk (st := s_first_day_of) l_first_day_of c_first_day_of k_first_day_of,
       b_first_day_of := (fun_mk (st := s_first_day_of) l_first_day_of c_first_day_of k_first_day_of).binds (ps := ["year"]) fun _ _ _ _ _ _ us hl => match us, hl with | [_], _ => rfl,
       a_date_of := f_date_of,
       d_date_of := PySem.W.fnOf "date_of" "date_of" (defArgs s_date_of) (defBody s_date_of) (defScope s_date_of) .none kV_date_of dc_date_of pm_date_of an_date_of cd_date_of ct_date_of,
       g_date_of := PySem.W.mg_of X G a_date_of,
       F_date_of := fun_mk (st := s_date_of) l_date_of c_date_of k_date_of,
       b_date_of := (fun_mk (st := s_date_of) l_date_of c_date_of k_date_of).binds (ps := ["day"]) fun _ _ _ _ _ _ us hl => match us, hl with | [_], _ => rfl,
       a_is_date := f_is_date,
       d_is_date := PySem.W.fnOf "is_date" "is_date" (defArgs s_is_date) (defBody s_is_date) (defScope s_is_date) .none kV_is_date dc_is_date pm_is_date an_is_date cd_is_date ct_is_date,
       g_is_date := PySem.W.mg_of X G a_is_date,
       F_is_date := fun_mk (st := s_is_date) l_is_date c_is_date k_is_date,
       b_is_date := (fun_mk (st := s_is_date) l_is_date c_is_date k_is_date).binds (ps := ["year", "month", "in_month"]) fun _ _ _ _ _ _ us hl => match us, hl with | [_, _, _], _ => rfl,
       a_day_of := f_day_of,
       d_day_of := PySem.W.fnOf "day_of" "day_of" (defArgs s_day_of) (defBody s_day_of) (defScope s_day_of) .none kV_day_of dc_day_of pm_day_of an_day_of cd_day_of ct_day_of,
       g_day_of := PySem.W.mg_of X G a_day_of,
       F_day_of := fun_mk (st := s_day_of) l_day_of c_day_of k_day_of,
       b_day_of := (fun_mk (st := s_day_of) l_day_of c_day_of k_day_of).binds (ps := ["year", "month", "in_month"]) fun _ _ _ _ _ _ us hl => match us, hl with | [_, _, _], _ => rfl,
       a_due_day := f_due_day,
       d_due_day := PySem.W.fnOf "due_day" "due_day" (defArgs s_due_day) (defBody s_due_day) (defScope s_due_day) .none kV_due_day dc_due_day pm_due_day an_due_day cd_due_day ct_due_day,
       g_due_day := PySem.W.mg_of X G a_due_day,
       F_due_day := fun_mk (st := s_due_day) l_due_day c_due_day k_due_day,
       b_due_day := (fun_mk (st := s_due_day) l_due_day c_due_day k_due_day).binds (ps := ["start", "months", "number"]) fun _ _ _ _ _ _ us hl => match us, hl with | [_, _, _], _ => rfl,
       a__law_numbers := f__law_numbers,
       d__law_numbers := PySem.W.fnOf "_law_numbers" "_law_numbers" (defArgs s_L_numbers) (defBody s_L_numbers) (defScope s_L_numbers) .none kV__law_numbers dc__law_numbers pm__law_numbers an__law_numbers cd__law_numbers ct__law_numbers,
       g__law_numbers := PySem.W.mg_of X G a__law_numbers,
       F__law_numbers := fun_mk (st := s_L_numbers) l__law_numbers c__law_numbers k__law_numbers,
       b__law_numbers := (fun_mk (st := s_L_numbers) l__law_numbers c__law_numbers k__law_numbers).binds (ps := ["cell", "count"]) fun _ _ _ _ _ _ us hl => match us, hl with | [_, _], _ => rfl,
       a__law_kinds := f__law_kinds,
       d__law_kinds := PySem.W.fnOf "_law_kinds" "_law_kinds" (defArgs s_L_kinds) (defBody s_L_kinds) (defScope s_L_kinds) .none kV__law_kinds dc__law_kinds pm__law_kinds an__law_kinds cd__law_kinds ct__law_kinds,
       g__law_kinds := PySem.W.mg_of X G a__law_kinds,
       F__law_kinds := fun_mk (st := s_L_kinds) l__law_kinds c__law_kinds k__law_kinds,
       b__law_kinds := (fun_mk (st := s_L_kinds) l__law_kinds c__law_kinds k__law_kinds).binds (ps := ["error"]) fun _ _ _ _ _ _ us hl => match us, hl with | [_], _ => rfl,
       a__law_length := f__law_length,
       d__law_length := PySem.W.fnOf "_law_length" "_law_length" (defArgs s_L_length) (defBody s_L_length) (defScope s_L_length) .none kV__law_length dc__law_length pm__law_length an__law_length cd__law_length ct__law_length,
       g__law_length := PySem.W.mg_of X G a__law_length,
       F__law_length := fun_mk (st := s_L_length) l__law_length c__law_length k__law_length,
       b__law_length := (fun_mk (st := s_L_length) l__law_length c__law_length k__law_length).binds (ps := ["year", "month"]) fun _ _ _ _ _ _ us hl => match us, hl with | [_, _], _ => rfl,
       a__law_date := f__law_date,
       d__law_date := PySem.W.fnOf "_law_date" "_law_date" (defArgs s_L_date) (defBody s_L_date) (defScope s_L_date) .none kV__law_date dc__law_date pm__law_date an__law_date cd__law_date ct__law_date,
       g__law_date := PySem.W.mg_of X G a__law_date,
       F__law_date := fun_mk (st := s_L_date) l__law_date c__law_date k__law_date,
       b__law_date := (fun_mk (st := s_L_date) l__law_date c__law_date k__law_date).binds (ps := ["day"]) fun _ _ _ _ _ _ us hl => match us, hl with | [_], _ => rfl,
       a__law_count := f__law_count,
       d__law_count := PySem.W.fnOf "_law_count" "_law_count" (defArgs s_L_count) (defBody s_L_count) (defScope s_L_count) .none kV__law_count dc__law_count pm__law_count an__law_count cd__law_count ct__law_count,
       g__law_count := PySem.W.mg_of X G a__law_count,
       F__law_count := fun_mk (st := s_L_count) l__law_count c__law_count k__law_count,
       b__law_count := (fun_mk (st := s_L_count) l__law_count c__law_count k__law_count).binds (ps := ["year", "month", "in_month"]) fun _ _ _ _ _ _ us hl => match us, hl with | [_, _, _], _ => rfl,
       a__law_due := f__law_due,
       d__law_due := PySem.W.fnOf "_law_due" "_law_due" (defArgs s_L_due) (defBody s_L_due) (defScope s_L_due) .none kV__law_due dc__law_due pm__law_due an__law_due cd__law_due ct__law_due,
       g__law_due := PySem.W.mg_of X G a__law_due,
       F__law_due := fun_mk (st := s_L_due) l__law_due c__law_due k__law_due,
       b__law_due := (fun_mk (st := s_L_due) l__law_due c__law_due k__law_due).binds (ps := ["start", "months", "number"]) fun _ _ _ _ _ _ us hl => match us, hl with | [_, _, _], _ => rfl,
       a__law_told := f__law_told,
       d__law_told := PySem.W.fnOf "_law_told" "_law_told" (defArgs s_L_told) (defBody s_L_told) (defScope s_L_told) .none kV__law_told dc__law_told pm__law_told an__law_told cd__law_told ct__law_told,
       g__law_told := PySem.W.mg_of X G a__law_told,
       F__law_told := fun_mk (st := s_L_told) l__law_told c__law_told k__law_told,
       b__law_told := (fun_mk (st := s_L_told) l__law_told c__law_told k__law_told).binds (ps := ["start", "months", "number"]) fun _ _ _ _ _ _ us hl => match us, hl with | [_, _, _], _ => rfl,
       a__law_start := f__law_start,
       d__law_start := PySem.W.fnOf "_law_start" "_law_start" (defArgs s_L_start) (defBody s_L_start) (defScope s_L_start) .none kV__law_start dc__law_start pm__law_start an__law_start cd__law_start ct__law_start,
       g__law_start := PySem.W.mg_of X G a__law_start,
       F__law_start := fun_mk (st := s_L_start) l__law_start c__law_start k__law_start,
       b__law_start := (fun_mk (st := s_L_start) l__law_start c__law_start k__law_start).binds (ps := ["numbers"]) fun _ _ _ _ _ _ us hl => match us, hl with | [_], _ => rfl,
       a_law := f_law,
       d_law := PySem.W.fnOf "law" "law" (defArgs s_law) (defBody s_law) (defScope s_law) .none kV_law dc_law pm_law an_law cd_law ct_law,
       g_law := PySem.W.mg_of X G a_law,
       F_law := fun_mk (st := s_law) l_law c_law k_law,
       b_law := (fun_mk (st := s_law) l_law c_law k_law).binds (ps := ["script"]) fun _ _ _ _ _ _ us hl => match us, hl with | [_], _ => rfl,
       u_LAST_DAY := w_LAST_DAY,
       g_LAST_DAY := PySem.W.mg_of X G v_LAST_DAY,
       r_LAST_DAY := vr_LAST_DAY,
       u_FIRST_YEAR := w_FIRST_YEAR,
       g_FIRST_YEAR := PySem.W.mg_of X G v_FIRST_YEAR,
       r_FIRST_YEAR := vr_FIRST_YEAR,
       u_LAST_YEAR := w_LAST_YEAR,
       g_LAST_YEAR := PySem.W.mg_of X G v_LAST_YEAR,
       r_LAST_YEAR := vr_LAST_YEAR,
       u_DAYS_OF_FOUR_YEARS := w_DAYS_OF_FOUR_YEARS,
       g_DAYS_OF_FOUR_YEARS := PySem.W.mg_of X G v_DAYS_OF_FOUR_YEARS,
       r_DAYS_OF_FOUR_YEARS := vr_DAYS_OF_FOUR_YEARS,
       a_DAYS_OF_MONTHS := t_DAYS_OF_MONTHS,
       g_DAYS_OF_MONTHS := PySem.W.mg_of X G v_DAYS_OF_MONTHS,
       r_DAYS_OF_MONTHS := rfl,
       t_DAYS_OF_MONTHS := fun H => Or.inr ⟨_, _, _, vl_DAYS_OF_MONTHS, rfl, rfl, vz_DAYS_OF_MONTHS, vr_DAYS_OF_MONTHS⟩,
       u_MOST_MONTHS := w_MOST_MONTHS,
       g_MOST_MONTHS := PySem.W.mg_of X G v_MOST_MONTHS,
       r_MOST_MONTHS := vr_MOST_MONTHS,
       u_MOST_TIMES := w_MOST_TIMES,
       g_MOST_TIMES := PySem.W.mg_of X G v_MOST_TIMES,
       r_MOST_TIMES := vr_MOST_TIMES,
       n_bool := PySem.W.mg_none_of X G n_bool,
       n_divmod := PySem.W.mg_none_of X G n_divmod,
       n_int := PySem.W.mg_none_of X G n_int,
       n_isinstance := PySem.W.mg_none_of X G n_isinstance,
       n_max := PySem.W.mg_none_of X G n_max,
       n_min := PySem.W.mg_none_of X G n_min,
       n_range := PySem.W.mg_none_of X G n_range,
       n_sum := PySem.W.mg_none_of X G n_sum }, rfl⟩
end K09
open PySem PySem.W PyProof.Rows
set_option maxRecDepth 100000 in
set_option maxHeartbeats 0 in
theorem PySem.Challenge.cw_corebank_k09_whole_due_days_holds : PySem.Challenge.rw_corebank_k09_whole_due_days.Holds := by
  w_on; o_law; k_head; (case hw => w_witness2)
  k_fill
  refine Kv.walk (l := PySem.Challenge.rw_corebank_k09_whole_due_days) (k := 6) rfl rfl ⟨rfl, by decide, by decide⟩ (fun w h Y => PySem.W.kIn_of Y) ?F
  case F =>
    intro w mg fa h KX G hmg
    obtain ⟨T, hT⟩ : ∃ T : K09.Txt _ mg, ∃ a b c d e f, T.d_law = PySem.W.fnOf "law" "law" (L2.defArgs K09.s_law) (L2.defBody K09.s_law) (L2.defScope K09.s_law) .none a b c d e f := by
      refine' (fun z => ⟨z.choose, _, _, _, _, _, _, z.choose_spec⟩) (K09.txt_mk KX G ?e_BadValue ?e_BadDay ?e_Missing ?e_Refused ?e_Full ?e_NotAllowed ?e_Damaged ?e_BankError ?eAll ?a_is_day ?l_is_day ?c_is_day ?k_is_day ?a_check_day ?l_check_day ?c_check_day ?k_check_day ?a_days_of_month ?l_days_of_month ?c_days_of_month ?k_days_of_month ?a_first_day_of ?l_first_day_of ?c_first_day_of ?k_first_day_of ?a_date_of ?l_date_of ?c_date_of ?k_date_of ?a_is_date ?l_is_date ?c_is_date ?k_is_date ?a_day_of ?l_day_of ?c_day_of ?k_day_of ?a_due_day ?l_due_day ?c_due_day ?k_due_day ?a__law_numbers ?l__law_numbers ?c__law_numbers ?k__law_numbers ?a__law_kinds ?l__law_kinds ?c__law_kinds ?k__law_kinds ?a__law_length ?l__law_length ?c__law_length ?k__law_length ?a__law_date ?l__law_date ?c__law_date ?k__law_date ?a__law_count ?l__law_count ?c__law_count ?k__law_count ?a__law_due ?l__law_due ?c__law_due ?k__law_due ?a__law_told ?l__law_told ?c__law_told ?k__law_told ?a__law_start ?l__law_start ?c__law_start ?k__law_start ?a_law ?l_law ?c_law ?k_law ?v_LAST_DAY ?vr_LAST_DAY ?v_FIRST_YEAR ?vr_FIRST_YEAR ?v_LAST_YEAR ?vr_LAST_YEAR ?v_DAYS_OF_FOUR_YEARS ?vr_DAYS_OF_FOUR_YEARS ?v_DAYS_OF_MONTHS ?vl_DAYS_OF_MONTHS ?vz_DAYS_OF_MONTHS ?vr_DAYS_OF_MONTHS ?v_MOST_MONTHS ?vr_MOST_MONTHS ?v_MOST_TIMES ?vr_MOST_TIMES ?n_bool ?n_divmod ?n_int ?n_isinstance ?n_max ?n_min ?n_range ?n_sum)
      (case e_BadValue => k_is)
      (case e_BadDay => k_is)
      (case e_Missing => k_is)
      (case e_Refused => k_is)
      (case e_Full => k_is)
      (case e_NotAllowed => k_is)
      (case e_Damaged => k_is)
      (case e_BankError => k_is)
      (case eAll => first | rfl | with_unfolding_all rfl | kernel_rfl)
      (case a_is_day => k_is)
      (case l_is_day => k_is)
      (case c_is_day => k_is)
      (case k_is_day => k_is)
      (case a_check_day => k_is)
      (case l_check_day => k_is)
      (case c_check_day => k_is)
      (case k_check_day => k_is)
      (case a_days_of_month => k_is)
      (case l_days_of_month => k_is)
      (case c_days_of_month => k_is)
      (case k_days_of_month => k_is)
      (case a_first_day_of => k_is)
      (case l_first_day_of => k_is)
      (case c_first_day_of => k_is)
      (case k_first_day_of => k_is)
      (case a_date_of => k_is)
      (case l_date_of => k_is)
      (case c_date_of => k_is)
      (case k_date_of => k_is)
      (case a_is_date => k_is)
      (case l_is_date => k_is)
      (case c_is_date => k_is)
      (case k_is_date => k_is)
      (case a_day_of => k_is)
      (case l_day_of => k_is)
      (case c_day_of => k_is)
      (case k_day_of => k_is)
      (case a_due_day => k_is)
      (case l_due_day => k_is)
      (case c_due_day => k_is)
      (case k_due_day => k_is)
      (case a__law_numbers => k_is)
      (case l__law_numbers => k_is)
      (case c__law_numbers => k_is)
      (case k__law_numbers => k_is)
      (case a__law_kinds => k_is)
      (case l__law_kinds => k_is)
      (case c__law_kinds => k_is)
      (case k__law_kinds => k_is)
      (case a__law_length => k_is)
      (case l__law_length => k_is)
      (case c__law_length => k_is)
      (case k__law_length => k_is)
      (case a__law_date => k_is)
      (case l__law_date => k_is)
      (case c__law_date => k_is)
      (case k__law_date => k_is)
      (case a__law_count => k_is)
      (case l__law_count => k_is)
      (case c__law_count => k_is)
      (case k__law_count => k_is)
      (case a__law_due => k_is)
      (case l__law_due => k_is)
      (case c__law_due => k_is)
      (case k__law_due => k_is)
      (case a__law_told => k_is)
      (case l__law_told => k_is)
      (case c__law_told => k_is)
      (case k__law_told => k_is)
      (case a__law_start => k_is)
      (case l__law_start => k_is)
      (case c__law_start => k_is)
      (case k__law_start => k_is)
      (case a_law => k_is)
      (case l_law => k_is)
      (case c_law => k_is)
      (case k_law => k_is)
      (case v_LAST_DAY => k_is)
      (case vr_LAST_DAY => exact ⟨_, rfl⟩)
      (case v_FIRST_YEAR => k_is)
      (case vr_FIRST_YEAR => exact ⟨_, rfl⟩)
      (case v_LAST_YEAR => k_is)
      (case vr_LAST_YEAR => exact ⟨_, rfl⟩)
      (case v_DAYS_OF_FOUR_YEARS => k_is)
      (case vr_DAYS_OF_FOUR_YEARS => exact ⟨_, rfl⟩)
      (case v_DAYS_OF_MONTHS => k_is)
      (case vl_DAYS_OF_MONTHS => k_is)
      (case vz_DAYS_OF_MONTHS => decide)
      (case vr_DAYS_OF_MONTHS => exact (.cons ⟨_, rfl⟩ (.cons ⟨_, rfl⟩ (.cons ⟨_, rfl⟩ (.cons ⟨_, rfl⟩ (.cons ⟨_, rfl⟩ (.cons ⟨_, rfl⟩ (.cons ⟨_, rfl⟩ (.cons ⟨_, rfl⟩ (.cons ⟨_, rfl⟩ (.cons ⟨_, rfl⟩ (.cons ⟨_, rfl⟩ (.cons ⟨_, rfl⟩ .nil)))))))))))))
      (case v_MOST_MONTHS => k_is)
      (case vr_MOST_MONTHS => exact ⟨_, rfl⟩)
      (case v_MOST_TIMES => k_is)
      (case vr_MOST_TIMES => exact ⟨_, rfl⟩)
      (case n_bool => k_is)
      (case n_divmod => k_is)
      (case n_int => k_is)
      (case n_isinstance => k_is)
      (case n_max => k_is)
      (case n_min => k_is)
      (case n_range => k_is)
      (case n_sum => k_is)
    obtain ⟨_, _, _, _, _, _, hT⟩ := hT
    have ea : fa = T.a_law := by
      have z := hmg.symm.trans T.g_law
      cases z; rfl
    subst ea
    exact ⟨T.d_law, fun s u => by rw [hT]; exact .of_eq rfl, fun base _ _ => K09.ok_law T⟩
#print axioms PySem.Challenge.cw_corebank_k09_whole_due_days_holds
