import PyProof.Rows.All
import Wide.All
import OpenK.AllK
import Wide.FinOn
import HandS.ForMost
import HandS.ForExc
import HandS.Wide
import HandS.WideMore
import HandS.WideBits
import HandS.EndBits
import HandS.IsInst
import HandS.ExcIs
import HandS.HotCalls
import HandS.StrMore
import HandS.Style
import HandS.TupAny
import HandS.SortInts
import HandS.SortKw
import HandS.Walk
import HandS.SortRule
import PySem.Challenge.RW_corebank_k17_whole_splitting_a_balance
set_option Elab.async false
set_option linter.all false
set_option maxRecDepth 100000
set_option maxHeartbeats 4000000
/-! What all the proofs share: the library's errors, lists joined, the def that tells an error's kinds. -/
namespace Kv
open PySem PySem.Spec PyProof.Rows L2
abbrev Frag := PySem.W.Frag
inductive Er where
  | badValue | badDay | missing | refused | full | notAllowed | damaged
  deriving DecidableEq
def Er.nm : Er → Str
  | .badValue => "BadValue" | .badDay => "BadDay" | .missing => "Missing" | .refused => "Refused" | .full => "Full" | .notAllowed => "NotAllowed" | .damaged => "Damaged"
def Er.every : List Er := [.badValue, .badDay, .missing, .refused, .full, .notAllowed, .damaged]
theorem Er.mem (e : Er) : e ∈ Er.every := by cases e <;> decide
abbrev veChain : List Value := [.type "ValueError", .type "Exception", .type "BaseException", .type "object"]
/-- what the written part must say of one error class -/
def errOne (K : Frag) (a : Er → Addr) (b : Addr) (e : Er) : Bool :=
  PySem.W.excIn K (a e) veChain "ValueError.__new__" && PySem.W.keepIn K (.ref (a e)) && (PySem.W.subIn K (.ref (a e)) (.type "BaseException") == some true) && (PySem.W.typeIn K (.ref (a e)) == some (.type "type")) &&
  (PySem.W.findIn K (.ref (a e)) "__getattribute__" == some (some (.builtin "BaseException.__getattribute__"))) && (PySem.W.findIn K (.ref (a e)) "__getattr__" == some none) && PySem.W.hasDictIn K (a e) &&
  (PySem.W.findIn K (.ref (a e)) "__class__" == some (some (.builtin "object.__class__"))) && (PySem.W.mroIn K (a e) (.type "object") == some true) && (PySem.W.exmOne K (.ref (a e)) (.ref b) == some true) &&
  Er.every.all fun d => PySem.W.kitOne K (.ref (a e)) (.ref (a d)) == some (decide (e = d))
def errAll (K : Frag) (a : Er → Addr) (b : Addr) : Bool :=
  (PySem.W.specialIn K (.builtin "object.__class__") "__get__" == some (some (.builtin "getset_descriptor.__get__"))) && (PySem.W.takesIn K (.builtin "object.__class__") == some true) && Er.every.all (errOne K a b)
structure Errs (K : Frag) (mg : Str → Option Value) where
  exa : Er → Addr
  exg : ∀ e, mg e.nm = some (.ref (exa e))
  a_BankError : Addr
  g_BankError : mg "BankError" = some (.ref a_BankError)
  exAll : errAll K exa a_BankError = true
namespace Errs
variable {K : Frag} {mg : Str → Option Value} (T : Errs K mg)
theorem one (e : Er) : errOne K T.exa T.a_BankError e = true := by
  have h := T.exAll
  unfold errAll at h
  simp only [Bool.and_eq_true, List.all_eq_true] at h
  exact h.2 e e.mem
theorem split (e : Er) : PySem.W.excIn K (T.exa e) veChain "ValueError.__new__" = true ∧ PySem.W.keepIn K (.ref (T.exa e)) = true ∧ PySem.W.subIn K (.ref (T.exa e)) (.type "BaseException") = some true ∧ PySem.W.typeIn K (.ref (T.exa e)) = some (.type "type") ∧
    ExcC K (T.exa e) ∧ PySem.W.exmOne K (.ref (T.exa e)) (.ref T.a_BankError) = some true ∧ ∀ d, PySem.W.kitOne K (.ref (T.exa e)) (.ref (T.exa d)) = some (decide (e = d)) := by
  have h := T.one e
  have g := T.exAll
  unfold errOne at h
  unfold errAll at g
  simp only [Bool.and_eq_true, List.all_eq_true, beq_iff_eq] at h g
  obtain ⟨⟨⟨⟨⟨⟨⟨⟨⟨⟨h1, h2⟩, h3⟩, h4⟩, h5⟩, h6⟩, h7⟩, h8⟩, h9⟩, h10⟩, h11⟩ := h
  exact ⟨h1, h2, h3, h4, ⟨h5, h6, h3, h7, h8, g.1.1, g.1.2, h9⟩, h10, fun d => h11 d d.mem⟩
theorem exx (e : Er) : PySem.W.excIn K (T.exa e) veChain "ValueError.__new__" = true := (T.split e).1
theorem exk (e : Er) : PySem.W.keepIn K (.ref (T.exa e)) = true := (T.split e).2.1
theorem exb (e : Er) : PySem.W.subIn K (.ref (T.exa e)) (.type "BaseException") = some true := (T.split e).2.2.1
theorem ext (e : Er) : PySem.W.typeIn K (.ref (T.exa e)) = some (.type "type") := (T.split e).2.2.2.1
theorem exc (e : Er) : ExcC K (T.exa e) := (T.split e).2.2.2.2.1
theorem exm (e : Er) : PySem.W.exmOne K (.ref (T.exa e)) (.ref T.a_BankError) = some true := (T.split e).2.2.2.2.2.1
theorem exi (e d : Er) : PySem.W.kitOne K (.ref (T.exa e)) (.ref (T.exa d)) = some (decide (e = d)) := (T.split e).2.2.2.2.2.2 d
end Errs

/-- .. where the text has some of the classes alone -/
def errAllP (K : Frag) (a : Er → Addr) (b : Addr) (es : List Er) : Bool :=
  (PySem.W.specialIn K (.builtin "object.__class__") "__get__" == some (some (.builtin "getset_descriptor.__get__"))) && (PySem.W.takesIn K (.builtin "object.__class__") == some true) && es.all fun e =>
  PySem.W.excIn K (a e) veChain "ValueError.__new__" && PySem.W.keepIn K (.ref (a e)) && (PySem.W.subIn K (.ref (a e)) (.type "BaseException") == some true) && (PySem.W.typeIn K (.ref (a e)) == some (.type "type")) &&
  (PySem.W.exmOne K (.ref (a e)) (.ref b) == some true)
structure ErrsP (K : Frag) (mg : Str → Option Value) (es : List Er) where
  exa : Er → Addr
  exgP : ∀ e, e ∈ es → mg e.nm = some (.ref (exa e))
  a_BankError : Addr
  g_BankError : mg "BankError" = some (.ref a_BankError)
  exAll : errAllP K exa a_BankError es = true
namespace ErrsP
variable {K : Frag} {mg : Str → Option Value} {es : List Er} (T : ErrsP K mg es)
theorem split (e : Er) (he : e ∈ es) : PySem.W.excIn K (T.exa e) veChain "ValueError.__new__" = true ∧ PySem.W.keepIn K (.ref (T.exa e)) = true ∧ PySem.W.subIn K (.ref (T.exa e)) (.type "BaseException") = some true ∧ PySem.W.typeIn K (.ref (T.exa e)) = some (.type "type") ∧
    PySem.W.exmOne K (.ref (T.exa e)) (.ref T.a_BankError) = some true := by
  have g := T.exAll
  unfold errAllP at g
  simp only [Bool.and_eq_true, List.all_eq_true, beq_iff_eq] at g
  obtain ⟨⟨⟨⟨h1, h2⟩, h3⟩, h4⟩, h5⟩ := g.2 e he
  exact ⟨h1, h2, h3, h4, h5⟩
theorem exg (e : Er) (he : e ∈ es := by decide) : mg e.nm = some (.ref (T.exa e)) := T.exgP e he
theorem exx (e : Er) (he : e ∈ es := by decide) : PySem.W.excIn K (T.exa e) veChain "ValueError.__new__" = true := (T.split e he).1
theorem exk (e : Er) (he : e ∈ es := by decide) : PySem.W.keepIn K (.ref (T.exa e)) = true := (T.split e he).2.1
theorem exb (e : Er) (he : e ∈ es := by decide) : PySem.W.subIn K (.ref (T.exa e)) (.type "BaseException") = some true := (T.split e he).2.2.1
theorem ext (e : Er) (he : e ∈ es := by decide) : PySem.W.typeIn K (.ref (T.exa e)) = some (.type "type") := (T.split e he).2.2.2.1
theorem exm (e : Er) (he : e ∈ es := by decide) : PySem.W.exmOne K (.ref (T.exa e)) (.ref T.a_BankError) = some true := (T.split e he).2.2.2.2
end ErrsP

/-! ### two lists joined, whatever may be read of them -/
section
variable {X : Cx}
def rCatS (K : Frag) : R2 := fun x y H Q => ∃ l b xs zs, x = .ref l ∧ y = .ref b ∧ SqL K H l xs ∧ SqL K H b zs ∧ xs.length + zs.length ≤ sizeLine ∧ ∀ p, H p = none → Q (.ref p) (upd H p (.lst (xs ++ zs)))
theorem op_catS : OpR X (binaryOp .Add) (rCatS X.K) := by
  intro pins s σ H x y v u Q I rx ry h
  obtain ⟨l, b, xs, zs, e1, e2, hl, hb, hz, q⟩ := h
  subst e1 e2
  cases rx
  cases ry
  obtain ⟨i1, r1, p1, z1⟩ := I.list hl
  obtain ⟨i2, r2, p2, z2⟩ := I.list hb
  obtain ⟨⟨c1, d1, t1, w1⟩, n1, g1, k1, m1, j1⟩ := p1
  obtain ⟨⟨c2, d2, t2, w2⟩, n2, g2, k2, m2, j2⟩ := p2
  dsimp only at k1 m1 j1 k2 m2 j2
  subst k1 m1 j1 k2 m2 j2
  have l1 := r1.length
  have l2 := r2.length
  have fits : i1.toArray.size + i2.toArray.size ≤ sizeLine := by
    rw [List.size_toArray, List.size_toArray]
    omega
  have joined : i1.toArray ++ i2.toArray = (i1 ++ i2).toArray := by simp
  have meets := list_addW l b i1.toArray i2.toArray n1 n2 none none w1 w2 fits
  refine concat_meets (s := s) ⟨_, g1, rfl⟩ ⟨_, g2, rfl⟩ noFill_list_add seq_list_add
    PySem.F.slot_list_add PySem.F.entry_list_add (PySem.F.args_list_add_2 _ _) meets ⟨g1, g2, ?_⟩
  rw [joined]
  exact ⟨.ref _, _, I.lnew (t' := s.toks) (r1.append r2) (by rw [List.length_append]; exact hz), rfl, q _ I.fresh⟩
end

/-! ### a def that is handed the error which a suite holds, and tells its kind -/
section
variable {P : Program} {w : World} {K : Frag} {mg : Str → Option Value} {base : Heap}
structure KindsOk (P : Program) (w : World) (K : Frag) (mg : Str → Option Value) (base : Heap) (T : Errs K mg) (lv : Nat) (f : Addr) (fd : FuncData) : Prop where
  run : ∀ (A : Around) (outer : List Env) (s : Shared) (H : Hp) (args : Args) (us : List Value) (Q : VK) (p : Addr × Obj) (er : Er), L2H.RoomH lv A → L2H.PinOk outer H s p → Zc (.ref (T.exa er)) none p.2 → (∃ vs, p.2.data = .fields vs) →
    Env0 P w K mg base A outer s H → BindsTo s fd args ((["error"] : List Str).zip us) → Vals [.ref p.1] us → (∀ q, H q = none → Q (.ref q) (upd H q (.lst [.str er.nm]))) →
    codeAny (model P w) A (.call (.ref f) args) (CR CX0 outer P w H s Q E0) s
/-- isinstance of an error that every state bears -/
def rIsP (K : Frag) (D a : Addr) : List V → Hp → VK → Prop := fun xs H Q => ∃ (C : Addr) (b : Bool), xs = [.ref a, .ref C] ∧ PySem.W.kitOne K (.ref D) (.ref C) = some b ∧ Q (.bl b) H
theorem call_isP {X : Cx} {D : Addr} {p : Addr × Obj} (hp : p ∈ X.pn) (C : ExcC X.K D) (hz : Zc (.ref D) none p.2) (hf : ∃ vs, p.2.data = .fields vs) : CallR X (.builtin "isinstance") (rIsP X.K D p.1) := by
  intro pins s σ H xs us Q I r h
  obtain ⟨c, b, e1, e, q⟩ := h
  subst e1
  cases r with
  | cons rx rr =>
    cases rr with
    | cons rt rr2 =>
      cases rr2
      cases rx
      cases rt
      have hget := (I.pin p (List.mem_append.mpr (.inl hp))).1
      have J : PySem.W.InstAt s.heap p.1 p.2 D none := by
        obtain ⟨pa, oc, od, oda, osl⟩ := p
        obtain ⟨vs, hv⟩ := hf
        obtain ⟨h1, h2⟩ := hz
        dsimp only at h1 h2 hv hget ⊢
        subst h1 h2 hv
        exact ⟨hget, rfl, rfl, trivial⟩
      have kit := PySem.W.handS_kitx_exc C.hg C.hk C.hs C.hd C.ha C.hn C.ht C.hm (x := p.1) (ox := p.2)
      exact PySem.W.kia_one kit I.kIn J e (fun z => nomatch z) fun tk => ⟨.bl b, H, I.kept (t' := tk) fun _ _ z => z, rfl, q⟩
/-- such a def by its body -/
theorem kinds_of {T : Errs K mg} {lv : Nat} {f : Addr} {fd : FuncData} {st : Stmt} {N : List Str} (F : Fun K "_law_kinds" "_law_kinds" st f fd) (S : FnScope N ["error"] (defScope st))
    (hb : ∀ (cdv : Value) (A : Around) (outer : List Env) (s : Shared) (H : Hp) (Q : VK) (p : Addr × Obj) (er : Er), Zc (.ref (T.exa er)) none p.2 → (∃ vs, p.2.data = .fields vs) → (∀ q, H q = none → Q (.ref q) (upd H q (.lst [.str er.nm]))) →
      ∃ t, PSs (L2H.cxH CX0 P w K mg base N "_law_kinds" (defScope st) f cdv A outer s H E0 p) (defBody st) t ∧ t { nx := fun _ H' => Q .non H', rt := Q } (start N [.ref p.1]) H) :
    KindsOk P w K mg base T (lv + 1) f fd := by
  obtain ⟨oc, od, kV, doc, pm, an, cdv, ct, osl, rfl, lk, hcd⟩ := F.ex
  refine ⟨fun A outer s H args us Q p er hr hpin hz hf e0 hbi r hk => ?_⟩
  have KX : K.In s.heap := e0.mod.kin.keeps fun b o e => (e0.bs b o e).1
  have lim : s.heap.NoLimit := e0.mod.nolimit.keeps fun b o e => (e0.bs b o e).1
  have kinds : ∀ y ∈ (["error"] : List Str).zip us, (defScope st).names.lookup y.1 = some .local ∨ ((defScope st).names.lookup y.1 = some .cell ∧ ((cellsFrom (s.heap.objs.size + 1) (defScope st).names []).lookup y.1).isSome = true) := by
    intro ⟨n, v⟩ hy
    rcases S.par n (List.of_mem_zip hy).1 with z | z
    · exact .inl z
    · exact .inr ⟨z, PySem.W.cellsFrom_some _ _ _ (.inl z)⟩
  refine codeAny_call_function hr.depth (KX _ _ lk) rfl S.co S.gen rfl (PySem.W.codeRec_of KX hcd) (hbi _ _ _ _ ?_)
  refine wpAny_newFunctionEnv_cells S.kind kinds fun env he s1 x => ?_
  subst he
  refine ⟨lim.keeps x.toInCall.keep, codeAny_func ?_⟩
  obtain ⟨t, ht, hq⟩ := hb cdv A outer s H Q p er hz hf hk
  have I := L2H.inv_startH (CX := CX0) (E := E0) S hpin e0 (show ([.ref p.1] : List V).length = (["error"] : List Str).length from rfl) r x
  refine wpAny_mono (ht.run [] s1 _ H _ I hq) (fun fl s' hs => ?_) fun e s' hs => hs
  have fin : ∀ {σ' : L2.St} {H' : Hp} {v : V} {u : Value}, Inv _ [] σ' H' s' → RelV v u → Q v H' → CE outer P w H s Q u s' :=
    fun {σ' H' v u} (J : Inv (L2H.cxH CX0 P w K mg base N "_law_kinds" (defScope st) f cdv A outer s H E0 p) [] σ' H' s') rv qq => ⟨v, H', J.os, J.bare, J.base, J.hok, rv, qq⟩
  cases fl with
  | next =>
    obtain ⟨σ', H', J, qq⟩ := hs
    exact fin (v := V.non) (u := Value.none) J rfl qq
  | ret u =>
    obtain ⟨v, σ', H', J, rv, qq⟩ := hs
    exact fin J rv qq
  | brk =>
    obtain ⟨_, _, _, qq⟩ := hs
    exact qq.elim
  | cont =>
    obtain ⟨_, _, _, qq⟩ := hs
    exact qq.elim
end
section
variable {X : Cx} {CX : CXT} {f : Addr} {fd : FuncData} {lv : Nat} {x : Str} {q pos : Pos} {e : Expr} {te : TE}
/-- kinds(e), e the error that the suite holds -/
def tKinds {K : Frag} {mg : Str → Option Value} (T : Errs K mg) (cls : Value) (d : Option Addr) (a : Addr) (ta : TA) : TE := fun σ H Q => ta σ H fun vs H1 => vs = [.ref a] ∧ d = none ∧ ∃ er, cls = .ref (T.exa er) ∧ ∀ r, H1 r = none → Q (.ref r) (upd H1 r (.lst [.str er.nm]))
theorem pe_kinds {a : Addr} {oe : Obj} {cls : Value} {d : Option Addr} {P : Program} {w : World} {K : Frag} {mg : Str → Option Value} {base : Heap} {T : Errs K mg} {ta : TA} (F : KindsOk P w K mg base T lv f fd) (hz : Zc cls d oe) (hf : ∃ vs, oe.data = .fields vs) (hp : (a, oe) ∈ X.pn) (hr : L2H.RoomH lv X.A) (hg : Gl X x)
    (hm : X.mg x = some (.ref f)) (hk : PySem.W.keepIn K (.ref f) = true) (hb : Binds K fd ["error"] []) (ha : PA X [e] ta) (hP : X.prog = P := by rfl) (hw : X.w = w := by rfl) (hK : X.K = K := by rfl) (hM : X.mg = mg := by rfl) (hB : X.base = base := by rfl) (hdb : (x == ("__debug__" : Str)) = false := by decide)
    (he : starEach (e :: []) X.env = (false, eval e X.env) :: starEach [] X.env := by rfl) (hpl : (backTo pos (starEach [] X.env)).any (·.1) = false := by rfl) :
    PE X (.Call (.Name x q) [e] [] pos) (tKinds T cls d a ta) := by
  subst hP hw hK hM hB
  refine ⟨fun pins s σ H Q I h => ?_⟩
  refine wpAny_Call_Name_kw (ld_glob I hg hm ?_ hdb)
  refine PySem.W.callWith_K (h₀ := X.base) I.ok.mod.kin hk (thn (ha.run pos pins s σ H _ I h) fun us s1 ⟨vs, H1, I1, r, e1, e2, er, e3, k⟩ => ⟨I1.kIn, ?_⟩) he hpl
  subst e1 e2 e3
  have P1 := I1.pin (a, oe) (List.mem_append.mpr (.inl hp))
  have hl : us.length = 1 := r.length.symm
  have b := hb s1 us I1.kIn (by rw [List.append_nil]; exact hl)
  rw [List.append_nil] at b
  have hpin : L2H.PinOk X.stack H1 s1 (a, oe) := ⟨P1.1, P1.2.1, fun hm => (List.mem_cons.mp (I1.stkSub a hm)).elim P1.2.2.1 P1.2.2.2.1, P1.2.2.2.2⟩
  refine wpAny_call (codeAny_mono (F.run _ X.stack s1 H1 ⟨us, []⟩ us Q (a, oe) er hr hpin hz hf I1.env0 b r k) fun r' s' hq => ?_)
  cases r' with
  | error e => exact False.elim hq
  | ok fl =>
    cases fl with
    | ret u => exact I1.after hq
    | next => exact False.elim hq
    | brk => exact False.elim hq
    | cont => exact False.elim hq
end
/-! ### what may be compared -/
theorem sc_ii {a b : Int} : scal (.int a) (.int b) = true := rfl
theorem sc_ss {a b : Str} : scal (.str a) (.str b) = true := rfl
theorem sc_bb {a b : Bool} : scal (.bl a) (.bl b) = true := rfl
theorem sc_nn : scal .non .non = true := rfl
theorem sc_ni {a : Int} : scal .non (.int a) = true := rfl
theorem sc_in {a : Int} : scal (.int a) .non = true := rfl
theorem sc_sn {a : Str} : scal (.str a) .non = true := rfl
theorem sc_ns {a : Str} : scal .non (.str a) = true := rfl
theorem sc_bn {a : Bool} : scal (.bl a) .non = true := rfl
theorem sc_nb {a : Bool} : scal .non (.bl a) = true := rfl
theorem sc_is {a : Int} {b : Str} : scal (.int a) (.str b) = true := rfl
theorem sc_si {a : Int} {b : Str} : scal (.str b) (.int a) = true := rfl
theorem isi_int {K : Frag} {z : Int} {n : String} {b : Bool} {H : Hp} {Q : VK} (h : kitB "int" n = some b) (q : Q (.bl b) H) : rIsi K [.int z, .ty n] H Q := ⟨_, _, .type "int", .type n, b, rfl, .ty _, .base (.int _), kit_ty h, q⟩
theorem isi_bl {K : Frag} {z : Bool} {n : String} {b : Bool} {H : Hp} {Q : VK} (h : kitB "bool" n = some b) (q : Q (.bl b) H) : rIsi K [.bl z, .ty n] H Q := ⟨_, _, .type "bool", .type n, b, rfl, .ty _, .base (.bl _), kit_ty h, q⟩
theorem isi_str {K : Frag} {z : Str} {n : String} {b : Bool} {H : Hp} {Q : VK} (h : kitB "str" n = some b) (q : Q (.bl b) H) : rIsi K [.str z, .ty n] H Q := ⟨_, _, .type "str", .type n, b, rfl, .ty _, .base (.str _), kit_ty h, q⟩
theorem isi_non {K : Frag} {n : String} {b : Bool} {H : Hp} {Q : VK} (h : kitB "NoneType" n = some b) (q : Q (.bl b) H) : rIsi K [.non, .ty n] H Q := ⟨_, _, .type "NoneType", .type n, b, rfl, .ty _, .base .non, kit_ty h, q⟩
/-! ### in a comprehension's block: what is read is told by the outer K -/
theorem ixl (K : Frag) {X : Cx} (h : X.K = K := by rfl) : IxR X (rIxL K) := by subst h; exact ix_list
theorem ixt (K : Frag) {X : Cx} (h : X.K = K := by rfl) : IxR X (rIxT K) := by subst h; exact ix_tup
/-! ### small words -/
theorem ne_fresh {H : Hp} {p q : Addr} {o : HO} (h : upd H p o q = none) : q ≠ p := by
  intro e
  subst e
  rw [upd_same] at h
  cases h
theorem fresh_was {H : Hp} {p q : Addr} {o : HO} (h : upd H p o q = none) : H q = none := by
  have e := ne_fresh h
  rw [upd_ne e] at h
  exact h
theorem same_upd {H : Hp} {p : Addr} {o : HO} (h : H p = none) : Same H (upd H p o) := fun b u e => by
  rw [upd_ne (ne_of_none e h)]
  exact e
/-- behind a store to what was not there at first -/
theorem same_mut {H H' : Hp} {p : Addr} {o : HO} (h : H p = none) (k : Same H H') : Same H (upd H' p o) := fun b u e => by
  rw [upd_ne (ne_of_none e h)]
  exact k b u e
theorem same_fresh {H H' : Hp} {p : Addr} (k : Same H H') (h : H' p = none) : H p = none := k.free h
theorem same_tup {K : Frag} {H H' : Hp} {a : Addr} {xs : List V} (e : Same H H') (h : SqT K H a xs) : SqT K H' a xs := by
  rcases h with (h | ⟨o, h⟩) | h
  · exact .inl (.inl (e _ _ h))
  · exact .inl (.inr ⟨o, e _ _ h⟩)
  · exact .inr h
/-- a tuple stays where a list is written -/
theorem tup_keep {H : Hp} {r a : Addr} {xs ys zs : List V} (hr : H r = some (.tup ys)) (ha : H a = some (.lst xs)) : (upd H a (.lst zs)) r = some (.tup ys) := by
  rw [upd_ne (ne_of hr ha (by intro z; cases z))]
  exact hr
theorem bits64 {k : Int} (h1 : -(2 ^ 64) < k) (h2 : k < 2 ^ 64) : Builtin.Int.intBits k ≤ 64 := intBits_le_64 h1 h2
theorem bitsPow {k : Int} {n : Nat} (h0 : 0 < n) (h1 : -(2 ^ n) < k) (h2 : k < 2 ^ n) : Builtin.Int.intBits k ≤ n := by
  have z : k.natAbs < 2 ^ n := by
    have e : ((2 ^ n : Nat) : Int) = (2 : Int) ^ n := by simp
    omega
  unfold Builtin.Int.intBits
  split
  · omega
  · have := PySem.Flt.log2_lt_of h0 z
    omega
theorem bits_mono {i j : Int} (h : i.natAbs ≤ j.natAbs) : Builtin.Int.intBits i ≤ Builtin.Int.intBits j := by
  unfold Builtin.Int.intBits
  by_cases c : i = 0
  · rw [if_pos (beq_iff_eq.mpr c)]
    exact Nat.zero_le _
  · have hj : ¬ j = 0 := by omega
    rw [if_neg (fun z => hj (beq_iff_eq.mp z)), if_neg (fun z => c (beq_iff_eq.mp z))]
    have hi : i.natAbs ≠ 0 := by omega
    have hj' : j.natAbs ≠ 0 := by omega
    have z : i.natAbs.log2 ≤ j.natAbs.log2 := (Nat.le_log2 hj').mpr (Nat.le_trans (Nat.log2_self_le hi) h)
    omega
theorem mulX {i j : Int} {a b : Nat} (h1 : Builtin.Int.intBits i ≤ a) (h2 : Builtin.Int.intBits j ≤ b) (h : a + b ≤ 134217728 := by decide) : CMulX i j := by
  unfold CMulX
  omega
theorem ix_num {K : Frag} {a : Addr} {ns : List Int} {k : Int} {H : Hp} {Q : VK} (hS : SqL K H a (ns.map V.int)) (h : 0 ≤ k ∧ k < (ns.length : Int)) (q : Q (.int (ns.getD k.toNat 0)) H) : rIxL K (.ref a) (.int k) H Q := by
  refine ⟨a, _, k, _, rfl, rfl, hS, ?_, q⟩
  have e : (ns.map V.int)[k.toNat]? = some (V.int (ns.getD k.toNat 0)) := by
    rw [List.getElem?_map, List.getD_eq_getElem?_getD]
    have z : k.toNat < ns.length := by omega
    rw [List.getElem?_eq_getElem z]
    rfl
  exact at_of (j := k.toNat) (by omega) e
theorem ix_at {K : Frag} {a : Addr} {xs : List V} {k : Int} {v : V} {H : Hp} {Q : VK} (hS : SqL K H a xs) (h : 0 ≤ k) (e : xs[k.toNat]? = some v) (q : Q v H) : rIxL K (.ref a) (.int k) H Q :=
  ⟨a, xs, k, v, rfl, rfl, hS, at_of (j := k.toNat) (by omega) e, q⟩
/-- what is known of a number that a law draws -/
theorem num_in {ns : List Int} (hn : ∀ z ∈ ns, 0 ≤ z ∧ z < 10000000000000) (k : Nat) : 0 ≤ ns.getD k 0 ∧ ns.getD k 0 < 10000000000000 := by
  rw [List.getD_eq_getElem?_getD]
  cases e : ns[k]? with
  | none => exact ⟨by decide, by decide⟩
  | some z => exact hn z (List.mem_of_getElem? e)
theorem ix_sign {z : Str} {k : Int} {H : Hp} {Q : VK} (hz : z.length ≤ sizeLine) (h : 0 ≤ k ∧ k < (z.length : Int)) (q : ∀ c, z.cps.toList[k.toNat]? = some c → Q (.str ⟨#[c]⟩) H) : rIxS (.str z) (.int k) H Q := by
  have hl : k.toNat < z.cps.toList.length := by
    rw [Array.length_toList]
    show k.toNat < z.length
    omega
  have e : z.cps.toList[k.toNat]? = some z.cps.toList[k.toNat] := List.getElem?_eq_getElem hl
  refine ⟨z, k, _, rfl, rfl, hz, ?_, q _ e⟩
  unfold atI
  rw [show ixN z.cps.toList.length k = some k.toNat by unfold ixN; rw [if_pos h.1, if_pos (by omega)]]
  exact e
theorem ix_signc {z : Str} {k : Int} {c : Nat} {H : Hp} {Q : VK} (hz : z.length ≤ sizeLine) (h : 0 ≤ k) (e : z.cps.toList[k.toNat]? = some c) (q : Q (.str ⟨#[c]⟩) H) : rIxS (.str z) (.int k) H Q := by
  have hl : k.toNat < z.cps.toList.length := (List.getElem?_eq_some_iff.mp e).1
  refine ⟨z, k, c, rfl, rfl, hz, ?_, q⟩
  unfold atI
  rw [show ixN z.cps.toList.length k = some k.toNat by unfold ixN; rw [if_pos h, if_pos (by omega)]]
  exact e
theorem len_one (c : Nat) : (⟨#[c]⟩ : Str).length = 1 := rfl
theorem ref_num {ns : List Int} {i : Nat} {x : V} (h : (ns.map V.int)[i]? = some x) : ∃ z, ns[i]? = some z ∧ x = .int z := by
  rw [List.getElem?_map] at h
  cases e : ns[i]? with
  | none => rw [e] at h; cases h
  | some z => rw [e] at h; exact ⟨z, rfl, (Option.some.inj h).symm⟩
/-! ### one statement at a time -/
theorem seq_step {t u : TS} {D : Ends} {σ : L2.St} {H : Hp} (h : ∀ U : Ends → L2.St → Hp → Prop, U = u → t { D with nx := U D } σ H) : tSeq t u D σ H := h u rfl
theorem gseq_step {t u : TS} {D : Ends} {i : Nat} {x : V} {σ : L2.St} {H : Hp} (h : ∀ U : Ends → L2.St → Hp → Prop, U = u → t { D with nx := U D } (σ.set i (some x)) H) : gName i x σ H fun σ2 H2 => tSeq t u D σ2 H2 := h u rfl
/-- .. what stands between the two told -/
theorem seq_cut {t u : TS} {D : Ends} {σ : L2.St} {H : Hp} (M : L2.St → Hp → Prop) (h1 : ∀ U : L2.St → Hp → Prop, (∀ σ' H', M σ' H' → U σ' H') → t { D with nx := U } σ H) (h2 : ∀ σ' H', M σ' H' → u D σ' H') : tSeq t u D σ H := h1 (u D) h2
/-! ### a tuple taken apart -/
theorem gtup2 {K : Frag} {p : Addr} {x y : V} {g1 g2 : TG} {σ : L2.St} {H : Hp} {k : L2.St → Hp → Prop} (h : SqT K H p [x, y]) (q : g1 x σ H fun σ1 H1 => g2 y σ1 H1 k) (mono : ∀ v σ H, (∀ Q Q' : L2.St → Hp → Prop, (∀ a b, Q a b → Q' a b) → g1 v σ H Q → g1 v σ H Q') ∧ (∀ Q Q' : L2.St → Hp → Prop, (∀ a b, Q a b → Q' a b) → g2 v σ H Q → g2 v σ H Q')) : gTup K 2 (gCons g1 (gCons g2 gNil)) (.ref p) σ H k :=
  ⟨p, _, rfl, h, rfl, x, [y], rfl, (mono _ _ _).1 _ _ (fun σ1 H1 q1 => ⟨y, [], rfl, (mono _ _ _).2 _ _ (fun _ _ q2 => ⟨rfl, q2⟩) q1⟩) q⟩
theorem gtupN2 {K : Frag} {p : Addr} {x y : V} {i j : Nat} {σ : L2.St} {H : Hp} {k : L2.St → Hp → Prop} (h : SqT K H p [x, y]) (q : k ((σ.set i (some x)).set j (some y)) H) : gTup K 2 (gCons (gName i) (gCons (gName j) gNil)) (.ref p) σ H k :=
  ⟨p, _, rfl, h, rfl, x, [y], rfl, y, [], rfl, rfl, q⟩
theorem gtupN3 {K : Frag} {p : Addr} {x y z : V} {i j l : Nat} {σ : L2.St} {H : Hp} {k : L2.St → Hp → Prop} (h : SqT K H p [x, y, z]) (q : k (((σ.set i (some x)).set j (some y)).set l (some z)) H) : gTup K 3 (gCons (gName i) (gCons (gName j) (gCons (gName l) gNil))) (.ref p) σ H k :=
  ⟨p, _, rfl, h, rfl, x, [y, z], rfl, y, [z], rfl, z, [], rfl, rfl, q⟩
/-! ### lists of texts, lists of ints compared -/
theorem dp_strs {K : Frag} {H : Hp} : ∀ xs : List Str, DpAll K H (xs.map V.str) (xs.map PyData.str)
  | [] => .nil
  | x :: r => .cons (.str x) (dp_strs r)
theorem dp_ints {K : Frag} {H : Hp} : ∀ xs : List Int, DpAll K H (xs.map V.int) (xs.map PyData.int)
  | [] => .nil
  | x :: r => .cons (.int x) (dp_ints r)
theorem eqv_strs : ∀ xs ys : List Str, PyData.eqvAll (xs.map PyData.str) (ys.map PyData.str) = decide (xs = ys)
  | [], [] => by simp [PyData.eqvAll]
  | [], y :: ys => by simp [PyData.eqvAll]
  | x :: xs, [] => by simp [PyData.eqvAll]
  | x :: xs, y :: ys => by
    have ih := eqv_strs xs ys
    simp only [List.map_cons, PyData.eqvAll, PyData.eqv, ih, List.cons.injEq]
    by_cases e : x = y <;> simp [e]
theorem eqv_ints : ∀ xs ys : List Int, PyData.eqvAll (xs.map PyData.int) (ys.map PyData.int) = decide (xs = ys)
  | [], [] => by simp [PyData.eqvAll]
  | [], y :: ys => by simp [PyData.eqvAll]
  | x :: xs, [] => by simp [PyData.eqvAll]
  | x :: xs, y :: ys => by
    have ih := eqv_ints xs ys
    simp only [List.map_cons, PyData.eqvAll, PyData.eqv, ih, List.cons.injEq]
    by_cases e : x = y <;> simp [e]
theorem lay_strs : ∀ xs : List Str, xs.all PyData.strOk = true → PyData.canLayAll0 (xs.map PyData.str) = true
  | [], _ => rfl
  | x :: r, h => by
    rw [List.all_cons, Bool.and_eq_true] at h
    simp only [List.map_cons, PyData.canLayAll0, PyData.canLay0, h.1, lay_strs r h.2, Bool.and_self]
theorem lay_ints : ∀ xs : List Int, PyData.canLayAll0 (xs.map PyData.int) = true
  | [] => rfl
  | x :: r => by simp only [List.map_cons, PyData.canLayAll0, PyData.canLay0, lay_ints r, Bool.and_self]
theorem flat_strs : ∀ xs : List Str, PyData.depthAll (xs.map PyData.str) = 0
  | [] => rfl
  | x :: r => by simp only [List.map_cons, PyData.depthAll, PyData.depth, flat_strs r, Nat.max_self]
theorem flat_ints : ∀ xs : List Int, PyData.depthAll (xs.map PyData.int) = 0
  | [] => rfl
  | x :: r => by simp only [List.map_cons, PyData.depthAll, PyData.depth, flat_ints r, Nat.max_self]
theorem shaped_strs {xs : List Str} (h : xs.all PyData.strOk = true) : SeqAt.shaped (.list (xs.map PyData.str)) = true := by
  unfold SeqAt.shaped
  simp only [PyData.canLay0, lay_strs xs h, PyData.depth, flat_strs, Bool.true_and]
  decide
theorem shaped_ints {xs : List Int} : SeqAt.shaped (.list (xs.map PyData.int)) = true := by
  unfold SeqAt.shaped
  simp only [PyData.canLay0, lay_ints xs, PyData.depth, flat_ints, Bool.true_and]
  decide
theorem ne_strs {K : Frag} {H : Hp} {p q : Addr} {xs ys : List Str} {Q : VK} (hp : SqL K H p (xs.map V.str)) (hq : SqL K H q (ys.map V.str)) (ox : xs.all PyData.strOk = true) (oy : ys.all PyData.strOk = true) (k : Q (.bl (!decide (xs = ys))) H) : rNeD K (.ref p) (.ref q) H Q :=
  ⟨_, _, .lst hp (dp_strs xs), .lst hq (dp_strs ys), shaped_strs ox, shaped_strs oy, by simp only [PyData.eqv, eqv_strs]; exact k⟩
theorem eq_strs {K : Frag} {H : Hp} {p q : Addr} {xs ys : List Str} {Q : VK} (hp : SqL K H p (xs.map V.str)) (hq : SqL K H q (ys.map V.str)) (ox : xs.all PyData.strOk = true) (oy : ys.all PyData.strOk = true) (k : Q (.bl (decide (xs = ys))) H) : rEqD K (.ref p) (.ref q) H Q :=
  ⟨_, _, .lst hp (dp_strs xs), .lst hq (dp_strs ys), shaped_strs ox, shaped_strs oy, by simp only [PyData.eqv, eqv_strs]; exact k⟩
theorem ne_ints {K : Frag} {H : Hp} {p q : Addr} {xs ys : List Int} {Q : VK} (hp : SqL K H p (xs.map V.int)) (hq : SqL K H q (ys.map V.int)) (k : Q (.bl (!decide (xs = ys))) H) : rNeD K (.ref p) (.ref q) H Q :=
  ⟨_, _, .lst hp (dp_ints xs), .lst hq (dp_ints ys), shaped_ints, shaped_ints, by simp only [PyData.eqv, eqv_ints]; exact k⟩
theorem eq_ints {K : Frag} {H : Hp} {p q : Addr} {xs ys : List Int} {Q : VK} (hp : SqL K H p (xs.map V.int)) (hq : SqL K H q (ys.map V.int)) (k : Q (.bl (decide (xs = ys))) H) : rEqD K (.ref p) (.ref q) H Q :=
  ⟨_, _, .lst hp (dp_ints xs), .lst hq (dp_ints ys), shaped_ints, shaped_ints, by simp only [PyData.eqv, eqv_ints]; exact k⟩
/-- kinds as a law compares them -/
theorem ne_kind {K : Frag} {H : Hp} {p q : Addr} {x : Str} {Q : VK} (hp : H p = some (.lst [.str x])) (hq : H q = some (.lst [.str x])) (ox : PyData.strOk x = true) (k : Q (.bl false) H) : rNeD K (.ref p) (.ref q) H Q :=
  ne_strs (xs := [x]) (ys := [x]) (SqL.of hp) (SqL.of hq) (by simp [ox]) (by simp [ox]) (by simpa using k)
/-! ### loops -/
theorem tfor_range1 {ta : TA} {g : TG} {tb : TS} {D : Ends} {σ : L2.St} {H : Hp} {n : Int} (ha : ∀ Q : List V → Hp → Prop, Q [.int n] H → ta σ H Q) (hn : -1000000 ≤ n ∧ n ≤ 1000000) (Pv : Nat → L2.St → Hp → Prop) (h0 : Pv 0 σ H)
    (hs : ∀ (i : Nat) σ' H', (i : Int) < n → Pv i σ' H' → g (.int (i : Int)) σ' H' fun σ2 H2 => tb { D with nx := Pv (i + 1), ct := Pv (i + 1), bk := D.nx } σ2 H2) (hd : ∀ σ' H', Pv n.toNat σ' H' → D.nx σ' H') : tFor (iRng1 ta) g tb D σ H :=
  ha _ ⟨n, rfl, by omega, by omega, for_range (lo := 0) (n := n.toNat) Pv h0 (fun i σ' H' hi p => by
    rw [Int.zero_add]
    exact hs i σ' H' (by omega) p) hd⟩
theorem tfor_range2 {ta : TA} {g : TG} {tb : TS} {D : Ends} {σ : L2.St} {H : Hp} {lo hi : Int} (ha : ∀ Q : List V → Hp → Prop, Q [.int lo, .int hi] H → ta σ H Q) (hn : -1000000 ≤ lo ∧ lo ≤ 1000000 ∧ -1000000 ≤ hi ∧ hi ≤ 1000000) (Pv : Nat → L2.St → Hp → Prop) (h0 : Pv 0 σ H)
    (hs : ∀ (i : Nat) σ' H', lo + (i : Int) < hi → Pv i σ' H' → g (.int (lo + (i : Int))) σ' H' fun σ2 H2 => tb { D with nx := Pv (i + 1), ct := Pv (i + 1), bk := D.nx } σ2 H2) (hd : ∀ σ' H', Pv (hi - lo).toNat σ' H' → D.nx σ' H') : tFor (iRng2 ta) g tb D σ H :=
  ha _ ⟨lo, hi, rfl, ⟨by omega, by omega, by omega, by omega⟩, for_range (lo := lo) (n := (hi - lo).toNat) Pv h0 (fun i σ' H' hi p => hs i σ' H' (by omega) p) hd⟩
theorem tfor_lvar {K : Frag} {j : Nat} {a : Addr} {xs : List V} {g : TG} {tb : TS} {D : Ends} {σ : L2.St} {H : Hp} (hj : σ[j]? = some (some (.ref a))) (hS : SqL K H a xs) (Pv : Nat → L2.St → Hp → Prop) (h0 : Pv 0 σ H) (hl : ∀ i σ' H', i ≤ xs.length → Pv i σ' H' → SqL K H' a xs)
    (hs : ∀ i x σ' H', xs[i]? = some x → Pv i σ' H' → g x σ' H' fun σ2 H2 => tb { D with nx := Pv (i + 1), ct := Pv (i + 1), bk := D.nx } σ2 H2) (hd : ∀ σ' H', Pv xs.length σ' H' → D.nx σ' H') : tFor (iList K (tVar j)) g tb D σ H :=
  ⟨_, hj, a, rfl, ⟨xs, hS⟩, for_list (xs := xs) Pv h0 hl hs hd⟩
theorem tfor_five {K : Frag} {j : Nat} {n : Int} {a : Addr} {xs : List V} {g : TG} {tb : TS} {D : Ends} {σ : L2.St} {H : Hp} (hj : σ[j]? = some (some (.ref a))) (hS : SqL K H a xs) (hz : xs.length ≤ 100000)
    (h : ∀ b H1, Same H H1 → H1 b = some (.lst (.int n :: xs)) → H b = none → ∃ Pv : Nat → L2.St → Hp → Prop, Pv 0 σ H1 ∧ (∀ i σ' H', i ≤ (V.int n :: xs).length → Pv i σ' H' → SqL K H' b (.int n :: xs)) ∧
    (∀ i x σ' H', (V.int n :: xs)[i]? = some x → Pv i σ' H' → g x σ' H' fun σ2 H2 => tb { D with nx := Pv (i + 1), ct := Pv (i + 1), bk := D.nx } σ2 H2) ∧ (∀ σ' H', Pv (V.int n :: xs).length σ' H' → D.nx σ' H')) :
    tFor (iList K (tOp (rCatS K) (tLst (tCons (tC (.int n)) tNil)) (tVar j))) g tb D σ H := by
  refine ⟨by show 1 ≤ sizeLine; decide, fun p hp => ⟨_, hj, p, a, [.int n], xs, rfl, rfl, SqL.of upd_same, (same_upd hp).seq hS, ?_, fun b hb => ?_⟩⟩
  · show 1 + xs.length ≤ sizeLine
    exact Nat.le_trans (show 1 + xs.length ≤ 100001 by omega) (by decide)
  · have s2 : Same H (upd (upd H p (.lst [.int n])) b (.lst ([.int n] ++ xs))) := (same_upd hp).trans (same_upd hb)
    obtain ⟨Pv, h0, hl, hs, hd⟩ := h b _ s2 upd_same (fresh_was hb)
    exact ⟨b, rfl, ⟨_, SqL.of upd_same⟩, for_list (xs := V.int n :: xs) Pv h0 hl hs hd⟩
theorem tfor_list {K : Frag} {tl : TE} {g : TG} {tb : TS} {D : Ends} {σ : L2.St} {H : Hp}
    (h : tl σ H fun x H1 => ∃ a xs, x = .ref a ∧ SqL K H1 a xs ∧ ∃ Pv : Nat → L2.St → Hp → Prop, Pv 0 σ H1 ∧ (∀ i σ' H', i ≤ xs.length → Pv i σ' H' → SqL K H' a xs) ∧
      (∀ i x σ' H', xs[i]? = some x → Pv i σ' H' → g x σ' H' fun σ2 H2 => tb { D with nx := Pv (i + 1), ct := Pv (i + 1), bk := D.nx } σ2 H2) ∧ ∀ σ' H', Pv xs.length σ' H' → D.nx σ' H')
    (mono : ∀ Q Q' : VK, (∀ v H', Q v H' → Q' v H') → tl σ H Q → tl σ H Q') : tFor (iList K tl) g tb D σ H :=
  mono _ _ (fun v H' ⟨a, xs, e, hS, Pv, h0, hl, hs, hd⟩ => ⟨a, e, ⟨xs, hS⟩, for_list (xs := xs) Pv h0 hl hs hd⟩) h
theorem tfor_disp {K : Frag} {ta : TA} (vs : List V) {g : TG} {tb : TS} {D : Ends} {σ : L2.St} {H : Hp} (hz : vs.length ≤ 1000) (ha : ∀ Q : List V → Hp → Prop, (∀ H1, Same H H1 → Q vs H1) → ta σ H Q)
    (h : ∀ b H1, Same H H1 → H1 b = some (.lst vs) → H b = none → ∃ Pv : Nat → L2.St → Hp → Prop, Pv 0 σ H1 ∧ (∀ i σ' H', Pv i σ' H' → SqL K H' b vs) ∧
    (∀ i x σ' H', vs[i]? = some x → Pv i σ' H' → g x σ' H' fun σ2 H2 => tb { D with nx := Pv (i + 1), ct := Pv (i + 1), bk := D.nx } σ2 H2) ∧ (∀ σ' H', Pv vs.length σ' H' → D.nx σ' H')) :
    tFor (iList K (tLst ta)) g tb D σ H :=
  ha _ fun H1 s1 => ⟨Nat.le_trans hz (by decide), fun p hp => by
    obtain ⟨Pv, h0, hl, hs, hd⟩ := h p _ (s1.trans (same_upd hp)) upd_same (s1.free hp)
    exact ⟨p, rfl, ⟨_, SqL.of upd_same⟩, for_list (xs := vs) Pv h0 (fun i σ' H' _ => hl i σ' H') hs hd⟩⟩
/-! ### any walk -/
def ForGoal (J : It) (g : TG) (tb : TS) (D : Ends) (σ : L2.St) (H : Hp) : Prop :=
  ∃ W : Nat → Nat → L2.St → Hp → Prop, (∃ m, W 0 m σ H) ∧ ∀ i m σ H, W i m σ H →
      (J.stop i H ∧ D.nx σ H) ∨ (J.go i H ∧ ∃ N : L2.St → Hp → Prop, (∀ σ' H', N σ' H' → ∃ m', m' < m ∧ W (i + 1) m' σ' H') ∧ ∀ x H', J.yld i H x H' → g x σ H' fun σ2 H2 => tb { D with nx := N, ct := N, bk := D.nx } σ2 H2)
theorem tFor_eq {wi : TI} {g : TG} {tb : TS} {D : Ends} {σ : L2.St} {H : Hp} : tFor wi g tb D σ H = wi σ H fun J H1 => ForGoal J g tb D σ H1 := rfl
theorem for_go {J : It} {n : Nat} {G : Hp → Prop} {Y : Nat → Hp → V → Hp → Prop} (w : Walk J n G Y) {g : TG} {tb : TS} {D : Ends} {σ : L2.St} {H : Hp} (Pv : Nat → L2.St → Hp → Prop) (h0 : Pv 0 σ H) (hG : ∀ i σ H, i ≤ n → Pv i σ H → G H)
    (hs : ∀ i x σ H H', i < n → Pv i σ H → Y i H x H' → g x σ H' fun σ2 H2 => tb { D with nx := Pv (i + 1), ct := Pv (i + 1), bk := D.nx } σ2 H2) (hd : ∀ σ H, Pv n σ H → D.nx σ H) : ForGoal J g tb D σ H := for_it w Pv h0 hG hs hd
theorem for_rng {lo : Int} {n : Nat} {g : TG} {tb : TS} {D : Ends} {σ : L2.St} {H : Hp} (Pv : Nat → L2.St → Hp → Prop) (h0 : Pv 0 σ H)
    (hs : ∀ (i : Nat) σ H, i < n → Pv i σ H → g (.int (lo + (i : Int))) σ H fun σ2 H2 => tb { D with nx := Pv (i + 1), ct := Pv (i + 1), bk := D.nx } σ2 H2) (hd : ∀ σ H, Pv n σ H → D.nx σ H) : ForGoal (Itr lo n) g tb D σ H := for_range Pv h0 hs hd
theorem for_rng0 {n : Nat} {g : TG} {tb : TS} {D : Ends} {σ : L2.St} {H : Hp} (Pv : Nat → L2.St → Hp → Prop) (h0 : Pv 0 σ H)
    (hs : ∀ (i : Nat) σ H, i < n → Pv i σ H → g (.int (i : Int)) σ H fun σ2 H2 => tb { D with nx := Pv (i + 1), ct := Pv (i + 1), bk := D.nx } σ2 H2) (hd : ∀ σ H, Pv n σ H → D.nx σ H) : ForGoal (Itr 0 n) g tb D σ H :=
  for_range Pv h0 (fun i σ H hi p => by rw [Int.zero_add]; exact hs i σ H hi p) hd
theorem for_lst {K : Frag} {a : Addr} (xs : List V) {g : TG} {tb : TS} {D : Ends} {σ : L2.St} {H : Hp} (Pv : Nat → L2.St → Hp → Prop) (h0 : Pv 0 σ H) (hl : ∀ i σ H, Pv i σ H → SqL K H a xs)
    (hs : ∀ (i : Nat) x σ H, xs[i]? = some x → Pv i σ H → g x σ H fun σ2 H2 => tb { D with nx := Pv (i + 1), ct := Pv (i + 1), bk := D.nx } σ2 H2) (hd : ∀ σ H, Pv xs.length σ H → D.nx σ H) : ForGoal (Itl K a) g tb D σ H :=
  for_list Pv h0 (fun i σ H _ p => hl i σ H p) hs hd
theorem for_zp {K : Frag} {a b : Addr} (xs ys : List V) (n : Nat) (hn : n = min xs.length ys.length) {g : TG} {tb : TS} {D : Ends} {σ : L2.St} {H : Hp} (Pv : Nat → L2.St → Hp → Prop) (h0 : Pv 0 σ H) (hG : ∀ i σ H, Pv i σ H → SqL K H a xs ∧ SqL K H b ys)
    (hs : ∀ (i : Nat) x y (T : Addr) σ H, i < n → xs[i]? = some x → ys[i]? = some y → Pv i σ H → H T = none → g (.ref T) σ (upd H T (.tup [x, y])) fun σ2 H2 => tb { D with nx := Pv (i + 1), ct := Pv (i + 1), bk := D.nx } σ2 H2) (hd : ∀ σ H, Pv n σ H → D.nx σ H) : ForGoal (Itz K a b) g tb D σ H :=
  for_go (walk_zip hn) Pv h0 (fun i σ H _ p => hG i σ H p) (fun i v σ H H' hi p y => by obtain ⟨T, x, y, rfl, hT, rfl, hx, hy⟩ := y; exact hs i x y T σ H hi hx hy p hT) hd
theorem for_en {K : Frag} {a : Addr} (xs : List V) {g : TG} {tb : TS} {D : Ends} {σ : L2.St} {H : Hp} (Pv : Nat → L2.St → Hp → Prop) (h0 : Pv 0 σ H) (hG : ∀ i σ H, Pv i σ H → SqL K H a xs)
    (hs : ∀ (i : Nat) x (T : Addr) σ H, xs[i]? = some x → Pv i σ H → H T = none → g (.ref T) σ (upd H T (.tup [.int (i : Int), x])) fun σ2 H2 => tb { D with nx := Pv (i + 1), ct := Pv (i + 1), bk := D.nx } σ2 H2) (hd : ∀ σ H, Pv xs.length σ H → D.nx σ H) : ForGoal (Ite K a) g tb D σ H :=
  for_go walk_enum Pv h0 (fun i σ H _ p => hG i σ H p) (fun i v σ H H' hi p y => by obtain ⟨T, x, y, rfl, hT, rfl, hx, hy⟩ := y; cases hx; exact hs i y T σ H hy p hT) hd
/-- the law's own loop, over [n] + script -/
theorem for_cells {K : Frag} {H0 : Hp} {n : Int} {b : Addr} {ns : List Int} {g : TG} {tb : TS} {D : Ends} {σ : L2.St} (hb : H0 b = some (.lst (.int n :: ns.map V.int))) (hn : Builtin.Int.intBits n ≤ 64) (hz : ∀ z ∈ ns, Builtin.Int.intBits z ≤ 1048576) (J : L2.St → Hp → Prop) (h0 : J σ H0) (hl : ∀ σ H, J σ H → Same H0 H)
    (hs : ∀ z σ H, Builtin.Int.intBits z ≤ 1048576 → J σ H → g (.int z) σ H fun σ2 H2 => tb { D with nx := J, ct := J, bk := D.nx } σ2 H2) (hd : ∀ σ H, J σ H → D.nx σ H) : ForGoal (Itl K b) g tb D σ H0 := by
  refine for_lst (.int n :: ns.map V.int) (fun _ => J) h0 (fun _ σ H j => SqL.of (hl σ H j _ _ hb)) (fun i x σ H e j => ?_) hd
  cases i with
  | zero => cases e; exact hs n σ H (Nat.le_trans hn (by decide)) j
  | succ i =>
    obtain ⟨z, e1, rfl⟩ := ref_num (ns := ns) (i := i) e
    exact hs z σ H (hz z (List.mem_of_getElem? e1)) j
theorem tfor_cells {K : Frag} {j : Nat} {n : Int} {a : Addr} {ns : List Int} {g : TG} {tb : TS} {D : Ends} {σ : L2.St} {H0 : Hp} (hj : σ[j]? = some (some (.ref a))) (hS : SqL K H0 a (ns.map V.int)) (hz : ns.length ≤ 63)
    (h : ∀ b H1, Same H0 H1 → H1 b = some (.lst (.int n :: ns.map V.int)) → ForGoal (Itl K b) g tb D σ H1) :
    tFor (iList K (tOp (rCatS K) (tLst (tCons (tC (.int n)) tNil)) (tVar j))) g tb D σ H0 := by
  refine ⟨by show 1 ≤ sizeLine; decide, fun p hp => ⟨_, hj, p, a, [.int n], ns.map V.int, rfl, rfl, SqL.of upd_same, (same_upd hp).seq hS, ?_, fun b hb => ⟨b, rfl, ⟨_, SqL.of upd_same⟩, h b _ ((same_upd hp).trans (same_upd hb)) upd_same⟩⟩⟩
  rw [List.length_map]
  exact Nat.le_trans (show 1 + ns.length ≤ 100 by omega) (by decide)
def LcGoal (J : It) (g : TG) (tt : TT) (te : TE) (vs : List Nat) (σ : L2.St) (H1 : Hp) (Q : VK) : Prop := ∀ D, H1 D = none → ∃ W : Nat → Nat → Hp → Prop, (∃ m, W 0 m (upd H1 D (.lst []))) ∧ ∀ i m H, W i m H →
  (J.stop i H ∧ Q (.ref D) H) ∨ (J.go i H ∧ ∃ Nx : Hp → Prop, (∀ H', Nx H' → ∃ m', m' < m ∧ W (i + 1) m' H') ∧ ∀ x H', J.yld i H x H' → g x (wipe σ vs) H' fun σ2 H2 => wipe σ2 vs = wipe σ vs ∧ tt σ2 H2 fun b H3 =>
    if b = true then te σ2 H3 fun y H4 => ∃ acc, H4 D = some (.lst acc) ∧ acc.length < sizeLine ∧ Nx (upd H4 D (.lst (acc ++ [y]))) else Nx H3)
theorem tLc_eq {wi : TI} {g : TG} {tt : TT} {te : TE} {vs : List Nat} {σ : L2.St} {H : Hp} {Q : VK} : tLc wi g tt te vs σ H Q = wi σ H fun J H1 => LcGoal J g tt te vs σ H1 Q := rfl
/-- a comprehension without a test; what is told of the i-th item is told in a heap that only grows -/
theorem lc_go {J : It} {n : Nat} {G : Hp → Prop} {Y : Nat → Hp → V → Hp → Prop} (w : Walk J n G Y) {g : TG} {te : TE} {vs : List Nat} {σ : L2.St} {H1 : Hp} {Q : VK} (R : Nat → V → Hp → Prop) (hn : n < sizeLine)
    (hR : ∀ i y H H' D, H1 D = none → (∃ xs, H D = some (.lst xs)) → Same H1 H → R i y H → (∀ b o, b ≠ D → H b = some o → H' b = some o) → R i y H') (hG : ∀ H, Same H1 H → G H)
    (hs : ∀ i x H H' D (U : VK), i < n → H1 D = none → (∃ xs, H D = some (.lst xs)) → Same H1 H → Y i H x H' → (∀ y H4, R i y H4 → Same H H4 → U y H4) → g x (wipe σ vs) H' fun σ2 H2 => wipe σ2 vs = wipe σ vs ∧ te σ2 H2 U)
    (hd : ∀ p ys H, H1 p = none → Same H1 H → ys.length = n → (∀ i y, ys[i]? = some y → R i y H) → H p = some (.lst ys) → Q (.ref p) H) : LcGoal J g tYes te vs σ H1 Q := by
  intro D hD
  refine lc_it w (Pv := fun i H => Same H1 H ∧ ∃ ys : List V, H D = some (.lst ys) ∧ ys.length = i ∧ ∀ (j : Nat) y, ys[j]? = some y → R j y H) ⟨same_upd hD, [], upd_same, rfl, fun j y e => by simp at e⟩ (fun i H hi p => hG H p.1) ?_ ?_
  · rintro i x H H' hi ⟨s1, ys, hy, hl, hr⟩ y
    refine hs i x H H' D _ hi hD ⟨_, hy⟩ s1 y fun y2 H4 r s2 => ?_
    have g0 : ∀ b o, b ≠ D → H b = some o → (upd H4 D (HO.lst (ys ++ [y2]))) b = some o := fun b o hb e => by rw [upd_ne hb]; exact s2 _ _ e
    refine ⟨ys, s2 _ _ hy, by omega, fun b o e => ?_, ys ++ [y2], upd_same, by simp [hl], fun j y3 e => ?_⟩
    · have hb : b ≠ D := ne_of_none e hD
      rw [upd_ne hb]
      exact s2 _ _ (s1 _ _ e)
    · rcases Nat.lt_or_ge j ys.length with hj | hj
      · rw [List.getElem?_append_left hj] at e
        exact hR _ _ H _ D hD ⟨_, hy⟩ s1 (hr _ _ e) g0
      · have hj2 : j = i := by
          have z := (List.getElem?_eq_some_iff.mp e).1
          simp at z
          omega
        subst hj2
        rw [List.getElem?_append_right hj, hl, Nat.sub_self] at e
        cases e
        exact hR _ _ H4 _ D hD ⟨_, s2 _ _ hy⟩ (s1.trans s2) r fun b o hb e => by rw [upd_ne hb]; exact e
  · rintro H ⟨s1, ys, hy, hl, hr⟩
    exact hd D ys H hD s1 hl hr hy
/-- .. where the items are known beforehand -/
theorem lc_pure {J : It} {n : Nat} {G : Hp → Prop} {Y : Nat → Hp → V → Hp → Prop} (w : Walk J n G Y) {g : TG} {te : TE} {vs : List Nat} {σ : L2.St} {H1 : Hp} {Q : VK} (ys : List V) (hl : ys.length = n) (hn : n < sizeLine) (hG : ∀ H, Same H1 H → G H)
    (hs : ∀ (i : Nat) x y H H' (U : VK), ys[i]? = some y → Same H1 H → Y i H x H' → (∀ H4, Same H H4 → U y H4) → g x (wipe σ vs) H' fun σ2 H2 => wipe σ2 vs = wipe σ vs ∧ te σ2 H2 U)
    (hd : ∀ p H, H1 p = none → Same H1 H → H p = some (.lst ys) → Q (.ref p) H) : LcGoal J g tYes te vs σ H1 Q := by
  refine lc_go w (fun i y _ => ys[i]? = some y) hn (fun _ _ _ _ _ _ _ _ r _ => r) hG (fun i x H H' D U hi _ _ s1 y hu => ?_) fun p zs H hp s1 hz hr e => ?_
  · have e : ys[i]? = some ys[i] := List.getElem?_eq_getElem (by omega)
    exact hs i x _ H H' U e s1 y fun H4 s2 => hu _ _ e s2
  · have z : zs = ys := by
      refine List.ext_getElem? fun i => ?_
      rcases Nat.lt_or_ge i zs.length with h | h
      · rw [hr i _ (List.getElem?_eq_getElem h), List.getElem?_eq_getElem h]
      · rw [List.getElem?_eq_none h, List.getElem?_eq_none (by omega)]
    subst z
    exact hd p H hp s1 e
/-! ### slices -/
theorem cut_from {xs : List V} {k : Int} (hk : 0 ≤ k) : cutV xs (some k) none = xs.drop k.toNat := by
  obtain ⟨j, rfl⟩ := Int.eq_ofNat_of_zero_le hk
  unfold cutV
  rw [HT.sIx_nat, HT.sIx_none, Int.toNat_natCast]
  rcases Nat.le_total j xs.length with h | h
  · rw [Nat.min_eq_left h, List.take_of_length_le (by simp)]
  · rw [Nat.min_eq_right h, List.drop_of_length_le h, List.drop_length, List.take_nil]
theorem cut_to {xs : List V} {k : Int} (hk : 0 ≤ k) : cutV xs none (some k) = xs.take k.toNat := by
  obtain ⟨j, rfl⟩ := Int.eq_ofNat_of_zero_le hk
  unfold cutV
  rw [HT.sIx_nat, HT.sIx_none, Int.toNat_natCast, List.drop_zero, Nat.sub_zero]
  rcases Nat.le_total j xs.length with h | h
  · rw [Nat.min_eq_left h]
  · rw [Nat.min_eq_right h, List.take_of_length_le h, List.take_length]
/-! ### lists whose items tell something -/
inductive All2 {α : Type} (R : V → α → Prop) : List V → List α → Prop
  | nil : All2 R [] []
  | cons {x t xs ts} : R x t → All2 R xs ts → All2 R (x :: xs) (t :: ts)
namespace All2
variable {α : Type} {R S : V → α → Prop}
theorem len {xs : List V} {ts : List α} (h : All2 R xs ts) : xs.length = ts.length := by
  induction h with
  | nil => rfl
  | cons _ _ ih => rw [List.length_cons, List.length_cons, ih]
theorem mono {xs : List V} {ts : List α} (h : All2 R xs ts) (k : ∀ x t, R x t → S x t) : All2 S xs ts := by
  induction h with
  | nil => exact .nil
  | cons r _ ih => exact .cons (k _ _ r) ih
theorem get {xs : List V} {ts : List α} (h : All2 R xs ts) : ∀ {i : Nat} {x : V}, xs[i]? = some x → ∃ t, ts[i]? = some t ∧ R x t := by
  induction h with
  | nil => intro i x e; simp at e
  | cons r _ ih =>
    intro i x e
    cases i with
    | zero => cases e; exact ⟨_, rfl, r⟩
    | succ j => exact ih e
theorem of {xs : List V} : ∀ {ts : List α}, xs.length = ts.length → (∀ (i : Nat) x t, xs[i]? = some x → ts[i]? = some t → R x t) → All2 R xs ts := by
  induction xs with
  | nil => intro ts hl _; cases ts with
    | nil => exact .nil
    | cons _ _ => cases hl
  | cons x xs ih => intro ts hl h; cases ts with
    | nil => cases hl
    | cons t ts => exact .cons (h 0 x t rfl rfl) (ih (by simpa using hl) fun i x t e1 e2 => h (i + 1) x t e1 e2)
theorem snoc {xs : List V} {ts : List α} {x : V} {t : α} (h : All2 R xs ts) (r : R x t) : All2 R (xs ++ [x]) (ts ++ [t]) := by
  induction h with
  | nil => exact .cons r .nil
  | cons r2 _ ih => exact .cons r2 ih
theorem drop {xs : List V} {ts : List α} (h : All2 R xs ts) : ∀ k, All2 R (xs.drop k) (ts.drop k) := by
  induction h with
  | nil => intro k; rw [List.drop_nil, List.drop_nil]; exact .nil
  | cons r h ih => intro k; cases k with
    | zero => exact .cons r h
    | succ k => exact ih k
theorem take {xs : List V} {ts : List α} (h : All2 R xs ts) : ∀ k, All2 R (xs.take k) (ts.take k) := by
  induction h with
  | nil => intro k; rw [List.take_nil, List.take_nil]; exact .nil
  | cons r h ih => intro k; cases k with
    | zero => exact .nil
    | succ k => exact .cons r (ih k)
end All2
/-- a pair of ints -/
def Pr (K : Frag) (H : Hp) : V → Int × Int → Prop := fun x t => ∃ r, x = .ref r ∧ SqT K H r [.int t.1, .int t.2]
theorem Pr.same {K : Frag} {H H' : Hp} {x : V} {t : Int × Int} (s : Same H H') (h : Pr K H x t) : Pr K H' x t := by
  obtain ⟨r, e, q⟩ := h
  exact ⟨r, e, same_tup s q⟩
/-- a list of pairs of ints -/
def Prs (K : Frag) (H : Hp) (a : Addr) (ts : List (Int × Int)) : Prop := ∃ xs, SqL K H a xs ∧ All2 (Pr K H) xs ts
theorem Prs.same {K : Frag} {H H' : Hp} {a : Addr} {ts : List (Int × Int)} (s : Same H H') (h : Prs K H a ts) : Prs K H' a ts := by
  obtain ⟨xs, q, h⟩ := h
  exact ⟨xs, s.seq q, h.mono fun _ _ => Pr.same s⟩
/-! ### the law's end -/
def spLaw (K : Frag) : Sp := fun vs H Q _ => ∃ (a : Addr) (ns : List Int), vs = [.ref a] ∧ SqL K H a (ns.map V.int) ∧ ns.length ≤ 63 ∧ (∀ z ∈ ns, Builtin.Int.intBits z ≤ 1048576) ∧ ∀ H', Q (.bl true) H'
theorem walk {l : PySem.W.OpenLaw} {k : Nat} {q : Program} {loose : List Str} {XP : (Str → Option Value) → Heap → Prop} {YP : World → Heap → Prop} {d : DefRec} {K : Params → Frag}
    (hn : l.most = some 63) (hdf : d.params.defaults = []) (hr : Room k callerA) (hY : ∀ (w : World) (h : Heap), YP w h → (K w.params).In h)
    (F : ∀ (w : World) (mg : Str → Option Value) (fa : Addr) (h : Heap), (K w.params).In h → h.Ns mainGlobals mg → mg d.name = some (.ref fa) →
      ∃ fd : FuncData, (∀ (s : Shared) (u : Value), BindsTo s fd ⟨[u], []⟩ [(("script" : Str), u)]) ∧ ∀ base : Heap, (K w.params).In base → base.Ns mainGlobals mg → FnOk l.prog w (K w.params) mg base CX0 k fa fd ["script"] (spLaw (K w.params))) :
    PySem.W.WalkO q loose XP YP l.row.toRowW d [] (fun f vs => PySem.call f vs) :=
  L2.walk_ofB (n := 63) (k := k) (x := "script") (CX := fun _ => CX0) (sp := fun w => spLaw (K w.params)) hn (by decide) hdf hr hY F
    (fun _ _ a ns hl hb _ hS => ⟨a, ns, rfl, hS, hl, hb, fun _ => rfl⟩) fun _ _ _ _ _ z => z
end Kv

set_option Elab.async false
set_option linter.all false
set_option maxRecDepth 100000
set_option maxHeartbeats 4000000
namespace K17
open PySem PySem.Spec PyProof.Rows L2
def top (i : Nat) : Stmt := PySem.Challenge.pw_corebank_k17_whole_splitting_a_balance.main.body.getD i (.Pass ⟨0, 0, 0, 0⟩)
abbrev s_parts_of : Stmt := top 1
abbrev s_L_numbers : Stmt := top 3
abbrev s_L_tiers : Stmt := top 4
abbrev s_L_size : Stmt := top 5
abbrev s_law : Stmt := top 6
theorem sc_parts_of : FnScope ["tiers", "size", "ends", "start", "_", "parts", "rate", "end"] ["tiers", "size"] (defScope s_parts_of) := ⟨rfl, rfl, rfl, by decide +kernel, rfl, by decide +kernel, by decide +kernel⟩
theorem sc_L_numbers : FnScope ["cell", "count", "rest", "numbers", "k", "mixed"] ["cell", "count"] (defScope s_L_numbers) := ⟨rfl, rfl, rfl, by decide +kernel, rfl, by decide +kernel, by decide +kernel⟩
theorem sc_L_tiers : FnScope ["numbers", "at", "start", "tiers", "k", "gap"] ["numbers", "at"] (defScope s_L_tiers) := ⟨rfl, rfl, rfl, by decide +kernel, rfl, by decide +kernel, by decide +kernel⟩
theorem sc_L_size : FnScope ["number", "choice", "tiers"] ["number", "choice", "tiers"] (defScope s_L_size) := ⟨rfl, rfl, rfl, by decide +kernel, rfl, by decide +kernel, by decide +kernel⟩
theorem sc_law : FnScope ["script", "cell", "numbers", "tiers", "rates", "tier", "k", "one", "two", "apart", "together"] ["script"] (defScope s_law) := ⟨rfl, rfl, rfl, by decide +kernel, rfl, by decide +kernel, by decide +kernel⟩
structure Txt (K : PySem.W.Frag) (mg : Str → Option Value) where
  a_parts_of : Addr
  d_parts_of : FuncData
  g_parts_of : mg "parts_of" = some (.ref a_parts_of)
  F_parts_of : Fun K "parts_of" "parts_of" s_parts_of a_parts_of d_parts_of
  b_parts_of : Binds K d_parts_of ["tiers", "size"] []
  a__law_numbers : Addr
  d__law_numbers : FuncData
  g__law_numbers : mg "_law_numbers" = some (.ref a__law_numbers)
  F__law_numbers : Fun K "_law_numbers" "_law_numbers" s_L_numbers a__law_numbers d__law_numbers
  b__law_numbers : Binds K d__law_numbers ["cell", "count"] []
  a__law_tiers : Addr
  d__law_tiers : FuncData
  g__law_tiers : mg "_law_tiers" = some (.ref a__law_tiers)
  F__law_tiers : Fun K "_law_tiers" "_law_tiers" s_L_tiers a__law_tiers d__law_tiers
  b__law_tiers : Binds K d__law_tiers ["numbers", "at"] []
  a__law_size : Addr
  d__law_size : FuncData
  g__law_size : mg "_law_size" = some (.ref a__law_size)
  F__law_size : Fun K "_law_size" "_law_size" s_L_size a__law_size d__law_size
  b__law_size : Binds K d__law_size ["number", "choice", "tiers"] []
  a_law : Addr
  d_law : FuncData
  g_law : mg "law" = some (.ref a_law)
  F_law : Fun K "law" "law" s_law a_law d_law
  b_law : Binds K d_law ["script"] []
  n_int : mg "int" = none
  n_len : mg "len" = none
  n_list : mg "list" = none
  n_max : mg "max" = none
  n_min : mg "min" = none
  n_range : mg "range" = none
  n_sorted : mg "sorted" = none
  n_zip : mg "zip" = none
local macro_rules | `(tactic| walk_at "rd") => `(tactic| simp only [L2.start, tSeq, tIfS, tTest, tOp, tVar, tC, tRet, tRetN, tNext, tAsg, gName, tDrop, tCons, tNil, tCB, tB, rI0, rI, rEq, rNe, tAnd, tOr, tNot, tAndV, tOrV, tNotV, tIf, tUn, rU, Kv.sc_ii, Kv.sc_ss, Kv.sc_bb, Kv.sc_nn, Kv.sc_ni, Kv.sc_in, Kv.sc_sn, Kv.sc_ns, Kv.sc_bn, Kv.sc_nb, Kv.sc_is, Kv.sc_si, cxOf, and_assoc, rAppend, Kv.rIsP, L2H.cxH, tCall, tCallS, tTup, tLst, tBM, tBM0, tM0, tM1, tSl, tPart, tNoPart, tAug, ipI, gSub, tPar, tBreak, tCont, Kv.tKinds, tChain, tYes, tCKw, wipe, List.foldl_cons, List.foldl_nil, iList, iTup, iRng1, iRng2, iEnum, iZip, Kv.tFor_eq, Kv.tLc_eq,
  CPow, List.map_cons, List.map_nil, List.cons_append, List.nil_append, List.append_nil, List.length_cons, List.length_nil, List.replicate,
  List.getElem?_cons_zero, List.getElem?_cons_succ, List.set_cons_zero, List.set_cons_succ, Option.some.injEq, exists_eq_left', exists_eq_left, exists_eq_right, exists_eq_right', V.int.injEq, V.str.injEq, V.bl.injEq, V.ref.injEq, List.cons.injEq, exists_and_left, exists_and_right, and_true, true_and, and_self, false_and, and_false, or_false, false_or, exists_false, exists_const, reduceCtorEq, Nat.reduceSub, Nat.reduceAdd, Nat.reduceLeDiff, Nat.reduceLT,
  Int.reduceLT, Int.reduceLE, Int.reduceAdd, Int.reduceMul, Int.reduceSub, Int.reducePow, Int.reduceToNat, Int.reduceNeg, Int.reduceAbs, Nat.reducePow, decide_eq_true_eq, Bool.not_true, Bool.not_false, Bool.false_eq_true, ite_true, ite_false, if_true, if_false, decide_true, decide_false, Bool.not_eq_true', decide_eq_false_iff_not, not_true, not_false_eq_true, ne_eq])
local macro_rules | `(tactic| walk_at "st") => `(tactic| ((first | with_reducible refine Kv.seq_step fun U hU => ?_ | with_reducible refine Kv.gseq_step fun U hU => ?_); walk_at "rd"))
local macro_rules | `(tactic| walk_at "nx") => `(tactic| (subst_vars; (try dsimp only); first | walk_at "st" | walk_at "rd"))
section
variable {P : Program} {w : World} {K : PySem.W.Frag} {mg : Str → Option Value} {base : Heap}
/-- the numbers that a law makes of one cell: so many, none below 0, none beyond 10 ^ 13 -/
def spNumbers : Sp := fun vs H Q _ => ∃ c n, vs = [.int c, .int n] ∧ Builtin.Int.intBits c ≤ 1048576 ∧ 0 ≤ n ∧ n ≤ 1000 ∧
  ∀ (ns : List Int) p H', (ns.length : Int) = n → (∀ z ∈ ns, 0 ≤ z ∧ z < 10000000000000) → Same H H' → H p = none → H' p = some (.lst (ns.map V.int)) → Q (.ref p) H'
def invNumbers (c n : Int) (p : Addr) (H : Hp) : Nat → L2.St → Hp → Prop := fun i σ' H' => ∃ (rest : Int) (ns : List Int) (x y : Option V), σ' = [some (.int c), some (.int n), some (.int rest), some (.ref p), x, y] ∧ 0 ≤ rest ∧ Builtin.Int.intBits rest ≤ 1048576 ∧
  ns.length = i ∧ (∀ z ∈ ns, 0 ≤ z ∧ z < 10000000000000) ∧ Same H H' ∧ H' p = some (.lst (ns.map V.int))
theorem ok_L_numbers (T : Txt K mg) : FnOk P w K mg base CX0 1 T.a__law_numbers T.d__law_numbers ["cell", "count"] spNumbers := by
  refine T.F__law_numbers.ok sc_L_numbers (fun vs H Q E h => by obtain ⟨_, _, rfl, _⟩ := h; rfl) (fun cdv A outer s H vs Q E hr h => ?_)
  refine ⟨_, 
      (pss_cons (ps_set (i := 2) sc_L_numbers.nd rfl (Or.inl rfl) pe_int)
      (pss_cons (ps_if (pt_cmpR op_ge (pv 0) (pe_op op_pow pe_int pe_int) (nomark _)) 
        (pss_one (ps_set (i := 2) sc_L_numbers.nd rfl (Or.inl rfl) (pe_op op_fdivW (pv 0) (pe_op op_pow pe_int pe_int)))) pss_nil)
      (pss_cons (ps_set (i := 3) sc_L_numbers.nd rfl (Or.inl rfl) (pe_lst pa_nil))
      (pss_cons (ps_for PassesOwn.never rfl (pi_range1 (by rfl) T.n_range (pa_cons (pv 1) pa_nil)) (pg_name (i := 4) sc_L_numbers.nd rfl (Or.inl rfl)) 
        (pss_one (ps_if (pt_cmpR op_gt (pv 2) pe_int (nomark _)) 
          (pss_cons (ps_expr (pe_bm PySem.F.plainAttrs_list PySem.F.slot_list_append PySem.F.type_list_append mt_append (pv 3) (pa_cons (pe_op op_mod (pe_callTy call_int1 (by rfl) T.n_int (by decide +kernel) (pa_cons (pv 2) pa_nil)) (pe_op op_pow pe_int pe_int)) pa_nil)))
          (pss_one (ps_set (i := 2) sc_L_numbers.nd rfl (Or.inl rfl) (pe_op op_fdivW (pv 2) (pe_op op_pow pe_int pe_int))))) 
          (pss_cons (ps_set (i := 5) sc_L_numbers.nd rfl (Or.inl rfl) (pe_op op_mod (pe_callTy call_int1 (by rfl) T.n_int (by decide +kernel) (pa_cons (pe_op op_add (pe_op op_add (pe_op op_mulX (pv 0) pe_int) (pe_op op_mulX (pv 4) pe_int)) pe_int) pa_nil)) pe_int))
          (pss_cons (ps_set (i := 5) sc_L_numbers.nd rfl (Or.inl rfl) (pe_op op_mod (pe_callTy call_int1 (by rfl) T.n_int (by decide +kernel) (pa_cons (pe_op op_add (pe_op op_add (pe_op op_mulX (pv 5) (pv 5)) (pe_op op_mulX pe_int (pv 4))) pe_int) pa_nil)) pe_int))
          (pss_one (ps_expr (pe_bm PySem.F.plainAttrs_list PySem.F.slot_list_append PySem.F.type_list_append mt_append (pv 3) (pa_cons (pe_op op_add (pe_op op_mulX (pe_op op_mod (pe_callTy call_int1 (by rfl) T.n_int (by decide +kernel) (pa_cons (pe_op op_add (pe_op op_mulX (pv 5) (pv 5)) (pv 5)) pa_nil)) pe_int) pe_int) (pv 4)) pa_nil)))))))))
      (pss_one (ps_ret (pv 3))))))), ?_⟩
  obtain ⟨c, n, rfl, bc, n0, n1, hq⟩ := h
  walk_at "rd"
  split
  all_goals
    first
      | refine ⟨⟨by decide, by decide⟩, by decide, fun p hp => ?_⟩
      | refine ⟨by decide, fun p hp => ?_⟩
    refine ⟨by omega, by omega, Kv.for_rng0 (invNumbers c n p H) ?_ ?_ ?_⟩
  case isTrue.refine_1 =>
    refine ⟨_, [], _, _, rfl, by omega, ?_, rfl, fun z hz => by simp at hz, Kv.same_upd hp, upd_same⟩
    exact Nat.le_trans (Kv.bits_mono (by omega)) bc
  case isFalse.refine_1 => exact ⟨_, [], _, _, rfl, by omega, by decide, rfl, fun z hz => by simp at hz, Kv.same_upd hp, upd_same⟩
  case isTrue.refine_3 | isFalse.refine_3 =>
    rintro σ' H' ⟨rest, ns, x, y, rfl, r0, rb, hl, hz, hs, hp'⟩
    walk_at "rd"
    exact hq ns p H' (by omega) hz hs hp hp'
  case isTrue.refine_2 | isFalse.refine_2 =>
    rintro i σ' H' hi ⟨rest, ns, x, y, rfl, r0, rb, hl, hz, hs, hp'⟩
    have hsz : (ns.map V.int).length < sizeLine := by
      rw [List.length_map]
      exact Nat.lt_of_lt_of_le (show ns.length < 1001 by omega) (by decide)
    have more : ∀ v : Int, 0 ≤ v → v < 10000000000000 → (∀ z ∈ ns ++ [v], 0 ≤ z ∧ z < 10000000000000) := by
      intro v h0 h1 z hm
      rcases List.mem_append.mp hm with hm | hm
      · exact hz z hm
      · rw [List.mem_singleton.mp hm]
        exact ⟨h0, h1⟩
    have fin : ∀ v : Int, (upd H' p (HO.lst (ns.map V.int ++ [.int v]))) p = some (.lst ((ns ++ [v]).map V.int)) := by
      intro v
      rw [upd_same, List.map_append]
      rfl
    walk_at "rd"
    by_cases c1 : 0 < rest
    · rw [if_pos c1]
      refine ⟨.inl ⟨rfl, _, SqL.of hp'⟩, _, hp', hsz, ⟨by decide, by decide⟩, ?_⟩
      refine ⟨rest / 10000000000000, ns ++ [rest % 10000000000000], _, _, rfl, Int.ediv_nonneg r0 (by decide), Nat.le_trans (Kv.bits_mono (by omega)) rb, by simp [hl], more _ (Int.emod_nonneg _ (by decide)) (Int.emod_lt_of_pos _ (by decide)), Kv.same_mut hp hs, fin _⟩
    · rw [if_neg c1]
      have bi : Builtin.Int.intBits (i : Int) ≤ 64 := Kv.bits64 (by omega) (by omega)
      refine ⟨Kv.mulX bc (b := 64) (by decide), Kv.mulX bi (b := 64) (by decide), ?_⟩
      generalize hm1 : (c * 48271 + (i : Int) * 69621 + 1013) % 2147483647 = m1
      have m10 : 0 ≤ m1 := by rw [← hm1]; exact Int.emod_nonneg _ (by decide)
      have m11 : m1 < 2147483647 := by rw [← hm1]; exact Int.emod_lt_of_pos _ (by decide)
      have bm1 : Builtin.Int.intBits m1 ≤ 64 := Kv.bits64 (by omega) (by omega)
      refine ⟨Kv.mulX bm1 bm1, Kv.mulX (a := 64) (by decide) bi, ?_⟩
      generalize hm2 : (m1 * m1 + 8191 * (i : Int) + 77) % 2147483629 = m2
      have m20 : 0 ≤ m2 := by rw [← hm2]; exact Int.emod_nonneg _ (by decide)
      have m21 : m2 < 2147483629 := by rw [← hm2]; exact Int.emod_lt_of_pos _ (by decide)
      have bm2 : Builtin.Int.intBits m2 ≤ 64 := Kv.bits64 (by omega) (by omega)
      generalize hm3 : (m2 * m2 + m2) % 2147483587 = m3
      have m30 : 0 ≤ m3 := by rw [← hm3]; exact Int.emod_nonneg _ (by decide)
      have m31 : m3 < 2147483587 := by rw [← hm3]; exact Int.emod_lt_of_pos _ (by decide)
      have bm3 : Builtin.Int.intBits m3 ≤ 64 := Kv.bits64 (by omega) (by omega)
      refine ⟨.inl ⟨rfl, _, SqL.of hp'⟩, Kv.mulX bm2 bm2, Kv.mulX bm3 (b := 64) (by decide), _, hp', hsz, ?_⟩
      exact ⟨rest, ns ++ [m3 * 4001 + i], _, _, rfl, r0, rb, by simp [hl], more _ (by omega) (by omega), Kv.same_mut hp hs, fin _⟩

/-! ### the mathematics -/
def m0 (x : Int) : Int := if x > 0 then x else 0
def pt : List (Int × Int) → Int → Int
  | [], _ => 0
  | [t], s => t.2 * m0 (s - t.1)
  | t :: u :: r, s => t.2 * m0 ((if s < u.1 then s else u.1) - t.1) + pt (u :: r) s
def endAt (ts : List (Int × Int)) (s : Int) (i : Nat) : Int := match ts[i + 1]? with
  | some u => u.1
  | none => s
theorem pt_step {s : Int} : ∀ {ts : List (Int × Int)} {i : Nat} {t : Int × Int}, ts[i]? = some t → pt (ts.drop i) s = t.2 * m0 ((if s < endAt ts s i then s else endAt ts s i) - t.1) + pt (ts.drop (i + 1)) s
  | [], i, t, h => by simp at h
  | [u], 0, t, h => by
    cases h
    simp [pt, endAt]
  | [u], i + 1, t, h => by simp at h
  | u :: v :: r, 0, t, h => by
    cases h
    simp [pt, endAt]
  | u :: v :: r, i + 1, t, h => by
    have ih := pt_step (s := s) (ts := v :: r) (i := i) (t := t) h
    exact ih
def ee : (Int × Int) → List (Int × Int) → Int → Int
  | _, [], _ => 0
  | t, u :: r, s => (u.2 - t.2) * m0 (s - u.1) + ee u r s
theorem m0_split {t u s : Int} (h : t ≤ u) : m0 ((if s < u then s else u) - t) = m0 (s - t) - m0 (s - u) := by
  unfold m0
  (repeat' split) <;> omega
theorem pt_ee {s : Int} : ∀ {r : List (Int × Int)} {t : Int × Int}, (t :: r).Pairwise (fun a b => a.1 ≤ b.1) → pt (t :: r) s = t.2 * m0 (s - t.1) + ee t r s
  | [], t, _ => by simp [pt, ee]
  | u :: r, t, h => by
    have h1 := List.pairwise_cons.mp h
    rw [pt, pt_ee h1.2, ee, m0_split (h1.1 u (List.mem_cons_self))]
    rw [Int.mul_sub, Int.sub_mul]
    omega
theorem ee_super {x y : Int} (hx : 0 ≤ x) (hy : 0 ≤ y) : ∀ {r : List (Int × Int)} {t : Int × Int}, (t :: r).Pairwise (fun a b => a.2 ≤ b.2) → (∀ u ∈ r, 0 ≤ u.1) → ee t r x + ee t r y ≤ ee t r (x + y)
  | [], t, _, _ => by simp [ee]
  | u :: r, t, h, g => by
    have h1 := List.pairwise_cons.mp h
    have ih := ee_super hx hy h1.2 fun v hv => g v (List.mem_cons_of_mem _ hv)
    have hu := g u List.mem_cons_self
    have hr := h1.1 u List.mem_cons_self
    have z : m0 (x - u.1) + m0 (y - u.1) ≤ m0 (x + y - u.1) := by unfold m0; (repeat' split) <;> omega
    have k := Int.mul_le_mul_of_nonneg_left z (show 0 ≤ u.2 - t.2 by omega)
    rw [Int.mul_add] at k
    simp only [ee]
    omega
theorem ee_sub {x y : Int} (hx : 0 ≤ x) (hy : 0 ≤ y) : ∀ {r : List (Int × Int)} {t : Int × Int}, (t :: r).Pairwise (fun a b => a.2 ≥ b.2) → (∀ u ∈ r, 0 ≤ u.1) → ee t r (x + y) ≤ ee t r x + ee t r y
  | [], t, _, _ => by simp [ee]
  | u :: r, t, h, g => by
    have h1 := List.pairwise_cons.mp h
    have ih := ee_sub hx hy h1.2 fun v hv => g v (List.mem_cons_of_mem _ hv)
    have hu := g u List.mem_cons_self
    have hr := h1.1 u List.mem_cons_self
    have z : m0 (x - u.1) + m0 (y - u.1) ≤ m0 (x + y - u.1) := by unfold m0; (repeat' split) <;> omega
    have k := Int.mul_le_mul_of_nonneg_left z (show 0 ≤ t.2 - u.2 by omega)
    have e : ∀ w, (u.2 - t.2) * w = -((t.2 - u.2) * w) := fun w => by rw [← Int.neg_mul]; congr 1; omega
    rw [Int.mul_add] at k
    simp only [ee, e]
    omega
theorem pt_mono {x y : Int} (h : x ≤ y) : ∀ {L : List (Int × Int)}, (∀ t ∈ L, 0 ≤ t.2) → pt L x ≤ pt L y
  | [], _ => Int.le_refl _
  | [t], g => by
    have z : m0 (x - t.1) ≤ m0 (y - t.1) := by unfold m0; (repeat' split) <;> omega
    exact Int.mul_le_mul_of_nonneg_left z (g t List.mem_cons_self)
  | t :: u :: r, g => by
    have z : m0 ((if x < u.1 then x else u.1) - t.1) ≤ m0 ((if y < u.1 then y else u.1) - t.1) := by unfold m0; (repeat' split) <;> omega
    have k := Int.mul_le_mul_of_nonneg_left z (g t List.mem_cons_self)
    have ih := pt_mono h (L := u :: r) fun v hv => g v (List.mem_cons_of_mem _ hv)
    simp only [pt]
    omega
theorem pt_low {s m : Int} : ∀ {r : List (Int × Int)} {t : Int × Int}, (t :: r).Pairwise (fun a b => a.1 ≤ b.1) → (∀ u ∈ t :: r, m ≤ u.2) → m * m0 (s - t.1) ≤ pt (t :: r) s
  | [], t, _, g => Int.mul_le_mul_of_nonneg_right (g t List.mem_cons_self) (by unfold m0; (repeat' split) <;> omega)
  | u :: r, t, h, g => by
    have h1 := List.pairwise_cons.mp h
    have ih := pt_low (s := s) h1.2 fun v hv => g v (List.mem_cons_of_mem _ hv)
    rw [pt, m0_split (h1.1 u List.mem_cons_self)]
    have z : 0 ≤ m0 (s - t.1) - m0 (s - u.1) := by have := h1.1 u List.mem_cons_self; unfold m0; (repeat' split) <;> omega
    have k := Int.mul_le_mul_of_nonneg_right (g t List.mem_cons_self) z
    rw [Int.mul_sub] at k
    omega
theorem pt_high {s m : Int} : ∀ {r : List (Int × Int)} {t : Int × Int}, (t :: r).Pairwise (fun a b => a.1 ≤ b.1) → (∀ u ∈ t :: r, u.2 ≤ m) → pt (t :: r) s ≤ m * m0 (s - t.1)
  | [], t, _, g => Int.mul_le_mul_of_nonneg_right (g t List.mem_cons_self) (by unfold m0; (repeat' split) <;> omega)
  | u :: r, t, h, g => by
    have h1 := List.pairwise_cons.mp h
    have ih := pt_high (s := s) h1.2 fun v hv => g v (List.mem_cons_of_mem _ hv)
    rw [pt, m0_split (h1.1 u List.mem_cons_self)]
    have z : 0 ≤ m0 (s - t.1) - m0 (s - u.1) := by have := h1.1 u List.mem_cons_self; unfold m0; (repeat' split) <;> omega
    have k := Int.mul_le_mul_of_nonneg_right (g t List.mem_cons_self) z
    rw [Int.mul_sub m] at k
    omega
def spParts (K : PySem.W.Frag) : Sp := fun vs H Q _ => ∃ (a : Addr) (ts : List (Int × Int)) (s : Int), vs = [.ref a, .int s] ∧ Kv.Prs K H a ts ∧ ts ≠ [] ∧ ts.length ≤ 100 ∧ (∀ t ∈ ts, 0 ≤ t.1 ∧ t.1 ≤ 100000000000 ∧ 0 ≤ t.2 ∧ t.2 ≤ 10000) ∧ 0 ≤ s ∧ s ≤ 100000000000000 ∧
  ∀ H', Same H H' → Q (.int (pt ts s)) H'
def invParts (a : Addr) (s : Int) (e2 : Addr) (ts : List (Int × Int)) (H : Hp) : Nat → L2.St → Hp → Prop := fun i σ' H' => ∃ (v : Int) (v3 v4 v6 v7 : Option V), σ' = [some (.ref a), some (.int s), some (.ref e2), v3, v4, some (.int v), v6, v7] ∧ v + pt (ts.drop i) s = pt ts s ∧ Same H H'
theorem ok_parts_of (T : Txt K mg) : FnOk P w K mg base CX0 1 T.a_parts_of T.d_parts_of ["tiers", "size"] (spParts K) := by
  refine T.F_parts_of.ok sc_parts_of (fun vs H Q E h => by obtain ⟨_, _, _, rfl, _⟩ := h; rfl) (fun cdv A outer s H vs Q E hr h => ?_)
  refine ⟨_, 
      (pss_cons (ps_set (i := 2) sc_parts_of.nd rfl (Or.inl rfl) (pe_op Kv.op_catS (pe_lc (own := [("start", 3), ("_", 4)]) (g := gTup K 2 (gCons (gName 3) (gCons (gName 4) gNil))) (tt := tYes) rfl sc_parts_of.nd (pi_list (pe_slice sl_list (pv 0) (po_some pe_int) po_none)) (blkOk_by (N := ["tiers", "size", "ends", "start", "_", "parts", "rate", "end"]) (sc := defScope s_parts_of) (by decide +kernel)) (fun _ _ _ _ _ => (pg_tup (n := 2) (by rfl) (pgs_cons (pg_name (i := 3) sc_parts_of.nd rfl (Or.inl rfl)) (pgs_cons (pg_name (i := 4) sc_parts_of.nd rfl (Or.inl rfl)) pgs_nil)))) (fun _ _ _ _ _ => pts_nil) (fun _ _ _ _ _ => (pv 3))) (pe_lst (pa_cons (pv 1) pa_nil))))
      (pss_cons (ps_set (i := 5) sc_parts_of.nd rfl (Or.inl rfl) pe_int)
      (pss_cons (ps_for PassesOwn.never rfl (pi_zip (by rfl) T.n_zip (pa_cons (pv 0) (pa_cons (pv 2) pa_nil))) (pg_tup (n := 2) (by rfl) (pgs_cons (pg_tup (n := 2) (by rfl) (pgs_cons (pg_name (i := 3) sc_parts_of.nd rfl (Or.inl rfl)) (pgs_cons (pg_name (i := 6) sc_parts_of.nd rfl (Or.inl rfl)) pgs_nil))) (pgs_cons (pg_name (i := 7) sc_parts_of.nd rfl (Or.inl rfl)) pgs_nil))) 
        (pss_one (ps_aug (i := 5) sc_parts_of.nd rfl (Or.inl rfl) (pe_op op_mulX (pv 6) (pe_callB (call_max2 rfl) (by rfl) T.n_max (by decide +kernel) (pa_cons pe_int (pa_cons (pe_op op_sub (pe_callB (call_min2 rfl) (by rfl) T.n_min (by decide +kernel) (pa_cons (pv 7) (pa_cons (pv 1) pa_nil))) (pv 3)) pa_nil)))) ip_add)))
      (pss_one (ps_ret (pv 5)))))), ?_⟩
  obtain ⟨a, ts, s, rfl, ⟨xs, hS, hA⟩, hne, hl, hb, s0, s1, hq⟩ := h
  walk_at "st"
  have hlx := hA.len
  refine ⟨a, xs, rfl, hS, fun p hp => ⟨p, rfl, ⟨_, SqL.of upd_same⟩, ?_⟩⟩
  rw [Kv.cut_from (by decide)]
  refine Kv.lc_pure walk_list ((ts.drop 1).map fun t => V.int t.1) (by simp [hlx]) (Nat.lt_of_le_of_lt (show (xs.drop 1).length ≤ 100 by simp; omega) (by decide)) (fun H' s1 => SqL.of (s1 _ _ upd_same)) (fun i x y H1 H2 U hy s1 hY hU => ?_) fun e1 H1 he s1 hp1 => ?_
  · obtain ⟨rfl, hx⟩ := hY
    obtain ⟨t, ht, r, rfl, hr⟩ := (hA.drop 1).get hx
    rw [List.getElem?_map, ht] at hy
    cases hy
    refine Kv.gtupN2 (Kv.same_tup ((Kv.same_upd hp).trans s1) hr) ⟨rfl, ?_⟩
    walk_at "rd"
    exact hU _ (Same.refl _)
  refine ⟨Nat.le_trans (show 1 ≤ 100 by decide) (by decide), fun q hq1 => ⟨e1, q, _, _, rfl, rfl, (Kv.same_upd hq1).seq (SqL.of hp1), SqL.of upd_same, Nat.le_trans (show ((ts.drop 1).map fun t => V.int t.1).length + 1 ≤ 200 by simp; omega) (by decide), fun e2 he2 => ?_⟩⟩
  have sA := ((Kv.same_upd hp).trans s1).trans ((Kv.same_upd hq1).trans (Kv.same_upd (o := .lst (((ts.drop 1).map fun t => V.int t.1) ++ [V.int s])) he2))
  generalize hH2 : upd (upd H1 q (HO.lst [V.int s])) e2 (HO.lst (((ts.drop 1).map fun t => V.int t.1) ++ [V.int s])) = H2 at *
  have he3 : H2 e2 = some (.lst (((ts.drop 1).map fun t => V.int t.1) ++ [V.int s])) := by rw [← hH2]; exact upd_same
  clear hH2
  walk_at "nx"
  walk_at "nx"
  refine ⟨⟨xs, sA.seq hS⟩, ⟨_, SqL.of he3⟩, Kv.for_zp xs (((ts.drop 1).map fun t => V.int t.1) ++ [V.int s]) ts.length (by simp; have : ts.length ≠ 0 := fun z => hne (List.length_eq_zero_iff.mp z); omega) (invParts a s e2 ts H2) ⟨0, _, _, _, _, rfl, by simp, Same.refl _⟩ ?_ ?_ ?_⟩
  · rintro i σ' H' ⟨_, _, _, _, _, rfl, _, s2⟩
    exact ⟨s2.seq (sA.seq hS), SqL.of (s2 _ _ he3)⟩
  · rintro i x y2 T2 σ' H' hi hx hy ⟨v, _, _, _, _, rfl, hv, s2⟩ hT
    obtain ⟨t, ht, r, rfl, hr⟩ := hA.get hx
    have sB := sA.trans (s2.trans (Kv.same_upd (o := .tup [.ref r, y2]) hT))
    have hy2 : y2 = .int (endAt ts s i) := by
      unfold endAt
      rcases Nat.lt_or_ge (i + 1) ts.length with h | h
      · rw [List.getElem?_append_left (by simp; omega), List.getElem?_map, List.getElem?_drop] at hy
        rw [Nat.add_comm 1 i, List.getElem?_eq_getElem h] at hy
        rw [List.getElem?_eq_getElem h]
        cases hy
        rfl
      · rw [List.getElem?_append_right (by simp; omega)] at hy
        rw [List.getElem?_eq_none h]
        have e : i - ((ts.drop 1).map fun t => V.int t.1).length = 0 := by simp; omega
        rw [e] at hy
        cases hy
        rfl
    subst hy2
    have tb := hb t (List.mem_of_getElem? ht)
    have eb : 0 ≤ endAt ts s i ∧ endAt ts s i ≤ 100000000000000 := by
      unfold endAt
      split
      · rename_i u hu
        have := hb u (List.mem_of_getElem? hu)
        omega
      · omega
    refine ⟨T2, _, rfl, SqT.of upd_same, rfl, .ref r, [.int (endAt ts s i)], rfl, Kv.gtupN2 (Kv.same_tup sB hr) ⟨_, [], rfl, rfl, ?_⟩⟩
    walk_at "rd"
    refine ⟨Kv.mulX (Kv.bits64 (by omega) (by omega)) (Kv.bits64 (by (repeat' split) <;> omega) (by (repeat' split) <;> omega)), ?_⟩
    refine ⟨_, _, _, _, _, rfl, ?_, s2.trans (Kv.same_upd hT)⟩
    rw [← hv, pt_step ht]
    unfold m0
    omega
  · rintro σ' H' ⟨v, _, _, _, _, rfl, hv, s2⟩
    walk_at "nx"
    rw [List.drop_length] at hv
    have hv : v = pt ts s := by simpa [pt] using hv
    subst hv
    exact hq _ (sA.trans s2)
/-- the tiers that the law makes -/
def Good (ts : List (Int × Int)) : Prop := ts ≠ [] ∧ ts.length ≤ 8 ∧ ts.Pairwise (fun a b => a.1 ≤ b.1) ∧ (∀ t ∈ ts, 0 ≤ t.1 ∧ t.1 ≤ 8000000000 ∧ 0 ≤ t.2 ∧ t.2 ≤ 10000) ∧ (∀ t, ts[0]? = some t → t.1 = 0)
def spTiers (K : PySem.W.Frag) : Sp := fun vs H Q _ => ∃ (a : Addr) (ns : List Int), vs = [.ref a, .int 0] ∧ SqL K H a (ns.map V.int) ∧ ns.length = 24 ∧ (∀ z ∈ ns, 0 ≤ z ∧ z < 10000000000000) ∧
  ∀ p ts H', Good ts → Same H H' → Kv.Prs K H' p ts → Q (.ref p) H'
def invTiers (a : Addr) (tl : Addr) (H : Hp) : Nat → L2.St → Hp → Prop := fun i σ' H' => ∃ (st : Int) (v4 v5 : Option V) (xs : List V) (ts : List (Int × Int)), σ' = [some (.ref a), some (.int 0), some (.int st), some (.ref tl), v4, v5] ∧ Same H H' ∧
  H' tl = some (.lst xs) ∧ Kv.All2 (fun x t => ∃ r, x = .ref r ∧ H' r = some (.tup [.int t.1, .int t.2])) xs ts ∧ ts.length = i ∧ 0 ≤ st ∧ st ≤ 200000000 * i ∧ ts.Pairwise (fun a b => a.1 ≤ b.1) ∧ (∀ t ∈ ts, 0 ≤ t.1 ∧ t.1 ≤ st ∧ 0 ≤ t.2 ∧ t.2 ≤ 10000) ∧ (∀ t, ts[0]? = some t → t.1 = 0) ∧ (ts = [] → st = 0)
theorem ok_L_tiers (T : Txt K mg) : FnOk P w K mg base CX0 1 T.a__law_tiers T.d__law_tiers ["numbers", "at"] (spTiers K) := by
  refine T.F__law_tiers.ok sc_L_tiers (fun vs H Q E h => by obtain ⟨_, _, rfl, _⟩ := h; rfl) (fun cdv A outer s H vs Q E hr h => ?_)
  refine ⟨_, 
      (pss_cons (ps_set (i := 2) sc_L_tiers.nd rfl (Or.inl rfl) pe_int)
      (pss_cons (ps_set (i := 3) sc_L_tiers.nd rfl (Or.inl rfl) (pe_lst pa_nil))
      (pss_cons (ps_for PassesOwn.never rfl (pi_range1 (by rfl) T.n_range (pa_cons (pe_op op_add pe_int (pe_op op_mod (pe_ix ix_list (pv 0) (pv 1) (fun _ _ => rfl)) pe_int)) pa_nil)) (pg_name (i := 4) sc_L_tiers.nd rfl (Or.inl rfl)) 
        (pss_cons (ps_expr (pe_bm PySem.F.plainAttrs_list PySem.F.slot_list_append PySem.F.type_list_append mt_append (pv 3) (pa_cons (pe_tup (pa_cons (pv 2) (pa_cons (pe_op op_mod (pe_ix ix_list (pv 0) (pe_op op_add (pe_op op_add (pv 1) pe_int) (pe_op op_mulX pe_int (pv 4))) (fun _ _ => rfl)) pe_int) pa_nil))) pa_nil)))
        (pss_cons (ps_set (i := 5) sc_L_tiers.nd rfl (Or.inl rfl) (pe_op op_add pe_int (pe_op op_mod (pe_ix ix_list (pv 0) (pe_op op_add (pe_op op_add (pv 1) pe_int) (pe_op op_mulX pe_int (pv 4))) (fun _ _ => rfl)) pe_int)))
        (pss_cons (ps_if (pt_cmpR op_eq (pe_op op_mod (pe_ix ix_list (pv 0) (pe_op op_add (pv 1) pe_int) (fun _ _ => rfl)) pe_int) pe_int (nomark _)) 
          (pss_one (ps_set (i := 5) sc_L_tiers.nd rfl (Or.inl rfl) (pe_op op_add pe_int (pe_op op_mod (pe_ix ix_list (pv 0) (pe_op op_add (pe_op op_add (pv 1) pe_int) (pe_op op_mulX pe_int (pv 4))) (fun _ _ => rfl)) pe_int)))) pss_nil)
        (pss_one (ps_set (i := 2) sc_L_tiers.nd rfl (Or.inl rfl) (pe_op op_add (pv 2) (pv 5))))))))
      (pss_one (ps_ret (pv 3)))))), ?_⟩
  obtain ⟨a, ns, rfl, hS, hl, hn, hq⟩ := h
  walk_at "st"
  walk_at "nx"
  refine ⟨Nat.zero_le _, fun tl htl => ?_⟩
  walk_at "nx"
  refine Kv.ix_num ((Kv.same_upd htl).seq hS) (by omega) ?_
  walk_at "rd"
  refine ⟨by omega, by omega, Kv.for_rng0 (invTiers a tl H) ⟨0, _, _, [], [], rfl, Kv.same_upd htl, upd_same, .nil, rfl, by omega, by omega, .nil, fun _ h => by simp at h, fun _ h => by simp at h, fun _ => rfl⟩ ?_ ?_⟩
  · rintro i σ' H' hi ⟨st, _, _, xs, ts, rfl, hs, htl', hA, hlt, st0, st1, hp, hb, h0, hz⟩
    have hi : i < 8 := by omega
    have hS' : SqL K H' a (ns.map V.int) := hs.seq hS
    have bi : Builtin.Int.intBits (i : Int) ≤ 64 := Kv.bits64 (by omega) (by omega)
    have m2 : CMulX 2 (i : Int) := Kv.mulX (a := 64) (by decide) bi
    walk_at "st"
    refine ⟨.inl ⟨rfl, _, SqL.of htl'⟩, m2, Kv.ix_num hS' (by omega) ?_⟩
    walk_at "rd"
    refine ⟨by show 2 ≤ sizeLine; decide, fun t ht => ?_⟩
    have s2 := Kv.same_upd (o := .tup [.int st, .int (ns.getD (2 + 2 * (i : Int)).toNat 0 % 10001)]) ht
    refine ⟨_, s2 _ _ htl', Nat.lt_of_le_of_lt (show xs.length ≤ 8 by rw [hA.len]; omega) (by decide), ?_⟩
    have s3 : Same H (upd (upd H' t (HO.tup [V.int st, V.int (ns.getD (2 + 2 * (i : Int)).toNat 0 % 10001)])) tl (HO.lst (xs ++ [V.ref t]))) := Kv.same_mut htl (hs.trans s2)
    have e3 : (upd (upd H' t (HO.tup [V.int st, V.int (ns.getD (2 + 2 * (i : Int)).toNat 0 % 10001)])) tl (HO.lst (xs ++ [V.ref t]))) tl = some (.lst (xs ++ [V.ref t])) := upd_same
    have hA3 : Kv.All2 (fun x (u : Int × Int) => ∃ r, x = V.ref r ∧ (upd (upd H' t (HO.tup [V.int st, V.int (ns.getD (2 + 2 * (i : Int)).toNat 0 % 10001)])) tl (HO.lst (xs ++ [V.ref t]))) r = some (HO.tup [V.int u.fst, V.int u.snd])) (xs ++ [V.ref t]) (ts ++ [(st, ns.getD (2 + 2 * (i : Int)).toNat 0 % 10001)]) := by
      refine (hA.mono ?_).snoc ⟨t, rfl, Kv.tup_keep upd_same (s2 _ _ htl')⟩
      rintro x u ⟨r, rfl, hr⟩
      exact ⟨r, rfl, Kv.tup_keep (s2 _ _ hr) (s2 _ _ htl')⟩
    have hlt2 : (ts ++ [(st, ns.getD (2 + 2 * (i : Int)).toNat 0 % 10001)]).length = i + 1 := by simp [hlt]
    have hp2 : (ts ++ [(st, ns.getD (2 + 2 * (i : Int)).toNat 0 % 10001)]).Pairwise (fun a b => a.1 ≤ b.1) := by
      refine List.pairwise_append.mpr ⟨hp, List.pairwise_singleton _ _, fun u hu v hv => ?_⟩
      rw [List.mem_singleton.mp hv]
      exact (hb u hu).2.1
    have h02 : ∀ t, (ts ++ [(st, ns.getD (2 + 2 * (i : Int)).toNat 0 % 10001)])[0]? = some t → t.1 = 0 := by
      intro u hu
      cases ts with
      | nil => cases hu; exact hz rfl
      | cons v r => exact h0 u hu
    have fin : ∀ g : Int, 1 ≤ g → g ≤ 140000000 → ∀ v4 v5, invTiers a tl H (i + 1) [some (.ref a), some (.int 0), some (.int (st + g)), some (.ref tl), v4, v5] (upd (upd H' t (HO.tup [V.int st, V.int (ns.getD (2 + 2 * (i : Int)).toNat 0 % 10001)])) tl (HO.lst (xs ++ [V.ref t]))) := by
      intro g g1 g2 v4 v5
      refine ⟨st + g, _, _, _, _, rfl, s3, e3, hA3, hlt2, by omega, by omega, hp2, fun u hu => ?_, h02, fun z => by simp at z⟩
      rcases List.mem_append.mp hu with hu | hu
      · have := hb u hu
        omega
      · rw [List.mem_singleton.mp hu]
        refine ⟨st0, ?_, ?_, ?_⟩ <;> dsimp only <;> omega
    have hS3 := s3.seq hS
    generalize upd (upd H' t (HO.tup [V.int st, V.int (ns.getD (2 + 2 * (i : Int)).toNat 0 % 10001)])) tl (HO.lst (xs ++ [V.ref t])) = H3 at *
    walk_at "nx"
    refine ⟨m2, Kv.ix_num hS3 (by omega) ?_⟩
    walk_at "nx"
    refine Kv.ix_num hS3 (by omega) ?_
    walk_at "rd"
    split
    · refine ⟨m2, Kv.ix_num hS3 (by omega) ?_⟩
      walk_at "nx"
      exact fin _ (by omega) (by omega) _ _
    · exact fin _ (by omega) (by omega) _ _
  · rintro σ' H' ⟨st, _, _, xs, ts, rfl, hs, htl', hA, hlt, st0, st1, hp, hb, h0, hz⟩
    walk_at "nx"
    have hlen : ts.length ≤ 8 := by omega
    refine hq tl ts H' ⟨fun z => ?_, hlen, hp, fun t ht => ?_, h0⟩ hs ⟨xs, SqL.of htl', hA.mono ?_⟩
    · subst z
      simp at hlt
      omega
    · have := hb t ht
      omega
    · rintro x t ⟨r, rfl, hr⟩
      exact ⟨r, rfl, SqT.of hr⟩
def spSize (K : PySem.W.Frag) : Sp := fun vs H Q _ => ∃ (n c : Int) (a : Addr) (ts : List (Int × Int)), vs = [.int n, .int c, .ref a] ∧ Kv.Prs K H a ts ∧ ts ≠ [] ∧ ts.length ≤ 8 ∧ 0 ≤ n ∧ n ≤ 10000000000000 ∧ (∀ t ∈ ts, 0 ≤ t.1 ∧ t.1 ≤ 8000000000) ∧ ∀ m, 0 ≤ m → m ≤ 10000000000000 → Q (.int m) H
theorem ok_L_size (T : Txt K mg) : FnOk P w K mg base CX0 1 T.a__law_size T.d__law_size ["number", "choice", "tiers"] (spSize K) := by
  refine T.F__law_size.ok sc_L_size (fun vs H Q E h => by obtain ⟨_, _, _, _, rfl, _⟩ := h; rfl) (fun cdv A outer s H vs Q E hr h => ?_)
  refine ⟨_, 
      (pss_cons (ps_if (pt_cmpR op_eq (pe_op op_mod (pv 1) pe_int) pe_int (nomark _)) 
        (pss_one (ps_ret (pv 0))) pss_nil)
      (pss_one (ps_ret (pe_callB (call_max2 rfl) (by rfl) T.n_max (by decide +kernel) (pa_cons pe_int (pa_cons (pe_op op_sub (pe_op op_add (pe_ix ix_tup (pe_ix ix_list (pv 2) (pe_op op_mod (pv 0) (pe_callB call_len_seq (by rfl) T.n_len PySem.boot_len (pa_cons (pv 2) pa_nil))) (fun _ _ => rfl)) pe_int (fun _ _ => rfl)) (pe_op op_mod (pe_op op_fdivW (pv 0) pe_int) pe_int)) pe_int) pa_nil)))))), ?_⟩
  obtain ⟨n, c, a, ts, rfl, ⟨xs, hS, hA⟩, hne, hl, n0, n1, hb, hq⟩ := h
  walk_at "rd"
  split
  · exact hq _ n0 n1
  have hlx := hA.len
  have ht0 : ts.length ≠ 0 := fun z => hne (List.length_eq_zero_iff.mp z)
  refine ⟨xs, .inl hS, by omega, ?_⟩
  have k0 : 0 ≤ n % (xs.length : Int) := Int.emod_nonneg _ (by omega)
  have k1 : n % (xs.length : Int) < (xs.length : Int) := Int.emod_lt_of_pos _ (by omega)
  obtain ⟨x, hx⟩ : ∃ x, xs[(n % (xs.length : Int)).toNat]? = some x := ⟨_, List.getElem?_eq_getElem (by omega)⟩
  obtain ⟨t, ht, r, rfl, hr⟩ := hA.get hx
  refine Kv.ix_at hS k0 hx ?_
  refine ⟨r, _, 0, _, rfl, rfl, hr, rfl, ?_⟩
  walk_at "rd"
  have tb := hb t (List.mem_of_getElem? ht)
  refine ⟨⟨by decide, by decide⟩, hq _ ?_ ?_⟩ <;> split <;> omega
def midRates (a : Addr) (z : Int) (nl p : Addr) (n : Nat) (H : Hp) : L2.St → Hp → Prop := fun σ' H' => ∃ (rl : Addr) (rs : List Int) (v5 v6 v7 v8 v9 v10 : Option V), σ' = [some (.ref a), some (.int z), some (.ref nl), some (.ref p), some (.ref rl), v5, v6, v7, v8, v9, v10] ∧ Same H H' ∧
  H' rl = some (.lst (rs.map V.int)) ∧ rs.length = n ∧ ∀ r ∈ rs, 0 ≤ r ∧ r ≤ 10000
def mix (ts : List (Int × Int)) (rs : List Int) : List (Int × Int) := (ts.zip rs).map fun q => (q.1.1, q.2)
theorem mix_get {ts : List (Int × Int)} {rs : List Int} {i : Nat} {t : Int × Int} {r : Int} (h1 : ts[i]? = some t) (h2 : rs[i]? = some r) : (mix ts rs)[i]? = some (t.1, r) := by
  unfold mix
  rw [List.getElem?_map, show (ts.zip rs)[i]? = some (t, r) from List.getElem?_zip_eq_some.mpr ⟨h1, h2⟩]
  rfl
theorem mix_len {ts : List (Int × Int)} {rs : List Int} (h : rs.length = ts.length) : (mix ts rs).length = ts.length := by
  unfold mix
  simp [h]
theorem mix_fst : ∀ {ts : List (Int × Int)} {rs : List Int}, rs.length = ts.length → (mix ts rs).map (·.1) = ts.map (·.1)
  | [], rs, h => by simp [mix]
  | t :: ts, [], h => by simp at h
  | t :: ts, r :: rs, h => by
    have ih := mix_fst (ts := ts) (rs := rs) (by simpa using h)
    simpa [mix] using ih
theorem mix_snd : ∀ {ts : List (Int × Int)} {rs : List Int}, rs.length = ts.length → (mix ts rs).map (·.2) = rs
  | [], [], h => by simp [mix]
  | [], r :: rs, h => by simp at h
  | t :: ts, [], h => by simp at h
  | t :: ts, r :: rs, h => by
    have ih := mix_snd (ts := ts) (rs := rs) (by simpa using h)
    simpa [mix] using ih
theorem mix_good {ts : List (Int × Int)} {rs : List Int} (hg : Good ts) (h : rs.length = ts.length) (hb : ∀ r ∈ rs, 0 ≤ r ∧ r ≤ 10000) : Good (mix ts rs) := by
  obtain ⟨h1, h2, h3, h4, h5⟩ := hg
  have ef := mix_fst h
  have es := mix_snd h
  have el := mix_len h
  refine ⟨fun z => ?_, by omega, ?_, fun t ht => ?_, fun t ht => ?_⟩
  · rw [z] at el
    exact h1 (List.length_eq_zero_iff.mp el.symm)
  · have z : ((mix ts rs).map (·.1)).Pairwise (· ≤ ·) := by rw [ef]; exact List.pairwise_map.mpr h3
    exact List.pairwise_map.mp z
  · have a1 : t.1 ∈ ts.map (·.1) := by rw [← ef]; exact List.mem_map_of_mem ht
    have a2 : t.2 ∈ rs := by rw [← es]; exact List.mem_map_of_mem ht
    obtain ⟨u, hu, e⟩ := List.mem_map.mp a1
    have := h4 u hu
    have := hb _ a2
    omega
  · have e : ((mix ts rs).map (·.1))[0]? = some t.1 := by rw [List.getElem?_map, ht]; rfl
    rw [ef, List.getElem?_map] at e
    cases hu : ts[0]? with
    | none => rw [hu] at e; cases e
    | some u => rw [hu] at e; rw [← Option.some.inj e]; exact h5 u hu
def midEnd (a : Addr) (z : Int) (nl q rl : Addr) (one two ap tg : Int) (H : Hp) : L2.St → Hp → Prop := fun σ' H' => ∃ v5 v6, σ' = [some (.ref a), some (.int z), some (.ref nl), some (.ref q), some (.ref rl), v5, v6, some (.int one), some (.int two), some (.int ap), some (.int tg)] ∧ Same H H'
theorem good_cons {us : List (Int × Int)} (h : Good us) : ∃ t r, us = t :: r ∧ t.1 = 0 ∧ ∀ s, 0 ≤ s → m0 (s - t.1) = s := by
  obtain ⟨h1, h2, h3, h4, h5⟩ := h
  cases us with
  | nil => exact absurd rfl h1
  | cons t r =>
    have z := h5 t rfl
    exact ⟨t, r, rfl, z, fun s hs => by unfold m0; split <;> omega⟩
theorem good_super {us : List (Int × Int)} (h : Good us) {x y : Int} (hx : 0 ≤ x) (hy : 0 ≤ y) (hp : (us.map (·.2)).Pairwise (· ≤ ·)) : pt us x + pt us y ≤ pt us (x + y) := by
  obtain ⟨t, r, rfl, t0, tm⟩ := good_cons h
  have e := ee_super hx hy (List.pairwise_map.mp hp) fun u hu => (h.2.2.2.1 u (List.mem_cons_of_mem _ hu)).1
  rw [pt_ee h.2.2.1, pt_ee h.2.2.1, pt_ee h.2.2.1, tm x hx, tm y hy, tm (x + y) (by omega), Int.mul_add]
  omega
theorem good_sub {us : List (Int × Int)} (h : Good us) {x y : Int} (hx : 0 ≤ x) (hy : 0 ≤ y) (hp : OrdB true (us.map (·.2))) : pt us (x + y) ≤ pt us x + pt us y := by
  obtain ⟨t, r, rfl, t0, tm⟩ := good_cons h
  have e := ee_sub hx hy (List.pairwise_map.mp hp) fun u hu => (h.2.2.2.1 u (List.mem_cons_of_mem _ hu)).1
  rw [pt_ee h.2.2.1, pt_ee h.2.2.1, pt_ee h.2.2.1, tm x hx, tm y hy, tm (x + y) (by omega), Int.mul_add]
  omega
theorem good_low {us : List (Int × Int)} (h : Good us) {s m : Int} (hs : 0 ≤ s) (hm : ∀ r ∈ us.map (·.2), m ≤ r) : s * m ≤ pt us s := by
  obtain ⟨t, r, rfl, t0, tm⟩ := good_cons h
  have z := pt_low (s := s) (m := m) h.2.2.1 fun u hu => hm _ (List.mem_map_of_mem hu)
  rw [tm s hs, Int.mul_comm] at z
  exact z
theorem good_high {us : List (Int × Int)} (h : Good us) {s m : Int} (hs : 0 ≤ s) (hm : ∀ r ∈ us.map (·.2), r ≤ m) : pt us s ≤ s * m := by
  obtain ⟨t, r, rfl, t0, tm⟩ := good_cons h
  have z := pt_high (s := s) (m := m) h.2.2.1 fun u hu => hm _ (List.mem_map_of_mem hu)
  rw [tm s hs, Int.mul_comm] at z
  exact z
def invLaw (a : Addr) (H1 : Hp) : L2.St → Hp → Prop := fun σ' H' => ∃ v1 v2 v3 v4 v5 v6 v7 v8 v9 v10 : Option V, σ' = [some (.ref a), v1, v2, v3, v4, v5, v6, v7, v8, v9, v10] ∧ Same H1 H'
theorem ok_law (T : Txt K mg) : FnOk P w K mg base CX0 2 T.a_law T.d_law ["script"] (Kv.spLaw K) := by
  refine T.F_law.ok sc_law (fun vs H Q E h => ?_) (fun cdv A outer s H vs Q E hr h => ?_)
  · obtain ⟨a, ns, rfl, _⟩ := h
    rfl
  refine ⟨_, 
      (pss_cons (ps_for PassesOwn.never rfl (pi_list (pe_op Kv.op_catS (pe_lst (pa_cons pe_int pa_nil)) (pv 0))) (pg_name (i := 1) sc_law.nd rfl (Or.inl rfl)) 
        (pss_cons (ps_set (i := 2) sc_law.nd rfl (Or.inl rfl) (pe_call (ok_L_numbers T) (hr.mono (by decide : 1 ≤ _)) (by rfl) T.g__law_numbers T.F__law_numbers.kp T.b__law_numbers .nil pass0 (pa_cons (pv 1) (pa_cons pe_int pa_nil))))
        (pss_cons (ps_set (i := 3) sc_law.nd rfl (Or.inr rfl) (pe_call (ok_L_tiers T) (hr.mono (by decide : 1 ≤ _)) (by rfl) T.g__law_tiers T.F__law_tiers.kp T.b__law_tiers .nil pass0 (pa_cons (pv 2) (pa_cons pe_int pa_nil))))
        (pss_cons (ps_set (i := 4) sc_law.nd rfl (Or.inr rfl) (pe_lc (own := [("tier", 5)]) (g := gName 5) (tt := tYes) rfl sc_law.nd (pi_list (pv 3)) (blkOk_by (N := ["script", "cell", "numbers", "tiers", "rates", "tier", "k", "one", "two", "apart", "together"]) (sc := defScope s_law) (by decide +kernel)) (fun _ _ _ _ _ => (pg_name (i := 5) sc_law.nd rfl (Or.inl rfl))) (fun _ _ _ _ _ => pts_nil) (fun _ _ _ _ _ => (pe_ix (Kv.ixt K) (pv 5) pe_int (fun _ _ => rfl)))))
        (pss_cons (ps_if (pt_cmpR op_eq (pe_op op_mod (pe_ix ix_list (pv 2) pe_int (fun _ _ => rfl)) pe_int) pe_int (nomark _)) 
          (pss_one (ps_set (i := 4) sc_law.nd rfl (Or.inr rfl) (pe_callB cr_sorted (by rfl) T.n_sorted (by decide +kernel) (pa_cons (pv 4) pa_nil)))) pss_nil)
        (pss_cons (ps_if (pt_cmpR op_eq (pe_op op_mod (pe_ix ix_list (pv 2) pe_int (fun _ _ => rfl)) pe_int) pe_int (nomark _)) 
          (pss_one (ps_set (i := 4) sc_law.nd rfl (Or.inr rfl) (pe_callBK (cr_sortedRev (b := true)) (by rfl) T.n_sorted (by decide +kernel) (pa_cons (pv 4) pa_nil) (pk_cons pe_bl pk_nil)))) pss_nil)
        (pss_cons (ps_set (i := 3) sc_law.nd rfl (Or.inr rfl) (pe_lc (own := [("k", 6)]) (g := gName 6) (tt := tYes) rfl sc_law.nd (pi_range1 (by rfl) T.n_range (pa_cons (pe_callB call_len_seq (by rfl) T.n_len PySem.boot_len (pa_cons (pv 3) pa_nil)) pa_nil)) (blkOk_by (N := ["script", "cell", "numbers", "tiers", "rates", "tier", "k", "one", "two", "apart", "together"]) (sc := defScope s_law) (by decide +kernel)) (fun _ _ _ _ _ => (pg_name (i := 6) sc_law.nd rfl (Or.inl rfl))) (fun _ _ _ _ _ => pts_nil) (fun _ _ _ _ _ => (pe_tup (pa_cons (pe_ix (Kv.ixt K) (pe_ix (Kv.ixl K) (pv 3) (pv 6) (fun _ _ => rfl)) pe_int (fun _ _ => rfl)) (pa_cons (pe_ix (Kv.ixl K) (pv 4) (pv 6) (fun _ _ => rfl)) pa_nil))))))
        (pss_cons (ps_set (i := 7) sc_law.nd rfl (Or.inl rfl) (pe_call (ok_L_size T) (hr.mono (by decide : 1 ≤ _)) (by rfl) T.g__law_size T.F__law_size.kp T.b__law_size .nil pass0 (pa_cons (pe_ix ix_list (pv 2) pe_int (fun _ _ => rfl)) (pa_cons (pe_ix ix_list (pv 2) pe_int (fun _ _ => rfl)) (pa_cons (pv 3) pa_nil)))))
        (pss_cons (ps_set (i := 8) sc_law.nd rfl (Or.inl rfl) (pe_call (ok_L_size T) (hr.mono (by decide : 1 ≤ _)) (by rfl) T.g__law_size T.F__law_size.kp T.b__law_size .nil pass0 (pa_cons (pe_ix ix_list (pv 2) pe_int (fun _ _ => rfl)) (pa_cons (pe_op op_fdivW (pe_ix ix_list (pv 2) pe_int (fun _ _ => rfl)) pe_int) (pa_cons (pv 3) pa_nil)))))
        (pss_cons (ps_set (i := 9) sc_law.nd rfl (Or.inl rfl) (pe_op op_add (pe_call (ok_parts_of T) (hr.mono (by decide : 1 ≤ _)) (by rfl) T.g_parts_of T.F_parts_of.kp T.b_parts_of .nil pass0 (pa_cons (pe_callTy call_list_of (by rfl) T.n_list (by decide +kernel) (pa_cons (pv 3) pa_nil)) (pa_cons (pv 7) pa_nil))) (pe_call (ok_parts_of T) (hr.mono (by decide : 1 ≤ _)) (by rfl) T.g_parts_of T.F_parts_of.kp T.b_parts_of .nil pass0 (pa_cons (pe_callTy call_list_of (by rfl) T.n_list (by decide +kernel) (pa_cons (pv 3) pa_nil)) (pa_cons (pv 8) pa_nil)))))
        (pss_cons (ps_set (i := 10) sc_law.nd rfl (Or.inl rfl) (pe_call (ok_parts_of T) (hr.mono (by decide : 1 ≤ _)) (by rfl) T.g_parts_of T.F_parts_of.kp T.b_parts_of .nil pass0 (pa_cons (pe_callTy call_list_of (by rfl) T.n_list (by decide +kernel) (pa_cons (pv 3) pa_nil)) (pa_cons (pe_op op_add (pv 7) (pv 8)) pa_nil))))
        (pss_cons (ps_if (PW.pt (pw_and (pt_cmpR (op_eqD hr.units) (pv 4) (pe_callB cr_sorted (by rfl) T.n_sorted (by decide +kernel) (pa_cons (pv 4) pa_nil)) (nomark _)) (pw_and1 (pt_cmpR op_lt (pv 10) (pv 9) (nomark _))))) 
          (pss_one (ps_ret pe_bl)) pss_nil)
        (pss_cons (ps_if (PW.pt (pw_and (pt_cmpR (op_eqD hr.units) (pv 4) (pe_callBK (cr_sortedRev (b := true)) (by rfl) T.n_sorted (by decide +kernel) (pa_cons (pv 4) pa_nil) (pk_cons pe_bl pk_nil)) (nomark _)) (pw_and1 (pt_cmpR op_gt (pv 10) (pv 9) (nomark _))))) 
          (pss_one (ps_ret pe_bl)) pss_nil)
        (pss_cons (ps_if (pt_cmpR op_lt (pe_call (ok_parts_of T) (hr.mono (by decide : 1 ≤ _)) (by rfl) T.g_parts_of T.F_parts_of.kp T.b_parts_of .nil pass0 (pa_cons (pe_callTy call_list_of (by rfl) T.n_list (by decide +kernel) (pa_cons (pv 3) pa_nil)) (pa_cons (pe_callB (call_max2 rfl) (by rfl) T.n_max (by decide +kernel) (pa_cons (pv 7) (pa_cons (pv 8) pa_nil))) pa_nil))) (pe_call (ok_parts_of T) (hr.mono (by decide : 1 ≤ _)) (by rfl) T.g_parts_of T.F_parts_of.kp T.b_parts_of .nil pass0 (pa_cons (pe_callTy call_list_of (by rfl) T.n_list (by decide +kernel) (pa_cons (pv 3) pa_nil)) (pa_cons (pe_callB (call_min2 rfl) (by rfl) T.n_min (by decide +kernel) (pa_cons (pv 7) (pa_cons (pv 8) pa_nil))) pa_nil))) (nomark _)) 
          (pss_one (ps_ret pe_bl)) pss_nil)
        (pss_one (ps_if (PW.pt (pw_or (pt_cmpR op_lt (pv 10) (pe_op op_mulX (pe_op op_add (pv 7) (pv 8)) (pe_callB (cr_min rfl) (by rfl) T.n_min (by decide +kernel) (pa_cons (pv 4) pa_nil))) (nomark _)) (pw_or1 (pt_cmpR op_gt (pv 10) (pe_op op_mulX (pe_op op_add (pv 7) (pv 8)) (pe_callB (cr_max rfl) (by rfl) T.n_max (by decide +kernel) (pa_cons (pv 4) pa_nil))) (nomark _))))) 
          (pss_one (ps_ret pe_bl)) pss_nil))))))))))))))))
      (pss_one (ps_ret pe_bl))), ?_⟩
  obtain ⟨a, ns, rfl, hS, hl, hb, hq⟩ := h
  refine Kv.seq_step fun U hU => ?_
  refine Kv.tfor_cells (H0 := H) rfl hS hl fun b H1 s1 hb1 => ?_
  refine Kv.for_cells hb1 (by decide) hb (invLaw a H1) ⟨_, _, _, _, _, _, _, _, _, _, rfl, Same.refl _⟩ ?_ ?_ ?_
  · rintro σ' H' ⟨_, _, _, _, _, _, _, _, _, _, rfl, hs⟩
    exact hs
  · rintro z σ' H' bz ⟨_, _, _, _, _, _, _, _, _, _, rfl, hs⟩
    walk_at "st"
    refine ⟨z, 24, rfl, bz, by decide, by decide, fun ms nl H2 ml mr s2 f2 hn2 => ?_⟩
    walk_at "nx"
    refine ⟨nl, ms, rfl, SqL.of hn2, by omega, mr, fun p ts H3 hg s3 hp3 => ?_⟩
    walk_at "nx"
    obtain ⟨xs, hSx, hA⟩ := hp3
    have hlx := hA.len
    have hn3 := s3 _ _ hn2
    refine ⟨⟨xs, hSx⟩, Kv.lc_pure walk_list (ts.map fun t => V.int t.2) (by simp [hlx]) (Nat.lt_of_le_of_lt (show xs.length ≤ 8 by rw [hlx]; exact hg.2.1) (by decide)) (fun H' s1 => s1.seq hSx) (fun i x y H4 H5 U hy s1 hY hU => ?_) fun rl H4 hrl s4 hr4 => ?_⟩
    · obtain ⟨rfl, hx⟩ := hY
      obtain ⟨t, ht, r, rfl, hr⟩ := hA.get hx
      rw [List.getElem?_map, ht] at hy
      cases hy
      walk_at "rd"
      exact ⟨r, _, 1, _, rfl, rfl, Kv.same_tup s1 hr, rfl, hU _ (Same.refl _)⟩
    subst_vars
    refine Kv.seq_cut (midRates a z nl p ts.length H3) (fun U hU => ?_) ?_
    · walk_at "rd"
      refine Kv.ix_num (SqL.of (s4 _ _ hn3)) (by omega) ?_
      walk_at "rd"
      have hr4' : H4 rl = some (.lst ((ts.map (·.2)).map V.int)) := by rw [hr4, List.map_map]; rfl
      have hb4 : ∀ r ∈ ts.map (·.2), 0 ≤ r ∧ r ≤ 10000 := by
        intro r hr
        obtain ⟨t, ht, rfl⟩ := List.mem_map.mp hr
        exact (hg.2.2.2.1 t ht).2.2
      split
      · refine ⟨rl, ts.map (·.2), rfl, SqL.of hr4', by have := hg.2.1; simp; omega, fun ns' q hp' _ hq' => ?_⟩
        exact hU _ _ ⟨_, ns', _, _, _, _, _, _, rfl, s4.trans (Kv.same_upd hq'), upd_same, by rw [hp'.length_eq, List.length_map], fun r hr => hb4 r (hp'.mem_iff.mp hr)⟩
      · exact hU _ _ ⟨_, _, _, _, _, _, _, _, rfl, s4, hr4', by simp, hb4⟩
    rintro σ' H5 ⟨rl, rs, _, _, _, _, _, _, rfl, s5, hr5, hrl5, hrb⟩
    refine Kv.seq_cut (midRates a z nl p ts.length H3) (fun U hU => ?_) ?_
    · walk_at "rd"
      refine Kv.ix_num (SqL.of (s5 _ _ hn3)) (by omega) ?_
      walk_at "rd"
      split
      · refine ⟨rl, rs, rfl, rfl, SqL.of hr5, fun ns' q hp' _ hq' => ?_⟩
        exact hU _ _ ⟨_, ns', _, _, _, _, _, _, rfl, s5.trans (Kv.same_upd hq'), upd_same, by rw [hp'.length_eq, hrl5], fun r hr => hrb r (hp'.mem_iff.mp hr)⟩
      · exact hU _ _ ⟨_, _, _, _, _, _, _, _, rfl, s5, hr5, hrl5, hrb⟩
    rintro σ' H6 ⟨rl, rs, _, _, _, _, _, _, rfl, s6, hr6, hrl6, hrb6⟩
    walk_at "st"
    have h8 := hg.2.1
    refine ⟨xs, .inl (s6.seq hSx), by omega, by omega, Kv.lc_go walk_range (fun i y H => ∃ t r, (mix ts rs)[i]? = some t ∧ y = .ref r ∧ H r = some (.tup [.int t.1, .int t.2])) (Nat.lt_of_le_of_lt (show _ ≤ 8 by have := hg.2.1; omega) (by decide)) ?_ (fun _ _ => trivial) ?_ ?_⟩
    · rintro i y H7 H8 D _ ⟨zs, hD⟩ _ ⟨t, r, e1, e2, e3⟩ k
      exact ⟨t, r, e1, e2, k _ _ (ne_of e3 hD (by intro z; cases z)) e3⟩
    · rintro i x H7 H8 D U hi _ _ s7 ⟨rfl, rfl⟩ hU
      obtain ⟨x, hx⟩ : ∃ x, xs[i]? = some x := ⟨_, List.getElem?_eq_getElem (by omega)⟩
      obtain ⟨t, ht, r, rfl, hr⟩ := hA.get hx
      obtain ⟨q, hq2⟩ : ∃ q, rs[i]? = some q := ⟨_, List.getElem?_eq_getElem (by omega)⟩
      walk_at "rd"
      refine Kv.ix_at ((s6.trans s7).seq hSx) (by omega) (by simpa using hx) ?_
      refine ⟨r, _, 0, _, rfl, rfl, Kv.same_tup (s6.trans s7) hr, rfl, ?_⟩
      refine Kv.ix_num (SqL.of (s7 _ _ hr6)) (by omega) ?_
      refine ⟨by show 2 ≤ sizeLine; decide, fun T2 hT2 => hU _ _ ⟨_, T2, mix_get ht hq2, rfl, ?_⟩ (Kv.same_upd hT2)⟩
      rw [upd_same]
      simp [hq2]
    rintro q ys H7 hq7 s7 hys hR hq8
    have hg2 := mix_good hg hrl6 hrb6
    have es := mix_snd hrl6
    have el := mix_len hrl6
    have hP : Kv.Prs K H7 q (mix ts rs) := by
      refine ⟨ys, SqL.of hq8, Kv.All2.of (by omega) fun i y t e1 e2 => ?_⟩
      obtain ⟨t2, r, e3, e4, e5⟩ := hR i y e1
      rw [e2] at e3
      cases e3
      exact ⟨r, e4, SqT.of e5⟩
    have hn7 := s7 _ _ (s6 _ _ hn3)
    have hr7 := s7 _ _ hr6
    have hS7 : Same H1 H7 := hs.trans (s2.trans (s3.trans (s6.trans s7)))
    clear hR hq8 hA hSx
    generalize mix ts rs = us at *
    walk_at "nx"
    refine Kv.ix_num (SqL.of hn7) (by omega) ?_
    walk_at "rd"
    refine Kv.ix_num (SqL.of hn7) (by omega) ?_
    walk_at "rd"
    have n21 := Kv.num_in mr 21
    have n22 := Kv.num_in mr 22
    have hub : ∀ t ∈ us, 0 ≤ t.1 ∧ t.1 ≤ 8000000000 := fun t ht => by have := hg2.2.2.2.1 t ht; omega
    refine ⟨_, _, _, us, rfl, hP, hg2.1, hg2.2.1, by exact n21.1, by have := n21.2; show ms.getD 21 0 ≤ _; omega, hub, fun one o0 o1 => ?_⟩
    walk_at "nx"
    refine Kv.ix_num (SqL.of hn7) (by omega) ?_
    walk_at "rd"
    refine Kv.ix_num (SqL.of hn7) (by omega) ?_
    walk_at "rd"
    refine ⟨⟨by decide, by decide⟩, ?_⟩
    refine ⟨_, _, _, us, rfl, hP, hg2.1, hg2.2.1, by exact n22.1, by have := n22.2; show ms.getD 22 0 ≤ _; omega, hub, fun two t0 t1 => ?_⟩
    walk_at "nx"
    obtain ⟨ys2, hSy, hAy⟩ := hP
    have call : ∀ (H8 : Hp) (s : Int) (Q2 : VK), Same H7 H8 → 0 ≤ s → s ≤ 20000000000000 → (∀ H9, Same H8 H9 → Q2 (.int (pt us s)) H9) → ∃ x, (SqL K H8 q x ∨ SqT K H8 q x) ∧ ∀ (l : Addr), H8 l = none → spParts K [V.ref l, V.int s] (upd H8 l (HO.lst x)) Q2 E0 := by
      intro H8 s Q2 s8 a0 a1 hQ2
      refine ⟨ys2, .inl (s8.seq hSy), fun l hl => ⟨l, us, s, rfl, ⟨ys2, SqL.of upd_same, hAy.mono fun _ _ => Kv.Pr.same (s8.trans (Kv.same_upd hl))⟩, hg2.1, by have := hg2.2.1; omega, fun t ht => by have := hg2.2.2.2.1 t ht; omega, a0, by omega, fun H9 s9 => hQ2 _ ((Kv.same_upd hl).trans s9)⟩⟩
    have hpos : ∀ t ∈ us, 0 ≤ t.2 := fun t ht => (hg2.2.2.2.1 t ht).2.2.1
    have mono : ∀ x y, x ≤ y → pt us x ≤ pt us y := fun x y h => pt_mono h hpos
    refine call _ _ _ (Same.refl _) o0 (by omega) fun H8 s8 => call _ _ _ s8 t0 (by omega) fun H9 s9 => ?_
    walk_at "rd"
    walk_at "nx"
    refine call _ _ _ (s8.trans s9) (by omega) (by omega) fun H10 s10 => ?_
    have sB := s8.trans (s9.trans s10)
    have pU := good_super hg2 (x := one) (y := two) o0 t0
    have pD := good_sub hg2 (x := one) (y := two) o0 t0
    have pL := fun m => good_low hg2 (s := one + two) (m := m) (by omega)
    have pH := fun m => good_high hg2 (s := one + two) (m := m) (by omega)
    subst_vars
    have rN : (us.map (·.2)).length < 64 := by rw [hrl6]; omega
    have rP : 0 < (us.map (·.2)).length := by rw [hrl6]; have := hg2.1; have : us.length ≠ 0 := fun z => hg2.1 (List.length_eq_zero_iff.mp z); omega
    generalize us.map (·.2) = rs at *
    refine Kv.seq_cut (midEnd a z nl q rl one two (pt us one + pt us two) (pt us (one + two)) H7) (fun U hU => ?_) ?_
    · walk_at "rd"
      refine ⟨rl, rs, rfl, SqL.of (sB _ _ hr7), rN, fun ns' p1 hp1 ho1 hf1 => Kv.eq_ints ((Kv.same_upd hf1).seq (SqL.of (sB _ _ hr7))) (SqL.of upd_same) ?_⟩
      walk_at "rd"
      split
      · rename_i e
        rw [if_neg (by have := pU (by rw [e]; exact ho1); omega)]
        exact hU _ _ ⟨_, _, rfl, sB.trans (Kv.same_upd hf1)⟩
      · exact hU _ _ ⟨_, _, rfl, sB.trans (Kv.same_upd hf1)⟩
    rintro σ' H11 ⟨_, _, rfl, s11⟩
    refine Kv.seq_cut (midEnd a z nl q rl one two (pt us one + pt us two) (pt us (one + two)) H7) (fun U hU => ?_) ?_
    · walk_at "rd"
      refine ⟨rl, rs, rfl, rfl, SqL.of (s11 _ _ hr7), fun ns' p1 hp1 ho1 hf1 => Kv.eq_ints ((Kv.same_upd hf1).seq (SqL.of (s11 _ _ hr7))) (SqL.of upd_same) ?_⟩
      walk_at "rd"
      split
      · rename_i e
        rw [if_neg (by have := pD (by rw [e]; exact ho1); omega)]
        exact hU _ _ ⟨_, _, rfl, s11.trans (Kv.same_upd hf1)⟩
      · exact hU _ _ ⟨_, _, rfl, s11.trans (Kv.same_upd hf1)⟩
    rintro σ' H12 ⟨_, _, rfl, s12⟩
    refine Kv.seq_cut (midEnd a z nl q rl one two (pt us one + pt us two) (pt us (one + two)) H7) (fun U hU => ?_) ?_
    · walk_at "rd"
      refine call _ _ _ s12 (by split <;> omega) (by split <;> omega) fun H13 s13 => ?_
      walk_at "rd"
      refine call _ _ _ (s12.trans s13) (by split <;> omega) (by split <;> omega) fun H14 s14 => ?_
      walk_at "rd"
      rw [if_neg (by have := mono (if two < one then two else one) (if two > one then two else one) (by (repeat' split) <;> omega); omega)]
      exact hU _ _ ⟨_, _, rfl, s12.trans (s13.trans s14)⟩
    rintro σ' H13 ⟨_, _, rfl, s13⟩
    walk_at "rd"
    refine ⟨rl, rs, rfl, SqL.of (s13 _ _ hr7), rP, fun m m1 m2 => ?_⟩
    walk_at "rd"
    have bm := hrb6 m m1
    have bs : Builtin.Int.intBits (one + two) ≤ 64 := Kv.bits64 (by omega) (by omega)
    refine ⟨Kv.mulX bs (Kv.bits64 (by omega) (by omega)), ?_⟩
    rw [if_neg (by have := pL m m2; omega)]
    refine ⟨rl, rs, rfl, SqL.of (s13 _ _ hr7), rP, fun n n1 n2 => ?_⟩
    walk_at "rd"
    have bn := hrb6 n n1
    refine ⟨Kv.mulX bs (Kv.bits64 (by omega) (by omega)), ?_⟩
    rw [if_neg (by have := pH n n2; omega)]
    exact ⟨_, _, _, _, _, _, _, _, _, _, rfl, hS7.trans s13⟩
  · rintro σ' H' ⟨_, _, _, _, _, _, _, _, _, _, rfl, hs⟩
    walk_at "nx"
    exact hq _
end
theorem txt_mk {K : PySem.W.Frag} {mg : Str → Option Value} {h : Heap} (X : K.In h) (G : h.Ns mainGlobals mg)
    {f_parts_of : Addr} {od_parts_of an_parts_of : Option Addr} {sl_parts_of : Array (Option Value)} {oc_parts_of kV_parts_of dc_parts_of pm_parts_of cd_parts_of ct_parts_of : Value}
    {f__law_numbers : Addr} {od__law_numbers an__law_numbers : Option Addr} {sl__law_numbers : Array (Option Value)} {oc__law_numbers kV__law_numbers dc__law_numbers pm__law_numbers cd__law_numbers ct__law_numbers : Value}
    {f__law_tiers : Addr} {od__law_tiers an__law_tiers : Option Addr} {sl__law_tiers : Array (Option Value)} {oc__law_tiers kV__law_tiers dc__law_tiers pm__law_tiers cd__law_tiers ct__law_tiers : Value}
    {f__law_size : Addr} {od__law_size an__law_size : Option Addr} {sl__law_size : Array (Option Value)} {oc__law_size kV__law_size dc__law_size pm__law_size cd__law_size ct__law_size : Value}
    {f_law : Addr} {od_law an_law : Option Addr} {sl_law : Array (Option Value)} {oc_law kV_law dc_law pm_law cd_law ct_law : Value}
    (a_parts_of : PySem.W.nsIn K mainGlobals "parts_of" = some (some (.ref f_parts_of)))
    (l_parts_of : K.lookup f_parts_of = some ⟨oc_parts_of, od_parts_of, .func (PySem.W.fnOf "parts_of" "parts_of" (defArgs s_parts_of) (defBody s_parts_of) (defScope s_parts_of) .none kV_parts_of dc_parts_of pm_parts_of an_parts_of cd_parts_of ct_parts_of), sl_parts_of⟩)
    (c_parts_of : PySem.W.codeIn K cd_parts_of "parts_of" = true)
    (k_parts_of : PySem.W.keepIn K (.ref f_parts_of) = true)
    (a__law_numbers : PySem.W.nsIn K mainGlobals "_law_numbers" = some (some (.ref f__law_numbers)))
    (l__law_numbers : K.lookup f__law_numbers = some ⟨oc__law_numbers, od__law_numbers, .func (PySem.W.fnOf "_law_numbers" "_law_numbers" (defArgs s_L_numbers) (defBody s_L_numbers) (defScope s_L_numbers) .none kV__law_numbers dc__law_numbers pm__law_numbers an__law_numbers cd__law_numbers ct__law_numbers), sl__law_numbers⟩)
    (c__law_numbers : PySem.W.codeIn K cd__law_numbers "_law_numbers" = true)
    (k__law_numbers : PySem.W.keepIn K (.ref f__law_numbers) = true)
    (a__law_tiers : PySem.W.nsIn K mainGlobals "_law_tiers" = some (some (.ref f__law_tiers)))
    (l__law_tiers : K.lookup f__law_tiers = some ⟨oc__law_tiers, od__law_tiers, .func (PySem.W.fnOf "_law_tiers" "_law_tiers" (defArgs s_L_tiers) (defBody s_L_tiers) (defScope s_L_tiers) .none kV__law_tiers dc__law_tiers pm__law_tiers an__law_tiers cd__law_tiers ct__law_tiers), sl__law_tiers⟩)
    (c__law_tiers : PySem.W.codeIn K cd__law_tiers "_law_tiers" = true)
    (k__law_tiers : PySem.W.keepIn K (.ref f__law_tiers) = true)
    (a__law_size : PySem.W.nsIn K mainGlobals "_law_size" = some (some (.ref f__law_size)))
    (l__law_size : K.lookup f__law_size = some ⟨oc__law_size, od__law_size, .func (PySem.W.fnOf "_law_size" "_law_size" (defArgs s_L_size) (defBody s_L_size) (defScope s_L_size) .none kV__law_size dc__law_size pm__law_size an__law_size cd__law_size ct__law_size), sl__law_size⟩)
    (c__law_size : PySem.W.codeIn K cd__law_size "_law_size" = true)
    (k__law_size : PySem.W.keepIn K (.ref f__law_size) = true)
    (a_law : PySem.W.nsIn K mainGlobals "law" = some (some (.ref f_law)))
    (l_law : K.lookup f_law = some ⟨oc_law, od_law, .func (PySem.W.fnOf "law" "law" (defArgs s_law) (defBody s_law) (defScope s_law) .none kV_law dc_law pm_law an_law cd_law ct_law), sl_law⟩)
    (c_law : PySem.W.codeIn K cd_law "law" = true)
    (k_law : PySem.W.keepIn K (.ref f_law) = true)
    (n_int : PySem.W.nsIn K mainGlobals "int" = some none)
    (n_len : PySem.W.nsIn K mainGlobals "len" = some none)
    (n_list : PySem.W.nsIn K mainGlobals "list" = some none)
    (n_max : PySem.W.nsIn K mainGlobals "max" = some none)
    (n_min : PySem.W.nsIn K mainGlobals "min" = some none)
    (n_range : PySem.W.nsIn K mainGlobals "range" = some none)
    (n_sorted : PySem.W.nsIn K mainGlobals "sorted" = some none)
    (n_zip : PySem.W.nsIn K mainGlobals "zip" = some none) :
    ∃ T : Txt K mg, T.d_law = PySem.W.fnOf "law" "law" (defArgs s_law) (defBody s_law) (defScope s_law) .none kV_law dc_law pm_law an_law cd_law ct_law :=
  ⟨{ a_parts_of := f_parts_of,
       d_parts_of := PySem.W.fnOf "parts_of" "parts_of" (defArgs s_parts_of) (defBody s_parts_of) (defScope s_parts_of) .none kV_parts_of dc_parts_of pm_parts_of an_parts_of cd_parts_of ct_parts_of,
       g_parts_of := PySem.W.mg_of X G a_parts_of,
       F_parts_of := fun_mk (st := s_parts_of) l_parts_of c_parts_of k_parts_of,
       b_parts_of := (fun_mk (st := s_parts_of) l_parts_of c_parts_of k_parts_of).binds (ps := ["tiers", "size"]) fun _ _ _ _ _ _ us hl => match us, hl with | [_, _], _ => rfl,
       a__law_numbers := f__law_numbers,
       d__law_numbers := PySem.W.fnOf "_law_numbers" "_law_numbers" (defArgs s_L_numbers) (defBody s_L_numbers) (defScope s_L_numbers) .none kV__law_numbers dc__law_numbers pm__law_numbers an__law_numbers cd__law_numbers ct__law_numbers,
       g__law_numbers := PySem.W.mg_of X G a__law_numbers,
       F__law_numbers := fun_mk (st := s_L_numbers) l__law_numbers c__law_numbers k__law_numbers,
       b__law_numbers := (fun_mk (st := s_L_numbers) l__law_numbers c__law_numbers k__law_numbers).binds (ps := ["cell", "count"]) fun _ _ _ _ _ _ us hl => match us, hl with | [_, _], _ => rfl,
       a__law_tiers := f__law_tiers,
       d__law_tiers := PySem.W.fnOf "_law_tiers" "_law_tiers" (defArgs s_L_tiers) (defBody s_L_tiers) (defScope s_L_tiers) .none kV__law_tiers dc__law_tiers pm__law_tiers an__law_tiers cd__law_tiers ct__law_tiers,
       g__law_tiers := PySem.W.mg_of X G a__law_tiers,
       F__law_tiers := fun_mk (st := s_L_tiers) l__law_tiers c__law_tiers k__law_tiers,
       b__law_tiers := (fun_mk (st := s_L_tiers) l__law_tiers c__law_tiers k__law_tiers).binds (ps := ["numbers", "at"]) fun _ _ _ _ _ _ us hl => match us, hl with | [_, _], _ => rfl,
       a__law_size := f__law_size,
       d__law_size := PySem.W.fnOf "_law_size" "_law_size" (defArgs s_L_size) (defBody s_L_size) (defScope s_L_size) .none kV__law_size dc__law_size pm__law_size an__law_size cd__law_size ct__law_size,
       g__law_size := PySem.W.mg_of X G a__law_size,
       F__law_size := fun_mk (st := s_L_size) l__law_size c__law_size k__law_size,
       b__law_size := (fun_mk (st := s_L_size) l__law_size c__law_size k__law_size).binds (ps := ["number", "choice", "tiers"]) fun _ _ _ _ _ _ us hl => match us, hl with | [_, _, _], _ => rfl,
       a_law := f_law,
       d_law := PySem.W.fnOf "law" "law" (defArgs s_law) (defBody s_law) (defScope s_law) .none kV_law dc_law pm_law an_law cd_law ct_law,
       g_law := PySem.W.mg_of X G a_law,
       F_law := fun_mk (st := s_law) l_law c_law k_law,
       b_law := (fun_mk (st := s_law) l_law c_law k_law).binds (ps := ["script"]) fun _ _ _ _ _ _ us hl => match us, hl with | [_], _ => rfl,
       n_int := PySem.W.mg_none_of X G n_int,
       n_len := PySem.W.mg_none_of X G n_len,
       n_list := PySem.W.mg_none_of X G n_list,
       n_max := PySem.W.mg_none_of X G n_max,
       n_min := PySem.W.mg_none_of X G n_min,
       n_range := PySem.W.mg_none_of X G n_range,
       n_sorted := PySem.W.mg_none_of X G n_sorted,
       n_zip := PySem.W.mg_none_of X G n_zip }, rfl⟩
end K17
open PySem PySem.W PyProof.Rows
set_option maxRecDepth 100000 in
set_option maxHeartbeats 0 in
theorem PySem.Challenge.cw_corebank_k17_whole_splitting_a_balance_holds : PySem.Challenge.rw_corebank_k17_whole_splitting_a_balance.Holds := by
  w_on; o_law; k_head; (case hw => w_witness2)
  k_fill
  refine Kv.walk (l := PySem.Challenge.rw_corebank_k17_whole_splitting_a_balance) (k := 2) rfl rfl ⟨rfl, by decide, by decide⟩ (fun w h Y => PySem.W.kIn_of Y) ?F
  case F =>
    intro w mg fa h KX G hmg
    obtain ⟨T, hT⟩ : ∃ T : K17.Txt _ mg, ∃ a b c d e f, T.d_law = PySem.W.fnOf "law" "law" (L2.defArgs K17.s_law) (L2.defBody K17.s_law) (L2.defScope K17.s_law) .none a b c d e f := by
      refine' (fun z => ⟨z.choose, _, _, _, _, _, _, z.choose_spec⟩) (K17.txt_mk KX G ?a_parts_of ?l_parts_of ?c_parts_of ?k_parts_of ?a__law_numbers ?l__law_numbers ?c__law_numbers ?k__law_numbers ?a__law_tiers ?l__law_tiers ?c__law_tiers ?k__law_tiers ?a__law_size ?l__law_size ?c__law_size ?k__law_size ?a_law ?l_law ?c_law ?k_law ?n_int ?n_len ?n_list ?n_max ?n_min ?n_range ?n_sorted ?n_zip)
      (case a_parts_of => k_is)
      (case l_parts_of => k_is)
      (case c_parts_of => k_is)
      (case k_parts_of => k_is)
      (case a__law_numbers => k_is)
      (case l__law_numbers => k_is)
      (case c__law_numbers => k_is)
      (case k__law_numbers => k_is)
      (case a__law_tiers => k_is)
      (case l__law_tiers => k_is)
      (case c__law_tiers => k_is)
      (case k__law_tiers => k_is)
      (case a__law_size => k_is)
      (case l__law_size => k_is)
      (case c__law_size => k_is)
      (case k__law_size => k_is)
      (case a_law => k_is)
      (case l_law => k_is)
      (case c_law => k_is)
      (case k_law => k_is)
      (case n_int => k_is)
      (case n_len => k_is)
      (case n_list => k_is)
      (case n_max => k_is)
      (case n_min => k_is)
      (case n_range => k_is)
      (case n_sorted => k_is)
      (case n_zip => k_is)
    obtain ⟨_, _, _, _, _, _, hT⟩ := hT
    have ea : fa = T.a_law := by
      have z := hmg.symm.trans T.g_law
      cases z; rfl
    subst ea
    exact ⟨T.d_law, fun s u => by rw [hT]; exact .of_eq rfl, fun base _ _ => K17.ok_law T⟩
#print axioms PySem.Challenge.cw_corebank_k17_whole_splitting_a_balance_holds
