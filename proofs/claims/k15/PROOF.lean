import PyProof.Rows.All
import Wide.All
import OpenK.AllK
import Wide.FinOn
import HandS.ForMost
import HandS.IsInst
import HandS.Deep
import HandS.FStr
import HandS.Defaults
import HandS.MakeKw
import HandS.MakeKwOnly
import HandS.Property
import HandS.Flow
import HandS.Style
import HandS.TupLe
import HandS.WideBits
import HandS.RaiseMore
import HandS.SlotsOwn
import HandS.ClsMeth
import HandS.More
import HandS.Iter
import HandS.Walk
import KE.GoesMore
import KE.GoesEnum
import KE.GoesNew
import HandS.Star
import HandS.OwnEq
import PyProof.FitsReplace
import PyProof.ReprLoop
import HandS.Text
import HandS.TupAny
import PySem.Challenge.RW_unlikecalls_k15_whole_fills_done_as_work
import HandS.Strs
set_option Elab.async false
set_option linter.all false
set_option maxRecDepth 100000
set_option maxHeartbeats 4000000
namespace UL
open PySem L2
/-! what every law of this document draws from: a list of two ints -/
/-- all that is tracked stays, but the object at p -/
def Stay (p : Addr) (H H' : Hp) : Prop := ∀ b o, b ≠ p → H b = some o → H' b = some o
theorem Stay.refl (p : Addr) (H : Hp) : Stay p H H := fun _ _ _ h => h
theorem Stay.trans {p : Addr} {H H1 H2 : Hp} (a : Stay p H H1) (b : Stay p H1 H2) : Stay p H H2 := fun c o n h => b c o n (a c o n h)
theorem Same.stay {H H' : Hp} (s : L2.Same H H') (p : Addr) : Stay p H H' := fun b o _ h => s b o h
theorem same_new {H : Hp} {p : Addr} {o : HO} (h : H p = none) : L2.Same H (upd H p o) := fun b u e => by rw [upd_ne (ne_of_none e h)]; exact e
/-- the pot: what is left of the digits, and the mixed number -/
def Pot (H : Hp) (p : Addr) : Prop := ∃ a b : Int, H p = some (.lst [.int a, .int b]) ∧ 0 ≤ b ∧ b < 4294967296
theorem Pot.same {H H' : Hp} {p : Addr} (h : Pot H p) (s : L2.Same H H') : Pot H' p := by
  obtain ⟨a, b, e, h1, h2⟩ := h
  exact ⟨a, b, s _ _ e, h1, h2⟩
theorem stay_upd {H : Hp} {p : Addr} {o : HO} : Stay p H (upd H p o) := fun b u n e => by rw [upd_ne n]; exact e
/-- _law_draw(pot, n): an int from 0 to n - 1 -/
def spDraw : Sp := fun vs H Q _ => ∃ (p : Addr) (n : Int), vs = [.ref p, .int n] ∧ Pot H p ∧ 0 < n ∧ n < 1073741824 ∧
  ∀ (d : Int) (H' : Hp), 0 ≤ d → d < n → Pot H' p → Stay p H H' → Q (.int d) H'
/-- _law_pick(pot, some): one of them -/
def spPick (K : PySem.W.Frag) : Sp := fun vs H Q _ => ∃ (p l : Addr) (xs : List V), vs = [.ref p, .ref l] ∧ Pot H p ∧ SqL K H l xs ∧ xs ≠ [] ∧ xs.length < 1073741824 ∧
  ∀ (i : Nat) (v : V) (H' : Hp), xs[i]? = some v → Pot H' p → Stay p H H' → Q v H'
end UL
set_option Elab.async false
set_option linter.all false
set_option maxRecDepth 100000
set_option maxHeartbeats 4000000
namespace UL
open PySem PySem.Spec PyProof.Rows L2
/-! ### instances of the text's own classes under ==, str, repr -/
section
variable {X : Cx} {CX : CXT} {C g : Addr} {n : Nat} {sp : Sp} {E : XK}
/-- what is asked of an instance's class for isinstance -/
structure CIsi (K : PySem.W.Frag) (C : Addr) : Prop where
  cl : Cls K C
  ca : PySem.W.findIn K (.ref C) "__class__" = some (some (.builtin "object.__class__"))
  cn : PySem.W.specialIn K (.builtin "object.__class__") "__get__" = some (some (.builtin "getset_descriptor.__get__"))
  ct : PySem.W.takesIn K (.builtin "object.__class__") = some true
  cm : PySem.W.mroIn K C (.type "object") = some true
theorem CIsi.ty {K : PySem.W.Frag} {C a dx : Addr} {H : Hp} {fs : List (Str × V)} (c : CIsi K C) (h : H a = some (.ins C dx fs)) : TyX K H (.ref a) (.ref C) :=
  .base (.ins h c.cl c.ca c.cn c.ct c.cm)
/-- x == y by the def at g, x an instance of the class at C, y anything whose type is known -/
def rEqI (K : PySem.W.Frag) (C : Addr) (sp : Sp) (E : XK) : R2 := fun x y H Q => ∃ (a dx : Addr) (fs : List (Str × V)) (t : Value), x = .ref a ∧ H a = some (.ins C dx fs) ∧ TyX K H y t ∧ PySem.W.notFirst K C t = true ∧ sp [x, y] H Q E
theorem op_eqI (hs : PySem.W.findIn X.K (.ref C) "__eq__" = some (some (.ref g))) (hf : PySem.W.isFn X.K (.ref g) = true) (F : FnR X.prog X.w X.K X.mg X.base CX n g sp) (hr : Room n X.A) (hx : Passes CX X E) :
    OpR X (compareOp .Eq) (rEqI X.K C sp E) := by
  intro pins s σ H x y v u Q I rx ry h
  obtain ⟨a, dx, fs, t, rfl, ha, ty, hn, q⟩ := h
  cases (show v = Value.ref a from rx)
  obtain ⟨mA, O, _⟩ := ins_get I.hok ha
  obtain ⟨od, J, _⟩ := O.look
  obtain ⟨m, hF⟩ := I.fr
  obtain ⟨Pk, Z, pk, _⟩ := kit_of I ry ty
  show wpAny _ _ (richCompare .Eq (.ref a) u) _ _ _
  refine PySem.W.cmp_K (op := .Eq) hr.units0 hF I.ok.mod.kin J (Z.ty _ _ I.kIn pk) hn hs hf ?_
  refine wpAny_mono (wpAny_call (run_fnR (us := [.ref a, u]) (vs := [.ref a, y]) F hr hx I (.cons rfl (.cons ry .nil)) q)) (fun r s' z => ?_) fun _ _ e => e
  obtain ⟨z', H', I', rz, qz⟩ := z
  exact SlX.cmpback rz ⟨z', H', I', rz, qz⟩
/-- repr(x), str(x) by the def at g: it hands back a text -/
def rShowI (C : Addr) (sp : Sp) (E : XK) : List V → Hp → VK → Prop := fun xs H Q => ∃ (a dx : Addr) (fs : List (Str × V)), xs = [.ref a] ∧ H a = some (.ins C dx fs) ∧ sp [.ref a] H (fun z H' => ∃ y, z = .str y ∧ Q z H') E
theorem call_reprI (hs : PySem.W.findIn X.K (.ref C) "__repr__" = some (some (.ref g))) (hf : PySem.W.isFn X.K (.ref g) = true) (F : FnR X.prog X.w X.K X.mg X.base CX n g sp) (hr : Room (n + 1) X.A) (hx : Passes CX X E) :
    CallR X (.builtin "repr") (rShowI C sp E) := by
  intro pins s σ H xs us Q I r h
  obtain ⟨a, dx, fs, rfl, ha, q⟩ := h
  obtain ⟨u, rfl, ru⟩ := vals1 r
  cases (show u = Value.ref a from ru)
  obtain ⟨mA, O, _⟩ := ins_get I.hok ha
  obtain ⟨od, J, _⟩ := O.look
  obtain ⟨m, hF⟩ := I.fr
  refine PySem.W.repr_K hr.in1.units0 hF I.ok.mod.kin J hs hf (wpAny_mono (wpAny_call (SlX.run_at (us := [.ref a]) (ws := [.ref a]) F hr.in1 I.env0.in1 hx I (.cons rfl .nil) q)) (fun w s' z => ?_) fun _ _ e => e)
  obtain ⟨z', H', I', rz, y, ey, qz⟩ := z
  subst ey
  obtain ⟨t, rfl⟩ := (show ∃ t, w = Value.str y t from rz)
  exact ⟨.str y, H', I', ⟨t, rfl⟩, qz⟩
theorem call_strI (hs : PySem.W.findIn X.K (.ref C) "__str__" = some (some (.ref g))) (hf : PySem.W.isFn X.K (.ref g) = true) (F : FnR X.prog X.w X.K X.mg X.base CX n g sp) (hr : Room (n + 2) X.A) (hx : Passes CX X E) :
    CallR X (.type "str") (rShowI C sp E) := by
  intro pins s σ H xs us Q I r h
  obtain ⟨a, dx, fs, rfl, ha, q⟩ := h
  obtain ⟨u, rfl, ru⟩ := vals1 r
  cases (show u = Value.ref a from ru)
  obtain ⟨mA, O, _⟩ := ins_get I.hok ha
  obtain ⟨od, J, _⟩ := O.look
  have hr2 : Room n X.A.in1.in1 := (show Room (n + 1) X.A.in1 from Room.in1 hr).in1
  refine PySem.W.kso_call hr2.units0 I.kIn J hs hf (wpAny_mono (wpAny_call (SlX.run_at (us := [.ref a]) (ws := [.ref a]) F hr2 I.env0.in1.in1 hx I (.cons rfl .nil) q)) (fun w s' z => ?_) fun _ _ e => e)
  obtain ⟨z', H', I', rz, y, ey, qz⟩ := z
  subst ey
  obtain ⟨t, rfl⟩ := (show ∃ t, w = Value.str y t from rz)
  exact ⟨.str y, H', I', ⟨t, rfl⟩, qz⟩
end
/-- a name of the module that holds v -/
theorem pe_gl {X : Cx} {x : Str} {v : V} {pos : Pos} (hg : Gl X x) (h : ∃ u, X.mg x = some u ∧ RelV v u) (hd : (x == ("__debug__" : Str)) = false := by decide) : PE X (.Name x pos) (tC v) :=
  let ⟨_, hm, r⟩ := h
  pe_glob hg hm r hd
/-! ### a static method, called by its class's name -/
/-- C.m is the def at g, a static method whose record stands at p -/
structure SMet (K : PySem.W.Frag) (C : Addr) (mc : Value) (m : Str) (p g : Addr) : Prop where
  rd : PySem.W.readsIn K C mc = true
  ga : PySem.W.specialIn K (.ref C) "__getattribute__" = some (some (.builtin "type.__getattribute__"))
  at_ : PySem.W.findCls K (.ref C) mc m = some (.get (.builtin "staticmethod.__get__") (.ref p) .none (.ref C))
  rc : ∃ rest, PySem.W.recIn K p "staticmethod" = some (.ref g :: rest)
  kp : PySem.W.keepIn K (.ref g) = true
section
variable {X : Cx} {CX : CXT} {C p g : Addr} {mc : Value} {k n : Nat} {fd : FuncData} {ps ks : List Str} {sp : Sp} {dvs : List V} {ds : List Value} {E : XK} {o e : Expr} {es : List Expr} {kws : List Keyword} {m : Str} {pos apos : Pos} {ta : TE} {t tk : TA}
  {gg : List Value → List Value → List Value} {gV : List V → List V → List V}
def tSMeth (C : Addr) (sp : Sp) (dvs : List V) (E : XK) (ta : TE) (t : TA) : TE := fun σ H Q => ta σ H fun x H1 => x = .ref C ∧ t σ H1 fun vs H2 => sp (vs ++ dvs) H2 Q E
theorem getsm_ok {pins : List (Addr × Obj)} {σ : L2.St} {H : Hp} {s : Shared} {A : Around} {E' : Value → Shared → Prop} {pl : Sem Bool} {Q : Value × List Value → Shared → Prop} (I : Inv X pins σ H s) (c : SMet X.K C mc m p g)
    (h : ∀ s', Inv X pins σ H s' → Q (.ref g, []) s') : wpAny (model X.prog X.w) A (getMethod (.ref C) m pl) Q E' s := by
  obtain ⟨rest, hp⟩ := c.rc
  refine PySem.W.method_cls I.kIn c.ga (PySem.W.cls_bind I.kIn c.rd c.at_ ?_)
  exact wpAny_call (PySem.W.sm_get (s := { s with toks := s.toks + 1 }) I.kIn hp (PySem.W.handed_on rfl (h _ (I.tok _))))
theorem pe_smeth {pl : Sem Bool} (he : PE X o ta) (c : SMet X.K C mc m p g) (F : FnOk X.prog X.w X.K X.mg X.base CX k g fd ps sp) (hr : Room k X.A) (hb : Binds X.K fd ps ds) (hd : Vals dvs ds) (hx : Passes CX X E) (ha : PA X (e :: es) t)
    (hst : starEach (e :: es) X.env = (false, eval e X.env) :: starEach es X.env := by rfl) (hpl : (backTo pos (starEach es X.env)).any (·.1) = false := by rfl)
    (ht : eval (.Call (.Attribute o m apos) (e :: es) [] pos) X.env = (do
      let ov ← eval o X.env
      standAt apos.atName
      let (fv, fi) ← holding [ov] (getMethod ov m pl)
      callWith pos fv fi (backTo pos (starEach (e :: es) X.env)) (backToKw pos (keywordEach [] X.env))) := by rfl) :
    PE X (.Call (.Attribute o m apos) (e :: es) [] pos) (tSMeth C sp dvs E ta t) := by
  refine ⟨fun pins s σ H Q I h => ?_⟩
  refine PySem.W.methodCall_KW (pl := pl) (thn (he.run pins s σ H _ I h) fun u s1 ⟨x, H1, I1, rx, ex, q⟩ => ?_) ht
  subst ex
  obtain rfl : u = Value.ref C := rx
  refine getsm_ok I1 c fun s2 I2 => ?_
  refine PySem.W.callWith_K (first := []) (h₀ := X.base) I.ok.mod.kin c.kp (thn (ha.run pos pins s2 σ H1 _ I2 q) fun us s3 ⟨vs, H2, I3, r, q2⟩ => ⟨I3.kIn, ?_⟩) hst hpl
  exact run_fn F hr hb hd hx I3 r q2
/-- C.m(k = v, ..): keywords alone -/
def tSMethK (C : Addr) (m : Nat) (sp : Sp) (gV : List V → List V → List V) (E : XK) (ta : TE) (tk : TA) : TE := fun σ H Q => ta σ H fun x H1 => x = .ref C ∧ tk σ H1 fun zs H2 => zs.length = m ∧ sp (gV [] zs) H2 Q E
theorem pe_smethK {pl : Sem Bool} (he : PE X o ta) (c : SMet X.K C mc m p g) (F : FnOk X.prog X.w X.K X.mg X.base CX k g fd ps sp) (hr : Room k X.A) (hb : KBn X.K fd ps 0 ks gg gV) (hx : Passes CX X E) (hkw : PK X kws tk)
    (hall : (backToKw pos (keywordEach kws X.env)).all (·.1.isSome) = true := by rfl) (hks : (backToKw pos (keywordEach kws X.env)).filterMap (·.1) = ks := by rfl)
    (hpl : ((backTo pos (starEach [] X.env)).any (·.1) || (backToKw pos (keywordEach kws X.env)).any (·.1.isNone)) = false := by rfl)
    (ht : eval (.Call (.Attribute o m apos) [] kws pos) X.env = (do
      let ov ← eval o X.env
      standAt apos.atName
      let (fv, fi) ← holding [ov] (getMethod ov m pl)
      callWith pos fv fi (backTo pos (starEach [] X.env)) (backToKw pos (keywordEach kws X.env))) := by rfl) :
    PE X (.Call (.Attribute o m apos) [] kws pos) (tSMethK C ks.length sp gV E ta tk) := by
  refine ⟨fun pins s σ H Q I h => ?_⟩
  refine PySem.W.methodCall_KW (pl := pl) (thn (he.run pins s σ H _ I h) fun u s1 ⟨x, H1, I1, rx, ex, q⟩ => ?_) ht
  subst ex
  obtain rfl : u = Value.ref C := rx
  refine getsm_ok I1 c fun s2 I2 => ?_
  refine PySem.W.callWith_KW0 (h₀ := X.base) I.ok.mod.kin c.kp hall ?_ hpl
  refine thn (hkw.run pos pins s2 σ H1 _ I2 q) fun ws s3 ⟨zs, H2, I3, rz, l2, q2⟩ => ⟨I3.kIn, ?_⟩
  rw [hks]
  exact run_fnN (us := []) (vs := []) F hr hb hx I3 .nil rz rfl l2 q2
end
end UL
set_option Elab.async false
set_option linter.all false
set_option maxRecDepth 100000
set_option maxHeartbeats 4000000
namespace UL
open PySem PySem.Spec PyProof.Rows L2
/-! ### promises that are kept where no repr is under way: defs that say repr of a list -/
structure FnG (P : Program) (w : World) (K : PySem.W.Frag) (mg : Str → Option Value) (base : Heap) (k : Nat) (f : Addr) (fd : FuncData) (ps : List Str) (sp : Sp) : Prop where
  len : ∀ vs H Q E, sp vs H Q E → vs.length = ps.length
  run : ∀ (A : Around) (outer : List Env) (s : Shared) (H : Hp) (args : Args) (us : List Value) (vs : List V) (Q : VK) (E : XK), A.guards = some [] → Room k A → Env0 P w K mg base A outer s H → BindsTo s fd args (ps.zip us) →
    Vals vs us → sp vs H Q E → codeAny (model P w) A (.call (.ref f) args) (CR CX0 outer P w H s Q E) s
section
variable {P : Program} {w : World} {K : PySem.W.Frag} {mg : Str → Option Value} {base : Heap}
theorem FnG.ofOk {k : Nat} {f : Addr} {fd : FuncData} {ps : List Str} {sp : Sp} (F : FnOk P w K mg base CX0 k f fd ps sp) : FnG P w K mg base k f fd ps sp :=
  ⟨F.len, fun A outer s H args us vs Q E _ => F.run A outer s H args us vs Q E⟩
theorem FnG.mk' {x qual : Str} {st : Stmt} {f : Addr} {fd : FuncData} {N ps : List Str} {k : Nat} {sp : Sp} (F : Fun K x qual st f fd) (S : FnScope N ps (defScope st)) (len : ∀ vs H Q E, sp vs H Q E → vs.length = ps.length)
    (go : ∀ (cdv : Value) (A : Around) (outer : List Env) (s : Shared) (H : Hp) (vs : List V) (Q : VK) (E : XK), A.guards = some [] → Room k (A.deeper (envOfC qual (defScope st) s.heap.objs.size f cdv)) → sp vs H Q E →
      ∃ t, PSs (cxOf CX0 P w K mg base N qual (defScope st) f cdv A outer s H E).nox (defBody st) t ∧ t { nx := fun _ H' => Q .non H', rt := Q } (start N vs) H) : FnG P w K mg base (k + 1) f fd ps sp := by
  obtain ⟨oc, od, kV, doc, pm, an, cdv, ct, osl, rfl, lk, hcd⟩ := F.ex
  refine ⟨len, fun A outer s H args us vs Q E hg hr e0 hb r hsp => ?_⟩
  have hlen := len _ _ _ _ hsp
  have inS : K.In s.heap := e0.mod.kin.keeps fun b o e => (e0.bs b o e).1
  have limS : s.heap.NoLimit := e0.mod.nolimit.keeps fun b o e => (e0.bs b o e).1
  have kinds : ∀ y ∈ ps.zip us, (defScope st).names.lookup y.1 = some .local ∨ ((defScope st).names.lookup y.1 = some .cell ∧ ((cellsFrom (s.heap.objs.size + 1) (defScope st).names []).lookup y.1).isSome = true) := by
    rintro ⟨n, v⟩ hy
    exact (S.par n (List.of_mem_zip hy).1).imp id fun q => ⟨q, PySem.W.cellsFrom_some _ _ _ (.inl q)⟩
  refine codeAny_call_function hr.depth (inS _ _ lk) rfl S.co S.gen rfl (PySem.W.codeRec_of inS hcd) (hb _ _ _ _ ?_)
  refine wpAny_newFunctionEnv_cells S.kind kinds fun env henv s1 x => ?_
  subst henv
  refine ⟨limS.keeps x.toInCall.keep, codeAny_func ?_⟩
  obtain ⟨t, ht, hq⟩ := go cdv A outer s H vs Q E hg (hr.deeper _) hsp
  have I : Inv (cxOf CX0 P w K mg base N qual (defScope st) f cdv A outer s H E) [] (start N vs) H s1 := inv_start S hr.hd e0 hlen r x
  refine wpAny_mono (ht.nox.run [] s1 (start N vs) H _ I hq) (fun fl s' hs => ?_) fun e s' hs => hs
  cases fl with
  | ret u =>
    obtain ⟨v, σ', H', J, rv, q⟩ := hs
    exact ⟨v, H', J.os, J.bare, J.base, J.hok, rv, q⟩
  | next =>
    obtain ⟨σ', H', J, q⟩ := hs
    exact ⟨V.non, H', J.os, J.bare, J.base, J.hok, rfl, q⟩
  | brk => exact hs.elim fun _ z => z.elim fun _ y => y.2.elim
  | cont => exact hs.elim fun _ z => z.elim fun _ y => y.2.elim
end
section
variable {X : Cx} {k : Nat} {f : Addr} {fd : FuncData} {ps : List Str} {sp : Sp} {dvs : List V} {ds : List Value} {E : XK} {x : Str} {p pos : Pos} {e : Expr} {es : List Expr} {t : TA}
theorem pe_callG (hgd : X.A.guards = some []) (F : FnG X.prog X.w X.K X.mg X.base k f fd ps sp) (hr : Room k X.A) (hg : Gl X x) (hm : X.mg x = some (.ref f)) (hk : PySem.W.keepIn X.K (.ref f) = true) (hb : Binds X.K fd ps ds) (hd : Vals dvs ds)
    (hx : Passes CX0 X E) (ha : PA X (e :: es) t) (hdb : (x == ("__debug__" : Str)) = false := by decide) (he : starEach (e :: es) X.env = (false, eval e X.env) :: starEach es X.env := by rfl)
    (hpl : (backTo pos (starEach es X.env)).any (·.1) = false := by rfl) : PE X (.Call (.Name x p) (e :: es) [] pos) (tCall sp dvs E t) := by
  refine ⟨fun pins s σ H Q I h => wpAny_Call_Name_kw (ld_glob I hg hm (PySem.W.callWith_K (h₀ := X.base) I.ok.mod.kin hk (thn (ha.run pos pins s σ H _ I h) fun us s1 ⟨vs, H1, I1, r, q⟩ => ⟨I1.kIn, ?_⟩) he hpl) hdb)⟩
  have r2 : Vals (vs ++ dvs) (us ++ ds) := r.append hd
  have hl : (us ++ ds).length = ps.length := r2.length.symm.trans (F.len _ _ _ _ q)
  refine wpAny_call (codeAny_mono (F.run X.A X.stack s1 H1 ⟨us, []⟩ (us ++ ds) (vs ++ dvs) Q E hgd hr I1.env0 (hb s1 us I1.kIn hl) r2 q) fun rr s' hq => ?_)
  cases rr with
  | error er => exact hx pins σ H1 s1 er s' I1 hq
  | ok fl => cases fl <;> first | exact I1.after hq | exact False.elim hq
/-- repr of data -/
def rReprD (K : PySem.W.Frag) : List V → Hp → VK → Prop := fun xs H Q => ∃ (v : V) (d : PyData), xs = [v] ∧ Dp K H v d ∧ d.showable = true ∧ d.hasDict = false ∧ d.depth ≤ 40 ∧ d.shown.length ≤ sizeLine ∧ Q (.str d.shown) H
theorem call_reprD (hgd : X.A.guards = some []) (hu : X.A.units + 64 < cLine) : CallR X (.builtin "repr") (rReprD X.K) := by
  intro pins s σ H xs us Q I r h
  obtain ⟨v, d, rfl, hd, hs, hn, hdp, hz, q⟩ := h
  obtain ⟨u, rfl, ru⟩ := vals1 r
  obtain ⟨as, rd⟩ := Dp.reads I d v u hd ru
  have fin : ∀ h' t tk, (∀ b o, s.heap.get? b = some o → h'.get? b = some o) → EP X pins σ Q (.str d.shown t) { s with heap := h', toks := tk } := fun h' t tk kp => ⟨.str d.shown, H, I.kept kp, ⟨t, rfl⟩, q⟩
  have hsz := hz
  cases rd with
  | none =>
    simp only [PyData.shown] at fin
    exact PySem.P.repr_of_none (fin s.heap _ _ fun _ _ z => z)
  | bool b =>
    simp only [PyData.shown] at fin
    exact PySem.P.repr_of_bool (fin s.heap _ _ fun _ _ z => z)
  | int i t =>
    simp only [PyData.shown] at fin
    exact PySem.P.repr_of_int (by simpa [PyData.showable] using hs) (fin s.heap _ _ fun _ _ z => z)
  | str x t =>
    simp only [PyData.shown] at fin hsz
    exact PySem.P.repr_of_str (fin s.heap _ _ fun _ _ z => z) hsz
  | list h1 h2 h3 h4 => exact repr_of_reads' (.list h1 h2 h3 h4) hs (PyData.noDict_hsm hn) hgd (by omega) (fun _ _ z => z) fin hz
  | tuple h1 h2 h3 h4 => exact repr_of_reads' (.tuple h1 h2 h3 h4) hs (PyData.noDict_hsm hn) hgd (by omega) (fun _ _ z => z) fin hz
  | dict h1 h2 h3 h4 h5 => simp [PyData.hasDict] at hn
end
end UL
set_option Elab.async false
set_option linter.all false
set_option maxRecDepth 100000
set_option maxHeartbeats 4000000
namespace UL
open PySem PySem.Spec PyProof.Rows L2
/-! ### the law's own call, by a promise of the kind FnG -/
section
variable {P : Program} {w : World} {K : PySem.W.Frag} {mg mb : Str → Option Value} {k : Nat} {fa a : Addr} {fd : FuncData} {x : Str} {sp : Sp} {s₁ : Shared} {vs : List Value} {ns : List Int}
/-- from an abstract heap that tracks the script alone, if anything -/
theorem call_from {H : Hp} (KX : K.In s₁.heap) (hns : s₁.heap.Ns mainGlobals mg) (hb : s₁.heap.Ns builtinsNs mb) (hbb : ∀ x : Str, x ≠ "__name__" → mb x = bootBuiltins x) (hlim : s₁.heap.NoLimit) (hg : s₁.gens = #[])
    (ha : s₁.heap.get? a = some { cls := .type "list", data := .seq vs.toArray }) (hr : Room k callerA) (F : ∀ base : Heap, K.In base → base.Ns mainGlobals mg → FnG P w K mg base k fa fd [x] sp) (hbind : ∀ (s : Shared) (u : Value), BindsTo s fd ⟨[u], []⟩ [(x, u)])
    (hO : Only H) (hok : HOk P w H s₁.heap) (only : ∀ b, H b ≠ none → b = a) (out : H a ≠ none → K.lookup a = none) (hsp : sp [.ref a] H (fun v _ => v = .bl true) fun _ _ _ => False) :
    codeAny (model P w) callerA (.call (.ref fa) ⟨[.ref a], []⟩) (fun r s' => r = .ok (.ret (.bool true)) ∧ OldK s₁.heap s'.heap ∧ s'.os = s₁.os ∧ AllBare s'.gens) s₁ := by
  -- what the script's address bears is no dict and no part of the written text
  have hid : ∀ {b : Addr} {o : Obj}, s₁.heap.get? b = some o → (b = a → H a = none) → (hidT s₁.heap H).get? b = some o := fun {b o} e n => hidT_get e (by
    cases q : H b with
    | none => rfl
    | some u =>
      have z : b = a := only b (fun y => by rw [y] at q; cases q)
      rw [z, n z] at q
      cases q)
  have hns' : ∀ {b : Addr} {m : Str → Option Value}, s₁.heap.Ns b m → (hidT s₁.heap H).Ns b m := fun {b m} ⟨o, es, ep, e, d, r⟩ => ⟨o, es, ep, hid e (fun z => by
    subst z
    rw [ha] at e
    cases e
    cases d), d, r⟩
  have hK' : K.In (hidT s₁.heap H) := fun b o e => hid (KX b o e) (fun z => by
    cases q : H a with
    | none => rfl
    | some u =>
      have y := out (fun t => by rw [t] at q; cases q)
      rw [z, y] at e
      cases e)
  have hM : Mod K mg (hidT s₁.heap H) := ⟨hK', hns' hns, ⟨mb, hns' hb, hbb⟩, let ⟨mc, h1, h2⟩ := hlim; ⟨mc, hns' h1, h2⟩⟩
  have e0 : Env0 P w K mg (hidT s₁.heap H) callerA [] s₁ H := ⟨rfl, hM, fun b o e => of_hidT e, Nat.le_of_eq (hidT_size _ _), trivial, fun b z => (nomatch (show b ∈ ([] : List Addr) from z)), hok, .of_eq hg⟩
  refine codeAny_mono ((F _ hK' (hns' hns)).run callerA [] s₁ H ⟨[.ref a], []⟩ [.ref a] [.ref a] _ _ rfl hr e0 (hbind s₁ (.ref a)) (.cons rfl .nil) hsp) fun r s' h => ?_
  match r, h with
  | .ok (.ret u), ⟨v, H', os, bare, un, hok', r', q⟩ =>
    cases (show v = .bl true from q)
    cases (show u = Value.bool true from r')
    refine ⟨rfl, OldK.of_keep fun b o e => ?_, os, bare⟩
    rcases hO b with z | ⟨ob, xs, z⟩
    · exact un.keep b o e z (fun y => nomatch (show b ∈ ([] : List Addr) from y)) (fun y => nomatch (show b ∈ ([] : List Addr) from y))
    · obtain ⟨e1, _⟩ := hok b _ z
      obtain ⟨e2, _⟩ := hok' b _ (un.frzs b ob _ z)
      rw [e] at e1
      cases e1
      exact e2
theorem law_callG (KX : K.In s₁.heap) (hns : s₁.heap.Ns mainGlobals mg) (hb : s₁.heap.Ns builtinsNs mb) (hbb : ∀ x : Str, x ≠ "__name__" → mb x = bootBuiltins x) (hlim : s₁.heap.NoLimit) (hg : s₁.gens = #[])
    (ha : s₁.heap.get? a = some { cls := .type "list", data := .seq vs.toArray }) (hi : IntsAre vs ns) (hl : ns.length ≤ sizeLine) (hr : Room k callerA) (F : ∀ base : Heap, K.In base → base.Ns mainGlobals mg → FnG P w K mg base k fa fd [x] sp)
    (hbind : ∀ (s : Shared) (u : Value), BindsTo s fd ⟨[u], []⟩ [(x, u)]) (hsp : ∀ H : Hp, Only H → SqL K H a (ns.map V.int) → sp [.ref a] H (fun v _ => v = .bl true) fun _ _ _ => False) :
    codeAny (model P w) callerA (.call (.ref fa) ⟨[.ref a], []⟩) (fun r s' => r = .ok (.ret (.bool true)) ∧ OldK s₁.heap s'.heap ∧ s'.os = s₁.os ∧ AllBare s'.gens) s₁ := by
  have rv := vals_ints hi
  have lenV := hi.length
  cases hk : K.lookup a with
  | some o =>
    obtain rfl : _ = o := Option.some.inj (ha.symm.trans (KX a o hk))
    have hO : Only fun _ => none := fun _ => .inl rfl
    exact call_from (H := fun _ => none) KX hns hb hbb hlim hg ha hr F hbind hO (fun b u z => nomatch (show (none : Option HO) = some u from z)) (fun b z => absurd rfl z) (fun z => absurd rfl z)
      (hsp _ hO (.inr ⟨_, vs.toArray, _, hk, rfl, rfl, rfl, by rw [List.size_toArray, lenV]; exact hl, by simpa using rv⟩))
  | none =>
    let H0 : Hp := fun b => if b = a then some (.frz { cls := .type "list", data := .seq vs.toArray } (.lst (ns.map V.int))) else none
    have at_ : H0 a = some (.frz { cls := .type "list", data := .seq vs.toArray } (.lst (ns.map V.int))) := if_pos rfl
    have no_ : ∀ b, b ≠ a → H0 b = none := fun b z => if_neg z
    have hO : Only H0 := fun b => if z : b = a then .inr ⟨{ cls := .type "list", data := .seq vs.toArray }, ns.map V.int, z ▸ at_⟩ else .inl (no_ b z)
    refine call_from (H := H0) KX hns hb hbb hlim hg ha hr F hbind hO (fun b u z => ?_) (fun b z => Decidable.byContradiction fun y => z (no_ b y)) (fun _ => hk) (hsp _ hO (.inl (.inr ⟨_, at_⟩)))
    by_cases y : b = a
    · subst y
      rw [at_] at z
      cases z
      exact ⟨ha, by rw [List.length_map]; exact hl, vs, _, rv, ha⟩
    · rw [no_ b y] at z
      cases z
end
theorem walkG {l : PySem.W.OpenLaw} {n k : Nat} {q : Program} {loose : List Str} {XP : (Str → Option Value) → Heap → Prop} {YP : World → Heap → Prop} {d : DefRec} {K : Params → PySem.W.Frag} {sp : World → Sp} {x : Str}
    (hn : l.most = some n) (hn2 : n ≤ sizeLine) (hdf : d.params.defaults = []) (hr : Room k callerA) (hY : ∀ (w : World) (h : Heap), YP w h → (K w.params).In h)
    (F : ∀ (w : World) (mg : Str → Option Value) (fa : Addr) (h : Heap), (K w.params).In h → h.Ns mainGlobals mg → mg d.name = some (.ref fa) →
      ∃ fd : FuncData, (∀ (s : Shared) (u : Value), BindsTo s fd ⟨[u], []⟩ [(x, u)]) ∧ ∀ base : Heap, (K w.params).In base → base.Ns mainGlobals mg → FnG l.prog w (K w.params) mg base k fa fd [x] (sp w))
    (hsp : ∀ (w : World) (H : Hp) (a : Addr) (ns : List Int), ns.length ≤ n → Only H → SqL (K w.params) H a (ns.map V.int) → sp w [.ref a] H (fun v _ => v = .bl true) fun _ _ _ => False) :
    PySem.W.WalkO q loose XP YP l.row.toRowW d [] (fun f vs => PySem.call f vs) := by
  refine Att.attach_call hn hdf fun w s₀ s₁ mg mb fa o pm cd doc a vs ns G Y _ _ _ hmg hobj hints hlen hg => ?_
  have KX := hY w _ Y
  obtain ⟨fd, hb, hF⟩ := F w mg fa _ KX G.T.g hmg
  exact law_callG KX G.T.g G.T.b G.T.builtins G.T.nolimit hg hobj hints (Nat.le_trans hlen hn2) hr hF hb fun H hO hS => hsp w H a ns hlen hO hS
end UL
set_option Elab.async false
set_option linter.all false
set_option maxRecDepth 100000
set_option maxHeartbeats 4000000
namespace UL
open PySem PySem.Spec PyProof.Rows L2
/-! ### what a caller knows of a def, a method, a property, a class's maker: its promise, nothing else -/
section
variable (P : Program) (w : World) (K : PySem.W.Frag) (mg : Str → Option Value) (base : Heap)
/-- the module's def x keeps sp, at level k -/
def Cal (k : Nat) (x : Str) (sp : Sp) : Prop := ∃ f fd ps, FnOk P w K mg base CX0 k f fd ps sp ∧ PySem.W.keepIn K (.ref f) = true ∧ Binds K fd ps [] ∧ mg x = some (.ref f)
def CalG (k : Nat) (x : Str) (sp : Sp) : Prop := ∃ f fd ps, FnG P w K mg base k f fd ps sp ∧ PySem.W.keepIn K (.ref f) = true ∧ Binds K fd ps [] ∧ mg x = some (.ref f)
/-- the method m of the class at C -/
def CalM (k : Nat) (C : Addr) (m : Str) (sp : Sp) : Prop := ∃ f fd ps, FnOk P w K mg base CX0 k f fd ps sp ∧ Cls K C ∧ Meth K C m f ∧ Binds K fd ps []
/-- .. called with the keywords ks, no positional arguments but self -/
def CalMK (k : Nat) (C : Addr) (m : Str) (ks : List Str) (gV : List V → List V → List V) (sp : Sp) : Prop := ∃ f fd ps g, FnOk P w K mg base CX0 k f fd ps sp ∧ Cls K C ∧ Meth K C m f ∧ KBn K fd ps 1 ks g gV
/-- the property m of the class at C -/
def CalP (k : Nat) (C : Addr) (m : Str) (sp : Sp) : Prop := ∃ p f fd ps, FnOk P w K mg base CX0 k f fd ps sp ∧ Cls K C ∧ PropOf K C m p f ∧ Binds K fd ps []
/-- the class x, at C, made by its __init__, the defaults dvs behind what is written -/
def Mak (k : Nat) (x : Str) (C : Addr) (dvs : List V) (sp : Sp) : Prop := ∃ f fd ps ds, FnOk P w K mg base CX0 k f fd ps sp ∧ Mk K C f ∧ mg x = some (.ref C) ∧ Binds K fd ps ds ∧ Vals dvs ds
/-- .. with the keywords ks alone -/
def MakK (k : Nat) (x : Str) (C : Addr) (ks : List Str) (gV : List V → List V → List V) (sp : Sp) : Prop := ∃ f fd ps g, FnOk P w K mg base CX0 k f fd ps sp ∧ Mk K C f ∧ mg x = some (.ref C) ∧ KBn K fd ps 1 ks g gV
/-- the special method m of the class at C, asked by an operator or a built-in -/
def CalS (k : Nat) (C : Addr) (m : Str) (sp : Sp) : Prop := ∃ f, FnR P w K mg base CX0 k f sp ∧ PySem.W.findIn K (.ref C) m = some (some (.ref f)) ∧ PySem.W.isFn K (.ref f) = true
/-- the static method m of the class x at C -/
def CalT (k : Nat) (C : Addr) (m : Str) (sp : Sp) : Prop := ∃ p f fd ps mc, FnOk P w K mg base CX0 k f fd ps sp ∧ SMet K C mc m p f ∧ Binds K fd ps []
def CalTK (k : Nat) (C : Addr) (m : Str) (ks : List Str) (gV : List V → List V → List V) (sp : Sp) : Prop := ∃ p f fd ps mc g, FnOk P w K mg base CX0 k f fd ps sp ∧ SMet K C mc m p f ∧ KBn K fd ps 0 ks g gV
end
section
variable {X : Cx} {k j : Nat} {x m : Str} {C : Addr} {sp : Sp} {dvs : List V} {e o : Expr} {es : List Expr} {kws : List Keyword} {ks : List Str} {gV : List V → List V → List V} {t tk : TA} {ta : TE} {p pos apos : Pos}
theorem pe_c (c : Cal X.prog X.w X.K X.mg X.base k x sp) (hr : Room j X.A) (hk : k ≤ j) (hg : Gl X x) (ha : PA X (e :: es) t) (hdb : (x == ("__debug__" : Str)) = false := by decide)
    (he : starEach (e :: es) X.env = (false, eval e X.env) :: starEach es X.env := by rfl) (hpl : (backTo pos (starEach es X.env)).any (·.1) = false := by rfl) : PE X (.Call (.Name x p) (e :: es) [] pos) (tCall sp [] E0 t) := by
  obtain ⟨f, fd, ps, F, kp, b, g⟩ := c
  exact pe_call F (hr.mono hk) hg g kp b .nil pass0 ha hdb he hpl
theorem pe_cG (hgd : X.A.guards = some []) (c : CalG X.prog X.w X.K X.mg X.base k x sp) (hr : Room j X.A) (hk : k ≤ j) (hg : Gl X x) (ha : PA X (e :: es) t) (hdb : (x == ("__debug__" : Str)) = false := by decide)
    (he : starEach (e :: es) X.env = (false, eval e X.env) :: starEach es X.env := by rfl) (hpl : (backTo pos (starEach es X.env)).any (·.1) = false := by rfl) : PE X (.Call (.Name x p) (e :: es) [] pos) (tCall sp [] E0 t) := by
  obtain ⟨f, fd, ps, F, kp, b, g⟩ := c
  exact pe_callG hgd F (hr.mono hk) hg g kp b .nil pass0 ha hdb he hpl
theorem pe_m {pl : Sem Bool} (he : PE X o ta) (c : CalM X.prog X.w X.K X.mg X.base k C m sp) (hr : Room j X.A) (hk : k ≤ j) (ha : PA X (e :: es) t)
    (hst : starEach (e :: es) X.env = (false, eval e X.env) :: starEach es X.env := by rfl) (hpl : (backTo pos (starEach es X.env)).any (·.1) = false := by rfl)
    (ht : eval (.Call (.Attribute o m apos) (e :: es) [] pos) X.env = (do
      let ov ← eval o X.env
      standAt apos.atName
      let (fv, fi) ← holding [ov] (getMethod ov m pl)
      callWith pos fv fi (backTo pos (starEach (e :: es) X.env)) (backToKw pos (keywordEach [] X.env))) := by rfl) :
    PE X (.Call (.Attribute o m apos) (e :: es) [] pos) (tMeth C m sp [] E0 ta t) := by
  obtain ⟨f, fd, ps, F, cl, mt, b⟩ := c
  exact pe_meth he cl mt F (hr.mono hk) b .nil pass0 ha hst hpl ht
/-- o.m(k = v, ..) -/
def tMethK (C : Addr) (m : Str) (n : Nat) (gV : List V → List V → List V) (sp : Sp) (ta : TE) (tk : TA) : TE := fun σ H Q => ta σ H fun x H1 => ∃ a dx fs, x = .ref a ∧ H1 a = some (.ins C dx fs) ∧ fs.lookup m = none ∧ tk σ H1 fun zs H2 => zs.length = n ∧ sp (gV [x] zs) H2 Q E0
theorem pe_mK {pl : Sem Bool} (he : PE X o ta) (c : CalMK X.prog X.w X.K X.mg X.base k C m ks gV sp) (hr : Room j X.A) (hk : k ≤ j) (hkw : PK X kws tk)
    (hall : (backToKw pos (keywordEach kws X.env)).all (·.1.isSome) = true := by rfl) (hks : (backToKw pos (keywordEach kws X.env)).filterMap (·.1) = ks := by rfl)
    (hpl : ((backTo pos (starEach [] X.env)).any (·.1) || (backToKw pos (keywordEach kws X.env)).any (·.1.isNone)) = false := by rfl)
    (ht : eval (.Call (.Attribute o m apos) [] kws pos) X.env = (do
      let ov ← eval o X.env
      standAt apos.atName
      let (fv, fi) ← holding [ov] (getMethod ov m pl)
      callWith pos fv fi (backTo pos (starEach [] X.env)) (backToKw pos (keywordEach kws X.env))) := by rfl) :
    PE X (.Call (.Attribute o m apos) [] kws pos) (tMethK C m ks.length gV sp ta tk) := by
  obtain ⟨f, fd, ps, g, F, cl, mt, b⟩ := c
  refine ⟨fun pins s σ H Q I h => ?_⟩
  refine PySem.W.methodCall_KW (pl := pl) (thn (he.run pins s σ H _ I h) fun u s1 ⟨x, H1, I1, rx, a, dx, fs, ex, ea, l, q⟩ => ?_) ht
  subst ex
  obtain rfl : u = Value.ref a := rx
  refine getmeth_ok I1 ea cl mt l ?_
  refine PySem.W.callWith_KW0 (first := [.ref a]) (h₀ := X.base) I.ok.mod.kin mt.kp hall ?_ hpl
  refine thn (hkw.run pos pins s1 σ H1 _ I1 q) fun ws s3 ⟨zs, H2, I3, rz, l2, q2⟩ => ⟨I3.kIn, ?_⟩
  rw [hks]
  exact run_fnN (us := [.ref a]) (vs := [.ref a]) F (hr.mono hk) b pass0 I3 (.cons rfl .nil) rz rfl l2 q2
theorem pe_p (he : PE X o ta) (c : CalP X.prog X.w X.K X.mg X.base k C m sp) (hr : Room j X.A) (hk : k + 1 ≤ j) (hab : attributeBase o m X.env (eval o X.env) = eval o X.env) : PE X (.Attribute o m pos) (tProp C sp [] E0 ta) := by
  obtain ⟨q, f, fd, ps, F, cl, pr, b⟩ := c
  exact pe_prop he cl pr F (hr.mono hk) b .nil pass0 hab
theorem pe_n (c : Mak X.prog X.w X.K X.mg X.base k x C dvs sp) (hr : Room j X.A) (hk : k + 1 ≤ j) (hg : Gl X x) (ha : PA X (e :: es) t) (hdb : (x == ("__debug__" : Str)) = false := by decide)
    (he : starEach (e :: es) X.env = (false, eval e X.env) :: starEach es X.env := by rfl) (hpl : (backTo pos (starEach es X.env)).any (·.1) = false := by rfl) : PE X (.Call (.Name x p) (e :: es) [] pos) (tMake C sp dvs E0 t) := by
  obtain ⟨f, fd, ps, ds, F, M, g, b, v⟩ := c
  exact pe_make M F (hr.mono hk) hg g b v pass0 ha hdb he hpl
theorem pe_n0 (c : Mak X.prog X.w X.K X.mg X.base k x C dvs sp) (hr : Room j X.A) (hk : k + 1 ≤ j) (hg : Gl X x) (hdb : (x == ("__debug__" : Str)) = false := by decide) : PE X (.Call (.Name x p) [] [] pos) (tMake C sp dvs E0 tNil) := by
  obtain ⟨f, fd, ps, ds, F, M, g, b, v⟩ := c
  exact pe_make0 M F (hr.mono hk) hg g b v pass0 hdb
theorem pe_nK (c : MakK X.prog X.w X.K X.mg X.base k x C ks gV sp) (hr : Room j X.A) (hk : k + 1 ≤ j) (hg : Gl X x) (hkw : PK X kws tk)
    (hall : (backToKw pos (keywordEach kws X.env)).all (·.1.isSome) = true := by rfl) (hks : (backToKw pos (keywordEach kws X.env)).filterMap (·.1) = ks := by rfl) (hdb : (x == ("__debug__" : Str)) = false := by decide)
    (hpl : ((backTo pos (starEach [] X.env)).any (·.1) || (backToKw pos (keywordEach kws X.env)).any (·.1.isNone)) = false := by rfl) :
    PE X (.Call (.Name x p) [] kws pos) (tMakeK C 0 ks.length sp gV E0 tNil tk) := by
  obtain ⟨f, fd, ps, gg, F, M, g, b⟩ := c
  exact pe_makeK0 M F (hr.mono hk) hg g b pass0 hkw hall hks hdb hpl
theorem op_eqS (c : CalS X.prog X.w X.K X.mg X.base k C "__eq__" sp) (hr : Room j X.A) (hk : k ≤ j) : OpR X (compareOp .Eq) (rEqI X.K C sp E0) := by
  obtain ⟨f, F, h1, h2⟩ := c
  exact op_eqI h1 h2 F (hr.mono hk) pass0
theorem call_reprS (c : CalS X.prog X.w X.K X.mg X.base k C "__repr__" sp) (hr : Room j X.A) (hk : k + 1 ≤ j) : CallR X (.builtin "repr") (rShowI C sp E0) := by
  obtain ⟨f, F, h1, h2⟩ := c
  exact call_reprI h1 h2 F (hr.mono hk) pass0
theorem call_strS (c : CalS X.prog X.w X.K X.mg X.base k C "__str__" sp) (hr : Room j X.A) (hk : k + 2 ≤ j) : CallR X (.type "str") (rShowI C sp E0) := by
  obtain ⟨f, F, h1, h2⟩ := c
  exact call_strI h1 h2 F (hr.mono hk) pass0
theorem pe_t {pl : Sem Bool} (he : PE X o ta) (c : CalT X.prog X.w X.K X.mg X.base k C m sp) (hr : Room j X.A) (hk : k ≤ j) (ha : PA X (e :: es) t)
    (hst : starEach (e :: es) X.env = (false, eval e X.env) :: starEach es X.env := by rfl) (hpl : (backTo pos (starEach es X.env)).any (·.1) = false := by rfl)
    (ht : eval (.Call (.Attribute o m apos) (e :: es) [] pos) X.env = (do
      let ov ← eval o X.env
      standAt apos.atName
      let (fv, fi) ← holding [ov] (getMethod ov m pl)
      callWith pos fv fi (backTo pos (starEach (e :: es) X.env)) (backToKw pos (keywordEach [] X.env))) := by rfl) :
    PE X (.Call (.Attribute o m apos) (e :: es) [] pos) (tSMeth C sp [] E0 ta t) := by
  obtain ⟨q, f, fd, ps, mc, F, s, b⟩ := c
  exact pe_smeth he s F (hr.mono hk) b .nil pass0 ha hst hpl ht
theorem pe_tK {pl : Sem Bool} (he : PE X o ta) (c : CalTK X.prog X.w X.K X.mg X.base k C m ks gV sp) (hr : Room j X.A) (hk : k ≤ j) (hkw : PK X kws tk)
    (hall : (backToKw pos (keywordEach kws X.env)).all (·.1.isSome) = true := by rfl) (hks : (backToKw pos (keywordEach kws X.env)).filterMap (·.1) = ks := by rfl)
    (hpl : ((backTo pos (starEach [] X.env)).any (·.1) || (backToKw pos (keywordEach kws X.env)).any (·.1.isNone)) = false := by rfl)
    (ht : eval (.Call (.Attribute o m apos) [] kws pos) X.env = (do
      let ov ← eval o X.env
      standAt apos.atName
      let (fv, fi) ← holding [ov] (getMethod ov m pl)
      callWith pos fv fi (backTo pos (starEach [] X.env)) (backToKw pos (keywordEach kws X.env))) := by rfl) :
    PE X (.Call (.Attribute o m apos) [] kws pos) (tSMethK C ks.length sp gV E0 ta tk) := by
  obtain ⟨q, f, fd, ps, mc, g, F, s, b⟩ := c
  exact pe_smethK he s F (hr.mono hk) b pass0 hkw hall hks hpl ht
end
end UL
set_option Elab.async false
set_option linter.all false
set_option maxRecDepth 100000
set_option maxHeartbeats 4000000
namespace UL
open PySem L2
/-! ### small facts of numbers, texts, lists -/
theorem log_small {i : Int} (h : i.natAbs < 2 ^ 64) : i.natAbs.log2 < 1920 := by
  by_cases c : i.natAbs = 0
  · rw [c]
    decide
  · exact Nat.lt_of_lt_of_le ((Nat.log2_lt c).mpr h) (by decide)
theorem eqV_self_str (x : Str) : eqV (.str x) (.str x) = true := by simp [eqV]
theorem eqV_self_int (x : Int) : eqV (.int x) (.int x) = true := by simp [eqV]
theorem inV_mem {v : V} {xs : List V} (h : v ∈ xs) (e : eqV v v = true) : inV v xs = true := List.any_eq_true.mpr ⟨v, h, e⟩
theorem line_ge {n : Nat} (h : n ≤ 16000000) : n ≤ sizeLine := by
  rw [sizeLine_eq]
  omega
theorem line_gt {n : Nat} (h : n ≤ 16000000) : n < sizeLine := by
  rw [sizeLine_eq]
  omega
end UL
set_option Elab.async false
set_option linter.all false
set_option maxRecDepth 100000
set_option maxHeartbeats 4000000
namespace UL
open PySem L2
/-! ### data: shapes, equality -/
theorem shaped_of {d : PyData} (h : d.canLay0 = true) (g : d.depth ≤ 64) : SeqAt.shaped d = true := by
  show (d.canLay0 && decide (d.depth ≤ 64)) = true
  rw [h, decide_eq_true g]
  rfl
theorem lay_all : ∀ {ds : List PyData}, (∀ d ∈ ds, d.canLay0 = true) → PyData.canLayAll0 ds = true
  | [], _ => by simp [PyData.canLayAll0]
  | d :: ds, h => by simp [PyData.canLayAll0, h d List.mem_cons_self, lay_all fun e he => h e (List.mem_cons_of_mem _ he)]
theorem depth_all {k : Nat} : ∀ {ds : List PyData}, (∀ d ∈ ds, d.depth ≤ k) → PyData.depthAll ds ≤ k
  | [], _ => by simp [PyData.depthAll]
  | d :: ds, h => by
    simp only [PyData.depthAll]
    have h1 := h d List.mem_cons_self
    have h2 := depth_all (ds := ds) fun e he => h e (List.mem_cons_of_mem _ he)
    omega
theorem shaped_list {ds : List PyData} {k : Nat} (h : ∀ d ∈ ds, d.canLay0 = true) (g : ∀ d ∈ ds, d.depth ≤ k) (hk : k ≤ 60) : SeqAt.shaped (.list ds) = true :=
  shaped_of (by simpa only [PyData.canLay0] using lay_all h) (by have := depth_all g; simp only [PyData.depth]; omega)
theorem shaped_tuple {ds : List PyData} {k : Nat} (h : ∀ d ∈ ds, d.canLay0 = true) (g : ∀ d ∈ ds, d.depth ≤ k) (hk : k ≤ 60) : SeqAt.shaped (.tuple ds) = true :=
  shaped_of (by simpa only [PyData.canLay0] using lay_all h) (by have := depth_all g; simp only [PyData.depth]; omega)
/-- a pair of an int and a text, as data -/
def pairD (x : Int × Str) : PyData := .tuple [.int x.1, .str x.2]
theorem pairD_eqv (x y : Int × Str) : PyData.eqv (pairD x) (pairD y) = decide (x = y) := by
  obtain ⟨a, b⟩ := x
  obtain ⟨c, d⟩ := y
  have e : PyData.eqv (pairD (a, b)) (pairD (c, d)) = ((a == c) && ((b == d) && true)) := by simp only [pairD, PyData.eqv, PyData.eqvAll]
  rw [e]
  by_cases h1 : a = c <;> by_cases h2 : b = d <;> simp [h1, h2]
theorem pairD_depth (x : Int × Str) : (pairD x).depth ≤ 1 := by simp [pairD, PyData.depth, PyData.depthAll]
theorem pairD_lay {x : Int × Str} (h : (PyData.str x.2).canLay0 = true) : (pairD x).canLay0 = true := by
  simp only [pairD, PyData.canLay0, PyData.canLayAll0]
  simp only [PyData.canLay0] at h
  simp [h]
/-- a list of such pairs at l -/
def PairsAt (H : Hp) (l : Addr) (xs : List (Int × Str)) : Prop := ∃ ps : List Addr, H l = some (.lst (ps.map V.ref)) ∧ ps.length = xs.length ∧
  ∀ (j : Nat) (a : Addr) (x : Int × Str), ps[j]? = some a → xs[j]? = some x → H a = some (.tup [.int x.1, .str x.2])
theorem PairsAt.same {H H' : Hp} {l : Addr} {xs : List (Int × Str)} (h : PairsAt H l xs) (s : L2.Same H H') : PairsAt H' l xs := by
  obtain ⟨ps, h1, h2, h3⟩ := h
  exact ⟨ps, s _ _ h1, h2, fun j a x e1 e2 => s _ _ (h3 j a x e1 e2)⟩
theorem dpAll_at {K : PySem.W.Frag} {H : Hp} : ∀ {vs : List V} {ds : List PyData}, vs.length = ds.length → (∀ (j : Nat) v d, vs[j]? = some v → ds[j]? = some d → Dp K H v d) → DpAll K H vs ds
  | [], [], _, _ => .nil
  | v :: vs, d :: ds, hl, h => .cons (h 0 v d rfl rfl) (dpAll_at (by simpa using hl) fun j a b e1 e2 => h (j + 1) a b (by simpa using e1) (by simpa using e2))
theorem dp_pair {K : PySem.W.Frag} {H : Hp} {a : Addr} {x : Int × Str} (h : H a = some (.tup [.int x.1, .str x.2])) : Dp K H (.ref a) (pairD x) := .tup (SqT.of h) (.cons (.int _) (.cons (.str _) .nil))
theorem PairsAt.dp {K : PySem.W.Frag} {H : Hp} {l : Addr} {xs : List (Int × Str)} (h : PairsAt H l xs) : Dp K H (.ref l) (.list (xs.map pairD)) := by
  obtain ⟨ps, h1, h2, h3⟩ := h
  refine .lst (SqL.of h1) (dpAll_at (by rw [List.length_map, List.length_map, h2]) fun j v d e1 e2 => ?_)
  rw [List.getElem?_map] at e1 e2
  obtain ⟨a, ea, rfl⟩ := Option.map_eq_some_iff.mp e1
  obtain ⟨x, ex, rfl⟩ := Option.map_eq_some_iff.mp e2
  exact dp_pair (h3 j a x ea ex)
theorem any_pairs (xs : List (Int × Str)) (x : Int × Str) : ((xs.map pairD).any fun z => PyData.eqv z (pairD x)) = decide (x ∈ xs) := by
  rw [List.any_map]
  rw [Bool.eq_iff_iff, List.any_eq_true, decide_eq_true_iff]
  constructor
  · rintro ⟨y, hy, e⟩
    have e' : PyData.eqv (pairD y) (pairD x) = true := e
    rw [pairD_eqv] at e'
    rw [← of_decide_eq_true e']
    exact hy
  · intro h
    refine ⟨x, h, ?_⟩
    show PyData.eqv (pairD x) (pairD x) = true
    rw [pairD_eqv]
    exact decide_eq_true rfl
/-- ints as data -/
theorem dp_ints {K : PySem.W.Frag} {H : Hp} : ∀ ns : List Int, DpAll K H (ns.map V.int) (ns.map PyData.int)
  | [] => .nil
  | n :: ns => .cons (.int n) (dp_ints ns)
theorem dp_bls {K : PySem.W.Frag} {H : Hp} : ∀ bs : List Bool, DpAll K H (bs.map V.bl) (bs.map PyData.bool)
  | [] => .nil
  | n :: ns => .cons (.bl n) (dp_bls ns)
end UL
set_option Elab.async false
set_option linter.all false
set_option maxRecDepth 100000
set_option maxHeartbeats 4000000
namespace UL
open PySem PySem.Spec PyProof.Rows L2
/-! ### from the facts that the top has written to what a caller knows -/
section
variable {P : Program} {w : World} {K : PySem.W.Frag} {mg : Str → Option Value} {base : Heap}
/-- a def without defaults, called with the keywords ks behind n values -/
theorem Fun.kbn {x qual : Str} {st : Stmt} {f : Addr} {fd : FuncData} {ps : List Str} (F : Fun K x qual st f fd) (n : Nat) (ks : List Str) (g : {α : Type} → List α → List α → List α)
    (hrel : ∀ {vs zs : List V} {us ws : List Value}, Vals vs us → Vals zs ws → Vals (g vs zs) (g us ws))
    (h : ∀ (kV doc pm : Value) (an : Option Addr) (cdv ct : Value) (us ws : List Value), us.length = n → ws.length = ks.length → bindArgs (PySem.W.fnOf x qual (defArgs st) (defBody st) (defScope st) .none kV doc pm an cdv ct) ⟨us, ks.zip ws⟩ = pure (ps.zip (g us ws))) :
    KBn K fd ps n ks (fun us ws => g us ws) (fun vs zs => g vs zs) := by
  obtain ⟨oc, od, kV, doc, pm, an, cdv, ct, osl, rfl, lk, hcd⟩ := F.ex
  exact ⟨fun s us ws _ l1 l2 => .of_eq (h kV doc pm an cdv ct us ws l1 l2), fun r1 r2 => hrel r1 r2⟩
theorem vals_app {vs zs : List V} {us ws : List Value} (a : Vals vs us) (b : Vals zs ws) : Vals (vs ++ zs) (us ++ ws) := a.append b
theorem vals_rev {zs : List V} {ws : List Value} (b : Vals zs ws) : Vals zs.reverse ws.reverse := by
  induction b with
  | nil => exact .nil
  | cons r _ ih =>
    rw [List.reverse_cons, List.reverse_cons]
    exact ih.append (.cons r .nil)
theorem vals_apprev {vs zs : List V} {us ws : List Value} (a : Vals vs us) (b : Vals zs ws) : Vals (vs ++ zs.reverse) (us ++ ws.reverse) := a.append (vals_rev b)
/-- a built-in class and an own one -/
theorem kt_of {T : String} {C : Addr} (h1 : PySem.W.isClsIn K C = true) (h2 : PySem.W.typeIn K (.ref C) = some (.type "type")) (h3 : PySem.W.subIn K (.type T) (.ref C) = some false) :
    PySem.W.kitOne K (.type T) (.ref C) = some false ∧ PySem.W.notFirst K C (.type T) = true := by
  constructor
  · unfold PySem.W.kitOne PySem.W.kitCls
    rw [if_neg (by intro z; cases (show false = true from z))]
    dsimp only
    rw [if_pos (by rw [h2]; simp [show (PySem.W.clsIn K C).isSome = true from h1])]
    exact h3
  · unfold PySem.W.notFirst
    rw [h3]
    simp
end
end UL
set_option Elab.async false
set_option linter.all false
set_option maxRecDepth 100000
set_option maxHeartbeats 4000000
namespace PySem
open Sem (wp)
theorem UL_meets_enum1 {v : Value} {o : Obj} {H : Heap → Prop} (B : Begins v o H) :
    Meets (Builtin.«enumerate.__new__» ⟨[.type "enumerate", v], []⟩) (fun _ R s => H s.heap ∧
      R (.ok (.ret (.ref (s.heap.push o).objs.size))) { s with heap := (s.heap.push o).push { cls := .type "enumerate", data := .fields #[.none, .bool false, .ref s.heap.objs.size, rawInt 0, .none, .none] } }) :=
  .of_wp fun prog w A R s h => by
    obtain ⟨hp, g, d, tk, os⟩ := s; obtain ⟨h1, h⟩ := h
    have hsub := sub_enumerate
    have q1 : ∀ {A' : Around} {E : Value → Shared → Prop} {Q : Value → Shared → Prop}, Q (.ref hp.objs.size) ⟨hp.push o, g, d, tk, os⟩ → wpAny (model prog w) A' (pyIter v) Q E ⟨hp, g, d, tk, os⟩ :=
      fun q => B.iter prog w _ _ ⟨hp, g, d, tk, os⟩ _ h1 q
    wp_walk using q1
    refine wpAny_stack_any fun st => wpAny_pure ?_
    split
    · rename_i c _ _ _ _ _
      cases (c == Value.type "enumerate")
      · wp_walk using q1
        exact ⟨_, rfl, h⟩
      · wp_walk using q1
        exact ⟨_, rfl, h⟩
    · wp_walk using q1
      exact ⟨_, rfl, h⟩
theorem UL_enum_begins1 {prog : Program} {w : World} {A : Around} {E : Value → Shared → Prop} {s : Shared} {v : Value} {o : Obj} {H : Heap → Prop} {Q : Value → Shared → Prop} (B : Begins v o H) (h1 : H s.heap)
    (h : ∀ h', IsEnum h' (s.heap.objs.size + 1) s.heap.objs.size 0 .none → h'.get? s.heap.objs.size = some o → h'.objs.size = s.heap.objs.size + 2 →
      (∀ b o, s.heap.get? b = some o → h'.get? b = some o) → Q (.ref (s.heap.objs.size + 1)) { s with heap := h' }) :
    wpAny (model prog w) A (call (.type "enumerate") [v]) Q E s := by
  refine callType_new F.called_enumerate (by decide) (F.typeCall_enumerate_1 _) (F.newCall_enumerate_1 _) (fun obj => F.args_object_init_2 obj _) F.entry_enumerate_new
    (UL_meets_enum1 B) ⟨h1, ?_⟩
  have hz : (s.heap.push o).objs.size = s.heap.objs.size + 1 := Heap.size_push ..
  show _ ∧ _
  rw [hz]
  have he : IsEnum ((s.heap.push o).push { cls := .type "enumerate", data := .fields #[.none, .bool false, .ref s.heap.objs.size, rawInt 0, .none, .none] }) (s.heap.objs.size + 1) s.heap.objs.size 0 .none := by
    have := Heap.get?_push_size (s.heap.push o) (o := { cls := .type "enumerate", data := .fields #[.none, .bool false, .ref s.heap.objs.size, rawInt 0, .none, .none] }) rfl
    rw [hz] at this; exact this
  refine ⟨⟨_, he, rfl⟩, h _ he (Heap.get?_push_of_some _ (Heap.get?_push_size _ B.free)) (by rw [Heap.size_push, hz]) fun b o x => Heap.get?_push_of_some _ (Heap.get?_push_of_some _ x)⟩
end PySem
namespace UL
open PySem PySem.Spec PyProof.Rows L2
/-- the tuple at a, each item in a new pair -/
def Itet (K : PySem.W.Frag) (a : Addr) : It :=
  ⟨fun i H => ∃ (xs : List V) (x : V), SqT K H a xs ∧ xs[i]? = some x, fun i H v H' => ∃ T x, v = .ref T ∧ H T = none ∧ H' = upd H T (.tup [.int (i : Nat), x]) ∧ ∀ xs, SqT K H a xs → xs[i]? = some x, fun i H => ∃ xs : List V, SqT K H a xs ∧ xs.length = i⟩
theorem turn_enumT {P : Program} {w : World} {K : PySem.W.Frag} {elts : List Expr} {kk : Nat} {tpos : Pos} (a e it : Addr) :
    Turn P w K (.Tuple elts kk tpos) (Itet K a) [e, it] e (fun i h => (∃ old, IsEnum h e it ((i : Nat) : Int) old) ∧ h.IsTupleIter it a i) where
  mem := by simp
  obj := fun i h st b hb => by
    obtain ⟨⟨old, he⟩, ⟨o, ho, hc, hd⟩⟩ := st
    have e' : b = e ∨ b = it := by simpa using hb
    rcases e' with z | z
    · rw [z]; exact ⟨_, he, fun v q => nomatch q⟩
    · rw [z]; exact ⟨o, ho, fun v q => by rw [hd] at q; cases q⟩
  keep := fun i h h' st k => let ⟨⟨old, he⟩, hi⟩ := st; ⟨⟨old, k e (by simp) _ he⟩, hi.at fun o q => k it (by simp) o q⟩
  item := by
    intro X hP hw hK hc i pins s σ H E I hf st hg
    subst hP hw hK
    obtain ⟨⟨old, he⟩, hit⟩ := st
    obtain ⟨xs, x, hq, hx⟩ := hg
    obtain ⟨its, rv, p, hz⟩ := I.tuple hq
    obtain ⟨u, hu, ru⟩ := rv.get hx
    have p' : s.heap.IsTuple a its.toArray := p
    have hei : e ≠ it := fun z => by
      obtain ⟨o, ho, hc', _⟩ := hit
      rw [← z, he] at ho
      cases ho
      exact absurd (Value.type.inj hc') (by decide)
    have hai : a ≠ it := fun z => by
      obtain ⟨o, ho, hc', _⟩ := hit
      obtain ⟨o2, ho2, hc2, _⟩ := p'
      rw [z, ho] at ho2
      cases ho2
      rw [hc'] at hc2
      exact absurd (Value.type.inj hc2) (by decide)
    have hae : e ≠ a := fun z => by
      obtain ⟨o2, ho2, hc2, _⟩ := p'
      rw [← z, he] at ho2
      cases ho2
      exact absurd (Value.type.inj hc2) (by decide)
    have W := GoesN.ofWalksT (elts := elts) (k := kk) (pos := tpos) (WalksT.enumerateD (A := X.A) (Draws.tuple (prog := X.prog) (w := X.w) (A := X.A.in1) (I.ok.hd hc) it a hai its.toArray) e hei (by simp [hei, hae]) (by simp))
    have hi : i < its.toArray.size := by
      have := (List.getElem?_eq_some_iff.mp hu).1
      simpa using this
    refine W.goes i s _ E hi ⟨⟨old, he⟩, hit, p'⟩ fun v h' tk hY st' hk htk => ?_
    obtain ⟨T, vals, rfl, hT0, ⟨t, y, hy, rfl⟩, hT⟩ := hY
    obtain ⟨⟨old', he'⟩, hit', _⟩ := st'
    have ey : y = u := by
      have h1 : its[i]? = some y := by simpa using hy
      rw [hu] at h1
      exact (Option.some.inj h1).symm
    subst ey
    have new : ObjOk X.prog X.w (upd H T (.tup [.int (i : Nat), x])) h' T (.tup [.int (i : Nat), x]) :=
      ⟨by show 2 ≤ sizeLine; decide, [.int i t, y], .cons ⟨_, rfl⟩ (.cons ru .nil), hT⟩
    have hn : H T = none := I.hok.fresh hT0
    have I1 : Inv X pins σ (upd H T (.tup [.int (i : Nat), x])) { s with heap := h', toks := tk } := I.turnedNew (ch := [e, it]) (fun b ob hb q => hk b ob hb q) hf hT0 new
    refine ⟨.ref T, _, I1, rfl, ⟨T, x, rfl, hn, rfl, fun ys hy => by rw [I.tuple_inj hy hq]; exact hx⟩, ⟨⟨old', by simpa using he'⟩, hit'⟩, fun b hb => ?_⟩
    have nb : b ≠ T := fun z => by
      have e' : b = e ∨ b = it := by simpa using hb
      rcases e' with q | q
      · rw [← z, q] at hT0
        exact absurd (Heap.lt_size he) (Nat.not_lt.mpr hT0)
      · obtain ⟨o, ho, _⟩ := hit
        rw [← z, q] at hT0
        exact absurd (Heap.lt_size ho) (Nat.not_lt.mpr hT0)
    rw [upd_ne nb]
    exact (hf b hb).1
  done := by
    intro X hP hw hK hc i pins s σ H E I hf st hg
    subst hP hw hK
    obtain ⟨⟨old, he⟩, hit⟩ := st
    obtain ⟨xs, hq, hx⟩ := hg
    obtain ⟨its, rv, p, hz⟩ := I.tuple hq
    have p' : s.heap.IsTuple a its.toArray := p
    have hei : e ≠ it := fun z => by
      obtain ⟨o, ho, hc', _⟩ := hit
      rw [← z, he] at ho
      cases ho
      exact absurd (Value.type.inj hc') (by decide)
    have hai : a ≠ it := fun z => by
      obtain ⟨o, ho, hc', _⟩ := hit
      obtain ⟨o2, ho2, hc2, _⟩ := p'
      rw [z, ho] at ho2
      cases ho2
      rw [hc'] at hc2
      exact absurd (Value.type.inj hc2) (by decide)
    have hae : e ≠ a := fun z => by
      obtain ⟨o2, ho2, hc2, _⟩ := p'
      rw [← z, he] at ho2
      cases ho2
      exact absurd (Value.type.inj hc2) (by decide)
    have hn : i = its.toArray.size := by rw [List.size_toArray, ← rv.length]; exact hx.symm
    subst hn
    obtain ⟨f0, f1, f2, f3, f4, f5⟩ := hf it (by simp)
    exact wpAny_pyNext_enum_endD (Draws.tuple (prog := X.prog) (w := X.w) (A := X.A.in1) (I.ok.hd hc) it a hai its.toArray) he ⟨hit, p'⟩ fun h' eb => ⟨rfl, I.turned (t' := s.toks) (fun b o hb q => eb b o hb q) f0 f1 f3 f4 f5⟩
  self := fun A i s Q E st h => let ⟨⟨_, he⟩, _⟩ := st; wpAny_pyIter_enum he h
def iEnumT (K : PySem.W.Frag) (ta : TA) : TI := fun σ H R => ta σ H fun vs H1 => ∃ a xs, vs = [.ref a] ∧ ((SqL K H1 a xs ∧ R (Ite K a) H1) ∨ (SqT K H1 a xs ∧ R (Itet K a) H1))
/-- enumerate(x), x a list or a tuple -/
theorem pi_enumT {X : Cx} {e : Expr} {ta : TA} {p pos tpos : Pos} {elts : List Expr} {kk : Nat} (hg : Gl X "enumerate") (hm : X.mg "enumerate" = none) (ha : PA X [e] ta) (hs : starEach [e] X.env = [(false, eval e X.env)] := by rfl) :
    PI X (.Tuple elts kk tpos) (.Call (.Name "enumerate" p) [e] [] pos) (iEnumT X.K ta) := by
  refine ⟨fun pins s σ H R I h => ?_⟩
  refine Call_ (ld_blt I hg hm boot_enumerate (PyProof.Rows.callWith_type1 (thn (ha.run pos pins s σ H _ I h) fun us s1 ⟨vs, H1, I1, r1, q1⟩ => ?_) hs rfl))
  obtain ⟨a, xs, ex, q1⟩ := q1
  subst ex
  cases r1 with
  | cons r rr =>
    cases rr
    cases r
    have hfp : ∀ b ∈ [s1.heap.objs.size + 1, s1.heap.objs.size], s1.heap.objs.size ≤ b := fun b hb => by
      have e' : b = s1.heap.objs.size + 1 ∨ b = s1.heap.objs.size := by simpa using hb
      rcases e' with z | z
      · rw [z]; exact Nat.le_add_right _ _
      · rw [z]; exact Nat.le_refl _
    rcases q1 with ⟨hq, q⟩ | ⟨hq, q⟩
    · obtain ⟨its, rv, p', hz⟩ := I1.list hq
      refine call_enumerate_list p'.isList fun h' he hit hsz hk => wpAny_pyIter_enum he ?_
      have I2 : Inv X pins σ H1 { s1 with heap := h' } := I1.kept (t' := s1.toks) hk
      exact ⟨s1.heap.objs.size + 1, [s1.heap.objs.size + 1, s1.heap.objs.size], _, _, H1, rfl, I2, turn_enum a (s1.heap.objs.size + 1) s1.heap.objs.size, ⟨⟨.none, he⟩, hit, Nat.succ_ne_self _⟩, fun b hb => I1.fpOk (hfp b hb) (I1.hok.fresh (hfp b hb)), q⟩
    · obtain ⟨its, rv, p', hz⟩ := I1.tuple hq
      refine UL_enum_begins1 (begins_tuple a its.toArray) p' fun h' he hit hsz hk => wpAny_pyIter_enum he ?_
      have I2 : Inv X pins σ H1 { s1 with heap := h' } := I1.kept (t' := s1.toks) hk
      exact ⟨s1.heap.objs.size + 1, [s1.heap.objs.size + 1, s1.heap.objs.size], _, _, H1, rfl, I2, turn_enumT a (s1.heap.objs.size + 1) s1.heap.objs.size, ⟨⟨.none, he⟩, ⟨_, hit, rfl, rfl⟩⟩, fun b hb => I1.fpOk (hfp b hb) (I1.hok.fresh (hfp b hb)), q⟩
/-- the walk of such a loop: the pairs are new -/
theorem for_enumT {K : PySem.W.Frag} {a : Addr} {xs : List V} {g : TG} {tb : TS} {D : Ends} {σ : L2.St} {H : Hp} (Pv : Nat → L2.St → Hp → Prop) (h0 : Pv 0 σ H) (hl : ∀ i σ H, i ≤ xs.length → Pv i σ H → SqT K H a xs)
    (hs : ∀ i x σ H T, xs[i]? = some x → Pv i σ H → H T = none → g (.ref T) σ (upd H T (.tup [.int (i : Nat), x])) fun σ2 H2 => tb { D with nx := Pv (i + 1), ct := Pv (i + 1), bk := D.nx } σ2 H2) (hd : ∀ σ H, Pv xs.length σ H → D.nx σ H) :
    ∃ W : Nat → Nat → L2.St → Hp → Prop, (∃ m, W 0 m σ H) ∧ ∀ i m σ H, W i m σ H →
      ((Itet K a).stop i H ∧ D.nx σ H) ∨ ((Itet K a).go i H ∧ ∃ N : L2.St → Hp → Prop, (∀ σ' H', N σ' H' → ∃ m', m' < m ∧ W (i + 1) m' σ' H') ∧ ∀ x H', (Itet K a).yld i H x H' → g x σ H' fun σ2 H2 => tb { D with nx := N, ct := N, bk := D.nx } σ2 H2) := by
  refine ⟨fun i m σ H => m = xs.length - i ∧ i ≤ xs.length ∧ Pv i σ H, ⟨xs.length, by simp, Nat.zero_le _, h0⟩, ?_⟩
  rintro i m σ H ⟨rfl, hi, p⟩
  have q := hl i σ H hi p
  by_cases hlt : i < xs.length
  · refine .inr ⟨⟨xs, xs[i], q, by simp [hlt]⟩, Pv (i + 1), fun σ' H' p' => ⟨xs.length - (i + 1), by omega, rfl, hlt, p'⟩, fun v H' y => ?_⟩
    obtain ⟨T, x, rfl, hT, rfl, hy⟩ := y
    exact hs i x σ H T (hy xs q) p hT
  · have e : i = xs.length := by omega
    subst e
    exact .inl ⟨⟨xs, q, rfl⟩, hd σ H p⟩
/-- the same over a list -/
theorem for_enumL {K : PySem.W.Frag} {a : Addr} {xs : List V} {g : TG} {tb : TS} {D : Ends} {σ : L2.St} {H : Hp} (Pv : Nat → L2.St → Hp → Prop) (h0 : Pv 0 σ H) (hl : ∀ i σ H, i ≤ xs.length → Pv i σ H → SqL K H a xs)
    (hs : ∀ i x σ H T, xs[i]? = some x → Pv i σ H → H T = none → g (.ref T) σ (upd H T (.tup [.int (i : Nat), x])) fun σ2 H2 => tb { D with nx := Pv (i + 1), ct := Pv (i + 1), bk := D.nx } σ2 H2) (hd : ∀ σ H, Pv xs.length σ H → D.nx σ H) :
    ∃ W : Nat → Nat → L2.St → Hp → Prop, (∃ m, W 0 m σ H) ∧ ∀ i m σ H, W i m σ H →
      ((Ite K a).stop i H ∧ D.nx σ H) ∨ ((Ite K a).go i H ∧ ∃ N : L2.St → Hp → Prop, (∀ σ' H', N σ' H' → ∃ m', m' < m ∧ W (i + 1) m' σ' H') ∧ ∀ x H', (Ite K a).yld i H x H' → g x σ H' fun σ2 H2 => tb { D with nx := N, ct := N, bk := D.nx } σ2 H2) := by
  refine ⟨fun i m σ H => m = xs.length - i ∧ i ≤ xs.length ∧ Pv i σ H, ⟨xs.length, by simp, Nat.zero_le _, h0⟩, ?_⟩
  rintro i m σ H ⟨rfl, hi, p⟩
  have q := hl i σ H hi p
  by_cases hlt : i < xs.length
  · refine .inr ⟨⟨xs, xs[i], q, by simp [hlt]⟩, Pv (i + 1), fun σ' H' p' => ⟨xs.length - (i + 1), by omega, rfl, hlt, p'⟩, fun v H' y => ?_⟩
    obtain ⟨T, x, rfl, hT, rfl, hy⟩ := y
    exact hs i x σ H T (hy xs q) p hT
  · have e : i = xs.length := by omega
    subst e
    exact .inl ⟨⟨xs, q, Nat.le_refl _⟩, hd σ H p⟩
end UL
set_option Elab.async false
set_option linter.all false
set_option maxRecDepth 100000
set_option maxHeartbeats 4000000
namespace UL
open PySem PySem.Spec PyProof.Rows L2
open PySem.W (Looks Frag findIn clsIn InstAt)
/-! ### own + -/
section
variable {prog : Program} {w : World} {A : Around} {E : Value → Shared → Prop} {s : Shared} {K : Frag} {x C D f : Addr} {ox : Obj} {od : Option Obj}
/-- a class of its own that says nothing of the operator -/
theorem fillsNo {M : Model} {h : Heap} {nm : String} {cd : ClassData} (X : K.In h) (hc : clsIn K C = some cd) (hm : cd.mro = [.ref C, .type "object"]) (h1 : findIn K (.ref C) (PySem.dunder nm) = some none) (h2 : findIn K (.ref C) (dunderR nm) = some none)
    (o1 : findIn K (.type "object") (PySem.dunder nm) = some none) (o2 : findIn K (.type "object") (dunderR nm) = some none) : Looks M h (fillsNumberSlot (.ref C) nm) false := by
  intro A Q E s k q
  unfold fillsNumberSlot
  refine wpAny_bind ((PySem.W.looks_clsIn X hc).andThen (f := fun cd => pure cd.mro) .now A _ E s k ?_)
  rw [hm, List.anyM_cons]
  refine wpAny_bind ?_
  show wpAny M A (List.anyM _ [PySem.dunder nm, dunderR nm]) _ _ _
  rw [List.anyM_cons]
  refine wpAny_bind (wpAny_bind (PySem.W.looks_findIn X h1 A _ E s k ?_))
  dsimp only
  refine wpAny_pure ?_
  rw [if_neg Bool.false_ne_true, List.anyM_cons]
  refine wpAny_bind (wpAny_bind (PySem.W.looks_findIn X h2 A _ E s k ?_))
  dsimp only
  refine wpAny_pure ?_
  rw [if_neg Bool.false_ne_true]
  show wpAny M A (pure false) _ _ _
  refine wpAny_pure ?_
  rw [if_neg Bool.false_ne_true, List.anyM_cons]
  refine wpAny_bind ?_
  refine wpAny_bind (PySem.W.looks_findIn X o1 A _ E s k ?_)
  refine wpAny_bind (PySem.W.looks_findIn X o2 A _ E s k ?_)
  refine wpAny_pure ?_
  show wpAny M A (if (false : Bool) = true then _ else _) _ _ _
  rw [if_neg Bool.false_ne_true]
  exact wpAny_pure q
theorem fillsI_no {M : Model} {h : Heap} {nm : String} {add : Bool} {cd : ClassData} (X : K.In h) (hc : clsIn K C = some cd) (hm : cd.mro = [.ref C, .type "object"]) (h1 : findIn K (.ref C) (dunderI nm) = some none)
    (o1 : findIn K (.type "object") (dunderI nm) = some none) : Looks M h (fillsInplaceSlot (.ref C) nm add) false := by
  intro A Q E s k q
  unfold fillsInplaceSlot
  refine wpAny_bind ((PySem.W.looks_clsIn X hc).andThen (f := fun cd => pure cd.mro) .now A _ E s k ?_)
  rw [hm, List.anyM_cons]
  refine wpAny_bind (wpAny_bind (PySem.W.looks_findIn X h1 A _ E s k ?_))
  dsimp only
  refine wpAny_pure ?_
  rw [if_neg Bool.false_ne_true, List.anyM_cons]
  refine wpAny_bind (wpAny_bind (PySem.W.looks_findIn X o1 A _ E s k ?_))
  dsimp only
  refine wpAny_pure ?_
  rw [if_neg Bool.false_ne_true]
  exact wpAny_pure q
/-- what the right one must be: of the same class, or of one without the operator -/
structure OpCls (K : Frag) (C : Addr) (nm : String) : Prop where
  sf : PySem.W.selfFirst K C = true
  no : ∃ cd, clsIn K C = some cd ∧ cd.mro = [.ref C, .type "object"]
structure NoOp (K : Frag) (D : Addr) (nm : String) : Prop where
  no : ∃ cd, clsIn K D = some cd ∧ cd.mro = [.ref D, .type "object"]
  h1 : findIn K (.ref D) (PySem.dunder nm) = some none
  h2 : findIn K (.ref D) (dunderR nm) = some none
  o1 : findIn K (.type "object") (PySem.dunder nm) = some none
  o2 : findIn K (.type "object") (dunderR nm) = some none
theorem bin1_own {nm : String} {b : Value} {tb : Value} {Q : Option Value → Shared → Prop} (X : K.In s.heap) (I : InstAt s.heap x ox C od) (hb : Looks (model prog w) s.heap (typeOf b) tb) (hc : PySem.W.selfFirst K C = true)
    (hr : tb = .ref C ∨ ∃ D, tb = .ref D ∧ NoOp K D nm) (hs : findIn K (.ref C) (PySem.dunder nm) = some (some (.ref f))) (hf : PySem.W.isFn K (.ref f) = true)
    (h : wpAny (model prog w) A (call (.ref f) [.ref x, b]) (PySem.W.CmpBack fun v => Q (some v)) E s) : wpAny (model prog w) A (binaryOp1 nm (.ref x) b) Q E s := by
  obtain ⟨cd, rest, hcd, hm⟩ := PySem.W.ksp_first hc
  have one := PySem.W.ksp_try X I hs hf h
  have hfill := PySem.W.fills_K (M := model prog w) (nm := nm) X hcd hm hs
  have fin : ∀ {v' : Value} {s' : Shared}, Q (some v') s' → wpAny (model prog w) A (pure (some v')) Q E s' := fun q => wpAny_pure q
  unfold binaryOp1
  refine wpAny_bind (I.type.here (wpAny_bind (hb.here (wpAny_bind (hfill.here ?_)))))
  have tail : wpAny (model prog w) A (tryMethod (.ref x) (PySem.dunder nm) b) (fun r s' => ∃ v, r = some v ∧ Q (some v) s') E s := one
  by_cases e : tb = .ref C
  · subst e
    simp only [beq_self_eq_true, if_true]
    refine wpAny_bind (wpAny_pure ?_)
    simp only [Bool.and_false, Bool.false_eq_true, if_false, Bool.false_and]
    refine wpAny_bind (wpAny_pure ?_)
    simp only [Bool.false_eq_true, if_false]
    refine wpAny_bind (m := tryMethod (.ref x) _ b) (wpAny_mono tail (fun r s' ⟨v, hv, q⟩ => ?_) fun _ _ e => e)
    subst hv
    exact wpAny_pure q
  · rcases hr with e' | ⟨D, rfl, nd⟩
    · exact absurd e' e
    · have hne : (Value.ref C == Value.ref D) = false := Bool.eq_false_iff.mpr fun q => e (beq_iff_eq.mp q).symm
      obtain ⟨cd', hc', hm'⟩ := nd.no
      simp only [hne, Bool.false_eq_true, if_false]
      refine wpAny_bind ((fillsNo X hc' hm' nd.h1 nd.h2 nd.o1 nd.o2).here ?_)
      simp only [Bool.and_false, Bool.false_eq_true, if_false, Bool.false_and]
      refine wpAny_bind (wpAny_pure ?_)
      simp only [Bool.false_eq_true, if_false]
      refine wpAny_bind (m := tryMethod (.ref x) _ b) (wpAny_mono tail (fun r s' ⟨v, hv, q⟩ => ?_) fun _ _ e => e)
      subst hv
      exact wpAny_pure q
theorem du_add : PySem.dunder "add" = ("__add__" : Str) := by decide +kernel
theorem di_add : dunderI "add" = ("__iadd__" : Str) := by decide +kernel
theorem binop_own {b tb : Value} {Q : Value → Shared → Prop} (X : K.In s.heap) (I : InstAt s.heap x ox C od) (hb : Looks (model prog w) s.heap (typeOf b) tb) (hc : PySem.W.selfFirst K C = true)
    (hr : tb = .ref C ∨ ∃ D, tb = .ref D ∧ NoOp K D "add") (hs : findIn K (.ref C) "__add__" = some (some (.ref f))) (hf : PySem.W.isFn K (.ref f) = true)
    (h : wpAny (model prog w) A (call (.ref f) [.ref x, b]) (PySem.W.CmpBack Q) E s) : wpAny (model prog w) A (binaryOp .Add (.ref x) b) Q E s := by
  unfold binaryOp
  refine wpAny_holding (wpAny_bind (bin1_own (nm := "add") X I hb hc hr (by rw [du_add]; exact hs) hf (wpAny_mono h (fun v s' z => ?_) fun _ _ e => e)))
  cases v <;> first | exact z.elim | exact wpAny_pure z
theorem inop_own {b tb : Value} {Q : Value → Shared → Prop} (X : K.In s.heap) (I : InstAt s.heap x ox C od) (hb : Looks (model prog w) s.heap (typeOf b) tb) (hc : PySem.W.selfFirst K C = true) {cd : ClassData} (hcd : clsIn K C = some cd) (hm : cd.mro = [.ref C, .type "object"])
    (hi : findIn K (.ref C) "__iadd__" = some none) (oi : findIn K (.type "object") "__iadd__" = some none)
    (hr : tb = .ref C ∨ ∃ D, tb = .ref D ∧ NoOp K D "add") (hs : findIn K (.ref C) "__add__" = some (some (.ref f))) (hf : PySem.W.isFn K (.ref f) = true)
    (h : wpAny (model prog w) A (call (.ref f) [.ref x, b]) (PySem.W.CmpBack Q) E s) : wpAny (model prog w) A (inplaceOp .Add (.ref x) b) Q E s := by
  unfold inplaceOp
  refine wpAny_holding (wpAny_bind (I.type.here (wpAny_bind ((fillsI_no (nm := "add") X hcd hm (by rw [di_add]; exact hi) (by rw [di_add]; exact oi)).here ?_))))
  simp only [Bool.false_eq_true, if_false]
  refine wpAny_bind (bin1_own (nm := "add") X I hb hc hr (by rw [du_add]; exact hs) hf (wpAny_mono h (fun v s' z => ?_) fun _ _ e => e))
  cases v <;> first | exact z.elim | exact wpAny_pure z
end
/-! ### as rules -/
section
variable {X : Cx} {CX : CXT} {C g : Addr} {n : Nat} {sp : Sp} {E : XK}
/-- x + y by the def at g -/
def rOpO (K : PySem.W.Frag) (C : Addr) (nm : String) (sp : Sp) (E : XK) : R2 := fun x y H Q => ∃ (a dx : Addr) (fs : List (Str × V)) (t : Value), x = .ref a ∧ H a = some (.ins C dx fs) ∧ TyX K H y t ∧ (t = .ref C ∨ ∃ D, t = .ref D ∧ NoOp K D nm) ∧ sp [x, y] H Q E
theorem op_addO (hc : PySem.W.selfFirst X.K C = true) (hs : PySem.W.findIn X.K (.ref C) "__add__" = some (some (.ref g))) (hf : PySem.W.isFn X.K (.ref g) = true) (F : FnR X.prog X.w X.K X.mg X.base CX n g sp) (hr : Room n X.A) (hx : Passes CX X E) :
    OpR X (binaryOp .Add) (rOpO X.K C "add" sp E) := by
  intro pins s σ H x y v u Q I rx ry h
  obtain ⟨a, dx, fs, t, rfl, ha, ty, hn, q⟩ := h
  cases (show v = Value.ref a from rx)
  obtain ⟨mA, O, _⟩ := ins_get I.hok ha
  obtain ⟨od, J, _⟩ := O.look
  obtain ⟨Pk, Z, pk, _⟩ := kit_of I ry ty
  refine binop_own I.kIn J (Z.ty _ _ I.kIn pk) hc hn hs hf ?_
  refine wpAny_mono (wpAny_call (run_fnR (us := [.ref a, u]) (vs := [.ref a, y]) F hr hx I (.cons rfl (.cons ry .nil)) q)) (fun r s' z => ?_) fun _ _ e => e
  obtain ⟨z', H', I', rz, qz⟩ := z
  exact SlX.cmpback rz ⟨z', H', I', rz, qz⟩
theorem iop_addO (hc : PySem.W.selfFirst X.K C = true) (ho : ∃ cd, clsIn X.K C = some cd ∧ cd.mro = [.ref C, .type "object"]) (hi : findIn X.K (.ref C) "__iadd__" = some none) (oi : findIn X.K (.type "object") "__iadd__" = some none)
    (hs : PySem.W.findIn X.K (.ref C) "__add__" = some (some (.ref g))) (hf : PySem.W.isFn X.K (.ref g) = true) (F : FnR X.prog X.w X.K X.mg X.base CX n g sp) (hr : Room n X.A) (hx : Passes CX X E) :
    OpR X (inplaceOp .Add) (rOpO X.K C "add" sp E) := by
  intro pins s σ H x y v u Q I rx ry h
  obtain ⟨a, dx, fs, t, rfl, ha, ty, hn, q⟩ := h
  cases (show v = Value.ref a from rx)
  obtain ⟨cd, hcd, hm⟩ := ho
  obtain ⟨mA, O, _⟩ := ins_get I.hok ha
  obtain ⟨od, J, _⟩ := O.look
  obtain ⟨Pk, Z, pk, _⟩ := kit_of I ry ty
  refine inop_own I.kIn J (Z.ty _ _ I.kIn pk) hc hcd hm hi oi hn hs hf ?_
  refine wpAny_mono (wpAny_call (run_fnR (us := [.ref a, u]) (vs := [.ref a, y]) F hr hx I (.cons rfl (.cons ry .nil)) q)) (fun r s' z => ?_) fun _ _ e => e
  obtain ⟨z', H', I', rz, qz⟩ := z
  exact SlX.cmpback rz ⟨z', H', I', rz, qz⟩
/-- len(x) by the def at g -/
def rLenI (C : Addr) (sp : Sp) (E : XK) : List V → Hp → VK → Prop := fun xs H Q => ∃ (a dx : Addr) (fs : List (Str × V)), xs = [.ref a] ∧ H a = some (.ins C dx fs) ∧ sp [.ref a] H (fun z H' => ∃ i : Int, z = .int i ∧ 0 ≤ i ∧ i < 2 ^ 63 ∧ Q z H') E
theorem call_lenI (hs : PySem.W.findIn X.K (.ref C) "__len__" = some (some (.ref g))) (hf : PySem.W.isFn X.K (.ref g) = true) (F : FnR X.prog X.w X.K X.mg X.base CX n g sp) (hr : Room (n + 1) X.A) (hx : Passes CX X E) :
    CallR X (.builtin "len") (rLenI C sp E) := by
  intro pins s σ H xs us Q I r h
  obtain ⟨a, dx, fs, rfl, ha, q⟩ := h
  obtain ⟨u, rfl, ru⟩ := vals1 r
  cases (show u = Value.ref a from ru)
  obtain ⟨mA, O, _⟩ := ins_get I.hok ha
  obtain ⟨od, J, _⟩ := O.look
  obtain ⟨m, hF⟩ := I.fr
  refine PySem.W.len_K hF I.ok.mod.kin J hs hf (wpAny_mono (wpAny_call (SlX.run_at (us := [.ref a]) (ws := [.ref a]) F hr.in1 I.env0.in1 hx I (.cons rfl .nil) q)) (fun w s' z => ?_) fun _ _ e => e)
  obtain ⟨z', H', I', rz, i, ei, h0, h1, qz⟩ := z
  subst ei
  obtain ⟨t, rfl⟩ := (show ∃ t, w = Value.int i t from rz)
  exact ⟨⟨h0, h1⟩, .int i, H', I'.tok _, ⟨_, rfl⟩, qz⟩
end
end UL
set_option Elab.async false
set_option linter.all false
set_option maxRecDepth 100000
set_option maxHeartbeats 4000000
namespace UL
open PySem PySem.Spec PyProof.Rows L2
/-! ### an instance called with keywords -/
theorem callO_ofK {M : Model} {A : Around} {E : Value → Shared → Prop} {s : Shared} {a : Addr} {pos : Pos} {Q : Value → Shared → Prop} {args : List (Bool × Sem Value)} {keywords : List (Option Str × Sem Value)} (hplain : (args.any (·.1) || keywords.any (·.1.isNone)) = false)
    (h : wpAny M A (evalArgs (.ref a) true args keywords) (fun z s₁ => (∃ C ox od, PySem.W.InstAt s₁.heap a ox C od ∧ ox.data = .plain) ∧ wpAny M A (call (.ref a) ([] ++ z.pos) z.kw) Q E s₁) E s) : wpAny M A (callWith pos (.ref a) [] args keywords) Q E s := by
  unfold callWith
  refine wpAny_bind (wpAny_holding (wpAny_mono h (fun z s₁ h₁ => wpAny_bind (wpAny_standAt ?_)) fun _ _ y => y))
  obtain ⟨⟨C, ox, od, J, hd⟩, h₁⟩ := h₁
  have L := PySem.W.kco_keeper (M := M) J hd
  simp only [hplain]
  refine wpAny_bind (L.here ?_)
  have tail : ∀ {t : Sem Value}, wpAny M A t Q E s₁ → wpAny M A (t >>= fun r => holding [r] point >>= fun _ => pure r) Q E s₁ :=
    fun ht => wpAny_bind (wpAny_mono ht (fun r s₂ hr => wpAny_bind (wpAny_holding (wpAny_point (wpAny_pure hr)))) fun _ _ y => y)
  exact tail (wpAny_operateT h₁)
section
variable {X : Cx} {CX : CXT} {C g : Addr} {k : Nat} {fd : FuncData} {ps ks : List Str} {gg : List Value → List Value → List Value} {gV : List V → List V → List V} {sp : Sp} {E : XK} {fe : Expr} {kws : List Keyword} {pos : Pos} {tf : TE} {tk : TA}
def tCallOK (C : Addr) (n : Nat) (gV : List V → List V → List V) (sp : Sp) (E : XK) (tf : TE) (tk : TA) : TE := fun σ H Q => tf σ H fun y H1 => ∃ a, y = V.ref a ∧ tk σ H1 fun zs H2 => (∃ dx fs, H2 a = some (.ins C dx fs)) ∧ zs.length = n ∧ sp (gV [V.ref a] zs) H2 Q E
theorem pe_callOK (hf : PE X fe tf) (c : StX.CallO X.K C g) (F : FnOk X.prog X.w X.K X.mg X.base CX k g fd ps sp) (hb : KBn X.K fd ps 1 ks gg gV) (hr : Room k X.A) (hx : Passes CX X E) (hkw : PK X kws tk)
    (hall : (backToKw pos (keywordEach kws X.env)).all (·.1.isSome) = true := by rfl) (hks : (backToKw pos (keywordEach kws X.env)).filterMap (·.1) = ks := by rfl)
    (ht : eval (.Call fe [] kws pos) X.env = (do callWith pos (← eval fe X.env) [] (backTo pos (starEach [] X.env)) (backToKw pos (keywordEach kws X.env))) := by rfl)
    (hpl : ((backTo pos (starEach [] X.env)).any (·.1) || (backToKw pos (keywordEach kws X.env)).any (·.1.isNone)) = false := by rfl) : PE X (.Call fe [] kws pos) (tCallOK C ks.length gV sp E tf tk) := by
  refine ⟨fun pins s σ H Q I h => ?_⟩
  rw [ht]
  refine wpAny_bind (thn (hf.run pins s σ H _ I h) fun u s1 ⟨y, H1, I1, ry, a, ey, q⟩ => ?_)
  subst ey
  obtain rfl : u = Value.ref a := ry
  refine callO_ofK hpl (evalArgs_kw2_nil hall (thn (hkw.run pos pins s1 σ H1 _ I1 q) fun ws s2 ⟨zs, H2, I2, rz, ⟨dx, fs, hi⟩, l, q2⟩ => ?_))
  obtain ⟨ox, od, J, hd⟩ := StX.insC_at I2 (.inr ⟨dx, fs, hi⟩)
  refine ⟨⟨C, ox, od, J, hd⟩, wpAny_call (PySem.W.kco_code I2.kIn J hd c.at_ c.fn c.fi ?_)⟩
  rw [hks]
  have r1 : Vals [V.ref a] [Value.ref a] := .cons rfl .nil
  have r2 := hb.rel r1 rz
  refine codeAny_mono (F.run X.A X.stack s2 H2 ⟨[.ref a], ks.zip ws⟩ (gg [.ref a] ws) (gV [V.ref a] zs) Q E hr I2.env0 (hb.to s2 [.ref a] ws I2.kIn rfl (rz.length.symm.trans l)) r2 q2) fun r s' hq => ?_
  cases r with
  | error e => exact hx pins σ H2 s2 e s' I2 hq
  | ok fl =>
    cases fl with
    | ret u => exact I2.after hq
    | next => exact False.elim hq
    | brk => exact False.elim hq
    | cont => exact False.elim hq
end
end UL
set_option Elab.async false
set_option linter.all false
set_option maxRecDepth 100000
set_option maxHeartbeats 4000000
namespace GQ
open PySem PySem.SeqAt
open AutoSeq1 (wpAny_loadPart')
open MeetsSeq MeetsSeq2 MeetsSeq3 SeqRoads2
section
variable {prog : Program} {w : World} {A : Around} {R : Result → Shared → Prop} {E : Value → Shared → Prop} {s : Shared}
/-- two tuples of any lengths; the items' == may make objects -/
theorem tuple_eqB (l b : Addr) (items items2 : Array Value) (n n2 : Nat) (dd dd2 : Option Addr) (sl sl2 : Array (Option Value)) (e : Nat → Bool) (I : Shared → Prop)
    (turn : ∀ i (h1 : i < items.size) (h2 : i < items2.size) s, I s → wpAny (model prog w) A.in1 (eqBool items[i] items2[i]) (fun r s' => r = e i ∧ I s') (fun e s' => R (.error e) s') s)
    (fin : ∀ s, I s → R (.ok (.ret (.bool ((List.range (min items.size items2.size)).all e && items.size == items2.size)))) s) {s : Shared} (hl1 : s.heap.get? l = some { cls := .type "tuple", dict := dd, data := .seq items n, slots := sl }) (hb1 : s.heap.get? b = some { cls := .type "tuple", dict := dd2, data := .seq items2 n2, slots := sl2 }) (h : I s) :
    wpAny (model prog w) A.in1 (Builtin.«tuple.__eq__» ⟨[.ref l, .ref b], []⟩) (FinOf prog w A R) (fun e s' => R (.error e) s') s := by
  have f2 := AutoSeq1.sub_tuple_tuple
  have hZ : (items.toList.zip items2.toList).length = min items.size items2.size := by simp
  have h0 := h
  obtain ⟨hp, g, d, tk, os⟩ := s
  wp_walk using wpAny_loadPart' hl1, wpAny_loadPart' hb1, wpAny_forIn_list _ (fun rest b s' => b.1 = none ∧ I s' ∧ ∃ i, rest = (items.toList.zip items2.toList).drop i ∧
      (List.range (min items.size items2.size)).all e = ((List.range (min items.size items2.size)).drop i).all e) _
  case turn =>
    rintro ⟨y, x⟩ rest b s' ⟨hb', hI, i, hz, hR⟩
    have hlt : i < (items.toList.zip items2.toList).length := by
      rcases Nat.lt_or_ge i (items.toList.zip items2.toList).length with h' | h'
      · exact h'
      · rw [List.drop_of_length_le h'] at hz; cases hz
    have hm : i < min items.size items2.size := hZ ▸ hlt
    have h1 : i < items.size := Nat.lt_of_lt_of_le hm (Nat.min_le_left _ _)
    have h2 : i < items2.size := Nat.lt_of_lt_of_le hm (Nat.min_le_right _ _)
    rw [List.drop_eq_getElem_cons hlt] at hz
    injection hz with hyx hrest
    have hy : y = items[i] := by have := congrArg Prod.fst hyx; simpa using this
    have hx : x = items2[i] := by have := congrArg Prod.snd hyx; simpa using this
    subst hy hx
    have hd : (List.range (min items.size items2.size)).drop i = i :: (List.range (min items.size items2.size)).drop (i + 1) := by simp [List.drop_eq_getElem_cons, hm]
    rw [hd, List.all_cons] at hR
    refine wpAny_bind (wpAny_mono (turn i h1 h2 s' hI) (fun r s2 q2 => ?_) fun _ _ x => x)
    obtain ⟨hr, q2⟩ := q2
    subst hr
    cases hy : e i with
    | true =>
      rw [hy] at hR
      wp_walk
      exact ⟨rfl, q2, i + 1, hrest, by simpa using hR⟩
    | false =>
      rw [hy] at hR
      have := fin s2 q2
      rw [hR] at this
      wp_walk
      simpa using this
  case fin =>
    rintro ⟨b1, b2⟩ s' ⟨hb', hI, i, hz, hR⟩
    simp only at hb'
    subst hb'
    have hge : min items.size items2.size ≤ i := by
      rcases Nat.lt_or_ge i (items.toList.zip items2.toList).length with h' | h'
      · rw [List.drop_eq_getElem_cons h'] at hz; cases hz
      · exact hZ ▸ h'
    rw [List.drop_of_length_le (by simpa using hge)] at hR
    have := fin s' hI
    rw [hR] at this
    wp_walk
    simpa [Builtin.Tuple.tupleCompareSizes] using this
  case h =>
    exact ⟨rfl, h0, 0, rfl, by simp⟩
theorem rc_tupB {l b : Addr} {items items2 : Array Value} {Q : Value → Shared → Prop} (e : Nat → Bool) (hu : A.units < cLine) (I : Shared → Prop)
    (hl : s.heap.IsTuple l items) (hb : s.heap.IsTuple b items2)
    (turn : ∀ i (h1 : i < items.size) (h2 : i < items2.size) s, I s → wpAny (model prog w) A.in1 (eqBool items[i] items2[i]) (fun r s' => r = e i ∧ I s') E s)
    (fin : ∀ s, I s → Q (.bool ((List.range (min items.size items2.size)).all e && items.size == items2.size)) s) (h : I s) : wpAny (model prog w) A (richCompare .Eq (.ref l) (.ref b)) Q E s := by
  obtain ⟨⟨cls, dd, data, sl⟩, ho, hc, n, hd⟩ := id hl
  obtain ⟨⟨cls2, dd2, data2, sl2⟩, ho2, hc2, n2, hd2⟩ := id hb
  simp only at hc hd hc2 hd2
  subst hc hd hc2 hd2
  refine wpAny_richCompare_same_room (op := .Eq) ⟨_, ho, rfl⟩ ⟨_, ho2, rfl⟩ F.slot_tuple_eq (call_here F.slot_tuple_eq ⟨_, ho, rfl⟩ F.entry_tuple_eq (F.args_tuple_eq_2 _ _) ?_) hu
  exact tuple_eqB (R := wants (fun v s' => v ≠ .notImplemented ∧ Q v s') E) l b items items2 n n2 dd dd2 sl sl2 e I turn (fun s' q => ⟨(fun x => nomatch x), fin s' q⟩) ho ho2 h
end
end GQ
namespace UL
open PySem PySem.Spec PyProof.Rows L2
/-- how two values compare, by the abstract heap -/
abbrev Eqb := V → V → Bool → Hp → Prop
def MonB (D : Eqb) : Prop := ∀ x y r H H', Ext H H' → D x y r H → D x y r H'
def EqB (X : Cx) (n : Nat) (D : Eqb) : Prop :=
  ∀ (A : Around) (pins : List (Addr × Obj)) (s : Shared) (σ : L2.St) (H : Hp) (x y : V) (r : Bool) (u v : Value), Sub X n A → Inv X pins σ H s → RelV x u → RelV y v → D x y r H →
    wpAny (model X.prog X.w) A (eqBool u v) (fun r' s' => r' = r ∧ ∃ H', Inv X pins σ H' s' ∧ Ext H H') X.xe s
def RcB (X : Cx) (n : Nat) (D : Eqb) : Prop :=
  ∀ (A : Around) (pins : List (Addr × Obj)) (s : Shared) (σ : L2.St) (H : Hp) (x y : V) (r : Bool) (u v : Value), Sub X n A → Inv X pins σ H s → RelV x u → RelV y v → D x y r H →
    wpAny (model X.prog X.w) A (richCompare .Eq u v) (fun r' s' => r' = .bool r ∧ ∃ H', Inv X pins σ H' s' ∧ Ext H H') X.xe s
section
variable {X : Cx} {n m : Nat} {D : Eqb}
def DInsB (C : Addr) (R : Addr → Addr → Bool → Hp → Prop) : Eqb := fun x y r H => ∃ a b dx dy fs gs, x = .ref a ∧ y = .ref b ∧ H a = some (.ins C dx fs) ∧ H b = some (.ins C dy gs) ∧ R a b r H
def spEqB (R : Addr → Addr → Bool → Hp → Prop) : Sp := fun vs H Q _ => ∃ a b r, vs = [.ref a, .ref b] ∧ R a b r H ∧ ∀ H', Ext H H' → Q (.bl r) H'
theorem rcB_ins {CX : CXT} {C f : Addr} {R : Addr → Addr → Bool → Hp → Prop} {E : XK} (F : FnR X.prog X.w X.K X.mg X.base CX n f (spEqB R))
    (hs : PySem.W.findIn X.K (.ref C) "__eq__" = some (some (.ref f))) (hf : PySem.W.isFn X.K (.ref f) = true) (hx : Passes CX X E) : RcB X n (DInsB C R) := by
  intro A pins s σ H x y r u v sb I rx ry d
  obtain ⟨a, b, dx, dy, fs, gs, rfl, rfl, ha, hb', hr⟩ := d
  cases rx
  cases ry
  obtain ⟨mA, J, _⟩ := ins_get I.hok ha
  obtain ⟨mB, J', _⟩ := ins_get I.hok hb'
  obtain ⟨od, J, _⟩ := J.look
  obtain ⟨od', J', _⟩ := J'.look
  obtain ⟨m, hF⟩ := I.fr
  refine PySem.W.cmp_K (op := .Eq) (tb := .ref C) sb.room.units0 hF I.ok.mod.kin J J'.type (by simp [PySem.W.notFirst]) hs hf ?_
  have hsp : spEqB R [.ref a, .ref b] H (fun v H' => v = .bl r ∧ Ext H H') E := ⟨a, b, r, rfl, hr, fun H' e => ⟨rfl, e⟩⟩
  have e0 : Env0 X.prog X.w X.K X.mg X.base A X.stack s H := by
    have e := I.env0
    exact ⟨by rw [sb.fr]; exact e.frames, e.mod, e.bs, e.bsz, e.funs, e.frf, e.hok, e.bare⟩
  have r2 : Vals [V.ref a, V.ref b] [Value.ref a, Value.ref b] := .cons rfl (.cons rfl .nil)
  refine wpAny_call (codeAny_mono (F A X.stack s H [.ref a, .ref b] [.ref a, .ref b] _ E sb.room e0 r2 hsp) fun r' s' hq => ?_)
  cases r' with
  | error e => exact hx pins σ H s e s' I hq
  | ok fl =>
    cases fl with
    | ret w =>
      obtain ⟨z, H', I', rz, ez, ex⟩ := I.after hq
      subst ez
      cases rz
      exact ⟨rfl, H', I', ex⟩
    | next => exact False.elim hq
    | brk => exact False.elim hq
    | cont => exact False.elim hq
theorem RcB.eqB (h : RcB X n D) (hr : ∀ x y r H, D x y r H → ∃ a b, x = .ref a ∧ y = .ref b ∧ (a = b → r = true)) : EqB X n D := by
  intro A pins s σ H x y r u v sb I rx ry d
  obtain ⟨a, b, rfl, rfl, hs⟩ := hr _ _ _ _ d
  cases rx
  cases ry
  by_cases hab : a = b
  · rw [hs hab]
    subst hab
    exact SeqAt.EqAt.same (A := A) (s := s) (.ref a) X.prog X.w X.xe _ ⟨rfl, H, I, Ext.rfl'⟩
  · refine GQ.eqBool_refG hab (wpAny_mono (h A pins s σ H (.ref a) (.ref b) r _ _ sb I rfl rfl d) (fun r' s' q => ?_) fun _ _ x => x)
    obtain ⟨hr', q⟩ := q
    exact ⟨r, hr', rfl, q⟩
/-- two tuples: the i-th items compare as e says -/
def DTupB (K : PySem.W.Frag) (D : Eqb) : Eqb := fun x y r H => ∃ a b xs ys, ∃ e : Nat → Bool, x = .ref a ∧ y = .ref b ∧ SqT K H a xs ∧ SqT K H b ys ∧ (∀ (i : Nat) x y, xs[i]? = some x → ys[i]? = some y → D x y (e i) H) ∧
  r = ((List.range (min xs.length ys.length)).all e && xs.length == ys.length)
theorem rcB_tup (hD : MonB D) (h : EqB X n D) : RcB X (n + 1) (DTupB X.K D) := by
  intro A pins s σ H x y r u v sb I rx ry d
  obtain ⟨a, b, xs, ys, e, rfl, rfl, ha, hb, p, rfl⟩ := d
  cases rx
  cases ry
  obtain ⟨its, r, e1, z⟩ := I.tuple ha
  obtain ⟨its2, r2, e2, z2⟩ := I.tuple hb
  refine GQ.rc_tupB e sb.room.units0 (fun s' => LoopI X pins σ H s') e1 e2 (fun i h1 h2 s' l => ?_) (fun s' q => ⟨?_, q⟩) ⟨H, I, Ext.rfl'⟩
  · obtain ⟨H1, I1, x1⟩ := l
    have g1 : its[i]? = some its.toArray[i] := by
      have h1' : i < its.length := by simpa using h1
      rw [List.getElem?_eq_getElem h1'] <;> simp
    have g2 : its2[i]? = some its2.toArray[i] := by
      have h2' : i < its2.length := by simpa using h2
      rw [List.getElem?_eq_getElem h2'] <;> simp
    have k1 : i < xs.length := by rw [r.length]; simpa using h1
    have k2 : i < ys.length := by rw [r2.length]; simpa using h2
    obtain ⟨u, hu, ru⟩ := r.get (List.getElem?_eq_getElem k1)
    obtain ⟨v, hv, rv⟩ := r2.get (List.getElem?_eq_getElem k2)
    rw [g1] at hu
    rw [g2] at hv
    rw [Option.some.inj hu, Option.some.inj hv]
    refine wpAny_mono (h A.in1 pins s' σ H1 _ _ (e i) u v sb.in1 I1 ru rv (hD _ _ _ _ _ x1 (p i _ _ (List.getElem?_eq_getElem k1) (List.getElem?_eq_getElem k2)))) (fun r s2 q => ?_) fun _ _ x => x
    obtain ⟨hr, H2, I2, x2⟩ := q
    exact ⟨hr, H2, I2, x1.trans x2⟩
  · rw [List.size_toArray, List.size_toArray, ← r.length, ← r2.length]
theorem op_eqB (h : RcB X n D) (hr : Room n X.A) : OpR X (compareOp .Eq) (fun x y H Q => ∃ r, D x y r H ∧ ∀ H', Ext H H' → Q (.bl r) H') := by
  intro pins s σ H x y v u Q I rx ry hq
  obtain ⟨r, d, q⟩ := hq
  show wpAny (model X.prog X.w) X.A (richCompare .Eq v u) (EP X pins σ Q) X.xe s
  refine wpAny_mono (h X.A pins s σ H x y r v u ⟨hr, rfl⟩ I rx ry d) (fun r' s' z => ?_) fun _ _ x => x
  obtain ⟨hr', H', I', e⟩ := z
  subst hr'
  exact ⟨.bl r, H', I', rfl, q H' e⟩
end
end UL
set_option Elab.async false
set_option linter.all false
set_option maxRecDepth 100000
set_option maxHeartbeats 4000000
namespace UL
open PySem PySem.Spec PyProof.Rows L2
section
variable (P : Program) (w : World) (K : PySem.W.Frag) (mg : Str → Option Value) (base : Heap)
/-- the class x, at C, made by a promise of positional values -/
def MakR (k : Nat) (x : Str) (C : Addr) (sp : Sp) : Prop := ∃ f, FnR P w K mg base CX0 k f sp ∧ Mk K C f ∧ mg x = some (.ref C)
/-- an instance of the class at C called -/
def CalO (k : Nat) (C : Addr) (sp : Sp) : Prop := ∃ g, FnR P w K mg base CX0 k g sp ∧ StX.CallO K C g
def CalOK (k : Nat) (C : Addr) (ks : List Str) (gV : List V → List V → List V) (sp : Sp) : Prop := ∃ g fd ps gg, FnOk P w K mg base CX0 k g fd ps sp ∧ StX.CallO K C g ∧ KBn K fd ps 1 ks gg gV
end
section
variable {X : Cx} {k j : Nat} {x : Str} {C : Addr} {sp : Sp} {e fe : Expr} {es : List Expr} {kws : List Keyword} {ks : List Str} {gV : List V → List V → List V} {t tk : TA} {te tf : TE} {p pos sp_ : Pos}
theorem pe_nR (c : MakR X.prog X.w X.K X.mg X.base k x C sp) (hr : Room j X.A) (hk : k + 1 ≤ j) (hg : Gl X x) (ha : PA X (e :: es) t) (hdb : (x == ("__debug__" : Str)) = false := by decide)
    (he : starEach (e :: es) X.env = (false, eval e X.env) :: starEach es X.env := by rfl) (hpl : (backTo pos (starEach es X.env)).any (·.1) = false := by rfl) : PE X (.Call (.Name x p) (e :: es) [] pos) (StX.tMakeR C sp E0 t) := by
  obtain ⟨f, F, M, g⟩ := c
  exact StX.pe_makeR M F (hr.mono hk) hg g pass0 ha hdb he hpl
theorem pe_nR0 (c : MakR X.prog X.w X.K X.mg X.base k x C sp) (hr : Room j X.A) (hk : k + 1 ≤ j) (hg : Gl X x) (hdb : (x == ("__debug__" : Str)) = false := by decide) : PE X (.Call (.Name x p) [] [] pos) (StX.tMakeR C sp E0 tNil) := by
  obtain ⟨f, F, M, g⟩ := c
  refine ⟨fun pins s σ H Q I h => ?_⟩
  refine wpAny_Call_Name_kw (ld_glob I hg g ?_ hdb)
  exact PySem.W.callWith_K0 I.kIn M.kp (StX.run_makeR (us := []) M F (hr.mono hk) pass0 I .nil h)
/-- C(*y) -/
def tMakeS (K : PySem.W.Frag) (C : Addr) (sp : Sp) (E : XK) (te : TE) : TE := fun σ H Q => te σ H fun y H1 => ∃ a xs, y = V.ref a ∧ (SqT K H1 a xs ∨ SqL K H1 a xs) ∧ ∀ x dx, H1 x = none → H1 dx = none → dx ≠ x →
  sp (V.ref x :: xs) (upd (upd H1 dx (.own x)) x (.ins C dx [])) (fun v H2 => v = .non ∧ Q (.ref x) H2) E
theorem pe_nRS (c : MakR X.prog X.w X.K X.mg X.base k x C sp) (hr : Room j X.A) (hk : k + 1 ≤ j) (hg : Gl X x) (he : PE X e te) (hd : (x == ("__debug__" : Str)) = false := by decide)
    (hst : starEach [.Starred e sp_] X.env = [(true, eval e X.env)] := by rfl) : PE X (.Call (.Name x p) [.Starred e sp_] [] pos) (tMakeS X.K C sp E0 te) := by
  obtain ⟨f, F, M, g⟩ := c
  refine ⟨fun pins s σ H Q I h => ?_⟩
  refine wpAny_Call_Name_kw (ld_glob I hg g ?_ hd)
  refine PySem.W.callWith_S (h₀ := X.base) I.ok.mod.kin M.kp (thn (he.run pins s σ H _ I h) fun v s1 ⟨y, H1, I1, ry, a, xs, ey, hxs, q⟩ => ?_) hst
  subst ey
  obtain rfl : v = Value.ref a := ry
  exact StX.star_any I1 hxs fun us s2 I2 rv => ⟨I2.kIn, StX.run_makeR M F (hr.mono hk) pass0 I2 rv q⟩
theorem pe_o (hf : PE X fe tf) (c : CalO X.prog X.w X.K X.mg X.base k C sp) (hr : Room j X.A) (hk : k ≤ j) (ha : PA X (e :: es) t)
    (ht : eval (.Call fe (e :: es) [] pos) X.env = (do callWith pos (← eval fe X.env) [] (backTo pos (starEach (e :: es) X.env)) (backToKw pos (keywordEach [] X.env))) := by rfl)
    (he : starEach (e :: es) X.env = (false, eval e X.env) :: starEach es X.env := by rfl) (hpl : (backTo pos (starEach es X.env)).any (·.1) = false := by rfl) : PE X (.Call fe (e :: es) [] pos) (StX.tCallO X C sp E0 tf t) := by
  obtain ⟨g, F, c⟩ := c
  exact StX.pe_callO hf c F (hr.mono hk) pass0 ha ht he hpl
theorem pe_oK (hf : PE X fe tf) (c : CalOK X.prog X.w X.K X.mg X.base k C ks gV sp) (hr : Room j X.A) (hk : k ≤ j) (hkw : PK X kws tk)
    (hall : (backToKw pos (keywordEach kws X.env)).all (·.1.isSome) = true := by rfl) (hks : (backToKw pos (keywordEach kws X.env)).filterMap (·.1) = ks := by rfl)
    (ht : eval (.Call fe [] kws pos) X.env = (do callWith pos (← eval fe X.env) [] (backTo pos (starEach [] X.env)) (backToKw pos (keywordEach kws X.env))) := by rfl)
    (hpl : ((backTo pos (starEach [] X.env)).any (·.1) || (backToKw pos (keywordEach kws X.env)).any (·.1.isNone)) = false := by rfl) : PE X (.Call fe [] kws pos) (tCallOK C ks.length gV sp E0 tf tk) := by
  obtain ⟨g, fd, ps, gg, F, c, b⟩ := c
  exact pe_callOK hf c F b (hr.mono hk) pass0 hkw hall hks ht hpl
theorem op_addS (c : CalS X.prog X.w X.K X.mg X.base k C "__add__" sp) (hc : PySem.W.selfFirst X.K C = true) (hr : Room j X.A) (hk : k ≤ j) : OpR X (binaryOp .Add) (rOpO X.K C "add" sp E0) := by
  obtain ⟨f, F, h1, h2⟩ := c
  exact op_addO hc h1 h2 F (hr.mono hk) pass0
theorem iop_addS (c : CalS X.prog X.w X.K X.mg X.base k C "__add__" sp) (hc : PySem.W.selfFirst X.K C = true) (ho : ∃ cd, PySem.W.clsIn X.K C = some cd ∧ cd.mro = [.ref C, .type "object"]) (hi : PySem.W.findIn X.K (.ref C) "__iadd__" = some none)
    (oi : PySem.W.findIn X.K (.type "object") "__iadd__" = some none) (hr : Room j X.A) (hk : k ≤ j) : OpR X (inplaceOp .Add) (rOpO X.K C "add" sp E0) := by
  obtain ⟨f, F, h1, h2⟩ := c
  exact iop_addO hc ho hi oi h1 h2 F (hr.mono hk) pass0
theorem call_lenS (c : CalS X.prog X.w X.K X.mg X.base k C "__len__" sp) (hr : Room j X.A) (hk : k + 1 ≤ j) : CallR X (.builtin "len") (rLenI C sp E0) := by
  obtain ⟨f, F, h1, h2⟩ := c
  exact call_lenI h1 h2 F (hr.mono hk) pass0
end
end UL
set_option Elab.async false
set_option linter.all false
set_option maxRecDepth 100000
set_option maxHeartbeats 4000000
namespace UL
open PySem L2
theorem join_len (a : Str) (ys : List Str) : (Txt.join a ys).length ≤ (ys.map (·.length)).sum + ys.length * a.length := by
  cases ys with
  | nil => exact Nat.zero_le _
  | cons y r =>
    show (Array.size _) ≤ _
    show (r.foldl (fun acc p => acc ++ a.cps ++ p.cps) y.cps).size ≤ _
    rw [PySem.size_gluedFold]
    simp only [List.map_cons, List.sum_cons, List.length_cons, Nat.add_mul]
    show y.length + _ + _ ≤ _
    omega
theorem listText_le (ts : List Str) : (listText ts).length ≤ (ts.map fun t => t.length + 2).sum + 2 := by
  cases ts with
  | nil => decide +kernel
  | cons t r =>
    have e : (listText (t :: r)).length = (textFrom 1 (("[" : Str) ++ (if (0 : Nat) > 0 then ", " else "" : String) ++ t) r).length + 1 := by
      show (textFrom 0 "[" (t :: r) ++ ("]" : Str)).length = _
      rw [Str.length_append]
      rfl
    rw [e, textFrom_length_pos _ _ _ (Nat.succ_pos 0)]
    have h1 : (("[" : Str) ++ ((if (0 : Nat) > 0 then ", " else "" : String) : Str) ++ t).length = 1 + t.length := by
      rw [Str.length_append, Str.length_append]
      rfl
    rw [h1]
    show 1 + t.length + (r.map fun t => t.length + 2).sum + 1 ≤ _
    simp only [List.map_cons, List.sum_cons]
    omega
theorem sum_le {α : Type} (f : α → Nat) (k : Nat) : ∀ l : List α, (∀ x ∈ l, f x ≤ k) → (l.map f).sum ≤ l.length * k
  | [], _ => by simp
  | x :: r, h => by
    have h1 := h x List.mem_cons_self
    have h2 := sum_le f k r fun y hy => h y (List.mem_cons_of_mem _ hy)
    simp only [List.map_cons, List.sum_cons, List.length_cons, Nat.add_mul]
    omega
/-! ### rows of bits -/
/-- a bit, None for an unknown one -/
abbrev Bt := Option Bool
def bV : Bt → V
  | none => .non
  | some false => .int 0
  | some true => .int 1
def bD : Bt → PyData
  | none => .none
  | some false => .int 0
  | some true => .int 1
theorem bD_dp {K : PySem.W.Frag} {H : Hp} (b : Bt) : Dp K H (bV b) (bD b) := by
  rcases b with _ | _ | _
  · exact .non
  · exact .int 0
  · exact .int 1
theorem bDs_dp {K : PySem.W.Frag} {H : Hp} : ∀ bs : List Bt, DpAll K H (bs.map bV) (bs.map bD)
  | [] => .nil
  | b :: bs => .cons (bD_dp b) (bDs_dp bs)
theorem shownAll_map : ∀ ds : List PyData, PyData.shownAll ds = ds.map PyData.shown
  | [] => by simp [PyData.shownAll]
  | d :: ds => by simp [PyData.shownAll, shownAll_map ds]
theorem bits_data (bs : List Bt) (h : bs.length ≤ 200) : (PyData.list (bs.map bD)).showable = true ∧ (PyData.list (bs.map bD)).hasDict = false ∧ (PyData.list (bs.map bD)).depth ≤ 40 ∧ (PyData.list (bs.map bD)).shown.length ≤ 4000 := by
  have h1 : ∀ bs : List Bt, PyData.showableAll (bs.map bD) = true := by
    intro bs
    induction bs with
    | nil => simp [PyData.showableAll]
    | cons b bs ih =>
      have : (bD b).showable = true := by rcases b with _ | _ | _ <;> decide +kernel
      simp [PyData.showableAll, ih, this]
  have h2 : ∀ bs : List Bt, PyData.hasDictAll (bs.map bD) = false := by
    intro bs
    induction bs with
    | nil => simp [PyData.hasDictAll]
    | cons b bs ih =>
      have : (bD b).hasDict = false := by rcases b with _ | _ | _ <;> decide +kernel
      simp [PyData.hasDictAll, ih, this]
  refine ⟨by simpa [PyData.showable] using h1 bs, by simpa [PyData.hasDict] using h2 bs, ?_, ?_⟩
  · have := depth_all (k := 0) (ds := bs.map bD) fun d hd => by
      obtain ⟨b, _, rfl⟩ := List.mem_map.mp hd
      rcases b with _ | _ | _ <;> simp [bD, PyData.depth]
    simp only [PyData.depth]
    omega
  · have e : (PyData.list (bs.map bD)).shown = listText (bs.map fun b => (bD b).shown) := by
      simp only [PyData.shown, shownAll_map, List.map_map]
      rfl
    rw [e]
    have h3 := listText_le (bs.map fun b => (bD b).shown)
    have h4 := sum_le (fun t : Str => t.length + 2) 6 (bs.map fun b => (bD b).shown) fun t ht => by
      obtain ⟨b, _, rfl⟩ := List.mem_map.mp ht
      rcases b with _ | _ | _ <;> decide +kernel
    rw [List.length_map] at h4
    omega
end UL
set_option Elab.async false
set_option linter.all false
set_option maxRecDepth 100000
set_option maxHeartbeats 4000000
namespace UL
open PySem PySem.Spec PyProof.Rows L2
def WalkE (J : It) (g : TG) (tb : TS) (D : Ends) (σ : L2.St) (H : Hp) : Prop := ∃ W : Nat → Nat → L2.St → Hp → Prop, (∃ m, W 0 m σ H) ∧ ∀ i m σ H, W i m σ H →
      (J.stop i H ∧ D.nx σ H) ∨ (J.go i H ∧ ∃ N : L2.St → Hp → Prop, (∀ σ' H', N σ' H' → ∃ m', m' < m ∧ W (i + 1) m' σ' H') ∧ ∀ x H', J.yld i H x H' → g x σ H' fun σ2 H2 => tb { D with nx := N, ct := N, bk := D.nx } σ2 H2)
/-- a walk over enumerate of a list or a tuple -/
theorem for_enumB {K : PySem.W.Frag} {a : Addr} {xs : List V} {g : TG} {tb : TS} {D : Ends} {σ : L2.St} {H : Hp} (Pv : Nat → L2.St → Hp → Prop) (h0 : Pv 0 σ H) (hl : (∀ i σ H, Pv i σ H → SqL K H a xs) ∨ ∀ i σ H, Pv i σ H → SqT K H a xs)
    (hs : ∀ i x σ H T, xs[i]? = some x → Pv i σ H → H T = none → g (.ref T) σ (upd H T (.tup [.int (i : Nat), x])) fun σ2 H2 => tb { D with nx := Pv (i + 1), ct := Pv (i + 1), bk := D.nx } σ2 H2) (hd : ∀ σ H, Pv xs.length σ H → D.nx σ H) :
    (SqL K H a xs ∧ WalkE (Ite K a) g tb D σ H) ∨ (SqT K H a xs ∧ WalkE (Itet K a) g tb D σ H) := by
  rcases hl with hl | hl
  · exact .inl ⟨hl 0 σ H h0, for_enumL Pv h0 (fun i σ H _ p => hl i σ H p) hs hd⟩
  · exact .inr ⟨hl 0 σ H h0, for_enumT Pv h0 (fun i σ H _ p => hl i σ H p) hs hd⟩
end UL
set_option Elab.async false
set_option linter.all false
set_option maxRecDepth 100000
set_option maxHeartbeats 4000000
namespace UL
open PySem PySem.Spec PyProof.Rows L2
section
variable {X : Cx} {k j : Nat} {m : Str} {C : Addr} {sp : Sp} {o : Expr} {ta : TE} {pos apos : Pos}
theorem pe_m0 {pl : Sem Bool} (he : PE X o ta) (c : CalM X.prog X.w X.K X.mg X.base k C m sp) (hr : Room j X.A) (hk : k ≤ j)
    (ht : eval (.Call (.Attribute o m apos) [] [] pos) X.env = (do
      let ov ← eval o X.env
      standAt apos.atName
      let (f, first) ← holding [ov] (getMethod ov m pl)
      callWith pos f first (backTo pos (starEach [] X.env)) (backToKw pos (keywordEach [] X.env))) := by rfl) :
    PE X (.Call (.Attribute o m apos) [] [] pos) (tMeth C m sp [] E0 ta tNil) := by
  obtain ⟨f, fd, ps, F, cl, mt, b⟩ := c
  exact pe_meth0 he cl mt F (hr.mono hk) b .nil pass0 ht
end
/-! ### rows of a word and a number, as data -/
theorem eqv_list (ds es : List PyData) : PyData.eqv (.list ds) (.list es) = PyData.eqvAll ds es := by simp only [PyData.eqv]
end UL
set_option Elab.async false
set_option linter.all false
set_option maxRecDepth 100000
set_option maxHeartbeats 4000000
namespace HT
open PySem PySem.Spec PyProof.Rows
theorem rev_pick (xs : Array Value) : ((List.range xs.size).filterMap fun (m : Nat) => xs[(((xs.size : Int) - 1) + (m : Int) * (-1)).toNat]?) = xs.toList.reverse := by
  refine List.ext_getElem? fun i => ?_
  have e : ((List.range xs.size).filterMap fun (m : Nat) => xs[(((xs.size : Int) - 1) + (m : Int) * (-1)).toNat]?) = (List.range xs.size).pmap (fun m (h : m < xs.size) => xs[xs.size - 1 - m]) (fun m hm => List.mem_range.mp hm) := by
    have : ∀ (l : List Nat) (hl : ∀ m ∈ l, m < xs.size), (l.filterMap fun (m : Nat) => xs[(((xs.size : Int) - 1) + (m : Int) * (-1)).toNat]?) = l.pmap (fun m (h : m < xs.size) => xs[xs.size - 1 - m]) hl := by
      intro l
      induction l with
      | nil => intro _; rfl
      | cons m l ih =>
        intro hl
        have hm := hl m List.mem_cons_self
        have e1 : (((xs.size : Int) - 1) + (m : Int) * (-1)).toNat = xs.size - 1 - m := by omega
        rw [List.filterMap_cons, e1, Array.getElem?_eq_getElem (by omega)]
        simp only [List.pmap_cons]
        rw [ih fun k hk => hl k (List.mem_cons_of_mem _ hk)]
    exact this _ _
  rw [e]
  by_cases c : i < xs.size
  · rw [List.getElem?_reverse (by simpa using c)]
    simp [c]
  · rw [List.getElem?_eq_none (by simp; omega), List.getElem?_eq_none (by simp; omega)]
section
variable {prog : Program} {w : World} {A : Around} {E : Value → Shared → Prop} {s : Shared}
theorem sliceApplied_rev {sl : Addr} {vl vu vs : Value} {n : Nat} {Q : Int × Int × Nat → Shared → Prop} (hs : s.heap.IsSliceOf sl vl vu vs) (pl : IsPart vl none) (pu : IsPart vu none) (ps : IsPart vs (some (-1)))
    (h : Q (((n : Int) - 1), -1, n) s) : wpAny (model prog w) A (Builtin.Slice.sliceApplied (.ref sl) (pure (n : Int))) Q E s := by
  obtain ⟨os, hos, hcs, hds⟩ := id hs
  unfold Builtin.Slice.sliceApplied Builtin.Slice.sliceFields
  refine wpAny_bind (wpAny_bind (wpAny_field hos hds (x := vl) rfl (wpAny_bind (wpAny_field hos hds (x := vu) rfl (wpAny_bind (wpAny_field hos hds (x := vs) rfl (wpAny_pure ?_)))))))
  refine wpAny_bind (slicePart_ ps ?_)
  show wpAny _ _ (if ((-1 : Int) == 0) = true then _ else _) _ _ s
  rw [if_neg (by decide)]
  refine wpAny_bind (slicePart_ pl (wpAny_bind (slicePart_ pu (wpAny_bind (wpAny_pure ?_)))))
  have e1 : Builtin.Slice.sliceAdjust none none (-1) (n : Int) = ((n : Int) - 1, -1) := rfl
  have e2 : Builtin.Slice.slicePlaces ((n : Int) - 1) (-1) (-1) = n := by
    unfold Builtin.Slice.slicePlaces
    rw [if_neg (by decide)]
    by_cases c : (n : Int) - 1 > -1
    · rw [if_pos c]
      show ((((n : Int) - 1) - (-1) - 1) / 1 + 1).toNat = n
      rw [Int.ediv_one]
      omega
    · rw [if_neg c]
      omega
  show wpAny _ _ (match Builtin.Slice.sliceAdjust none none (-1) (n : Int) with | (lo, hi) => pure (lo, (-1 : Int), Builtin.Slice.slicePlaces lo hi (-1))) _ _ s
  rw [e1]
  show wpAny _ _ (pure (((n : Int) - 1), (-1 : Int), Builtin.Slice.slicePlaces ((n : Int) - 1) (-1) (-1))) _ _ s
  rw [e2]
  exact wpAny_pure h
theorem getItem_tuple_rev {t sl : Addr} {items : Array Value} {vl vu vs : Value} {Q : Value → Shared → Prop} (ht : IsTup s.heap t items) (hs : s.heap.IsSliceOf sl vl vu vs) (pl : IsPart vl none) (pu : IsPart vu none) (ps : IsPart vs (some (-1)))
    (h : Q (.ref s.heap.objs.size) { s with heap := s.heap.push { cls := .type "tuple", data := .seq items.toList.reverse.toArray } })
    (hsz : items.size ≤ sizeLine) : wpAny (model prog w) A (getItem (.ref t) (.ref sl)) Q E s := by
  have htake : sizeOk (.seq items.toList.reverse.toArray) := by
    show items.toList.reverse.toArray.size ≤ sizeLine
    rw [List.size_toArray, List.length_reverse, Array.length_toList]
    exact hsz
  obtain ⟨os, hos, hcs, hds⟩ := id hs
  have hTs : s.TypeIs (.ref sl) "slice" := ⟨os, hos, hcs⟩
  unfold getItem
  try with_reducible refine wpAny_holding ?_
  first | refine wpAny_bind (wpAny_pure ?_) | skip
  refine wpAny_bind (wpAny_sequenceKey ht.typeIs (by decide) ?_)
  refine wpAny_bind (wpAny_callSpecial?_slot (name := Str.ofString "__getitem__") ht.typeIs PyProof.Rows.slot_tuple_getitem
    (wpAny_call_entry PyProof.Rows.slot_tuple_getitem ht.typeIs entry_tuple_getitem ?_ (args_tuple_getitem _ _)))
  show wpAny _ _ (Builtin.Tuple.tupleItemsOf (.ref t) >>= _) _ _ s
  refine wpAny_bind (tupleItemsOf_ ht ?_)
  refine wpAny_bind (wpAny_typeOf hTs ?_)
  rw [if_pos (by decide)]
  refine wpAny_bind (sliceApplied_rev hs pl pu ps ?_)
  have hno : ¬ ((((items.size : Int) - 1) == 0 && (-1 : Int) == 1 && items.size == items.size) = true) := by simp
  show wpAny _ _ (if (((items.size : Int) - 1) == 0 && (-1 : Int) == 1 && items.size == items.size) = true then _ else _) _ _ s
  rw [if_neg hno, rev_pick]
  first
    | exact wpAny_bind (m := Builtin.Tuple.tupleExact _) (wpAny_newObj_type (wpAny_pure ⟨_, rfl, wpAny_pure h⟩) htake)
    | exact wpAny_bind (m := Builtin.Tuple.tupleExact _) (wpAny_newObj_type (wpAny_bind (wpAny_pure (wpAny_pure ⟨_, rfl, wpAny_pure h⟩))) htake)
    | exact wpAny_bind (wpAny_bind (m := Builtin.Tuple.tupleExact _) (wpAny_newObj_type (wpAny_pure (wpAny_pure ⟨_, rfl, wpAny_pure h⟩)) htake))
    | exact wpAny_bind (wpAny_bind (m := Builtin.Tuple.tupleExact _) (wpAny_newObj_type (wpAny_pure ⟨_, rfl, wpAny_pure h⟩) htake))
end
end HT
namespace UL
open PySem PySem.Spec PyProof.Rows L2
section
variable {X : Cx}
/-- t[::-1], t a tuple -/
def tRevT (K : PySem.W.Frag) (te : TE) : TE := fun σ H Q => te σ H fun x H1 => ∃ a xs, x = .ref a ∧ SqT K H1 a xs ∧ ∀ p, H1 p = none → Q (.ref p) (upd H1 p (.tup xs.reverse))
theorem pe_revT {e : Expr} {te : TE} {k : Nat} {p1 p2 p3 pos : Pos} (he : PE X e te) : PE X (.Subscript e (.Slice none none (some (.UnaryOp .USub (.Constant (.int 1) k p1) p2)) p3) pos) (tRevT X.K te) := by
  refine ⟨fun pins s σ H Q I h => ?_⟩
  refine Subscript_ (thn (he.run pins s σ H _ I h) fun v s1 ⟨x, H1, I1, r1, q1⟩ => ?_)
  obtain ⟨a, xs, ex, hx, q⟩ := q1
  subst ex
  cases r1
  have hst : PO X (some (.UnaryOp .USub (.Constant (.int 1) k p1) p2)) (tPart (tUn (rU fun i => .int (-i)) (tC (.int 1)))) := po_some (pe_un un_neg pe_int)
  refine wpAny_Slice (thn (po_none.run pins s1 σ H1 (fun o H2 => o = none ∧ H2 = H1) I1 ⟨rfl, rfl⟩) fun vl s2 ⟨l, H2, I2, pl, el, e2⟩ => ?_)
  subst el e2
  refine thn (po_none.run pins s2 σ H2 (fun o H3 => o = none ∧ H3 = H2) I2 ⟨rfl, rfl⟩) fun vu s3 ⟨u, H3, I3, pu, eu, e3⟩ => ?_
  subst eu e3
  refine thn (hst.run pins s3 σ H3 (fun o H4 => o = some (-1) ∧ H4 = H3) I3 ⟨1, rfl, -1, rfl, rfl, rfl⟩) fun vs s4 ⟨o, H4, I4, ps, eo, e4⟩ => ?_
  subst eo e4
  have I5 : Inv X pins σ H4 { s4 with heap := s4.heap.push { cls := .type "slice", data := .fields #[vl, vu, vs] } } := I4.kept (t' := s4.toks) fun b ob q => Heap.get?_push_of_some _ q
  obtain ⟨its, r, ht, hz⟩ := I5.tuple hx
  have hlen := r.length
  show wpAny (model X.prog X.w) X.A (subscriptTail e (.Slice none none (some (.UnaryOp .USub (.Constant (.int 1) k p1) p2)) p3) (.ref a) (.ref s4.heap.objs.size)) (EP X pins σ Q) X.xe { s4 with heap := s4.heap.push { cls := .type "slice", data := .fields #[vl, vu, vs] } }
  refine tail_any (ops := [.ref a, .ref s4.heap.objs.size]) ht.typeIs (PyProof.Rows.slot_tuple_getitem.lookup) ?_ (by with_unfolding_all rfl)
  refine HT.getItem_tuple_rev ht (Heap.IsSliceOf.new _ vl vu vs) pl pu ps ?_ (by rw [List.size_toArray]; omega)
  refine ⟨.ref _, _, I5.laid (t' := s4.toks) (o := .tup xs.reverse) (fun b ob q => Heap.get?_push_of_some _ q) (Nat.le_refl _) ?_, rfl, q _ (I5.hok.fresh (Nat.le_refl _))⟩
  exact ⟨by show xs.reverse.length ≤ sizeLine; rw [List.length_reverse]; exact hz, _, r.reverse, ⟨_, Heap.get?_push_size _ rfl, rfl, _, rfl⟩⟩
end
end UL
set_option Elab.async false
set_option linter.all false
set_option maxRecDepth 100000
set_option maxHeartbeats 4000000
namespace UL
open PySem L2
/-! ### unlike rows have unlike texts -/
def tok : Bt → List Nat
  | none => [78, 111, 110, 101]
  | some false => [48]
  | some true => [49]
def encT : List Bt → List Nat
  | [] => [93]
  | x :: xs => 44 :: 32 :: (tok x ++ encT xs)
def enc : List Bt → List Nat
  | [] => [91, 93]
  | x :: xs => 91 :: (tok x ++ encT xs)
theorem encT_inj : ∀ {xs ys : List Bt}, encT xs = encT ys → xs = ys
  | [], [], _ => rfl
  | [], y :: ys, h => by simp [encT] at h
  | x :: xs, [], h => by simp [encT] at h
  | x :: xs, y :: ys, h => by
    have h' : tok x ++ encT xs = tok y ++ encT ys := by
      simp only [encT, List.cons.injEq, true_and] at h
      exact h
    have e : x = y ∧ encT xs = encT ys := by
      rcases x with _ | _ | _ <;> rcases y with _ | _ | _ <;> simp [tok] at h' <;> exact ⟨rfl, h'⟩
    rw [e.1, encT_inj e.2]
theorem enc_inj {xs ys : List Bt} (h : enc xs = enc ys) : xs = ys := by
  cases xs with
  | nil =>
    cases ys with
    | nil => rfl
    | cons y ys =>
      rcases y with _ | _ | _ <;> simp [enc, tok] at h
  | cons x xs =>
    cases ys with
    | nil => rcases x with _ | _ | _ <;> simp [enc, tok] at h
    | cons y ys =>
      apply encT_inj
      simp only [enc, List.cons.injEq, true_and] at h
      simp only [encT, h]
theorem tok_shown (x : Bt) : ((bD x).shown).cps.toList = tok x := by rcases x with _ | _ | _ <;> decide +kernel
theorem cps_app (a b : Str) : (a ++ b).cps.toList = a.cps.toList ++ b.cps.toList := by
  show (a.cps ++ b.cps).toList = _
  simp
theorem text_tail : ∀ (xs : List Bt) (k : Nat) (acc : Str), 0 < k → (textFrom k acc (xs.map fun b => (bD b).shown) ++ ("]" : Str)).cps.toList = acc.cps.toList ++ encT xs
  | [], k, acc, _ => by
    show (acc ++ ("]" : Str)).cps.toList = _
    rw [cps_app]
    rfl
  | x :: xs, k, acc, h => by
    show (textFrom (k + 1) (acc ++ ((if k > 0 then ", " else "" : String) : Str) ++ (bD x).shown) (xs.map fun b => (bD b).shown) ++ ("]" : Str)).cps.toList = _
    rw [text_tail xs (k + 1) _ (Nat.succ_pos k), if_pos h, cps_app, cps_app, tok_shown, List.append_assoc, List.append_assoc]
    rfl
theorem text_enc (xs : List Bt) : (listText (xs.map fun b => (bD b).shown)).cps.toList = enc xs := by
  cases xs with
  | nil => decide +kernel
  | cons x xs =>
    show (textFrom 1 (("[" : Str) ++ ((if (0 : Nat) > 0 then ", " else "" : String) : Str) ++ (bD x).shown) (xs.map fun b => (bD b).shown) ++ ("]" : Str)).cps.toList = _
    rw [text_tail xs 1 _ (by decide), cps_app, cps_app, tok_shown]
    rfl
theorem shown_bits (xs : List Bt) : (PyData.list (xs.map bD)).shown = listText (xs.map fun b => (bD b).shown) := by
  simp only [PyData.shown, shownAll_map, List.map_map]
  rfl
theorem shown_inj {xs ys : List Bt} : decide (V.str (PyData.list (xs.map bD)).shown = V.str (PyData.list (ys.map bD)).shown) = decide (xs = ys) := by
  by_cases h : xs = ys
  · subst h
    rw [decide_eq_true rfl, decide_eq_true rfl]
  · rw [decide_eq_false h]
    refine decide_eq_false fun e => h (enc_inj ?_)
    have e1 := V.str.inj e
    rw [shown_bits, shown_bits] at e1
    rw [← text_enc, ← text_enc, e1]
end UL
set_option Elab.async false
set_option linter.all false
set_option maxRecDepth 100000
set_option maxHeartbeats 4000000
namespace UL
open PySem PySem.Spec PyProof.Rows L2
section
variable {X : Cx}
/-- o[a:b] = v, o and v two tracked lists -/
def gSlset (to ta tb : TE) : TG := fun v σ H Q => to σ H fun o H1 => tPart ta σ H1 fun oa H2 => tPart tb σ H2 fun ob H3 => ∃ (l q : Addr) (xs ys : List V) (a b : Int), o = .ref l ∧ oa = some a ∧ ob = some b ∧ v = .ref q ∧ H3 l = some (.lst xs) ∧ H3 q = some (.lst ys) ∧ l ≠ q ∧
  0 ≤ a ∧ a ≤ b ∧ b ≤ xs.length ∧ xs.length + ys.length ≤ sizeLine ∧ Q σ (upd H3 l (.lst (xs.take a.toNat ++ ys ++ xs.drop b.toNat)))
theorem pg_slset {o a b : Expr} {to ta tb : TE} {p2 pos : Pos} (ho : PE X o to) (ha : PE X a ta) (hb : PE X b tb)
    (he : ∀ v, assign (.Subscript o (.Slice (some a) (some b) none p2) pos) X.env v = (do
      let ov ← holding [v] (eval o X.env)
      let iv ← holding [v, ov] (eval (.Slice (some a) (some b) none p2) X.env)
      standAt pos
      holding [v, ov, iv] (setItem ov iv v)
      release [iv, v, ov] []) := by intro _; rfl) : PG X (.Subscript o (.Slice (some a) (some b) none p2) pos) (gSlset to ta tb) := by
  refine ⟨fun pins s σ H v u Q I r h => ?_⟩
  rw [he]
  refine wpAny_bind (wpAny_holding (thn (ho.run pins s σ H _ I h) fun ov s1 ⟨x, H1, I1, r1, q1⟩ => ?_))
  refine wpAny_bind (wpAny_holding (wpAny_Slice (thn ((po_some ha).run pins s1 σ H1 _ I1 q1) fun vl s2 ⟨lo, H2, I2, pl, q2⟩ => thn ((po_some hb).run pins s2 σ H2 _ I2 q2) fun vu s3 ⟨hi, H3, I3, pu, q3⟩ => ?_)))
  rw [evalPart_none]
  refine wpAny_pure ?_
  obtain ⟨l, q, xs, ys, a', b', rfl, rfl, rfl, rfl, e1, e2, ne, g1, g2, g3, g4, k⟩ := q3
  have I4 : Inv X pins σ H3 { s3 with heap := s3.heap.push { cls := .type "slice", data := .fields #[vl, vu, .none] } } := I3.kept (t' := s3.toks) fun b ob q => Heap.get?_push_of_some _ q
  cases (show ov = Value.ref l from r1)
  cases (show u = Value.ref q from r)
  refine wpAny_bind (wpAny_standAt (wpAny_bind (wpAny_holding ?_)))
  refine set_slice (X := X) (pins := pins) (σ := σ) (a := a') (c := b') I4 e1 e2 ne (Heap.IsSliceOf.new ..) ?_ ?_ g1 g2 g3 g4 fun s5 I5 => wpAny_release ⟨σ, _, I5, k⟩
  · cases pl
    exact ⟨_, rfl⟩
  · cases pu
    exact ⟨_, rfl⟩
end
end UL
set_option Elab.async false
set_option linter.all false
set_option maxRecDepth 100000
set_option maxHeartbeats 4000000
namespace UL
open PySem L2
theorem Same.look {H H' : Hp} {a : Addr} {o : HO} (s : L2.Same H H') (h : H a = some o) : H' a = some o := s _ _ h
theorem new_look {H : Hp} {p a : Addr} {o o' : HO} (hp : H p = none) (h : H a = some o) : upd H p o' a = some o := by rw [upd_ne (ne_of_none h hp)]; exact h
theorem Stay.lookT {H H' : Hp} {p a : Addr} {xs : List V} (s : Stay p H H') (hp : Pot H p) (h : H a = some (.tup xs)) : H' a = some (.tup xs) := by
  obtain ⟨x, y, e, _⟩ := hp
  exact s _ _ (ne_of h e (by intro z; cases z)) h
theorem Stay.lookI {H H' : Hp} {p a C dx : Addr} {fs : List (Str × V)} (s : Stay p H H') (hp : Pot H p) (h : H a = some (.ins C dx fs)) : H' a = some (.ins C dx fs) := by
  obtain ⟨x, y, e, _⟩ := hp
  exact s _ _ (ne_of h e (by intro z; cases z)) h
end UL
set_option Elab.async false
set_option linter.all false
set_option maxRecDepth 100000
set_option maxHeartbeats 4000000
namespace K15
open PySem L2 UL
def top (i : Nat) : Stmt := PySem.Challenge.pw_unlikecalls_k15_whole_fills_done_as_work.main.body.getD i (.Pass ⟨0, 0, 0, 0⟩)
abbrev sPot : Stmt := top 42
abbrev sDraw : Stmt := top 43
abbrev sPick : Stmt := top 44
/-- the built-ins' names that no def of the text takes -/
structure Bi (mg : Str → Option Value) : Prop where
  abs : mg "abs" = none
  max : mg "max" = none
  min : mg "min" = none
  int : mg "int" = none
  len : mg "len" = none
  divmod : mg "divmod" = none
  range : mg "range" = none
  str : mg "str" = none
  repr : mg "repr" = none
  isinstance : mg "isinstance" = none
  all : mg "all" = none
  bool : mg "bool" = none
section
variable {P : Program} {w : World} {K : PySem.W.Frag} {mg : Str → Option Value} {base : Heap}
theorem scDraw : FnScope ["_law_pot_here", "_law_size", "_law_digit"] ["_law_pot_here", "_law_size"] (defScope sDraw) := ⟨rfl, rfl, rfl, by decide +kernel, rfl, by decide +kernel, by decide +kernel⟩
theorem ok_draw {f : Addr} {fd : FuncData} (F : Fun K "_law_draw" "_law_draw" sDraw f fd) (B : Bi mg) : FnOk P w K mg base CX0 1 f fd ["_law_pot_here", "_law_size"] spDraw := by
  refine F.ok scDraw (fun vs H Q E h => ?_) (fun cdv A outer s H vs Q E hr h => ?_)
  · obtain ⟨p, n, rfl, _⟩ := h
    rfl
  · obtain ⟨p, n, rfl, ⟨a, b, hp, hb0, hb1⟩, hn0, hn1, k⟩ := h
    refine ⟨_, pss_cons (ps_if (pt_cmpR op_gt (pe_ix ix_list (pv 0) pe_int (fun _ _ => rfl)) pe_int (nomark _))
        (pss_cons (ps_asg (pe_callB call_divmod (by rfl) B.divmod (by decide +kernel) (pa_cons (pe_ix ix_list (pv 0) pe_int (fun _ _ => rfl)) (pa_cons (pv 1) pa_nil)))
            (pg_tup rfl (pgs_cons (pg_sub (pv 0) pe_int set_list) (pgs_cons (pg_name (i := 2) scDraw.nd rfl (.inl rfl)) pgs_nil))))
          (pss_one (ps_ret (pv 2)))) pss_nil)
      (pss_cons (ps_asg (pe_op op_mod (pe_callTy call_int1 (by rfl) B.int (by decide +kernel) (pa_cons (pe_op op_add (pe_op op_mul (pe_ix ix_list (pv 0) pe_int (fun _ _ => rfl)) pe_int) pe_int) pa_nil)) pe_int)
          (pg_sub (pv 0) pe_int set_list))
      (pss_one (ps_ret (pe_op op_mod (pe_callTy call_int1 (by rfl) B.int (by decide +kernel) (pa_cons (pe_op op_fdiv (pe_op op_mod (pe_callTy call_int1 (by rfl) B.int (by decide +kernel)
          (pa_cons (pe_op op_mul (pe_ix ix_list (pv 0) pe_int (fun _ _ => rfl)) (pe_ix ix_list (pv 0) pe_int (fun _ _ => rfl))) pa_nil)) pe_int) pe_int) pa_nil)) (pv 1))))), ?_⟩
    -- if pot[0] > 0
    refine ⟨_, rfl, p, _, _, _, rfl, rfl, SqL.of hp, atI_nat (j := 0) rfl, _, _, rfl, rfl, _, rfl, ?_⟩
    by_cases c : 0 < a
    · rw [decide_eq_true c]
      refine iteT ?_
      refine ⟨_, rfl, p, _, _, _, rfl, rfl, SqL.of hp, atI_nat (j := 0) rfl, _, rfl, _, _, rfl, ⟨hn0, hn1⟩, fun t ht => ?_⟩
      have npt : p ≠ t := ne_of_none hp ht
      refine ⟨t, _, rfl, SqT.of upd_same, rfl, _, _, rfl, _, rfl, p, _, _, 0, rfl, rfl, (by rw [upd_ne npt]; exact hp), rfl, _, _, rfl, rfl, ?_⟩
      refine ⟨_, rfl, ?_⟩
      refine k _ _ (Int.emod_nonneg _ (by omega)) (Int.emod_lt_of_pos _ hn0) ⟨_, b, upd_same, hb0, hb1⟩ fun u o hu e => ?_
      rw [upd_ne hu, upd_ne (ne_of_none e ht)]
      exact e
    · rw [decide_eq_false c]
      refine iteF ?_
      refine ⟨_, rfl, p, _, _, _, rfl, rfl, SqL.of hp, atI_nat (j := 1) rfl, _, _, rfl, rfl, .inr ⟨by decide, by decide⟩, _, _, rfl, rfl, .inl ⟨_, rfl, _, _, rfl, rfl, (by show (0 : Int) < 2147483587; decide), ?_⟩⟩
      refine ⟨_, rfl, p, _, _, 1, rfl, rfl, hp, rfl, ?_⟩
      have e1 : 0 ≤ (b * 48271 + 12161) % 2147483587 := Int.emod_nonneg _ (by decide)
      have e2 : (b * 48271 + 12161) % 2147483587 < 2147483587 := Int.emod_lt_of_pos _ (by decide)
      dsimp only [List.set]
      generalize (b * 48271 + 12161) % 2147483587 = z at e1 e2 ⊢
      refine ⟨_, rfl, p, _, _, _, rfl, rfl, SqL.of upd_same, atI_nat (j := 1) rfl, _, rfl, p, _, _, _, rfl, rfl, SqL.of upd_same, atI_nat (j := 1) rfl, _, _, rfl, rfl, .inl ⟨by omega, by omega⟩, .inl ⟨_, rfl, _, _, rfl, rfl, (by show (0 : Int) < 2147483549; decide), _, _, rfl, rfl, ⟨by decide, by decide⟩,
        .inl ⟨_, rfl, _, rfl, _, _, rfl, rfl, hn0, ?_⟩⟩⟩
      exact k _ _ (Int.emod_nonneg _ (by omega)) (Int.emod_lt_of_pos _ hn0) ⟨a, z, upd_same, e1, by omega⟩ stay_upd
end
end K15
set_option Elab.async false
set_option linter.all false
set_option maxRecDepth 100000
set_option maxHeartbeats 4000000
namespace K15
open PySem L2 UL
/-! ### fills as data -/
inductive FT where
  | free
  | f (s : Bool) (n : Int)
  deriving DecidableEq
def FT.w : FT → Str
  | .free => "free"
  | .f true _ => "sign"
  | .f false _ => "zeros"
def FT.e : FT → V
  | .free => .non
  | .f _ n => .int n
def FT.ok : FT → Prop
  | .free => True
  | .f _ n => 3 ≤ n ∧ n ≤ 128
def ff (t : FT) : List (Str × V) := [("_word", .str t.w), ("_extent", t.e)]
theorem we_ne : ¬ (("_word" : Str) = "_extent") := by decide +kernel
theorem ff_w (t : FT) : (ff t).lookup ("_word" : Str) = some (.str t.w) := by simp [ff, List.lookup]
theorem ff_e (t : FT) : (ff t).lookup ("_extent" : Str) = some t.e := by
  have h : (("_extent" : Str) == ("_word" : Str)) = false := by decide +kernel
  simp [ff, List.lookup, h]
theorem ff_no (t : FT) {m : Str} (h : (m == ("_word" : Str)) = false) (h' : (m == ("_extent" : Str)) = false) : (ff t).lookup m = none := by simp [ff, List.lookup, h, h']
theorem ff_put (t : FT) : putF "_extent" t.e (putF "_word" (.str t.w) []) = ff t := by
  show (if ("_word" : Str) = "_extent" then _ else (("_word" : Str), V.str t.w) :: putF "_extent" t.e []) = _
  rw [if_neg we_ne]
  rfl
/-- a Fill t stands at v -/
def FillAt (C : Addr) (H : Hp) (v : V) (t : FT) : Prop := ∃ a dx, v = .ref a ∧ H a = some (.ins C dx (ff t))
theorem FillAt.same {C : Addr} {H H' : Hp} {v : V} {t : FT} (h : FillAt C H v t) (s : L2.Same H H') : FillAt C H' v t := by
  obtain ⟨a, dx, e, q⟩ := h
  exact ⟨a, dx, e, s _ _ q⟩
theorem FillAt.stay {C p : Addr} {H H' : Hp} {v : V} {t : FT} (h : FillAt C H v t) (hp : Pot H p) (s : Stay p H H') : FillAt C H' v t := by
  obtain ⟨a, dx, e, q⟩ := h
  obtain ⟨_, _, q', _⟩ := hp
  exact ⟨a, dx, e, s _ _ (ne_of q q' (by intro z; cases z)) q⟩
/-! ### what the document says of them -/
def cutF (t : FT) (w b : Int) : FT := match t with
  | .free => .free
  | .f s n => if (if n < b then n else b) ≤ w then .free else .f s (if n < b then n else b)
def covF : FT → FT → Bool
  | _, .free => true
  | .free, .f _ _ => false
  | .f s n, .f s' n' => decide (s = s') && decide (n' ≤ n)
def strF : FT → Str
  | .free => "free"
  | .f true n => "sign " ++ toString n
  | .f false n => "zeros " ++ toString n
theorem cutF_ok {t : FT} {w b : Int} (h : t.ok) (hw : 2 ≤ w) (hb : b ≤ 128) : (cutF t w b).ok := by
  cases t with
  | free => exact True.intro
  | f s n =>
    obtain ⟨h1, h2⟩ := (show 3 ≤ n ∧ n ≤ 128 from h)
    have hm : (if n < b then n else b) ≤ 128 := by
      by_cases d : n < b
      · rw [if_pos d]
        exact h2
      · rw [if_neg d]
        exact hb
    show FT.ok (if (if n < b then n else b) ≤ w then .free else .f s (if n < b then n else b))
    generalize (if n < b then n else b) = m at hm ⊢
    by_cases c : m ≤ w
    · rw [if_pos c]
      exact True.intro
    · rw [if_neg c]
      exact ⟨by omega, hm⟩
/-! ### what the top has written -/
structure Txt (K : PySem.W.Frag) (mg : Str → Option Value) (C : Addr) : Prop where
  bi : Bi mg
  isi : CIsi K C
  nW : NoAttr K C "_word"
  nE : NoAttr K C "_extent"
  mgF : mg "Fill" = some (.ref C)
  mgFREE : ∃ u, mg "FREE" = some u ∧ RelV (.str "free") u
  mgZEROS : ∃ u, mg "ZEROS" = some u ∧ RelV (.str "zeros") u
  mgSIGN : ∃ u, mg "SIGN" = some u ∧ RelV (.str "sign") u
  mgLE : ∃ u, mg "LEAST_EXTENT" = some u ∧ RelV (.int 3) u
  mgLW : ∃ u, mg "LEAST_WIDTH" = some u ∧ RelV (.int 2) u
  mgMB : ∃ u, mg "MOST_BITS" = some u ∧ RelV (.int 128) u
  kt : ∀ T ∈ (["NoneType", "tuple", "str", "int", "list"] : List String), PySem.W.kitOne K (.type T) (.ref C) = some false ∧ PySem.W.notFirst K C (.type T) = true
abbrev sBetw : Stmt := top 4
abbrev sWord : Stmt := top 6
section
variable {P : Program} {w : World} {K : PySem.W.Frag} {mg : Str → Option Value} {base : Heap} {C : Addr}
/-- is_between of ints -/
def spBetw : Sp := fun vs H Q _ => ∃ i lo hi : Int, vs = [.int i, .int lo, .int hi] ∧ Q (.bl (decide (lo ≤ i ∧ i ≤ hi))) H
theorem scBetw : FnScope ["value", "least", "most"] ["value", "least", "most"] (defScope sBetw) := ⟨rfl, rfl, rfl, by decide +kernel, rfl, by decide +kernel, by decide +kernel⟩
theorem ok_betw {f : Addr} {fd : FuncData} (F : Fun K "is_between" "is_between" sBetw f fd) (B : Bi mg) :
    FnOk P w K mg base CX0 2 f fd ["value", "least", "most"] spBetw := by
  refine F.ok scBetw (fun vs H Q E h => ?_) (fun cdv A outer s H vs Q E hr h => ?_)
  · obtain ⟨i, lo, hi, rfl, _⟩ := h
    rfl
  · obtain ⟨i, lo, hi, rfl, k⟩ := h
    refine ⟨_, pss_one (ps_ret (pe_and (pe_callB call_isi (by rfl) B.isinstance (by decide +kernel) (pa_cons (pv 0) (pa_cons (pe_bltn (v := .ty "int") (by rfl) B.int (by decide +kernel) rfl) pa_nil)))
      (pe_and (pe_not (pe_callB call_isi (by rfl) B.isinstance (by decide +kernel) (pa_cons (pv 0) (pa_cons (pe_bltn (v := .ty "bool") (by rfl) B.bool (by decide +kernel) rfl) pa_nil)))) (pe_one (pe_chain op_le op_le (pv 1) (pv 0) (pv 2)))))), ?_⟩
    refine ⟨_, rfl, _, _, _, _, true, rfl, .ty "int", .base (.int i), kit_ty (by decide +kernel), _, rfl, iteT ?_⟩
    refine ⟨_, rfl, _, _, _, _, false, rfl, .ty "bool", .base (.int i), kit_ty (by decide +kernel), _, rfl, _, rfl, iteT ?_⟩
    refine ⟨_, rfl, _, rfl, _, _, rfl, rfl, _, rfl, ?_⟩
    by_cases c : lo ≤ i
    · rw [decide_eq_true c]
      refine iteT ⟨_, rfl, _, _, rfl, rfl, ?_⟩
      have e : decide (lo ≤ i ∧ i ≤ hi) = decide (i ≤ hi) := by simp [c]
      rw [e] at k
      exact k
    · rw [decide_eq_false c]
      have e : decide (lo ≤ i ∧ i ≤ hi) = false := decide_eq_false fun z => c z.1
      rw [e] at k
      exact iteF k
/-- is_word_of of a text and a tuple of texts -/
def spWord (K : PySem.W.Frag) : Sp := fun vs H Q _ => ∃ (x : Str) (a : Addr) (xs : List V), vs = [.str x, .ref a] ∧ SqT K H a xs ∧ xs.all flatV = true ∧ Q (.bl (inV (.str x) xs)) H
theorem scWord : FnScope ["value", "words"] ["value", "words"] (defScope sWord) := ⟨rfl, rfl, rfl, by decide +kernel, rfl, by decide +kernel, by decide +kernel⟩
theorem ok_word {f : Addr} {fd : FuncData} (F : Fun K "is_word_of" "is_word_of" sWord f fd) (B : Bi mg) : FnOk P w K mg base CX0 1 f fd ["value", "words"] (spWord K) := by
  refine F.ok scWord (fun vs H Q E h => ?_) (fun cdv A outer s H vs Q E hr h => ?_)
  · obtain ⟨x, a, xs, rfl, _⟩ := h
    rfl
  · obtain ⟨x, a, xs, rfl, hS, hf, k⟩ := h
    refine ⟨_, pss_one (ps_ret (pe_and (pe_callB call_isi (by rfl) B.isinstance (by decide +kernel) (pa_cons (pv 0) (pa_cons (pe_bltn (v := .ty "str") (by rfl) B.str (by decide +kernel) rfl) pa_nil)))
      (pe_one (pe_cmpR op_in_seq (pv 0) (pv 1) (by rfl))))), ?_⟩
    refine ⟨_, rfl, _, _, _, _, true, rfl, .ty "str", .base (.str x), kit_ty (by decide +kernel), _, rfl, iteT ?_⟩
    exact ⟨_, rfl, _, rfl, a, xs, rfl, .inr hS, rfl, hf, k⟩
end
end K15
set_option Elab.async false
set_option linter.all false
set_option maxRecDepth 100000
set_option maxHeartbeats 4000000
namespace K15
open PySem L2 UL
abbrev sInit : Stmt := inClass (top 26) 0
abbrev sRead : Stmt := inClass (top 26) 1
abbrev sPW : Stmt := inClass (top 26) 2
abbrev sPE : Stmt := inClass (top 26) 3
abbrev sPF : Stmt := inClass (top 26) 4
abbrev sCut : Stmt := inClass (top 26) 5
abbrev sCov : Stmt := inClass (top 26) 6
abbrev sEq : Stmt := inClass (top 26) 7
abbrev sStr : Stmt := inClass (top 26) 8
abbrev sRepr : Stmt := inClass (top 26) 9
section
variable {P : Program} {w : World} {K : PySem.W.Frag} {mg : Str → Option Value} {base : Heap} {C : Addr}
/-- Fill.__init__ of right parts -/
def spInit (C : Addr) : Sp := fun vs H Q _ => ∃ (p dx : Addr) (t : FT), vs = [.ref p, .str t.w, t.e] ∧ t.ok ∧ H p = some (.ins C dx []) ∧ ∀ H' : Hp, H' p = some (.ins C dx (ff t)) → (∀ b o, H b = some o → b ≠ p → H' b = some o) → Q .non H'
theorem words_in (t : FT) : inV (.str t.w) [.str "free", .str "zeros", .str "sign"] = true := by
  cases t with
  | free => decide +kernel
  | f s n =>
    cases s
    · show inV (.str "zeros") [.str "free", .str "zeros", .str "sign"] = true
      decide +kernel
    · show inV (.str "sign") [.str "free", .str "zeros", .str "sign"] = true
      decide +kernel
theorem scInit : FnScope ["self", "word", "extent"] ["self", "word", "extent"] (defScope sInit) := ⟨rfl, rfl, rfl, by decide +kernel, rfl, by decide +kernel, by decide +kernel⟩
theorem w_free {s : Bool} {n : Int} : decide (V.str (FT.f s n).w = V.str "free") = false := by
  cases s
  · show decide (V.str "zeros" = V.str "free") = false
    decide +kernel
  · show decide (V.str "sign" = V.str "free") = false
    decide +kernel
theorem ok_init {f f2 f3 : Addr} {fd fd2 fd3 : FuncData} (F : FunD K "__init__" "Fill.__init__" (defArgs sInit) (defBody sInit) (defScope sInit) [.str "free", .non] [] f fd) (T : Txt K mg C)
    (G2 : FnOk P w K mg base CX0 2 f2 fd2 ["value", "least", "most"] spBetw) (k2 : PySem.W.keepIn K (.ref f2) = true) (b2 : Binds K fd2 ["value", "least", "most"] []) (g2 : mg "is_between" = some (.ref f2))
    (G3 : FnOk P w K mg base CX0 1 f3 fd3 ["value", "words"] (spWord K)) (k3 : PySem.W.keepIn K (.ref f3) = true) (b3 : Binds K fd3 ["value", "words"] []) (g3 : mg "is_word_of" = some (.ref f3)) :
    FnOk P w K mg base CX0 3 f fd ["self", "word", "extent"] (spInit C) := by
  refine F.ok scInit (fun vs H Q E h => ?_) (fun cdv A outer s H vs Q E hr h => ?_)
  · obtain ⟨p, dx, t, rfl, _⟩ := h
    rfl
  · obtain ⟨p, dx, t, rfl, ht, hp, k⟩ := h
    have hr1 : Room 1 _ := hr.mono (by decide)
    refine ⟨_, pss_cons (ps_if (pt_not (pt_val (pe_call G3 hr1 (by rfl) g3 k3 b3 .nil pass0 (pa_cons (pv 1) (pa_cons (pe_tup (pa_cons (pe_gl (by rfl) T.mgFREE) (pa_cons (pe_gl (by rfl) T.mgZEROS) (pa_cons (pe_gl (by rfl) T.mgSIGN) pa_nil)))) pa_nil))))) (pss_one ps_never) pss_nil)
      (pss_cons (ps_if (PW.pt (pw_and (pt_cmpR op_eq (pv 1) (pe_gl (by rfl) T.mgFREE) (nomark _)) (pw_and1 (pt_cmpR op_notN (pv 2) pe_non (nomark _))))) (pss_one ps_never) pss_nil)
      (pss_cons (ps_if (PW.pt (pw_and (pt_cmpR op_ne (pv 1) (pe_gl (by rfl) T.mgFREE) (nomark _)) (pw_and1 (pt_not (pt_val (pe_call G2 hr (by rfl) g2 k2 b2 .nil pass0 (pa_cons (pv 2) (pa_cons (pe_gl (by rfl) T.mgLE) (pa_cons (pe_gl (by rfl) T.mgMB) pa_nil)))))))))
          (pss_one ps_never) pss_nil)
      (pss_cons (ps_fld (pv 0) (pv 1) rfl) (pss_one (ps_fld (pv 0) (pv 2) rfl))))), ?_⟩
    -- the word is one of three
    refine ⟨_, rfl, (by show 3 ≤ sizeLine; decide), fun q hq => ?_⟩
    have npq : p ≠ q := ne_of_none hp hq
    refine ⟨_, q, _, rfl, SqT.of upd_same, rfl, _, rfl, ?_⟩
    rw [words_in]
    refine iteF ?_
    have fin : ∀ H1 : Hp, (∀ b o, H b = some o → H1 b = some o) → tSeq (sFld K (tVar 0) (tVar 1) "_word") (sFld K (tVar 0) (tVar 2) "_extent") { nx := fun _ H' => Q .non H', rt := Q } (start ["self", "word", "extent"] [.ref p, .str t.w, t.e]) H1 := by
      intro H1 k1
      refine ⟨_, rfl, _, rfl, p, C, dx, _, rfl, k1 _ _ hp, T.isi.cl, T.nW, (by show 0 < 1000; decide), _, rfl, _, rfl, p, C, dx, _, rfl, upd_same, T.isi.cl, T.nE, (by show 1 < 1000; decide), ?_⟩
      refine k _ ?_ fun b o e hb => ?_
      · rw [upd_upd, ff_put]
        exact upd_same
      · rw [upd_upd, upd_ne hb]
        exact k1 _ _ e
    have kq := same_new (o := .tup [.str "free", .str "zeros", .str "sign"]) hq
    cases t with
    | free =>
      refine ⟨_, rfl, rfl, _, rfl, ?_⟩
      refine iteT ⟨_, rfl, rfl, _, rfl, ?_⟩
      refine iteF ⟨_, rfl, rfl, _, rfl, ?_⟩
      refine iteF (iteF ?_)
      exact fin _ kq
    | f s n =>
      obtain ⟨h1, h2⟩ := (show 3 ≤ n ∧ n ≤ 128 from ht)
      refine ⟨_, rfl, rfl, _, rfl, ?_⟩
      rw [w_free]
      refine iteF (iteF ⟨_, rfl, rfl, _, rfl, ?_⟩)
      rw [w_free]
      refine iteT ⟨_, rfl, n, 3, 128, rfl, _, rfl, ?_⟩
      rw [decide_eq_true (show (3 : Int) ≤ n ∧ n ≤ 128 from ⟨h1, h2⟩)]
      refine iteF ?_
      exact fin _ kq
/-- the properties -/
theorem scSelf {st : Stmt} (h : defScope st = defScope sPW) : FnScope ["self"] ["self"] (defScope st) := by
  rw [h]
  exact ⟨rfl, rfl, rfl, by decide +kernel, rfl, by decide +kernel, by decide +kernel⟩
def spGet (C : Addr) (g : FT → V) : Sp := fun vs H Q _ => ∃ (v : V) (t : FT), vs = [v] ∧ FillAt C H v t ∧ Q (g t) H
theorem scPW : FnScope ["self"] ["self"] (defScope sPW) := ⟨rfl, rfl, rfl, by decide +kernel, rfl, by decide +kernel, by decide +kernel⟩
theorem ok_pw {f : Addr} {fd : FuncData} (F : Fun K "word" "Fill.word" sPW f fd) (T : Txt K mg C) : FnOk P w K mg base CX0 1 f fd ["self"] (spGet C fun t => .str t.w) := by
  refine F.ok scPW (fun vs H Q E h => ?_) (fun cdv A outer s H vs Q E hr h => ?_)
  · obtain ⟨v, t, rfl, _⟩ := h
    rfl
  · obtain ⟨v, t, rfl, ⟨a, dx, rfl, ha⟩, k⟩ := h
    refine ⟨_, pss_one (ps_ret (pe_fld (pv 0) rfl)), ?_⟩
    exact ⟨_, rfl, a, C, dx, _, _, rfl, ha, T.isi.cl, T.nW, ff_w t, k⟩
theorem scPE : FnScope ["self"] ["self"] (defScope sPE) := ⟨rfl, rfl, rfl, by decide +kernel, rfl, by decide +kernel, by decide +kernel⟩
theorem ok_pe {f : Addr} {fd : FuncData} (F : Fun K "extent" "Fill.extent" sPE f fd) (T : Txt K mg C) : FnOk P w K mg base CX0 1 f fd ["self"] (spGet C FT.e) := by
  refine F.ok scPE (fun vs H Q E h => ?_) (fun cdv A outer s H vs Q E hr h => ?_)
  · obtain ⟨v, t, rfl, _⟩ := h
    rfl
  · obtain ⟨v, t, rfl, ⟨a, dx, rfl, ha⟩, k⟩ := h
    refine ⟨_, pss_one (ps_ret (pe_fld (pv 0) rfl)), ?_⟩
    exact ⟨_, rfl, a, C, dx, _, _, rfl, ha, T.isi.cl, T.nE, ff_e t, k⟩
theorem scPF : FnScope ["self"] ["self"] (defScope sPF) := ⟨rfl, rfl, rfl, by decide +kernel, rfl, by decide +kernel, by decide +kernel⟩
theorem ok_pf {f : Addr} {fd : FuncData} (F : Fun K "is_free" "Fill.is_free" sPF f fd) (T : Txt K mg C) : FnOk P w K mg base CX0 1 f fd ["self"] (spGet C fun t => .bl (decide (t = .free))) := by
  refine F.ok scPF (fun vs H Q E h => ?_) (fun cdv A outer s H vs Q E hr h => ?_)
  · obtain ⟨v, t, rfl, _⟩ := h
    rfl
  · obtain ⟨v, t, rfl, ⟨a, dx, rfl, ha⟩, k⟩ := h
    refine ⟨_, pss_one (ps_ret (pe_cmpR op_isN (pe_fld (pv 0) rfl) pe_non (nomark _))), ?_⟩
    refine ⟨_, rfl, a, C, dx, _, _, rfl, ha, T.isi.cl, T.nE, ff_e t, rfl, ?_⟩
    cases t with
    | free => exact k
    | f s n => exact k
/-- f == g, f a Fill; g a Fill, or data of another kind -/
def spEqF (K : PySem.W.Frag) (C : Addr) : Sp := fun vs H Q _ => ∃ (v u : V) (t : FT), vs = [v, u] ∧ FillAt C H v t ∧
  ((∃ t' : FT, FillAt C H u t' ∧ Q (.bl (decide (t = t'))) H) ∨ (∃ ty : String, TyX K H u (.type ty) ∧ ty ∈ (["NoneType", "tuple", "str", "int", "list"] : List String) ∧ Q (.bl false) H))
theorem we_eq (t t' : FT) : (decide (V.str t.w = V.str t'.w) && decide (t.e = t'.e)) = decide (t = t') := by
  rcases t with _ | ⟨s, n⟩ <;> rcases t' with _ | ⟨s', n'⟩
  · decide +kernel
  · cases s' <;> rfl
  · cases s <;> rfl
  · have e1 : decide (V.str (FT.f s n).w = V.str (FT.f s' n').w) = decide (s = s') := by
      cases s <;> cases s'
      · show decide (V.str "zeros" = V.str "zeros") = decide (false = false)
        decide +kernel
      · show decide (V.str "zeros" = V.str "sign") = decide (false = true)
        decide +kernel
      · show decide (V.str "sign" = V.str "zeros") = decide (true = false)
        decide +kernel
      · show decide (V.str "sign" = V.str "sign") = decide (true = true)
        decide +kernel
    have e2 : decide ((FT.f s n).e = (FT.f s' n').e) = decide (n = n') := by
      by_cases c : n = n'
      · subst c
        rw [decide_eq_true rfl]
        exact decide_eq_true rfl
      · rw [decide_eq_false c]
        exact decide_eq_false fun z => c (V.int.inj z)
    rw [e1, e2]
    by_cases c1 : s = s' <;> by_cases c2 : n = n' <;> simp [c1, c2]
theorem scal_e (t t' : FT) : scal t.e t'.e = true := by
  rcases t with _ | ⟨s, n⟩ <;> rcases t' with _ | ⟨s', n'⟩ <;> rfl
theorem scEq : FnScope ["self", "other"] ["self", "other"] (defScope sEq) := ⟨rfl, rfl, rfl, by decide +kernel, rfl, by decide +kernel, by decide +kernel⟩
theorem ok_eq {f : Addr} {fd : FuncData} (F : Fun K "__eq__" "Fill.__eq__" sEq f fd) (T : Txt K mg C) : FnOk P w K mg base CX0 1 f fd ["self", "other"] (spEqF K C) := by
  refine F.ok scEq (fun vs H Q E h => ?_) (fun cdv A outer s H vs Q E hr h => ?_)
  · obtain ⟨v, u, t, rfl, _⟩ := h
    rfl
  · obtain ⟨v, u, t, rfl, ⟨a, dx, rfl, ha⟩, h⟩ := h
    refine ⟨_, pss_one (ps_ret (pe_and (pe_callB call_isi (by rfl) T.bi.isinstance (by decide +kernel) (pa_cons (pv 1) (pa_cons (pe_glob (v := .ref C) (by rfl) T.mgF rfl) pa_nil)))
      (pe_and (pe_cmpR op_eq (pe_fld (pv 0) rfl) (pe_fld (pv 1) rfl) (nomark _)) (pe_one (pe_cmpR op_eq (pe_fld (pv 0) rfl) (pe_fld (pv 1) rfl) (nomark _)))))), ?_⟩
    rcases h with ⟨t', ⟨b, dy, rfl, hb⟩, k⟩ | ⟨ty, hty, hm, k⟩
    · refine ⟨_, rfl, _, _, _, _, true, rfl, .own C, T.isi.ty hb, (by simp [PySem.W.kitOne]), _, rfl, iteT ?_⟩
      refine ⟨_, rfl, a, C, dx, _, _, rfl, ha, T.isi.cl, T.nW, ff_w t, _, rfl, b, C, dy, _, _, rfl, hb, T.isi.cl, T.nW, ff_w t', rfl, _, rfl, ?_⟩
      rw [← we_eq] at k
      cases c : decide (V.str t.w = V.str t'.w) with
      | false =>
        rw [c] at k
        exact iteF k
      | true =>
        rw [c] at k
        exact iteT ⟨_, rfl, a, C, dx, _, _, rfl, ha, T.isi.cl, T.nE, ff_e t, _, rfl, b, C, dy, _, _, rfl, hb, T.isi.cl, T.nE, ff_e t', scal_e t t', k⟩
    · exact ⟨_, rfl, _, _, _, _, false, rfl, .own C, hty, (T.kt ty hm).1, _, rfl, iteF k⟩
end
end K15
set_option Elab.async false
set_option linter.all false
set_option maxRecDepth 100000
set_option maxHeartbeats 4000000
namespace K15
open PySem L2 UL
section
variable {P : Program} {w : World} {K : PySem.W.Frag} {mg : Str → Option Value} {base : Heap} {C : Addr}
/-- behind Fill(..): a new Fill, all else as it was -/
theorem made {H1 : Hp} {t : FT} {x0 : Str} {Q : VK} (ht : t.ok) (hx : x0 = t.w) (k : ∀ (v : V) (H' : Hp), L2.Same H1 H' → FillAt C H' v t → Q v H') : ∀ x dx, H1 x = none → H1 dx = none → dx ≠ x →
    spInit C [.ref x, .str x0, t.e] (upd (upd H1 dx (.own x)) x (.ins C dx [])) (fun v H2 => v = .non ∧ Q (.ref x) H2) E0 := fun x dx nx nd ne =>
  ⟨x, dx, t, by rw [hx], ht, upd_same, fun H' h kk => ⟨rfl, k _ _ (Same.made nx nd kk) ⟨x, dx, rfl, h⟩⟩⟩
/-- the same, one step before -/
theorem made1 {H1 : Hp} {t : FT} {x0 : Str} {R : VK} {x dx : Addr} (nx : H1 x = none) (nd : H1 dx = none) (ht : t.ok) (hx : x0 = t.w) (k : ∀ H' : Hp, L2.Same H1 H' → FillAt C H' (.ref x) t → R .non H') :
    spInit C [.ref x, .str x0, t.e] (upd (upd H1 dx (.own x)) x (.ins C dx [])) R E0 :=
  ⟨x, dx, t, by rw [hx], ht, upd_same, fun H' h kk => k _ (Same.made nx nd kk) ⟨x, dx, rfl, h⟩⟩
/-- f.cut(width, bits) -/
def spCutF (C : Addr) : Sp := fun vs H Q _ => ∃ (v : V) (t : FT) (wi b : Int), vs = [v, .int wi, .int b] ∧ FillAt C H v t ∧ t.ok ∧ 2 ≤ wi ∧ wi ≤ 128 ∧ wi ≤ b ∧ b ≤ 128 ∧
  ∀ (u : V) (H' : Hp), L2.Same H H' → FillAt C H' u (cutF t wi b) → Q u H'
theorem scCutF : FnScope ["self", "width", "bits", "extent"] ["self", "width", "bits"] (defScope sCut) := ⟨rfl, rfl, rfl, by decide +kernel, rfl, by decide +kernel, by decide +kernel⟩
theorem ok_cutF {f : Addr} {fd : FuncData} (F : Fun K "cut" "Fill.cut" sCut f fd) (T : Txt K mg C) (cb : Cal P w K mg base 2 "is_between" spBetw) (c0 : Mak P w K mg base 3 "Fill" C [.str "free", .non] (spInit C)) (c2 : Mak P w K mg base 3 "Fill" C [] (spInit C)) :
    FnOk P w K mg base CX0 5 f fd ["self", "width", "bits"] (spCutF C) := by
  refine F.ok scCutF (fun vs H Q E h => ?_) (fun cdv A outer s H vs Q E hr h => ?_)
  · obtain ⟨v, t, wi, b, rfl, _⟩ := h
    rfl
  · obtain ⟨v, t, wi, b, rfl, ⟨a, dx, rfl, ha⟩, ht, hw0, hw1, hb0, hb1, k⟩ := h
    refine ⟨_, pss_cons (ps_if (pt_not (pt_val (pe_c cb hr (by decide) (by rfl) (pa_cons (pv 1) (pa_cons (pe_gl (by rfl) T.mgLW) (pa_cons (pe_gl (by rfl) T.mgMB) pa_nil)))))) (pss_one ps_never) pss_nil)
      (pss_cons (ps_if (pt_not (pt_val (pe_c cb hr (by decide) (by rfl) (pa_cons (pv 2) (pa_cons (pv 1) (pa_cons (pe_gl (by rfl) T.mgMB) pa_nil)))))) (pss_one ps_never) pss_nil)
      (pss_cons (ps_if (pt_cmpR op_isN (pe_fld (pv 0) rfl) pe_non (nomark _)) (pss_one (ps_ret (pv 0))) pss_nil)
      (pss_cons (ps_set (i := 3) scCutF.nd rfl (.inl rfl) (pe_ifExp (pt_cmpR op_lt (pe_fld (pv 0) rfl) (pv 2) (nomark _)) (pe_fld (pv 0) rfl) (pv 2)))
      (pss_cons (ps_if (pt_cmpR op_le (pv 3) (pv 1) (nomark _)) (pss_one (ps_ret (pe_n0 c0 hr (by decide) (by rfl)))) pss_nil)
      (pss_one (ps_ret (pe_n c2 hr (by decide) (by rfl) (pa_cons (pe_fld (pv 0) rfl) (pa_cons (pv 3) pa_nil))))))))), ?_⟩
    refine ⟨_, rfl, wi, 2, 128, rfl, _, rfl, ?_⟩
    rw [decide_eq_true (show (2 : Int) ≤ wi ∧ wi ≤ 128 from ⟨hw0, hw1⟩)]
    refine iteF ⟨_, rfl, _, rfl, b, wi, 128, rfl, _, rfl, ?_⟩
    rw [decide_eq_true (show wi ≤ b ∧ b ≤ 128 from ⟨hb0, hb1⟩)]
    refine iteF ⟨_, rfl, a, C, dx, _, _, rfl, ha, T.isi.cl, T.nE, ff_e t, rfl, _, rfl, ?_⟩
    cases t with
    | free => exact iteT ⟨_, rfl, k _ _ (Same.refl H) ⟨a, dx, rfl, ha⟩⟩
    | f s n =>
      refine iteF ⟨_, rfl, a, C, dx, _, _, rfl, ha, T.isi.cl, T.nE, ff_e _, _, rfl, n, b, rfl, rfl, _, rfl, ?_⟩
      have key : ∀ m : Int, m = (if n < b then n else b) → tSeq (tIfS (tTest (tOp (rI0 fun i j => .bl (decide (i ≤ j))) (tVar 3) (tVar 1))) (tRet (tMake C (spInit C) [.str "free", .non] E0 tNil)) tNext)
          (tRet (tMake C (spInit C) [] E0 (tCons (tFld K (tVar 0) "_word") (tCons (tVar 3) tNil)))) { nx := fun _ H' => Q .non H', rt := Q } [some (.ref a), some (.int wi), some (.int b), some (.int m)] H := by
        intro m em
        refine ⟨_, rfl, _, rfl, m, wi, rfl, rfl, _, rfl, ?_⟩
        by_cases c : m ≤ wi
        · rw [decide_eq_true c]
          refine iteT (made (t := .free) True.intro rfl fun v H' s' h' => k v H' s' ?_)
          have e : cutF (.f s n) wi b = .free := by
            show (if (if n < b then n else b) ≤ wi then FT.free else _) = _
            rw [← em, if_pos c]
          rw [e]
          exact h'
        · rw [decide_eq_false c]
          have e : cutF (.f s n) wi b = .f s m := by
            show (if (if n < b then n else b) ≤ wi then FT.free else FT.f s (if n < b then n else b)) = _
            rw [← em, if_neg c]
          have ok2 := cutF_ok ht hw0 hb1 (w := wi)
          rw [e] at ok2
          refine iteF ⟨_, rfl, a, C, dx, _, _, rfl, ha, T.isi.cl, T.nW, ff_w _, _, rfl, ?_⟩
          refine made (t := .f s m) ok2 (by cases s <;> rfl) fun v H' s' h' => k v H' s' ?_
          rw [e]
          exact h'
      by_cases c : n < b
      · rw [decide_eq_true c]
        exact iteT ⟨_, rfl, a, C, dx, _, _, rfl, ha, T.isi.cl, T.nE, ff_e _, key n (if_pos c).symm⟩
      · rw [decide_eq_false c]
        exact iteF ⟨_, rfl, key b (if_neg c).symm⟩
/-- f.covers(g) -/
def spCovF (C : Addr) : Sp := fun vs H Q _ => ∃ (v u : V) (t t' : FT), vs = [v, u] ∧ FillAt C H v t ∧ FillAt C H u t' ∧ Q (.bl (covF t t')) H
theorem scCovF : FnScope ["self", "other"] ["self", "other"] (defScope sCov) := ⟨rfl, rfl, rfl, by decide +kernel, rfl, by decide +kernel, by decide +kernel⟩
def sameW : FT → Bool → Bool
  | .free, _ => false
  | .f s' _, s => decide (s' = s)
theorem w_eq {t : FT} {s : Bool} {n : Int} : decide (V.str t.w = V.str (FT.f s n).w) = sameW t s := by
  cases t with
  | free =>
    cases s
    · show decide (V.str "free" = V.str "zeros") = false
      decide +kernel
    · show decide (V.str "free" = V.str "sign") = false
      decide +kernel
  | f s' m =>
    cases s <;> cases s'
    · show decide (V.str "zeros" = V.str "zeros") = decide (false = false)
      decide +kernel
    · show decide (V.str "sign" = V.str "zeros") = decide (true = false)
      decide +kernel
    · show decide (V.str "zeros" = V.str "sign") = decide (false = true)
      decide +kernel
    · show decide (V.str "sign" = V.str "sign") = decide (true = true)
      decide +kernel
theorem ok_covF {f : Addr} {fd : FuncData} (F : Fun K "covers" "Fill.covers" sCov f fd) (T : Txt K mg C) (cF : CalP P w K mg base 1 C "is_free" (spGet C fun t => .bl (decide (t = .free)))) (cW : CalP P w K mg base 1 C "word" (spGet C fun t => .str t.w))
    (cE : CalP P w K mg base 1 C "extent" (spGet C FT.e)) : FnOk P w K mg base CX0 3 f fd ["self", "other"] (spCovF C) := by
  refine F.ok scCovF (fun vs H Q E h => ?_) (fun cdv A outer s H vs Q E hr h => ?_)
  · obtain ⟨v, u, t, t', rfl, _⟩ := h
    rfl
  · obtain ⟨v, u, t, t', rfl, ⟨a, dx, rfl, ha⟩, ⟨b, dy, rfl, hb⟩, k⟩ := h
    refine ⟨_, pss_cons (ps_if (pt_not (pt_val (pe_callB call_isi (by rfl) T.bi.isinstance (by decide +kernel) (pa_cons (pv 1) (pa_cons (pe_glob (v := .ref C) (by rfl) T.mgF rfl) pa_nil))))) (pss_one ps_never) pss_nil)
      (pss_cons (ps_if (pt_val (pe_p (pv 1) cF hr (by decide) (by rfl))) (pss_one (ps_ret pe_bl)) pss_nil)
      (pss_one (ps_ret (pe_and (pe_cmpR op_eq (pe_fld (pv 0) rfl) (pe_p (pv 1) cW hr (by decide) (by rfl)) (nomark _)) (pe_one (pe_cmpR op_ge (pe_fld (pv 0) rfl) (pe_p (pv 1) cE hr (by decide) (by rfl)) (nomark _))))))), ?_⟩
    refine ⟨_, rfl, _, _, _, _, true, rfl, .own C, T.isi.ty hb, (by simp [PySem.W.kitOne]), _, rfl, ?_⟩
    refine iteF ⟨_, rfl, b, dy, _, rfl, hb, _, t', rfl, ⟨b, dy, rfl, hb⟩, _, rfl, ?_⟩
    cases t' with
    | free =>
      refine iteT ?_
      have e : covF t .free = true := by cases t <;> rfl
      rw [e] at k
      exact k
    | f s' n' =>
      refine iteF ⟨_, rfl, a, C, dx, _, _, rfl, ha, T.isi.cl, T.nW, ff_w _, _, rfl, b, dy, _, rfl, hb, _, _, rfl, ⟨b, dy, rfl, hb⟩, rfl, _, rfl, ?_⟩
      rw [w_eq]
      cases t with
      | free => exact iteF k
      | f s n =>
        by_cases c : s = s'
        · have e : covF (.f s n) (.f s' n') = decide (n' ≤ n) := by
            show (decide (s = s') && decide (n' ≤ n)) = _
            rw [decide_eq_true c, Bool.true_and]
          rw [e] at k
          rw [show sameW (.f s n) s' = true from decide_eq_true c]
          exact iteT ⟨_, rfl, a, C, dx, _, _, rfl, ha, T.isi.cl, T.nE, ff_e _, _, rfl, b, dy, _, rfl, hb, _, _, rfl, ⟨b, dy, rfl, hb⟩, n, n', rfl, rfl, k⟩
        · have e : covF (.f s n) (.f s' n') = false := by
            show (decide (s = s') && decide (n' ≤ n)) = _
            rw [decide_eq_false c, Bool.false_and]
          rw [e] at k
          rw [show sameW (.f s n) s' = false from decide_eq_false c]
          exact iteF k
end
end K15
set_option Elab.async false
set_option linter.all false
set_option maxRecDepth 100000
set_option maxHeartbeats 4000000
namespace K15
open PySem L2 UL
/-! ### numbers from 3 to 128 as texts, found by the kernel one by one -/
theorem num_of {n : Int} (h : 3 ≤ n ∧ n ≤ 128) : ∃ m : _root_.Fin 129, n = ((m.val : Nat) : Int) := ⟨⟨n.toNat, by omega⟩, by show n = ((n.toNat : Nat) : Int); omega⟩
theorem num_len' : ∀ m : _root_.Fin 129, (toString ((m.val : Nat) : Int) : Str).length ≤ 3 := by decide +kernel
theorem num_len {n : Int} (h : 3 ≤ n ∧ n ≤ 128) : (toString n : Str).length ≤ 3 := by
  obtain ⟨m, rfl⟩ := num_of h
  exact num_len' m
theorem num_int' : ∀ m : _root_.Fin 129, intText? (toString ((m.val : Nat) : Int) : Str) = some ((m.val : Nat) : Int) := by decide +kernel
theorem num_int {n : Int} (h : 3 ≤ n ∧ n ≤ 128) : intText? (toString n : Str) = some n := by
  obtain ⟨m, rfl⟩ := num_of h
  exact num_int' m
def wOf (s : Bool) : Str := if s then "sign" else "zeros"
theorem w_of (s : Bool) (n : Int) : (FT.f s n).w = wOf s := by cases s <;> rfl
theorem str_f (s : Bool) (n : Int) : strF (.f s n) = wOf s ++ " " ++ toString n := by
  cases s
  · show ("zeros " : Str) ++ toString n = ("zeros" : Str) ++ (" " : Str) ++ toString n
    have e : (("zeros" : Str) ++ (" " : Str)) = ("zeros " : Str) := by decide +kernel
    rw [e]
  · show ("sign " : Str) ++ toString n = ("sign" : Str) ++ (" " : Str) ++ toString n
    have e : (("sign" : Str) ++ (" " : Str)) = ("sign " : Str) := by decide +kernel
    rw [e]
theorem part_f' : ∀ (s : Bool) (m : _root_.Fin 129), Txt.partition (wOf s ++ " " ++ (toString ((m.val : Nat) : Int) : Str)) " " = (wOf s, (" " : Str), (toString ((m.val : Nat) : Int) : Str)) := by decide +kernel
theorem part_f {s : Bool} {n : Int} (h : 3 ≤ n ∧ n ≤ 128) : Txt.partition (strF (.f s n)) " " = (wOf s, (" " : Str), (toString n : Str)) := by
  rw [str_f]
  obtain ⟨m, rfl⟩ := num_of h
  exact part_f' s m
theorem str_ne' : ∀ (s : Bool) (m : _root_.Fin 129), decide (V.str (wOf s ++ " " ++ (toString ((m.val : Nat) : Int) : Str)) = V.str "free") = false := by decide +kernel
theorem str_ne {s : Bool} {n : Int} (h : 3 ≤ n ∧ n ≤ 128) : decide (V.str (strF (.f s n)) = V.str "free") = false := by
  rw [str_f]
  obtain ⟨m, rfl⟩ := num_of h
  exact str_ne' s m
theorem wOf_len (s : Bool) : (wOf s).length ≤ 5 := by cases s <;> decide +kernel
theorem str_len {t : FT} (h : t.ok) : (strF t).length ≤ 12 := by
  cases t with
  | free =>
    show (("free" : Str)).length ≤ 12
    decide +kernel
  | f s n =>
    rw [str_f, Str.length_append, Str.length_append]
    have h1 := wOf_len s
    have h2 := num_len (show 3 ≤ n ∧ n ≤ 128 from h)
    have h3 : ((" " : Str)).length = 1 := by decide +kernel
    omega
def reprF : FT → Str
  | .free => "Fill('free')"
  | .f s n => ("Fill('" : Str) ++ (wOf s ++ (("', " : Str) ++ (toString n ++ (")" : Str))))
section
variable {P : Program} {w : World} {K : PySem.W.Frag} {mg : Str → Option Value} {base : Heap} {C : Addr}
def spShow (C : Addr) (g : FT → Str) : Sp := fun vs H Q _ => ∃ (v : V) (t : FT), vs = [v] ∧ FillAt C H v t ∧ t.ok ∧ Q (.str (g t)) H
theorem scStr : FnScope ["self"] ["self"] (defScope sStr) := ⟨rfl, rfl, rfl, by decide +kernel, rfl, by decide +kernel, by decide +kernel⟩
theorem ok_str {f : Addr} {fd : FuncData} (F : Fun K "__str__" "Fill.__str__" sStr f fd) (T : Txt K mg C) : FnOk P w K mg base CX0 1 f fd ["self"] (spShow C strF) := by
  refine F.ok scStr (fun vs H Q E h => ?_) (fun cdv A outer s H vs Q E hr h => ?_)
  · obtain ⟨v, t, rfl, _⟩ := h
    rfl
  · obtain ⟨v, t, rfl, ⟨a, dx, rfl, ha⟩, ht, k⟩ := h
    refine ⟨_, pss_cons (ps_if (pt_cmpR op_isN (pe_fld (pv 0) rfl) pe_non (nomark _)) (pss_one (ps_ret pe_str)) pss_nil)
      (pss_one (ps_ret (pe_joined (.cons (pe_fmt (pe_fld (pv 0) rfl)) (.cons pe_str (.cons (pe_fmt (pe_fld (pv 0) rfl)) .nil)))))), ?_⟩
    refine ⟨_, rfl, a, C, dx, _, _, rfl, ha, T.isi.cl, T.nE, ff_e t, rfl, _, rfl, ?_⟩
    cases t with
    | free => exact iteT k
    | f s n =>
      have hn := (show 3 ≤ n ∧ n ≤ 128 from ht)
      have h2 := num_len hn
      have h1 := wOf_len s
      have h3 : ((" " : Str)).length = 1 := by decide +kernel
      have e : ((Str.empty ++ (FT.f s n).w) ++ (" " : Str)) ++ toString n = strF (.f s n) := by rw [str_f, w_of, Str.empty_append]
      rw [← e, w_of] at k
      refine iteF ⟨_, rfl, a, C, dx, _, _, rfl, ha, T.isi.cl, T.nW, ff_w _, .inl ⟨_, rfl, ?_, _, rfl, ?_, _, rfl, ?_, _, rfl, a, C, dx, _, _, rfl, ha, T.isi.cl, T.nE, ff_e _, .inr ⟨n, rfl, log_small (by omega), _, rfl, ?_, ?_⟩⟩⟩
      · rw [w_of]
        exact line_ge (by omega)
      · rw [w_of, Str.empty_append]
        exact line_ge (by omega)
      · rw [w_of, Str.empty_append, Str.length_append]
        exact line_ge (by omega)
      · rw [w_of, Str.empty_append, Str.length_append, Str.length_append]
        exact line_ge (by omega)
      · rw [w_of]
        exact k
theorem repr_w (s : Bool) : reprText (wOf s) = ("'" : Str) ++ wOf s ++ ("'" : Str) := by cases s <;> decide +kernel
theorem scRepr : FnScope ["self"] ["self"] (defScope sRepr) := ⟨rfl, rfl, rfl, by decide +kernel, rfl, by decide +kernel, by decide +kernel⟩
theorem ok_repr {f : Addr} {fd : FuncData} (F : Fun K "__repr__" "Fill.__repr__" sRepr f fd) (T : Txt K mg C) : FnOk P w K mg base CX0 1 f fd ["self"] (spShow C reprF) := by
  refine F.ok scRepr (fun vs H Q E h => ?_) (fun cdv A outer s H vs Q E hr h => ?_)
  · obtain ⟨v, t, rfl, _⟩ := h
    rfl
  · obtain ⟨v, t, rfl, ⟨a, dx, rfl, ha⟩, ht, k⟩ := h
    refine ⟨_, pss_cons (ps_if (pt_cmpR op_isN (pe_fld (pv 0) rfl) pe_non (nomark _)) (pss_one (ps_ret (pe_joined (.cons pe_str (.cons (pe_fmtR (pe_fld (pv 0) rfl)) (.cons pe_str .nil)))))) pss_nil)
      (pss_one (ps_ret (pe_joined (.cons pe_str (.cons (pe_fmtR (pe_fld (pv 0) rfl)) (.cons pe_str (.cons (pe_fmt (pe_fld (pv 0) rfl)) (.cons pe_str .nil)))))))), ?_⟩
    refine ⟨_, rfl, a, C, dx, _, _, rfl, ha, T.isi.cl, T.nE, ff_e t, rfl, _, rfl, ?_⟩
    cases t with
    | free =>
      refine iteT ⟨_, rfl, ?_, _, rfl, a, C, dx, _, _, rfl, ha, T.isi.cl, T.nW, ff_w _, .inl ⟨_, rfl, ?_, _, rfl, ?_, _, rfl, ?_, ?_⟩⟩
      · exact line_ge (by decide +kernel)
      · exact line_ge (by decide +kernel)
      · exact line_ge (by decide +kernel)
      · exact line_ge (by decide +kernel)
      · have e : ((Str.empty ++ ("Fill(" : Str)) ++ reprText (FT.free).w) ++ (")" : Str) = reprF .free := by decide +kernel
        rw [← e] at k
        exact k
    | f s n =>
      have hn := (show 3 ≤ n ∧ n ≤ 128 from ht)
      have h2 := num_len hn
      have h1 := wOf_len s
      have h3 : (("'" : Str)).length = 1 := by decide +kernel
      have h4 : (("Fill(" : Str)).length = 5 := by decide +kernel
      have h5 : ((", " : Str)).length = 2 := by decide +kernel
      have h6 : ((")" : Str)).length = 1 := by decide +kernel
      have h7 : (reprText (wOf s)).length ≤ 7 := by
        rw [repr_w, Str.length_append, Str.length_append]
        omega
      have e1 : ("Fill('" : Str) = ("Fill(" : Str) ++ ("'" : Str) := by decide +kernel
      have e2 : ("', " : Str) = ("'" : Str) ++ (", " : Str) := by decide +kernel
      have e : ((((Str.empty ++ ("Fill(" : Str)) ++ reprText (wOf s)) ++ (", " : Str)) ++ toString n) ++ (")" : Str) = reprF (.f s n) := by
        show _ = ("Fill('" : Str) ++ (wOf s ++ (("', " : Str) ++ (toString n ++ (")" : Str))))
        rw [repr_w, e1, e2, Str.empty_append]
        simp only [Str.append_assoc]
      rw [← e] at k
      refine iteF ⟨_, rfl, ?_, _, rfl, a, C, dx, _, _, rfl, ha, T.isi.cl, T.nW, ff_w _, .inl ⟨_, rfl, ?_, _, rfl, ?_, _, rfl, ?_, _, rfl, a, C, dx, _, _, rfl, ha, T.isi.cl, T.nE, ff_e _, .inr ⟨n, rfl, log_small (by omega), _, rfl, ?_, _, rfl, ?_, ?_⟩⟩⟩
      · rw [Str.empty_append]
        exact line_ge (by omega)
      · rw [w_of]
        exact line_ge (by omega)
      · rw [w_of, Str.empty_append, Str.length_append]
        exact line_ge (by omega)
      · rw [w_of, Str.empty_append, Str.length_append, Str.length_append]
        exact line_ge (by omega)
      · rw [w_of, Str.empty_append, Str.length_append, Str.length_append, Str.length_append]
        exact line_ge (by omega)
      · rw [w_of, Str.empty_append, Str.length_append, Str.length_append, Str.length_append, Str.length_append]
        exact line_ge (by omega)
      · rw [w_of]
        exact k
end
end K15
set_option Elab.async false
set_option linter.all false
set_option maxRecDepth 100000
set_option maxHeartbeats 4000000
namespace UL
open PySem L2
theorem Stay.seq {K : PySem.W.Frag} {p l : Addr} {H H' : Hp} {xs : List V} (s : Stay p H H') (n : l ≠ p) (h : SqL K H l xs) : SqL K H' l xs := by
  rcases h with (h | ⟨o, h⟩) | h
  · exact .inl (.inl (s _ _ n h))
  · exact .inl (.inr ⟨o, s _ _ n h⟩)
  · exact .inr h
theorem Stay.tup {p l : Addr} {H H' : Hp} {xs : List V} (s : Stay p H H') (hp : Pot H p) (h : H l = some (.tup xs)) : H' l = some (.tup xs) := by
  obtain ⟨a, b, e, _⟩ := hp
  exact s _ _ (ne_of h e (by intro z; cases z)) h
/-- _law_pick(pot, some): one of them -/
def spPick1 (K : PySem.W.Frag) : Sp := fun vs H Q _ => ∃ (p l : Addr) (xs : List V), vs = [.ref p, .ref l] ∧ Pot H p ∧ l ≠ p ∧ SqL K H l xs ∧ 0 < xs.length ∧ xs.length < 1073741824 ∧
  ∀ (i : Nat) (v : V) (H' : Hp), xs[i]? = some v → Pot H' p → Stay p H H' → Q v H'
/-- _law_pot(script, k): a new pot -/
def spPot (K : PySem.W.Frag) : Sp := fun vs H Q _ => ∃ (a : Addr) (ns : List Int) (k : Int), vs = [.ref a, .int k] ∧ SqL K H a (ns.map V.int) ∧ 0 ≤ k ∧ k ≤ 100 ∧
  ∀ (p : Addr) (H' : Hp), H p = none → Pot H' p → L2.Same H H' → Q (.ref p) H'
end UL
namespace K15
open PySem L2 UL
section
variable {P : Program} {w : World} {K : PySem.W.Frag} {mg : Str → Option Value} {base : Heap} {C : Addr}
theorem scPick : FnScope ["_law_pot_here", "_law_some"] ["_law_pot_here", "_law_some"] (defScope sPick) := ⟨rfl, rfl, rfl, by decide +kernel, rfl, by decide +kernel, by decide +kernel⟩
theorem ok_pick {f : Addr} {fd : FuncData} (F : Fun K "_law_pick" "_law_pick" sPick f fd) (B : Bi mg) (cd : Cal P w K mg base 1 "_law_draw" spDraw) : FnOk P w K mg base CX0 2 f fd ["_law_pot_here", "_law_some"] (spPick1 K) := by
  refine F.ok scPick (fun vs H Q E h => ?_) (fun cdv A outer s H vs Q E hr h => ?_)
  · obtain ⟨p, l, xs, rfl, _⟩ := h
    rfl
  · obtain ⟨p, l, xs, rfl, hp, hne, hS, h0, h1, k⟩ := h
    refine ⟨_, pss_one (ps_ret (pe_ix ix_list (pv 1) (pe_c cd hr (by decide) (by rfl) (pa_cons (pv 0) (pa_cons (pe_callB call_len_seq (by rfl) B.len PySem.boot_len (pa_cons (pv 1) pa_nil)) pa_nil))) (fun _ _ => rfl))), ?_⟩
    refine ⟨_, rfl, _, rfl, _, rfl, l, xs, rfl, .inl hS, p, (xs.length : Int), rfl, hp, by omega, by omega, fun d H' d0 d1 hp' st => ?_⟩
    obtain ⟨j, rfl⟩ : ∃ j : Nat, d = (j : Int) := ⟨d.toNat, by omega⟩
    have hj : j < xs.length := by omega
    exact ⟨l, xs, _, xs[j], rfl, rfl, st.seq hne hS, atI_nat (List.getElem?_eq_getElem hj), k j _ H' (List.getElem?_eq_getElem hj) hp' st⟩
theorem scPot : FnScope ["_law_script", "_law_k", "_law_cell"] ["_law_script", "_law_k"] (defScope sPot) := ⟨rfl, rfl, rfl, by decide +kernel, rfl, by decide +kernel, by decide +kernel⟩
theorem pot_b (z k : Int) : 0 ≤ (z % 2147483549 + 7) * (2 * k + 3) ^ 3 % 2147483477 + 1 ∧ (z % 2147483549 + 7) * (2 * k + 3) ^ 3 % 2147483477 + 1 < 4294967296 := by
  have h1 := Int.emod_nonneg ((z % 2147483549 + 7) * (2 * k + 3) ^ 3) (show (2147483477 : Int) ≠ 0 by decide)
  have h2 := Int.emod_lt_of_pos ((z % 2147483549 + 7) * (2 * k + 3) ^ 3) (show (0 : Int) < 2147483477 by decide)
  omega
theorem ok_pot {f : Addr} {fd : FuncData} (F : Fun K "_law_pot" "_law_pot" sPot f fd) (B : Bi mg) : FnOk P w K mg base CX0 1 f fd ["_law_script", "_law_k"] (spPot K) := by
  refine F.ok scPot (fun vs H Q E h => ?_) (fun cdv A outer s H vs Q E hr h => ?_)
  · obtain ⟨a, ns, k, rfl, _⟩ := h
    rfl
  · obtain ⟨a, ns, i, rfl, hS, i0, i1, k⟩ := h
    refine ⟨_, pss_cons (ps_set (i := 2) scPot.nd rfl (.inl rfl) (pe_op op_add (pe_op op_mul pe_int (pv 1)) pe_int))
      (pss_cons (ps_if (pt_cmpR op_lt (pv 1) (pe_callB call_len_seq (by rfl) B.len PySem.boot_len (pa_cons (pv 0) pa_nil)) (nomark _))
        (pss_one (ps_set (i := 2) scPot.nd rfl (.inl rfl) (pe_callB call_abs (by rfl) B.abs (by decide +kernel) (pa_cons (pe_ix ix_list (pv 0) (pv 1) (fun _ _ => rfl)) pa_nil)))) pss_nil)
      (pss_one (ps_ret (pe_lst (pa_cons (pe_callB (call_max2 rfl) (by rfl) B.max (by decide +kernel) (pa_cons pe_int (pa_cons (pe_op op_sub (pv 2) (pe_op op_pow pe_int pe_int)) pa_nil)))
        (pa_cons (pe_op op_add (pe_op op_mod (pe_op op_mul (pe_callTy call_int1 (by rfl) B.int (by decide +kernel) (pa_cons (pe_op op_add (pe_op op_mod (pe_callTy call_int1 (by rfl) B.int (by decide +kernel) (pa_cons (pv 2) pa_nil)) pe_int) pe_int) pa_nil))
          (pe_op op_pow (pe_op op_add (pe_op op_mul pe_int (pv 1)) pe_int) pe_int)) pe_int) pe_int) pa_nil)))))), ?_⟩
    refine ⟨_, rfl, _, _, rfl, rfl, .inl ⟨by decide, by decide⟩, _, _, rfl, rfl, ?_⟩
    refine ⟨_, rfl, _, rfl, a, _, rfl, .inl hS, _, _, rfl, rfl, _, rfl, ?_⟩
    have m1 : ∀ z : Int, -(2 ^ 64) < z % 2147483549 + 7 ∧ z % 2147483549 + 7 < 2 ^ 64 := fun z => by
      have h1 := Int.emod_nonneg z (show (2147483549 : Int) ≠ 0 by decide)
      have h2 := Int.emod_lt_of_pos z (show (0 : Int) < 2147483549 by decide)
      omega
    by_cases c : i < ((ns.map V.int).length : Int)
    · rw [decide_eq_true c]
      rw [List.length_map] at c
      obtain ⟨j, rfl⟩ : ∃ j : Nat, i = (j : Int) := ⟨i.toNat, by omega⟩
      have hj : j < ns.length := by omega
      refine iteT ⟨_, rfl, _, rfl, a, _, _, V.int ns[j], rfl, rfl, hS, atI_nat (by rw [List.getElem?_map, List.getElem?_eq_getElem hj]; rfl), _, rfl, ?_⟩
      generalize (if ns[j] < 0 then -ns[j] else ns[j]) = z
      refine ⟨_, rfl, _, _, rfl, rfl, ⟨by decide, by decide, by decide⟩, _, _, rfl, rfl, 0, _, rfl, ?_⟩
      refine ⟨_, rfl, .inl ⟨z, rfl, _, _, rfl, rfl, (by show (0 : Int) < 2147483549; decide), _, _, rfl, rfl, .inl ⟨_, rfl, _, rfl, _, _, rfl, rfl, .inl ⟨by decide, by decide⟩, _, _, rfl, rfl, _, _, rfl, rfl, ⟨by decide, by decide, by omega⟩, _, _, rfl, rfl,
        .inl (m1 z), _, _, rfl, rfl, (by show (0 : Int) < 2147483477; decide), _, _, rfl, rfl, (by show 2 ≤ sizeLine; decide), fun q hq => ?_⟩⟩⟩
      exact k q _ hq ⟨_, _, upd_same, pot_b z _⟩ (same_new hq)
    · rw [decide_eq_false c]
      refine iteF ?_
      refine ⟨_, rfl, _, _, rfl, rfl, ⟨by decide, by decide, by decide⟩, _, _, rfl, rfl, 0, _, rfl, ?_⟩
      refine ⟨_, rfl, .inl ⟨29 * i + 8, rfl, _, _, rfl, rfl, (by show (0 : Int) < 2147483549; decide), _, _, rfl, rfl, .inl ⟨_, rfl, _, rfl, _, _, rfl, rfl, .inl ⟨by decide, by decide⟩, _, _, rfl, rfl, _, _, rfl, rfl, ⟨by decide, by decide, by omega⟩, _, _, rfl, rfl,
        .inl (m1 _), _, _, rfl, rfl, (by show (0 : Int) < 2147483477; decide), _, _, rfl, rfl, (by show 2 ≤ sizeLine; decide), fun q hq => ?_⟩⟩⟩
      exact k q _ hq ⟨_, _, upd_same, pot_b _ _⟩ (same_new hq)
end
end K15
set_option Elab.async false
set_option linter.all false
set_option maxRecDepth 100000
set_option maxHeartbeats 4000000
namespace K15
open PySem L2 UL
abbrev sWInit : Stmt := inClass (top 27) 0
abbrev sWFills : Stmt := inClass (top 27) 1
abbrev sWCall : Stmt := inClass (top 27) 4
abbrev sWAdd : Stmt := inClass (top 27) 5
abbrev sWLen : Stmt := inClass (top 27) 6
abbrev sWEq : Stmt := inClass (top 27) 7
abbrev sWRepr : Stmt := inClass (top 27) 8
/-- a fill that is not free: its word, its extent -/
abbrev RT := Bool × Int
def RT.ok (t : RT) : Prop := 3 ≤ t.2 ∧ t.2 ≤ 128
def RT.ft (t : RT) : FT := .f t.1 t.2
theorem RT.ok.ft {t : RT} (h : t.ok) : t.ft.ok := h
def FillsAt (C : Addr) (H : Hp) (as : List Addr) (ts : List RT) : Prop := as.length = ts.length ∧ ∀ (i : Nat) a t, as[i]? = some a → ts[i]? = some t → FillAt C H (.ref a) (RT.ft t)
theorem FillsAt.same {C : Addr} {H H' : Hp} {as : List Addr} {ts : List RT} (h : FillsAt C H as ts) (s : L2.Same H H') : FillsAt C H' as ts := ⟨h.1, fun i a t e1 e2 => (h.2 i a t e1 e2).same s⟩
theorem FillsAt.nil {C : Addr} {H : Hp} : FillsAt C H [] [] := ⟨rfl, fun i a t e _ => by simp at e⟩
theorem FillsAt.app {C : Addr} {H : Hp} {as bs : List Addr} {ts us : List RT} (h : FillsAt C H as ts) (g : FillsAt C H bs us) : FillsAt C H (as ++ bs) (ts ++ us) := by
  refine ⟨by rw [List.length_append, List.length_append, h.1, g.1], fun i a t e1 e2 => ?_⟩
  by_cases c : i < as.length
  · rw [List.getElem?_append_left c] at e1
    rw [List.getElem?_append_left (by rw [← h.1]; exact c)] at e2
    exact h.2 i a t e1 e2
  · rw [List.getElem?_append_right (by omega)] at e1
    rw [List.getElem?_append_right (by rw [← h.1]; omega)] at e2
    rw [← h.1] at e2
    exact g.2 _ a t e1 e2
theorem FillsAt.one {C : Addr} {H : Hp} {a : Addr} {t : RT} (h : FillAt C H (.ref a) (RT.ft t)) : FillsAt C H [a] [t] := by
  refine ⟨rfl, fun i b u e1 e2 => ?_⟩
  cases i with
  | zero =>
    cases Option.some.inj e1
    cases Option.some.inj e2
    exact h
  | succ i => simp at e1
/-- what stays but for the pot -/
theorem FillsAt.stay {C p : Addr} {H H' : Hp} {as : List Addr} {ts : List RT} (h : FillsAt C H as ts) (hp : Pot H p) (s : Stay p H H') : FillsAt C H' as ts := ⟨h.1, fun i a t e1 e2 => (h.2 i a t e1 e2).stay hp s⟩
abbrev wf (T : Addr) : List (Str × V) := [("_fills", .ref T)]
theorem wf_at (T : Addr) : (wf T).lookup ("_fills" : Str) = some (V.ref T) := rfl
/-- an instance of Work -/
def WorkAt (C D : Addr) (H : Hp) (v : V) (ts : List RT) : Prop := ∃ (a dx T : Addr) (as : List Addr), v = .ref a ∧ H a = some (.ins D dx (wf T)) ∧ H T = some (.tup (as.map V.ref)) ∧ FillsAt C H as ts
theorem WorkAt.same {C D : Addr} {H H' : Hp} {v : V} {ts : List RT} (h : WorkAt C D H v ts) (s : L2.Same H H') : WorkAt C D H' v ts := by
  obtain ⟨a, dx, T, as, rfl, h1, h2, h3⟩ := h
  exact ⟨a, dx, T, as, rfl, s _ _ h1, s _ _ h2, h3.same s⟩
theorem WorkAt.stay {C D p : Addr} {H H' : Hp} {v : V} {ts : List RT} (h : WorkAt C D H v ts) (hp : Pot H p) (s : Stay p H H') : WorkAt C D H' v ts := by
  obtain ⟨a, dx, T, as, rfl, h1, h2, h3⟩ := h
  obtain ⟨x, y, e, _⟩ := id hp
  exact ⟨a, dx, T, as, rfl, s _ _ (ne_of h1 e (by intro z; cases z)) h1, s _ _ (ne_of h2 e (by intro z; cases z)) h2, h3.stay hp s⟩
/-- what the text has beside Fill -/
structure TxW (K : PySem.W.Frag) (mg : Str → Option Value) (C D : Addr) : Prop where
  T : Txt K mg C
  isi : CIsi K D
  nF : NoAttr K D "_fills"
  mgW : mg "Work" = some (.ref D)
  mgMF : ∃ u, mg "MOST_FILLS" = some u ∧ RelV (.int 126) u
  en : mg "enumerate" = none
  li : mg "list" = none
  tu : mg "tuple" = none
  sf : PySem.W.selfFirst K D = true
  no : ∃ cd, PySem.W.clsIn K D = some cd ∧ cd.mro = [.ref D, .type "object"]
  ia : PySem.W.findIn K (.ref D) "__iadd__" = some none
  oa : PySem.W.findIn K (.type "object") "__iadd__" = some none
  noC : NoOp K C "add"
  kC : PySem.W.kitOne K (.ref C) (.ref D) = some false ∧ PySem.W.notFirst K D (.ref C) = true
  kt : ∀ T ∈ (["NoneType", "tuple", "str", "int", "list"] : List String), PySem.W.kitOne K (.type T) (.ref D) = some false ∧ PySem.W.notFirst K D (.type T) = true
section
variable {P : Program} {w : World} {K : PySem.W.Frag} {mg : Str → Option Value} {base : Heap} {C D : Addr}
/-- Work.__init__(self, *fills), behind the binding -/
def spWI (C D : Addr) : Sp := fun vs H Q _ => ∃ (x p dx : Addr) (as : List Addr) (ts : List RT), vs = [.ref x, .ref p] ∧ H x = some (.ins D dx []) ∧ H p = some (.tup (as.map V.ref)) ∧ FillsAt C H as ts ∧ ts.length ≤ 126 ∧
  ∀ H' : Hp, H' x = some (.ins D dx (wf p)) → (∀ b o, H b = some o → b ≠ x → H' b = some o) → Q .non H'
theorem scWInit : FnScope ["self", "fills", "position", "fill"] ((["self"] : List Str) ++ (["fills"] : List Str)) (defScope sWInit) := ⟨rfl, rfl, rfl, by decide +kernel, rfl, by decide +kernel, by decide +kernel⟩
theorem ok_winit {A : Around} {outer : List Env} {s : Shared} {H : Hp} {vs : List V} {Q : VK} {E : XK} {f : Addr} {cdv : Value} (W : TxW K mg C D) (cF : CalP P w K mg base 1 C "is_free" (spGet C fun t => .bl (decide (t = .free)))) (hr : Room 2 (A.deeper (PyProof.Rows.envOfC "Work.__init__" (defScope sWInit) s.heap.objs.size f cdv))) (h : spWI C D vs H Q E) :
    ∃ t, PSs (cxOf CX0 P w K mg base ["self", "fills", "position", "fill"] "Work.__init__" (defScope sWInit) f cdv A outer s H E).nox (defBody sWInit) t ∧ t { nx := fun _ H' => Q .non H', rt := Q } (start ["self", "fills", "position", "fill"] vs) H := by
  have T := W.T
  have B := T.bi
  obtain ⟨x, p, dx, as, ts, rfl, hx, hp, hF, hl, k⟩ := h
  refine ⟨_, pss_cons (ps_for PassesOwn.never rfl (pi_enumT (by rfl) W.en (pa_cons (pv 1) pa_nil)) (pg_tup rfl (pgs_cons (pg_name (i := 2) scWInit.nd rfl (.inl rfl)) (pgs_cons (pg_name (i := 3) scWInit.nd rfl (.inl rfl)) pgs_nil)))
      (pss_one (ps_if (PW.pt (pw_or (pt_not (pt_val (pe_callB call_isi (by rfl) B.isinstance (by decide +kernel) (pa_cons (pv 3) (pa_cons (pe_glob (v := .ref C) (by rfl) T.mgF rfl) pa_nil)))))
        (pw_or1 (pt_val (pe_p (pv 3) cF hr (by decide) (by rfl)))))) (pss_one ps_never) pss_nil)))
    (pss_cons (ps_if (pt_cmpR op_gt (pe_callB call_len_seq (by rfl) B.len PySem.boot_len (pa_cons (pv 1) pa_nil)) (pe_gl (by rfl) W.mgMF) (nomark _)) (pss_one ps_never) pss_nil)
    (pss_one (ps_fld (pv 0) (pv 1) rfl))), ?_⟩
  have lt : (as.map V.ref).length ≤ 126 := by rw [List.length_map, hF.1]; exact hl
  have nxp : x ≠ p := ne_of hx hp (by intro z; cases z)
  refine ⟨_, rfl, p, as.map V.ref, rfl, .inr ⟨SqT.of hp, for_enumT (K := K) (a := p) (xs := as.map V.ref) (fun _ σ H' => (∃ a b : Option V, σ = [some (.ref x), some (.ref p), a, b]) ∧ L2.Same H H') ⟨⟨_, _, rfl⟩, fun _ _ e => e⟩ (fun i σ H' _ ⟨_, s1⟩ => SqT.of (s1 _ _ hp))
    (fun i y σ H1 T1 hi ⟨⟨a, b, e⟩, s1⟩ hT => ?_) (fun σ H1 ⟨⟨a, b, e⟩, s1⟩ => ?_)⟩⟩
  · subst e
    rw [List.getElem?_map] at hi
    obtain ⟨fa, hfa, rfl⟩ := Option.map_eq_some_iff.mp hi
    obtain ⟨hlt, _⟩ := List.getElem?_eq_some_iff.mp hfa
    have hlt2 : i < ts.length := by rw [← hF.1]; exact hlt
    have s2 := s1.trans (same_new (o := .tup [.int ((i : Nat) : Int), .ref fa]) hT)
    have ft := (hF.2 i fa _ hfa (List.getElem?_eq_getElem hlt2)).same s2
    obtain ⟨fa', dfa, efa, hfa'⟩ := id ft
    cases efa
    refine ⟨T1, _, rfl, SqT.of upd_same, rfl, _, _, rfl, _, _, rfl, ?_⟩
    refine ⟨rfl, _, rfl, _, _, _, _, true, rfl, .own C, T.isi.ty hfa', (by simp [PySem.W.kitOne]), _, rfl, ?_⟩
    refine iteF ⟨_, rfl, fa, dfa, _, rfl, hfa', _, _, rfl, ft, _, rfl, iteF ?_⟩
    exact ⟨⟨_, _, rfl⟩, s2⟩
  · subst e
    refine ⟨_, rfl, p, _, rfl, .inr (SqT.of (s1 _ _ hp)), _, _, rfl, rfl, ?_⟩
    dsimp only
    rw [decide_eq_false (show ¬ ((((as.map V.ref).length : Nat) : Int) > 126) by omega)]
    refine ⟨_, rfl, iteF ⟨_, rfl, _, rfl, x, D, dx, _, rfl, s1 _ _ hx, W.isi.cl, W.nF, (by show 0 < 1000; decide), ?_⟩⟩
    exact k _ upd_same fun b o e hb => by rw [upd_ne hb]; exact s1 _ _ e
end
end K15
set_option Elab.async false
set_option linter.all false
set_option maxRecDepth 100000
set_option maxHeartbeats 4000000
namespace K15
open PySem L2 UL
section
variable {P : Program} {w : World} {K : PySem.W.Frag} {mg : Str → Option Value} {base : Heap} {C D : Addr}
/-- Work.__init__ by its values -/
def spWMake (C D : Addr) : Sp := fun vs H Q _ => ∃ (x dx : Addr) (as : List Addr) (ts : List RT), vs = .ref x :: as.map V.ref ∧ H x = some (.ins D dx []) ∧ FillsAt C H as ts ∧ ts.length ≤ 126 ∧
  ∀ (p : Addr) (H' : Hp), H p = none → H' p = some (.tup (as.map V.ref)) → H' x = some (.ins D dx (wf p)) → (∀ b o, H b = some o → b ≠ x → H' b = some o) → Q .non H'
theorem ok_wmake {f : Addr} {fd : FuncData} {oc : Value} {od an : Option Addr} {osl : Array (Option Value)} {dV kV doc pm cdv ct : Value} (lk : K.lookup f = some ⟨oc, od, .func (PySem.W.fnOf "__init__" "Work.__init__" (defArgs sWInit) (defBody sWInit) (defScope sWInit) .none kV doc pm an cdv ct), osl⟩)
    (hcd : PySem.W.codeIn K cdv "Work.__init__" = true) (W : TxW K mg C D) (cF : CalP P w K mg base 1 C "is_free" (spGet C fun t => .bl (decide (t = .free)))) : FnR P w K mg base CX0 3 f (spWMake C D) := by
  refine (StX.fn_star (ps := ["self"]) (pv := "fills") (sp := spWI C D) lk hcd scWInit StX.cxUp_none (StX.bind_star1 (B := fun us => bindArgs (PySem.W.fnOf "__init__" "Work.__init__" (defArgs sWInit) (defBody sWInit) (defScope sWInit) .none kV doc pm an cdv ct) ⟨us, []⟩) (p1 := "self") (pv := "fills") (fun _ => rfl) fun _ _ _ => rfl) fun A outer s H vs Q E hr hsp => ?_).imp fun vs H Q E h => ?_
  · obtain ⟨t, ht, q⟩ := ok_winit W cF hr hsp
    exact ⟨t, ht.nox, q⟩
  · obtain ⟨x, dx, as, ts, rfl, hx, hF, hl, k⟩ := h
    refine ⟨[.ref x], as.map V.ref, rfl, rfl, line_ge (by rw [List.length_map, hF.1]; omega), fun p hp => ?_⟩
    have s1 := same_new (o := .tup (as.map V.ref)) hp
    exact ⟨x, p, dx, as, ts, rfl, s1 _ _ hx, upd_same, hF.same s1, hl, fun H' h1 h2 => k p H' hp (h2 _ _ upd_same (ne_of_none hx hp).symm) h1 fun b o e hb => h2 _ _ (s1 _ _ e) hb⟩
/-- behind Work(..): a new Work -/
theorem wmade {H1 : Hp} {as : List Addr} {ts : List RT} {vs : List V} {Q : VK} (hv : vs = as.map V.ref) (hF : FillsAt C H1 as ts) (hl : ts.length ≤ 126) (k : ∀ (v : V) (H' : Hp), L2.Same H1 H' → WorkAt C D H' v ts → Q v H') : ∀ x dx, H1 x = none → H1 dx = none → dx ≠ x →
    spWMake C D (.ref x :: vs) (upd (upd H1 dx (.own x)) x (.ins D dx [])) (fun v H2 => v = .non ∧ Q (.ref x) H2) E0 := fun x dx nx nd ne => by
  subst hv
  have s0 : L2.Same H1 (upd (upd H1 dx (.own x)) x (.ins D dx [])) := fun b o e => by rw [upd_ne (ne_of_none e nx), upd_ne (ne_of_none e nd)]; exact e
  refine ⟨x, dx, as, ts, rfl, upd_same, hF.same s0, hl, fun p H' hp h1 h2 kk => ⟨rfl, ?_⟩⟩
  have sm := Same.made nx nd kk
  exact k _ _ sm ⟨x, dx, p, as, rfl, h2, h1, hF.same sm⟩
/-- the same, one step before -/
theorem wmade1 {H1 : Hp} {as : List Addr} {ts : List RT} {vs : List V} {R : VK} {x dx : Addr} (nx : H1 x = none) (nd : H1 dx = none) (hv : vs = as.map V.ref) (hF : FillsAt C H1 as ts) (hl : ts.length ≤ 126) (k : ∀ H' : Hp, L2.Same H1 H' → WorkAt C D H' (.ref x) ts → R .non H') :
    spWMake C D (.ref x :: vs) (upd (upd H1 dx (.own x)) x (.ins D dx [])) R E0 := by
  subst hv
  have s0 : L2.Same H1 (upd (upd H1 dx (.own x)) x (.ins D dx [])) := fun b o e => by rw [upd_ne (ne_of_none e nx), upd_ne (ne_of_none e nd)]; exact e
  refine ⟨x, dx, as, ts, rfl, upd_same, hF.same s0, hl, fun p H' hp h1 h2 kk => ?_⟩
  have sm := Same.made nx nd kk
  exact k _ sm ⟨x, dx, p, as, rfl, h2, h1, hF.same sm⟩
/-- w.fills() -/
def spWFills (C D : Addr) : Sp := fun vs H Q _ => ∃ (v : V) (ts : List RT), vs = [v] ∧ WorkAt C D H v ts ∧ ts.length ≤ 126 ∧ ∀ (l : Addr) (as : List Addr) (H' : Hp), H l = none → L2.Same H H' → H' l = some (.lst (as.map V.ref)) → FillsAt C H' as ts → Q (.ref l) H'
theorem scWFills : FnScope ["self"] ["self"] (defScope sWFills) := ⟨rfl, rfl, rfl, by decide +kernel, rfl, by decide +kernel, by decide +kernel⟩
theorem ok_wfills {f : Addr} {fd : FuncData} (F : Fun K "fills" "Work.fills" sWFills f fd) (W : TxW K mg C D) : FnOk P w K mg base CX0 1 f fd ["self"] (spWFills C D) := by
  refine F.ok scWFills (fun vs H Q E h => ?_) (fun cdv A outer s H vs Q E hr h => ?_)
  · obtain ⟨v, ts, rfl, _⟩ := h
    rfl
  · obtain ⟨v, ts, rfl, ⟨a, dx, p, as, rfl, h1, h2, h3⟩, hl, k⟩ := h
    refine ⟨_, pss_one (ps_ret (pe_callTy call_list_of (by rfl) W.li (by decide +kernel) (pa_cons (pe_fld (pv 0) rfl) pa_nil))), ?_⟩
    refine ⟨_, rfl, a, D, dx, _, _, rfl, h1, W.isi.cl, W.nF, wf_at p, p, _, rfl, .inr (SqT.of h2), fun l hl => ?_⟩
    have s1 := same_new (o := .lst (as.map V.ref)) hl
    exact k l as _ hl s1 upd_same (h3.same s1)
/-- len(w) -/
def spWLen (C D : Addr) : Sp := fun vs H Q _ => ∃ (v : V) (ts : List RT), vs = [v] ∧ WorkAt C D H v ts ∧ Q (.int (ts.length : Nat)) H
theorem scWLen : FnScope ["self"] ["self"] (defScope sWLen) := ⟨rfl, rfl, rfl, by decide +kernel, rfl, by decide +kernel, by decide +kernel⟩
theorem ok_wlen {f : Addr} {fd : FuncData} (F : Fun K "__len__" "Work.__len__" sWLen f fd) (W : TxW K mg C D) : FnOk P w K mg base CX0 1 f fd ["self"] (spWLen C D) := by
  refine F.ok scWLen (fun vs H Q E h => ?_) (fun cdv A outer s H vs Q E hr h => ?_)
  · obtain ⟨v, ts, rfl, _⟩ := h
    rfl
  · obtain ⟨v, ts, rfl, ⟨a, dx, p, as, rfl, h1, h2, h3⟩, k⟩ := h
    refine ⟨_, pss_one (ps_ret (pe_callB call_len_seq (by rfl) W.T.bi.len PySem.boot_len (pa_cons (pe_fld (pv 0) rfl) pa_nil))), ?_⟩
    refine ⟨_, rfl, a, D, dx, _, _, rfl, h1, W.isi.cl, W.nF, wf_at p, p, _, rfl, .inr (SqT.of h2), ?_⟩
    rw [← h3.1] at k
    rw [List.length_map]
    exact k
/-- w == u -/
def eqRow (ts us : List RT) : Bool := decide (ts = us)
theorem row_all : ∀ (ts us : List RT), (((List.range (min ts.length us.length)).all fun i => decide (ts[i]? = us[i]?)) && (ts.length == us.length)) = decide (ts = us) := by
  intro ts us
  rw [Bool.eq_iff_iff, Bool.and_eq_true, List.all_eq_true, beq_iff_eq, decide_eq_true_iff]
  constructor
  · rintro ⟨h, hl⟩
    refine List.ext_getElem? fun i => ?_
    by_cases c : i < ts.length
    · exact of_decide_eq_true (h i (List.mem_range.mpr (by omega)))
    · rw [List.getElem?_eq_none (by omega), List.getElem?_eq_none (by omega)]
  · rintro rfl
    exact ⟨fun i _ => decide_eq_true rfl, rfl⟩
def RF (C : Addr) : Addr → Addr → Bool → Hp → Prop := fun a b r H => ∃ t t' : FT, FillAt C H (.ref a) t ∧ FillAt C H (.ref b) t' ∧ r = decide (t = t')
theorem mon_RF {C : Addr} : MonB (DInsB C (RF C)) := fun x y r H H' e d => by
  obtain ⟨a, b, dx, dy, fs, gs, rfl, rfl, h1, h2, t, t', f1, f2, er⟩ := d
  exact ⟨a, b, dx, dy, fs, gs, rfl, rfl, e _ _ h1, e _ _ h2, t, t', f1.same e, f2.same e, er⟩
theorem ff_inj {t t' : FT} (h : ff t = ff t') : t = t' := by
  have h1 : (V.str t.w : V) = V.str t'.w := by
    have := ff_w t
    rw [h, ff_w t'] at this
    exact (Option.some.inj this).symm
  have h2 : t.e = t'.e := by
    have := ff_e t
    rw [h, ff_e t'] at this
    exact (Option.some.inj this).symm
  have := we_eq t t'
  rw [decide_eq_true h1, decide_eq_true h2] at this
  exact of_decide_eq_true this.symm
theorem eqB_fill {X : Cx} (cE : CalS X.prog X.w X.K X.mg X.base 1 C "__eq__" (spEqF X.K C)) : EqB X 1 (DInsB C (RF C)) := by
  obtain ⟨f, F, h1, h2⟩ := cE
  refine (rcB_ins (R := RF C) (F.imp fun vs H Q E h => ?_) h1 h2 pass0).eqB fun x y r H d => ?_
  · obtain ⟨a, b, r, rfl, ⟨t, t', f1, f2, rfl⟩, k⟩ := h
    exact ⟨.ref a, .ref b, t, rfl, f1, .inl ⟨t', f2, k H Ext.rfl'⟩⟩
  · obtain ⟨a, b, dx, dy, fs, gs, rfl, rfl, _, _, t, t', f1, f2, rfl⟩ := d
    refine ⟨a, b, rfl, rfl, fun e => ?_⟩
    subst e
    obtain ⟨a1, d1, e1, g1⟩ := f1
    obtain ⟨a2, d2, e2, g2⟩ := f2
    cases e1
    cases e2
    rw [g1] at g2
    have : ff t = ff t' := by
      injection g2 with z
      injection z
    exact decide_eq_true (ff_inj this)
def spWEq (K : PySem.W.Frag) (C D : Addr) : Sp := fun vs H Q _ => ∃ (v u : V) (ts : List RT), vs = [v, u] ∧ WorkAt C D H v ts ∧
  ((∃ us : List RT, WorkAt C D H u us ∧ ∀ H' : Hp, L2.Same H H' → Q (.bl (decide (ts = us))) H') ∨ (∃ ty : Value, TyX K H u ty ∧ PySem.W.kitOne K ty (.ref D) = some false ∧ Q (.bl false) H))
theorem scWEq : FnScope ["self", "other"] ["self", "other"] (defScope sWEq) := ⟨rfl, rfl, rfl, by decide +kernel, rfl, by decide +kernel, by decide +kernel⟩
theorem ok_weq {f : Addr} {fd : FuncData} (F : Fun K "__eq__" "Work.__eq__" sWEq f fd) (W : TxW K mg C D) (cE : CalS P w K mg base 1 C "__eq__" (spEqF K C)) : FnOk P w K mg base CX0 3 f fd ["self", "other"] (spWEq K C D) := by
  refine F.ok scWEq (fun vs H Q E h => ?_) (fun cdv A outer s H vs Q E hr h => ?_)
  · obtain ⟨v, u, ts, rfl, _⟩ := h
    rfl
  · obtain ⟨v, u, ts, rfl, ⟨a, dx, p, as, rfl, h1, h2, h3⟩, h⟩ := h
    refine ⟨_, pss_one (ps_ret (pe_and (pe_callB call_isi (by rfl) W.T.bi.isinstance (by decide +kernel) (pa_cons (pv 1) (pa_cons (pe_glob (v := .ref D) (by rfl) W.mgW rfl) pa_nil)))
      (pe_one (pe_cmpR (op_eqB (rcB_tup mon_RF (eqB_fill (C := C) cE)) hr) (pe_fld (pv 0) rfl) (pe_fld (pv 1) rfl) (nomark _))))), ?_⟩
    rcases h with ⟨us, ⟨b, dy, p2, bs, rfl, g1, g2, g3⟩, k⟩ | ⟨ty, hty, hk, k⟩
    · refine ⟨_, rfl, _, _, _, _, true, rfl, .own D, W.isi.ty g1, (by simp [PySem.W.kitOne]), _, rfl, iteT ?_⟩
      refine ⟨_, rfl, a, D, dx, _, _, rfl, h1, W.isi.cl, W.nF, wf_at p, _, rfl, b, D, dy, _, _, rfl, g1, W.isi.cl, W.nF, wf_at p2, _, ⟨p, p2, _, _, fun i => decide (ts[i]? = us[i]?), rfl, rfl, SqT.of h2, SqT.of g2, fun i x y e1 e2 => ?_, rfl⟩, fun H' ex => ?_⟩
      · rw [List.getElem?_map] at e1 e2
        obtain ⟨fa, hfa, rfl⟩ := Option.map_eq_some_iff.mp e1
        obtain ⟨fb, hfb, rfl⟩ := Option.map_eq_some_iff.mp e2
        have l1 : i < ts.length := by rw [← h3.1]; exact (List.getElem?_eq_some_iff.mp hfa).1
        have l2 : i < us.length := by rw [← g3.1]; exact (List.getElem?_eq_some_iff.mp hfb).1
        have q1 := h3.2 i fa _ hfa (List.getElem?_eq_getElem l1)
        have q2 := g3.2 i fb _ hfb (List.getElem?_eq_getElem l2)
        obtain ⟨a1, d1, e1, c1⟩ := id q1
        obtain ⟨a2, d2, e2, c2⟩ := id q2
        cases e1
        cases e2
        refine ⟨fa, fb, d1, d2, _, _, rfl, rfl, c1, c2, _, _, q1, q2, ?_⟩
        dsimp only
        rw [List.getElem?_eq_getElem l1, List.getElem?_eq_getElem l2]
        by_cases c : ts[i] = us[i]
        · rw [c, decide_eq_true rfl, decide_eq_true rfl]
        · rw [decide_eq_false (fun z => c (Option.some.inj z)), decide_eq_false]
          intro z
          refine c (Prod.ext ?_ ?_)
          · exact (FT.f.inj z).1
          · exact (FT.f.inj z).2
      · have e := row_all ts us
        rw [List.length_map, List.length_map, h3.1, g3.1, e]
        exact k H' ex
    · exact ⟨_, rfl, _, _, _, _, false, rfl, .own D, hty, hk, _, rfl, iteF k⟩
end
end K15
set_option Elab.async false
set_option linter.all false
set_option maxRecDepth 100000
set_option maxHeartbeats 4000000
namespace K15
open PySem L2 UL
section
variable {P : Program} {w : World} {K : PySem.W.Frag} {mg : Str → Option Value} {base : Heap} {C D : Addr}
theorem reprF_len {t : RT} (h : t.ok) : (reprF (RT.ft t)).length ≤ 20 := by
  have h2 := num_len (show 3 ≤ t.2 ∧ t.2 ≤ 128 from h)
  have h1 := wOf_len t.1
  have e : reprF (RT.ft t) = ("Fill('" : Str) ++ (wOf t.1 ++ (("', " : Str) ++ (toString t.2 ++ (")" : Str)))) := rfl
  have h3 : (("Fill('" : Str)).length = 6 := by decide +kernel
  have h4 : (("', " : Str)).length = 3 := by decide +kernel
  have h5 : ((")" : Str)).length = 1 := by decide +kernel
  rw [e]
  simp only [Str.length_append]
  omega
def partsT (ts : List RT) : List Str := ts.map fun t => reprF (RT.ft t)
def workText (ts : List RT) : Str := ("Work(" : Str) ++ Txt.join (", " : Str) (partsT ts) ++ (")" : Str)
theorem parts_sum {ts : List RT} (h : ∀ t ∈ ts, t.ok) : ((partsT ts).map (·.length)).sum ≤ ts.length * 20 := by
  have := sum_le (fun x : Str => x.length) 20 (partsT ts) fun x hx => by
    obtain ⟨t, ht, rfl⟩ := List.mem_map.mp hx
    exact reprF_len (h t ht)
  rw [partsT, List.length_map] at this
  exact this
theorem join_parts {ts : List RT} (h : ∀ t ∈ ts, t.ok) : (Txt.join (", " : Str) (partsT ts)).length ≤ ts.length * 22 := by
  have h1 := join_len (", " : Str) (partsT ts)
  have h2 := parts_sum h
  have h3 : ((", " : Str)).length = 2 := by decide +kernel
  rw [h3, partsT, List.length_map] at h1
  rw [partsT] at h2
  rw [partsT]
  omega
theorem ok_mem {ts : List RT} {i : Nat} {t : RT} (h : ∀ t ∈ ts, t.ok) (e : ts[i]? = some t) : t.ok := h t (List.mem_of_getElem? e)
theorem parts_succ {ts : List RT} {i : Nat} (h : i < ts.length) : (partsT (ts.take (i + 1))).map V.str = (partsT (ts.take i)).map V.str ++ [V.str (reprF (RT.ft ts[i]))] := by
  rw [List.take_add_one, List.getElem?_eq_getElem h]
  show List.map V.str (List.map _ (ts.take i ++ [ts[i]])) = _
  rw [List.map_append, List.map_append]
  rfl
def spWRepr (C D : Addr) : Sp := fun vs H Q _ => ∃ (v : V) (ts : List RT), vs = [v] ∧ WorkAt C D H v ts ∧ (∀ t ∈ ts, t.ok) ∧ ts.length ≤ 126 ∧ ∀ H' : Hp, L2.Same H H' → Q (.str (workText ts)) H'
theorem scWRepr : FnScope ["self", "fill"] ["self"] (defScope sWRepr) := ⟨rfl, rfl, rfl, by decide +kernel, rfl, by decide +kernel, by decide +kernel⟩
theorem ok_wrepr {f : Addr} {fd : FuncData} (F : Fun K "__repr__" "Work.__repr__" sWRepr f fd) (W : TxW K mg C D) (cR : CalS P w K mg base 1 C "__repr__" (spShow C reprF)) : FnOk P w K mg base CX0 3 f fd ["self"] (spWRepr C D) := by
  refine F.ok scWRepr (fun vs H Q E h => ?_) (fun cdv A outer s H vs Q E hr h => ?_)
  · obtain ⟨v, ts, rfl, _⟩ := h
    rfl
  · obtain ⟨v, ts, rfl, ⟨a, dx, p, as, rfl, h1, h2, h3⟩, ho, hl, k⟩ := h
    refine ⟨_, pss_one (ps_ret (pe_joined (.cons pe_str (.cons (pe_fmt (pe_join pe_str (pe_lc (own := [("fill", 1)]) (g := gName 1) (tt := tYes) rfl scWRepr.nd (pi_tup (pe_fld (pv 0) rfl))
        (blkOk_by (N := ["self", "fill"]) (sc := defScope sWRepr) (by decide +kernel)) (fun _ _ _ _ _ => pg_name (i := 1) scWRepr.nd rfl (Or.inl rfl)) (fun _ _ _ _ _ => pts_nil)
        (fun _ _ _ _ _ => pe_callB (call_reprS cR hr (by decide)) (by rfl) W.T.bi.repr (by decide +kernel) (pa_cons (pv 1) pa_nil))))) (.cons pe_str .nil))))), ?_⟩
    have hz : ("Work(" : Str).length = 5 := by decide +kernel
    have hc : (", " : Str).length = 2 := by decide +kernel
    have he : (")" : Str).length = 1 := by decide +kernel
    have hj := join_parts ho
    refine ⟨_, rfl, ?_, ⟨_, rfl⟩, _, rfl, a, D, dx, _, _, rfl, h1, W.isi.cl, W.nF, wf_at p, p, rfl, ⟨_, SqT.of h2⟩, fun L hL => ?_⟩
    · rw [Str.empty_append]
      exact line_ge (by omega)
    · refine lc_tup (K := K) (a := p) (xs := as.map V.ref) (fun i H' => H' L = some (.lst ((partsT (ts.take i)).map V.str)) ∧ L2.Same H H') ⟨upd_same, same_new hL⟩ (fun i H' _ ⟨_, s1⟩ => SqT.of (s1 _ _ h2))
        (fun i x H' hi ⟨d1, s1⟩ => ?_) (fun H' ⟨d1, s1⟩ => ?_)
      · rw [List.getElem?_map] at hi
        obtain ⟨fa, hfa, rfl⟩ := Option.map_eq_some_iff.mp hi
        have l1 : i < ts.length := by rw [← h3.1]; exact (List.getElem?_eq_some_iff.mp hfa).1
        have ft := (h3.2 i fa _ hfa (List.getElem?_eq_getElem l1)).same s1
        obtain ⟨fa', dfa, efa, hfa'⟩ := id ft
        cases efa
        refine ⟨rfl, _, rfl, fa, dfa, _, rfl, hfa', _, _, rfl, ft, ok_mem ho (List.getElem?_eq_getElem l1), _, rfl, _, d1, line_gt ?_, ?_, fun b o e => ?_⟩
        · rw [List.length_map, partsT, List.length_map, List.length_take]
          omega
        · rw [parts_succ l1]
          exact upd_same
        · have nb : b ≠ L := fun z => by
            subst z
            rw [hL] at e
            cases e
          rw [upd_ne nb]
          exact s1 b o e
      · rw [List.length_map, h3.1, List.take_length] at d1
        have hs := parts_sum ho
        have hpl : (partsT ts).length = ts.length := by rw [partsT, List.length_map]
        refine ⟨_, L, partsT ts, rfl, rfl, .inl (SqL.of d1), by rw [hc, hpl]; omega, .inl ⟨_, rfl, ?_, _, rfl, ?_, _, rfl, ?_, ?_⟩⟩
        · exact line_ge (by omega)
        · rw [Str.empty_append, Str.length_append]
          exact line_ge (by omega)
        · rw [Str.empty_append, Str.length_append, Str.length_append]
          exact line_ge (by omega)
        · rw [Str.empty_append]
          exact k H' s1
end
end K15
set_option Elab.async false
set_option linter.all false
set_option maxRecDepth 100000
set_option maxHeartbeats 4000000
namespace K15
open PySem L2 UL
section
variable {P : Program} {w : World} {K : PySem.W.Frag} {mg : Str → Option Value} {base : Heap} {C D : Addr}
/-- what a right operand adds -/
def more : FT → List RT
  | .free => []
  | .f s n => [(s, n)]
/-- w + u: u a Work, or a Fill -/
def spWAdd (C D : Addr) : Sp := fun vs H Q _ => ∃ (v u : V) (ts us : List RT), vs = [v, u] ∧ WorkAt C D H v ts ∧ ts.length + us.length ≤ 126 ∧ (WorkAt C D H u us ∨ ∃ t : FT, FillAt C H u t ∧ us = more t) ∧
  ∀ (y : V) (H' : Hp), L2.Same H H' → WorkAt C D H' y (ts ++ us) → Q y H'
theorem cat_of {K : PySem.W.Frag} {H1 : Hp} {p q : Addr} {as bs : List Addr} {R : VK} (hp : SqT K H1 p (as.map V.ref)) (hq : SqT K H1 q (bs.map V.ref)) (hl : as.length + bs.length ≤ 1000) (k : ∀ (z : Addr) (H2 : Hp), L2.Same H1 H2 → SqT K H2 z ((as ++ bs).map V.ref) → R (.ref z) H2) :
    rCatA K (.ref p) (.ref q) H1 R := by
  refine ⟨p, q, _, _, rfl, rfl, hp, hq, line_ge (by rw [List.length_map, List.length_map]; omega), fun e => ?_, fun _ e => ?_, fun _ _ z hz => ?_⟩
  · obtain rfl : as = [] := List.map_eq_nil_iff.mp e
    exact k q H1 (fun _ _ e => e) hq
  · obtain rfl : bs = [] := List.map_eq_nil_iff.mp e
    exact k p H1 (fun _ _ e => e) (by rw [List.append_nil]; exact hp)
  · exact k z _ (same_new hz) (by rw [List.map_append]; exact SqT.of upd_same)
theorem scWAdd : FnScope ["self", "other", "more", "fills"] ["self", "other"] (defScope sWAdd) := ⟨rfl, rfl, rfl, by decide +kernel, rfl, by decide +kernel, by decide +kernel⟩
theorem ok_wadd {f : Addr} {fd : FuncData} (F : Fun K "__add__" "Work.__add__" sWAdd f fd) (W : TxW K mg C D) (cM : MakR P w K mg base 3 "Work" D (spWMake C D)) (cF : CalP P w K mg base 1 C "is_free" (spGet C fun t => .bl (decide (t = .free)))) :
    FnOk P w K mg base CX0 5 f fd ["self", "other"] (spWAdd C D) := by
  refine F.ok scWAdd (fun vs H Q E h => ?_) (fun cdv A outer s H vs Q E hr h => ?_)
  · obtain ⟨v, u, ts, us, rfl, _⟩ := h
    rfl
  · obtain ⟨v, u, ts, us, rfl, ⟨a, dx, p, as, rfl, h1, h2, h3⟩, hl, h, k⟩ := h
    have B := W.T.bi
    refine ⟨_, pss_cons (ps_if (pt_val (pe_callB call_isi (by rfl) B.isinstance (by decide +kernel) (pa_cons (pv 1) (pa_cons (pe_glob (v := .ref D) (by rfl) W.mgW rfl) pa_nil))))
        (pss_one (ps_set (i := 2) scWAdd.nd rfl (.inl rfl) (pe_fld (pv 1) rfl)))
        (pss_one (ps_if (pt_val (pe_callB call_isi (by rfl) B.isinstance (by decide +kernel) (pa_cons (pv 1) (pa_cons (pe_glob (v := .ref C) (by rfl) W.T.mgF rfl) pa_nil))))
          (pss_one (ps_set (i := 2) scWAdd.nd rfl (.inl rfl) (pe_ifExp (pt_val (pe_p (pv 1) cF hr (by decide) (by rfl))) (pe_tup pa_nil) (pe_tup (pa_cons (pv 1) pa_nil)))))
          (pss_one ps_never))))
      (pss_cons (ps_set (i := 3) scWAdd.nd rfl (.inl rfl) (pe_op op_catA (pe_fld (pv 0) rfl) (pv 2)))
      (pss_one (ps_ret (pe_nRS cM hr (by decide) (by rfl) (pv 3))))), ?_⟩
    rcases h with ⟨b, dy, q, bs, rfl, g1, g2, g3⟩ | ⟨t, ⟨b, dy, rfl, g1⟩, rfl⟩
    · refine ⟨_, rfl, _, _, _, _, true, rfl, .own D, W.isi.ty g1, (by simp [PySem.W.kitOne]), _, rfl, iteT ?_⟩
      refine ⟨_, rfl, b, D, dy, _, _, rfl, g1, W.isi.cl, W.nF, wf_at q, ?_⟩
      refine ⟨_, rfl, a, D, dx, _, _, rfl, h1, W.isi.cl, W.nF, wf_at p, _, rfl, cat_of (SqT.of h2) (SqT.of g2) (by rw [h3.1, g3.1]; omega) fun z H2 s2 hz => ?_⟩
      exact ⟨_, rfl, z, _, rfl, .inl hz, wmade rfl ((h3.app g3).same s2) (by rw [List.length_append]; exact hl) fun y H3 s3 hy => k y H3 (s2.trans s3) hy⟩
    · refine ⟨_, rfl, _, _, _, _, false, rfl, .own D, W.T.isi.ty g1, W.kC.1, _, rfl, iteF ?_⟩
      refine ⟨_, rfl, _, _, _, _, true, rfl, .own C, W.T.isi.ty g1, (by simp [PySem.W.kitOne]), _, rfl, iteT ?_⟩
      refine ⟨_, rfl, b, dy, _, rfl, g1, _, t, rfl, ⟨b, dy, rfl, g1⟩, _, rfl, ?_⟩
      cases t with
      | free =>
        refine iteT ⟨(by show 0 ≤ sizeLine; exact Nat.zero_le _), fun q hq => ?_⟩
        have s1 := same_new (o := .tup []) hq
        refine ⟨_, rfl, a, D, dx, _, _, rfl, s1 _ _ h1, W.isi.cl, W.nF, wf_at p, _, rfl, cat_of (bs := []) (SqT.of (s1 _ _ h2)) (SqT.of upd_same) (by rw [h3.1]; have : ts.length + 0 ≤ 126 := hl; show ts.length + 0 ≤ 1000; omega) fun z H2 s2 hz => ?_⟩
        exact ⟨_, rfl, z, _, rfl, .inl hz, wmade rfl (((h3.same s1).app FillsAt.nil).same s2) (by rw [List.length_append]; exact hl) fun y H3 s3 hy => k y H3 ((s1.trans s2).trans s3) hy⟩
      | f sg n =>
        refine iteF ⟨_, rfl, (by show 1 ≤ sizeLine; decide), fun q hq => ?_⟩
        have s1 := same_new (o := .tup [.ref b]) hq
        have gb : FillsAt C (upd H q (.tup [.ref b])) [b] [(sg, n)] := FillsAt.one ⟨b, dy, rfl, s1 _ _ g1⟩
        refine ⟨_, rfl, a, D, dx, _, _, rfl, s1 _ _ h1, W.isi.cl, W.nF, wf_at p, _, rfl, cat_of (bs := [b]) (SqT.of (s1 _ _ h2)) (SqT.of upd_same) (by rw [h3.1]; have : ts.length + 1 ≤ 126 := hl; show ts.length + 1 ≤ 1000; omega) fun z H2 s2 hz => ?_⟩
        exact ⟨_, rfl, z, _, rfl, .inl hz, wmade rfl (((h3.same s1).app gb).same s2) (by rw [List.length_append]; exact hl) fun y H3 s3 hy => k y H3 ((s1.trans s2).trans s3) hy⟩
end
end K15
set_option Elab.async false
set_option linter.all false
set_option maxRecDepth 100000
set_option maxHeartbeats 4000000
namespace UL
open PySem L2
/-! ### rows under a fill -/
def upTo (w : Nat) (c : Bt) (e : Nat) (xs : List Bt) : List Bt := xs.mapIdx fun i x => if w ≤ i ∧ i < e then c else x
theorem upTo_len (w : Nat) (c : Bt) (e : Nat) (xs : List Bt) : (upTo w c e xs).length = xs.length := by simp [upTo]
theorem upTo_get (w : Nat) (c : Bt) (e : Nat) (xs : List Bt) (i : Nat) : (upTo w c e xs)[i]? = xs[i]?.map fun x => if w ≤ i ∧ i < e then c else x := by simp [upTo]
theorem upTo_low {w : Nat} {c : Bt} {e : Nat} {xs : List Bt} (h : e ≤ w) : upTo w c e xs = xs := by
  refine List.ext_getElem? fun i => ?_
  rw [upTo_get]
  cases xs[i]? with
  | none => rfl
  | some x =>
    show some (if w ≤ i ∧ i < e then c else x) = some x
    rw [if_neg (by omega)]
theorem upTo_set {w k : Nat} {c : Bt} {xs : List Bt} (h : w ≤ k) : (upTo w c k xs).set k c = upTo w c (k + 1) xs := by
  refine List.ext_getElem? fun i => ?_
  rw [List.getElem?_set, upTo_get, upTo_get, upTo_len]
  by_cases e : k = i
  · subst e
    rw [if_pos rfl]
    by_cases l : k < xs.length
    · rw [if_pos l, List.getElem?_eq_getElem l]
      show some c = some (if w ≤ k ∧ k < k + 1 then c else xs[k])
      rw [if_pos (by omega)]
    · rw [if_neg l, List.getElem?_eq_none (by omega)]
      rfl
  · rw [if_neg e]
    cases xs[i]? with
    | none => rfl
    | some x =>
      show some (if w ≤ i ∧ i < k then c else x) = some (if w ≤ i ∧ i < k + 1 then c else x)
      by_cases q : w ≤ i ∧ i < k
      · rw [if_pos q, if_pos (by omega)]
      · rw [if_neg q, if_neg (by omega)]
theorem upTo_ext {w : Nat} {c : Bt} {e e' : Nat} {xs : List Bt} (h : ∀ i, i < xs.length → ((w ≤ i ∧ i < e) ↔ (w ≤ i ∧ i < e'))) : upTo w c e xs = upTo w c e' xs := by
  refine List.ext_getElem? fun i => ?_
  rw [upTo_get, upTo_get]
  by_cases l : i < xs.length
  · rw [List.getElem?_eq_getElem l]
    show some (if w ≤ i ∧ i < e then c else xs[i]) = some (if w ≤ i ∧ i < e' then c else xs[i])
    by_cases q : w ≤ i ∧ i < e
    · rw [if_pos q, if_pos ((h i l).mp q)]
    · rw [if_neg q, if_neg fun z => q ((h i l).mpr z)]
  · rw [List.getElem?_eq_none (by omega)]
    rfl
/-- the bit that a fill sets -/
def bitOf (w : Nat) (s : Bool) (xs : List Bt) : Bt := if s then (xs[w - 1]?).getD none else some false
def stepB (w : Nat) (t : Bool × Int) (xs : List Bt) : List Bt := upTo w (bitOf w t.1 xs) t.2.toNat xs
def rowB (w : Nat) (ts : List (Bool × Int)) (xs : List Bt) : List Bt := ts.foldl (fun xs t => stepB w t xs) xs
theorem stepB_len (w : Nat) (t : Bool × Int) (xs : List Bt) : (stepB w t xs).length = xs.length := upTo_len _ _ _ _
theorem rowB_len (w : Nat) : ∀ (ts : List (Bool × Int)) (xs : List Bt), (rowB w ts xs).length = xs.length
  | [], _ => rfl
  | t :: ts, xs => by
    show (rowB w ts (stepB w t xs)).length = _
    rw [rowB_len w ts, stepB_len]
theorem rowB_succ {w : Nat} {ts : List (Bool × Int)} {xs : List Bt} {i : Nat} (h : i < ts.length) : rowB w (ts.take (i + 1)) xs = stepB w ts[i] (rowB w (ts.take i) xs) := by
  rw [List.take_add_one, List.getElem?_eq_getElem h]
  unfold rowB
  rw [List.foldl_append]
  rfl
theorem rowB_app {w : Nat} {ts us : List (Bool × Int)} {xs : List Bt} : rowB w (ts ++ us) xs = rowB w us (rowB w ts xs) := by
  unfold rowB
  rw [List.foldl_append]
/-! ### the same row, from the last fill back -/
theorem bitOf_step {w : Nat} {s : Bool} {t : Bool × Int} {xs : List Bt} (hw : 1 ≤ w) : bitOf w s (stepB w t xs) = bitOf w s xs := by
  unfold bitOf
  cases s with
  | false => rfl
  | true =>
    show ((upTo w (bitOf w t.1 xs) t.2.toNat xs)[w - 1]?).getD none = (xs[w - 1]?).getD none
    rw [upTo_get]
    cases xs[w - 1]? with
    | none => rfl
    | some x =>
      show (some (if w ≤ w - 1 ∧ w - 1 < t.2.toNat then _ else x)).getD none = _
      rw [if_neg (by omega)]
def overB (w : Nat) (xs : List Bt) (us : List (Bool × Int)) (j : Nat) (x : Bt) : Bt := us.foldl (fun x t => if j < t.2.toNat then bitOf w t.1 xs else x) x
theorem rowB_get {w : Nat} (hw : 1 ≤ w) : ∀ (us : List (Bool × Int)) (xs : List Bt) (j : Nat), (rowB w us xs)[j]? = xs[j]?.map fun x => if w ≤ j then overB w xs us j x else x
  | [], xs, j => by
    show xs[j]? = _
    cases xs[j]? with
    | none => rfl
    | some x =>
      show some x = some (if w ≤ j then x else x)
      rw [ite_self]
  | t :: us, xs, j => by
    show (rowB w us (stepB w t xs))[j]? = _
    rw [rowB_get hw us (stepB w t xs) j]
    have e : ∀ x, overB w (stepB w t xs) us j x = overB w xs us j x := fun x => by
      unfold overB
      simp only [bitOf_step hw]
    simp only [e]
    show (upTo w (bitOf w t.1 xs) t.2.toNat xs)[j]?.map _ = _
    rw [upTo_get]
    cases xs[j]? with
    | none => rfl
    | some x =>
      show some (if w ≤ j then overB w xs us j (if w ≤ j ∧ j < t.2.toNat then bitOf w t.1 xs else x) else (if w ≤ j ∧ j < t.2.toNat then bitOf w t.1 xs else x)) = some (if w ≤ j then overB w xs us j (if j < t.2.toNat then bitOf w t.1 xs else x) else x)
      by_cases c : w ≤ j
      · simp [c]
      · simp [c]
def lastEnd (w n : Nat) (us : List (Bool × Int)) : Nat := us.foldr (fun t d => max d (min t.2.toNat n)) w
theorem lastEnd_ge (w n : Nat) : ∀ us, w ≤ lastEnd w n us
  | [] => Nat.le_refl _
  | t :: us => by
    show w ≤ max (lastEnd w n us) (min t.2.toNat n)
    have := lastEnd_ge w n us
    omega
theorem over_known {w n : Nat} {xs : List Bt} {j : Nat} (hj : j < n) (hw : w ≤ j) : ∀ (us : List (Bool × Int)) (x y : Bt), j < lastEnd w n us → overB w xs us j x = overB w xs us j y
  | [], x, y, h => absurd (show j < w from h) (by omega)
  | t :: us, x, y, h => by
    have h' : j < max (lastEnd w n us) (min t.2.toNat n) := h
    show overB w xs us j (if j < t.2.toNat then _ else x) = overB w xs us j (if j < t.2.toNat then _ else y)
    by_cases c : j < lastEnd w n us
    · exact over_known hj hw us _ _ c
    · rw [if_pos (by omega), if_pos (by omega)]
theorem over_free {w n : Nat} {xs : List Bt} {j : Nat} (hj : j < n) : ∀ (us : List (Bool × Int)) (x : Bt), lastEnd w n us ≤ j → overB w xs us j x = x
  | [], x, _ => rfl
  | t :: us, x, h => by
    have h' : max (lastEnd w n us) (min t.2.toNat n) ≤ j := h
    show overB w xs us j (if j < t.2.toNat then _ else x) = x
    rw [if_neg (by omega)]
    exact over_free hj us x (by omega)
theorem rowB_keep {w : Nat} (hw : 1 ≤ w) {t : Bool × Int} {us : List (Bool × Int)} {xs : List Bt} (h : min t.2.toNat xs.length ≤ lastEnd w xs.length us) : rowB w (t :: us) xs = rowB w us xs := by
  refine List.ext_getElem? fun j => ?_
  rw [rowB_get hw, rowB_get hw]
  by_cases l : j < xs.length
  · rw [List.getElem?_eq_getElem l]
    show some (if w ≤ j then overB w xs us j (if j < t.2.toNat then _ else xs[j]) else xs[j]) = some (if w ≤ j then overB w xs us j xs[j] else xs[j])
    by_cases c : w ≤ j
    · rw [if_pos c, if_pos c]
      by_cases d : j < lastEnd w xs.length us
      · rw [over_known l c us _ xs[j] d]
      · rw [if_neg (by omega)]
    · rw [if_neg c, if_neg c]
  · rw [List.getElem?_eq_none (by omega)]
    rfl
theorem rowB_more {w : Nat} (hw : 1 ≤ w) {t : Bool × Int} {us : List (Bool × Int)} {xs : List Bt} (h : lastEnd w xs.length us < min t.2.toNat xs.length) :
    rowB w (t :: us) xs = (rowB w us xs).take (lastEnd w xs.length us) ++ List.replicate (min t.2.toNat xs.length - lastEnd w xs.length us) (bitOf w t.1 xs) ++ (rowB w us xs).drop (min t.2.toNat xs.length) := by
  have g := lastEnd_ge w xs.length us
  have hl := rowB_len w us xs
  refine List.ext_getElem? fun j => ?_
  rw [rowB_get hw]
  by_cases l : j < xs.length
  · rw [List.getElem?_eq_getElem l]
    have e0 : (rowB w us xs)[j]? = some (if w ≤ j then overB w xs us j xs[j] else xs[j]) := by
      rw [rowB_get hw, List.getElem?_eq_getElem l]
      rfl
    show some (if w ≤ j then overB w xs us j (if j < t.2.toNat then _ else xs[j]) else xs[j]) = _
    by_cases c1 : j < lastEnd w xs.length us
    · rw [List.append_assoc, List.getElem?_append_left (by rw [List.length_take]; omega), List.getElem?_take_of_lt c1, e0]
      by_cases c : w ≤ j
      · rw [if_pos c, if_pos c, over_known l c us _ xs[j] c1]
      · rw [if_neg c, if_neg c]
    · by_cases c2 : j < min t.2.toNat xs.length
      · rw [List.append_assoc, List.getElem?_append_right (by rw [List.length_take]; omega), List.getElem?_append_left (by rw [List.length_take, List.length_replicate]; omega), List.getElem?_replicate, List.length_take, if_pos (by omega), if_pos (by omega), if_pos (by omega), over_free l us _ (by omega)]
      · rw [if_neg (show ¬ j < t.2.toNat by omega), List.getElem?_append_right (by rw [List.length_append, List.length_take, List.length_replicate]; omega), List.length_append, List.length_take, List.length_replicate, List.getElem?_drop,
          show min t.2.toNat xs.length + (j - (min (lastEnd w xs.length us) (rowB w us xs).length + (min t.2.toNat xs.length - lastEnd w xs.length us))) = j by omega, e0]
  · rw [List.getElem?_eq_none (by omega)]
    refine (List.getElem?_eq_none ?_).symm
    rw [List.length_append, List.length_append, List.length_take, List.length_replicate, List.length_drop]
    omega
theorem lastEnd_keep {w n : Nat} {t : Bool × Int} {us : List (Bool × Int)} (h : min t.2.toNat n ≤ lastEnd w n us) : lastEnd w n (t :: us) = lastEnd w n us := by
  show max (lastEnd w n us) (min t.2.toNat n) = _
  omega
theorem lastEnd_more {w n : Nat} {t : Bool × Int} {us : List (Bool × Int)} (h : lastEnd w n us < min t.2.toNat n) : lastEnd w n (t :: us) = min t.2.toNat n := by
  show max (lastEnd w n us) (min t.2.toNat n) = _
  omega
theorem lastEnd_le {w n m : Nat} (hw : w ≤ m) (hn : n ≤ m) : ∀ us, lastEnd w n us ≤ m
  | [] => hw
  | t :: us => by
    show max (lastEnd w n us) (min t.2.toNat n) ≤ m
    have := lastEnd_le hw hn us
    omega
theorem back_more {α : Type} {ts : List α} {i : Nat} {t : α} (h : ts.reverse[i]? = some t) : (ts.reverse.take (i + 1)).reverse = t :: (ts.reverse.take i).reverse := by
  rw [List.take_add_one, h, List.reverse_append]
  rfl
theorem back_all {α : Type} (ts : List α) : (ts.reverse.take ts.length).reverse = ts := by
  rw [List.take_of_length_le (by rw [List.length_reverse]; omega), List.reverse_reverse]
/-- a row as a list or a tuple -/
def RowAt (H : Hp) (r : Addr) (xs : List Bt) : Prop := H r = some (.lst (xs.map bV)) ∨ H r = some (.tup (xs.map bV))
theorem RowAt.same {H H' : Hp} {r : Addr} {xs : List Bt} (h : RowAt H r xs) (s : L2.Same H H') : RowAt H' r xs := h.imp (fun e => s _ _ e) fun e => s _ _ e
theorem bV_get {xs : List Bt} {i : Nat} (h : i < xs.length) : (xs.map bV)[i]? = some (bV xs[i]) := by rw [List.getElem?_map, List.getElem?_eq_getElem h]; rfl
end UL
namespace K15
open PySem L2 UL
abbrev sIsList : Stmt := top 7
abbrev sIsBit : Stmt := top 8
section
variable {P : Program} {w : World} {K : PySem.W.Frag} {mg : Str → Option Value} {base : Heap} {C D : Addr}
def spIsList : Sp := fun vs H Q _ => ∃ (r : Addr) (xs : List Bt), vs = [.ref r] ∧ RowAt H r xs ∧ ∀ H' : Hp, L2.Same H H' → Q (.bl true) H'
theorem scIsList : FnScope ["value"] ["value"] (defScope sIsList) := ⟨rfl, rfl, rfl, by decide +kernel, rfl, by decide +kernel, by decide +kernel⟩
theorem ok_isList {f : Addr} {fd : FuncData} (F : Fun K "is_list" "is_list" sIsList f fd) (W : TxW K mg C D) : FnOk P w K mg base CX0 1 f fd ["value"] spIsList := by
  refine F.ok scIsList (fun vs H Q E h => ?_) (fun cdv A outer s H vs Q E hr h => ?_)
  · obtain ⟨r, xs, rfl, _⟩ := h
    rfl
  · obtain ⟨r, xs, rfl, hR, k⟩ := h
    refine ⟨_, pss_one (ps_ret (pe_callB call_isiT (by rfl) W.T.bi.isinstance (by decide +kernel) (pa_cons (pv 0) (pa_cons (pe_tup (pa_cons (pe_bltn (v := .ty "list") (by rfl) W.li (by decide +kernel) rfl) (pa_cons (pe_bltn (v := .ty "tuple") (by rfl) W.tu (by decide +kernel) rfl) pa_nil))) pa_nil)))), ?_⟩
    refine ⟨_, rfl, (by show 2 ≤ sizeLine; decide), fun q hq => ?_⟩
    have s1 := same_new (o := .tup [.ty "list", .ty "tuple"]) hq
    rcases hR with e | e
    · exact ⟨_, q, _, .type "list", [.type "list", .type "tuple"], true, rfl, upd_same, .cons (.ty _) (.cons (.ty _) .nil), .base (.lst (s1 _ _ e)), kitAny_cons (kit_ty (by decide +kernel) : PySem.W.kitOne K (.type "list") (.type "list") = some true) (by intro z; cases z) (fun _ => rfl), k _ s1⟩
    · exact ⟨_, q, _, .type "tuple", [.type "list", .type "tuple"], true, rfl, upd_same, .cons (.ty _) (.cons (.ty _) .nil), .base (.tup (s1 _ _ e)), kitAny_cons (kit_ty (by decide +kernel) : PySem.W.kitOne K (.type "tuple") (.type "list") = some false)
        (fun _ => kitAny_cons (kit_ty (by decide +kernel) : PySem.W.kitOne K (.type "tuple") (.type "tuple") = some true) (by intro z; cases z) (fun _ => rfl)) (by intro z; cases z), k _ s1⟩
def spIsBit : Sp := fun vs H Q _ => ∃ b : Bt, vs = [bV b] ∧ Q (.bl true) H
theorem scIsBit : FnScope ["value"] ["value"] (defScope sIsBit) := ⟨rfl, rfl, rfl, by decide +kernel, rfl, by decide +kernel, by decide +kernel⟩
theorem ok_isBit {f : Addr} {fd : FuncData} (F : Fun K "is_bit" "is_bit" sIsBit f fd) (cb : Cal P w K mg base 2 "is_between" spBetw) : FnOk P w K mg base CX0 3 f fd ["value"] spIsBit := by
  refine F.ok scIsBit (fun vs H Q E h => ?_) (fun cdv A outer s H vs Q E hr h => ?_)
  · obtain ⟨b, rfl, _⟩ := h
    rfl
  · obtain ⟨b, rfl, k⟩ := h
    refine ⟨_, pss_one (ps_ret (pe_or (pe_cmpR op_isN (pv 0) pe_non (nomark _)) (pe_one (pe_c cb hr (by decide) (by rfl) (pa_cons (pv 0) (pa_cons pe_int (pa_cons pe_int pa_nil))))))), ?_⟩
    rcases b with _ | _ | _
    · exact ⟨_, rfl, rfl, _, rfl, iteT k⟩
    · exact ⟨_, rfl, rfl, _, rfl, iteF ⟨_, rfl, 0, 0, 1, rfl, k⟩⟩
    · exact ⟨_, rfl, rfl, _, rfl, iteF ⟨_, rfl, 1, 0, 1, rfl, k⟩⟩
end
end K15
set_option Elab.async false
set_option linter.all false
set_option maxRecDepth 100000
set_option maxHeartbeats 4000000
namespace K15
open PySem L2 UL
section
variable {P : Program} {w : World} {K : PySem.W.Frag} {mg : Str → Option Value} {base : Heap} {C D : Addr}
/-- w(row, width) -/
def spWCall (C D : Addr) : Sp := fun vs H Q _ => ∃ (v : V) (ts : List RT) (r : Addr) (xs : List Bt) (wi : Nat), vs = [v, .ref r, .int (wi : Nat)] ∧ WorkAt C D H v ts ∧ (∀ t ∈ ts, t.ok) ∧ ts.length ≤ 126 ∧ RowAt H r xs ∧ xs.length ≤ 200 ∧ 2 ≤ wi ∧ wi ≤ 128 ∧
  ∀ (l : Addr) (H' : Hp), H l = none → L2.Same H H' → H' l = some (.lst ((rowB wi ts xs).map bV)) → Q (.ref l) H'
theorem scWCall : FnScope ["self", "row", "width", "position", "bit"] ["self", "row", "width"] (defScope sWCall) := ⟨rfl, rfl, rfl, by decide +kernel, rfl, by decide +kernel, by decide +kernel⟩
theorem ixN_nat {n m : Nat} (h : m < n) : ixN n ((m : Nat) : Int) = some m := by
  unfold ixN
  rw [if_pos (by omega), if_pos (by omega)]
  simp
theorem same_over {H H1 : Hp} {L : Addr} {o : HO} (s : L2.Same H H1) (hL : H L = none) : L2.Same H (upd H1 L o) := fun b u e => by
  rw [upd_ne (ne_of_none e hL)]
  exact s b u e
theorem sign_w (s : Bool) (n : Int) : decide (V.str (FT.f s n).w = V.str "sign") = s := by
  cases s
  · show decide (V.str "zeros" = V.str "sign") = false
    decide +kernel
  · show decide (V.str "sign" = V.str "sign") = true
    decide +kernel
abbrev sFilled : Stmt := top 29
/-- filled(fills, row, width) -/
def spFilled (C : Addr) : Sp := fun vs H Q _ => ∃ (p : Addr) (as : List Addr) (ts : List RT) (r : Addr) (xs : List Bt) (wi : Nat), vs = [.ref p, .ref r, .int (wi : Nat)] ∧ H p = some (.tup (as.map V.ref)) ∧ FillsAt C H as ts ∧ (∀ t ∈ ts, t.ok) ∧ ts.length ≤ 126 ∧ RowAt H r xs ∧ xs.length ≤ 200 ∧ 2 ≤ wi ∧ wi ≤ 128 ∧
  ∀ (l : Addr) (H' : Hp), H l = none → L2.Same H H' → H' l = some (.lst ((rowB wi ts xs).map bV)) → Q (.ref l) H'
theorem FillsAt.rev {C : Addr} {H : Hp} {as : List Addr} {ts : List RT} (h : FillsAt C H as ts) : FillsAt C H as.reverse ts.reverse := by
  obtain ⟨h1, h2⟩ := h
  refine ⟨by rw [List.length_reverse, List.length_reverse, h1], fun i a t ea et => ?_⟩
  have l : i < as.length := by
    have := (List.getElem?_eq_some_iff.mp ea).1
    rwa [List.length_reverse] at this
  rw [List.getElem?_reverse l] at ea
  rw [List.getElem?_reverse (by omega), ← h1] at et
  exact h2 _ a t ea et
theorem scFilled : FnScope ["fills", "row", "width", "made", "done", "fill", "end"] ["fills", "row", "width"] (defScope sFilled) := ⟨rfl, rfl, rfl, by decide +kernel, rfl, by decide +kernel, by decide +kernel⟩
theorem ok_filled {f : Addr} {fd : FuncData} (F : Fun K "filled" "filled" sFilled f fd) (W : TxW K mg C D)
    (cW : CalP P w K mg base 1 C "word" (spGet C fun t => .str t.w)) (cE : CalP P w K mg base 1 C "extent" (spGet C FT.e)) : FnOk P w K mg base CX0 4 f fd ["fills", "row", "width"] (spFilled C) := by
  refine F.ok scFilled (fun vs H Q E h => ?_) (fun cdv A outer s H vs Q E hr h => ?_)
  · obtain ⟨p, as, ts, r, xs, wi, rfl, _⟩ := h
    rfl
  · obtain ⟨p, as, ts, r, xs, wi, rfl, h2, h3, ho, hl, hR, hx, w0, w1, k⟩ := h
    have T := W.T
    have B := T.bi
    refine ⟨_, pss_cons (ps_set (i := 3) scFilled.nd rfl (.inl rfl) (pe_callTy call_list_of (by rfl) W.li (by decide +kernel) (pa_cons (pv 1) pa_nil)))
      (pss_cons (ps_set (i := 4) scFilled.nd rfl (.inl rfl) (pv 2))
      (pss_cons (ps_for PassesOwn.never rfl (pi_tup (pe_revT (pv 0))) (pg_name (i := 5) scFilled.nd rfl (Or.inl rfl))
        (pss_cons (ps_set (i := 6) scFilled.nd rfl (.inl rfl) (pe_ifExp (pt_cmpR op_lt (pe_p (pv 5) cE hr (by decide) (by rfl)) (pe_callB call_len_seq (by rfl) B.len (by decide +kernel) (pa_cons (pv 3) pa_nil)) (nomark _)) (pe_p (pv 5) cE hr (by decide) (by rfl)) (pe_callB call_len_seq (by rfl) B.len (by decide +kernel) (pa_cons (pv 3) pa_nil))))
          (pss_one (ps_if (pt_cmpR op_gt (pv 6) (pv 4) (nomark _)) (pss_cons (ps_asg (pe_op op_rep (pe_lst (pa_cons (pe_ifExp (pt_cmpR op_eq (pe_p (pv 5) cW hr (by decide) (by rfl)) (pe_gl (by rfl) T.mgSIGN) (nomark _)) (pe_ix ix_list (pv 3) (pe_op op_sub (pv 2) pe_int) (fun _ _ => rfl)) pe_int) pa_nil)) (pe_op op_sub (pv 6) (pv 4))) (pg_slset (pv 3) (pv 4) (pv 6)))
              (pss_one (ps_set (i := 4) scFilled.nd rfl (.inl rfl) (pv 6)))) pss_nil))))
      (pss_one (ps_ret (pv 3))))), ?_⟩
    refine ⟨_, rfl, r, xs.map bV, rfl, hR.imp (fun e => SqL.of e) (fun e => SqT.of e), fun L hL => ?_⟩
    have s1 := same_new (o := .lst (xs.map bV)) hL
    refine ⟨_, rfl, _, rfl, p, _, rfl, SqT.of (s1 _ _ h2), fun q hq => ?_⟩
    have s2 := s1.trans (same_new (o := .tup (as.map V.ref).reverse) hq)
    refine ⟨q, rfl, ⟨_, SqT.of upd_same⟩, for_tup (K := K) (a := q) (xs := (as.map V.ref).reverse)
      (fun i σ H' => (∃ z u : Option V, σ = [some (.ref p), some (.ref r), some (.int (wi : Nat)), some (.ref L), some (.int (lastEnd wi xs.length (ts.reverse.take i).reverse : Nat)), z, u]) ∧ L2.Same H H' ∧
        H' q = some (.tup (as.map V.ref).reverse) ∧ H' L = some (.lst ((rowB wi (ts.reverse.take i).reverse xs).map bV)))
      ⟨⟨_, _, rfl⟩, s2, upd_same, same_new hq _ _ upd_same⟩ (fun i σ H' _ ⟨_, _, q4, _⟩ => SqT.of q4) (fun i x σ H4 hi ⟨⟨z1, u1, eσ⟩, s4, q4, d4⟩ => ?_) (fun σ H4 ⟨⟨z1, u1, eσ⟩, s4, q4, d4⟩ => ?_)⟩
    · subst eσ
      rw [← List.map_reverse, List.getElem?_map] at hi
      obtain ⟨fa, hfa, rfl⟩ := Option.map_eq_some_iff.mp hi
      have h3r := h3.rev
      have l1 : i < ts.reverse.length := by rw [← h3r.1]; exact (List.getElem?_eq_some_iff.mp hfa).1
      have ht : ts.reverse[i]? = some ts.reverse[i] := List.getElem?_eq_getElem l1
      have ft0 := h3r.2 i fa _ hfa ht
      have hok : (ts.reverse[i]).ok := ho _ (List.mem_reverse.mp (List.getElem_mem l1))
      have hb := back_more ht
      rw [hb]
      generalize ts.reverse[i] = t at ft0 hok
      generalize (ts.reverse.take i).reverse = us at d4
      obtain ⟨n0, n1⟩ := hok
      have ft := ft0.same s4
      obtain ⟨fa', dfa, efa, hfa'⟩ := id ft
      cases efa
      have hlen := rowB_len wi us xs
      have g := lastEnd_ge wi xs.length us
      have g2 := lastEnd_le (w := wi) (n := xs.length) (m := 200) (by omega) (by omega) us
      have hll : (((rowB wi us xs).map bV).length : Int) = ((xs.length : Nat) : Int) := by rw [List.length_map, hlen]
      refine ⟨_, rfl, fa, dfa, _, rfl, hfa', _, _, rfl, ft, _, rfl, L, _, rfl, .inl (SqL.of d4), _, _, rfl, rfl, _, rfl, ?_⟩
      dsimp only
      rw [hll]
      by_cases c : t.2 < ((xs.length : Nat) : Int)
      case' pos =>
        rw [decide_eq_true c]
        refine iteT ⟨_, rfl, fa, dfa, _, rfl, hfa', _, _, rfl, ft, ?_⟩
        obtain ⟨en, hen⟩ : ∃ en : Int, V.int en = (RT.ft t).e := ⟨t.2, rfl⟩
        rw [← hen]
        have hen' : en = t.2 := V.int.inj hen
        have hE : en = ((min t.2.toNat xs.length : Nat) : Int) := by omega
        clear hen' hen c
      case' neg =>
        rw [decide_eq_false c]
        refine iteF ⟨_, rfl, L, _, rfl, .inl (SqL.of d4), ?_⟩
        obtain ⟨en, hen⟩ : ∃ en : Int, en = (((rowB wi us xs).map bV).length : Int) := ⟨_, rfl⟩
        rw [← hen]
        have hen' : en = ((xs.length : Nat) : Int) := hen.trans hll
        have hE : en = ((min t.2.toNat xs.length : Nat) : Int) := by omega
        clear hen' hen c
      all_goals
        subst hE
        refine ⟨_, rfl, _, rfl, _, _, rfl, rfl, _, rfl, ?_⟩
        by_cases c : lastEnd wi xs.length us < min t.2.toNat xs.length
        · rw [decide_eq_true (show ((lastEnd wi xs.length us : Nat) : Int) < ((min t.2.toNat xs.length : Nat) : Int) by omega)]
          refine iteT ?_
          -- the turn's end, once the row is stored
          have fin : ∀ H6 : Hp, L2.Same H4 (fun b => if b = L then H4 L else H6 b) → H6 L = some (.lst ((rowB wi (t :: us) xs).map bV)) → H6 q = some (.tup (as.map V.ref).reverse) →
              (∃ z u : Option V, [some (.ref p), some (.ref r), some (.int (wi : Nat)), some (.ref L), some (.int (min t.2.toNat xs.length : Nat)), some (.ref fa), some (.int (min t.2.toNat xs.length : Nat))] = [some (.ref p), some (.ref r), some (.int (wi : Nat)), some (.ref L), some (.int (lastEnd wi xs.length (t :: us) : Nat)), z, u]) ∧ L2.Same H H6 ∧
              H6 q = some (.tup (as.map V.ref).reverse) ∧ H6 L = some (.lst ((rowB wi (t :: us) xs).map bV)) := fun H6 sm e6 q6 => by
            refine ⟨⟨_, _, by rw [lastEnd_more c]⟩, fun b o eb => ?_, q6, e6⟩
            have nb : b ≠ L := fun z => by
              rw [z, hL] at eb
              cases eb
            have := sm b o (s4 b o eb)
            dsimp only at this
            rwa [if_neg nb] at this
          have nqL : q ≠ L := ne_of q4 d4 (by intro z; cases z)
          -- the list of one bit, then as often as wanted, then stored
          have one : ∀ (p1 : Addr), H4 p1 = none → ∀ p2 : Addr, upd H4 p1 (.lst [bV (bitOf wi t.1 xs)]) p2 = none →
              gSlset (tVar 3) (tVar 4) (tVar 6) (.ref p2) [some (.ref p), some (.ref r), some (.int (wi : Nat)), some (.ref L), some (.int (lastEnd wi xs.length us : Nat)), some (.ref fa), some (.int (min t.2.toNat xs.length : Nat))]
                (upd (upd H4 p1 (.lst [bV (bitOf wi t.1 xs)])) p2 (.lst (List.replicate ((min t.2.toNat xs.length : Nat) - (lastEnd wi xs.length us : Nat) : Int).toNat [bV (bitOf wi t.1 xs)]).flatten)) fun σ H6 =>
                  ∃ x, σ[6]? = some (some x) ∧ (∃ z u : Option V, σ.set 4 (some x) = [some (.ref p), some (.ref r), some (.int (wi : Nat)), some (.ref L), some (.int (lastEnd wi xs.length (t :: us) : Nat)), z, u]) ∧ L2.Same H H6 ∧
                    H6 q = some (.tup (as.map V.ref).reverse) ∧ H6 L = some (.lst ((rowB wi (t :: us) xs).map bV)) := fun p1 hp1 p2 hp2 => by
            have nL1 : L ≠ p1 := ne_of_none d4 hp1
            have nq1 : q ≠ p1 := ne_of_none q4 hp1
            have dL1 : upd H4 p1 (.lst [bV (bitOf wi t.1 xs)]) L = some (.lst ((rowB wi us xs).map bV)) := by rw [upd_ne nL1]; exact d4
            have nL2 : L ≠ p2 := ne_of_none dL1 hp2
            have nq2 : q ≠ p2 := ne_of_none (show upd H4 p1 (.lst [bV (bitOf wi t.1 xs)]) q = _ by rw [upd_ne nq1]; exact q4) hp2
            have em : ((min t.2.toNat xs.length : Nat) - (lastEnd wi xs.length us : Nat) : Int).toNat = min t.2.toNat xs.length - lastEnd wi xs.length us := by omega
            have ef : (List.replicate (min t.2.toNat xs.length - lastEnd wi xs.length us) [bV (bitOf wi t.1 xs)]).flatten = (List.replicate (min t.2.toNat xs.length - lastEnd wi xs.length us) (bitOf wi t.1 xs)).map bV := by
              rw [List.map_replicate]
              simp [List.flatten_replicate_singleton]
            rw [em, ef]
            refine ⟨_, rfl, _, rfl, _, rfl, _, rfl, _, rfl, L, p2, _, _, _, _, rfl, rfl, rfl, rfl, (by rw [upd_ne nL2]; exact dL1), upd_same, nL2, by omega, by omega, ?_, ?_, _, rfl, ?_⟩
            · rw [List.length_map, hlen]
              omega
            · rw [List.length_map, List.length_map, List.length_replicate, hlen]
              exact line_ge (by omega)
            · refine fin _ (fun b o eb => ?_) ?_ ?_
              · dsimp only
                by_cases nb : b = L
                · subst nb
                  rw [if_pos rfl]
                  exact eb
                · rw [if_neg nb, upd_ne nb, upd_ne (fun z => by rw [z] at eb; rw [upd_ne (fun y => by rw [y, hp1] at eb; cases eb)] at hp2; rw [hp2] at eb; cases eb), upd_ne (ne_of_none eb hp1)]
                  exact eb
              · rw [rowB_more (by omega) c, upd_same, List.map_append, List.map_append, List.map_take, List.map_drop]
                rfl
              · rw [upd_ne nqL, upd_ne nq2, upd_ne nq1]
                exact q4
          refine ⟨_, rfl, fa, dfa, _, rfl, hfa', _, _, rfl, ft, rfl, _, rfl, ?_⟩
          rw [show decide (V.str (RT.ft t).w = V.str "sign") = t.1 from sign_w t.1 t.2]
          cases hs : t.1 with
          | true =>
            rw [hs] at one
            have hb2 : bitOf wi true xs = xs[wi - 1] := by
              show (xs[wi - 1]?).getD none = _
              rw [List.getElem?_eq_getElem (by omega)]
              rfl
            have hg : ((rowB wi us xs).map bV)[wi - 1]? = some (bV (bitOf wi true xs)) := by
              rw [List.getElem?_map, rowB_get (by omega), List.getElem?_eq_getElem (show wi - 1 < xs.length by omega)]
              show some (bV (if wi ≤ wi - 1 then _ else xs[wi - 1])) = _
              rw [if_neg (by omega), hb2]
            have e1 : ((wi : Nat) : Int) - 1 = ((wi - 1 : Nat) : Int) := by omega
            refine iteT ⟨_, rfl, _, rfl, _, _, rfl, rfl, L, _, _, bV (bitOf wi true xs), rfl, rfl, SqL.of d4, ?_, (by show 1 ≤ sizeLine; decide), fun p1 hp1 => ⟨_, rfl, _, rfl, _, _, rfl, rfl, p1, _, _, rfl, rfl, upd_same, by omega, by omega, ?_, fun p2 hp2 => one p1 hp1 p2 hp2⟩⟩
            · rw [e1]
              exact atI_nat hg
            · exact line_ge (by show 1 * _ ≤ _; omega)
          | false =>
            rw [hs] at one
            refine iteF ⟨(by show 1 ≤ sizeLine; decide), fun p1 hp1 => ⟨_, rfl, _, rfl, _, _, rfl, rfl, p1, _, _, rfl, rfl, upd_same, by omega, by omega, ?_, fun p2 hp2 => one p1 hp1 p2 hp2⟩⟩
            exact line_ge (by show 1 * _ ≤ _; omega)
        · rw [decide_eq_false (show ¬ ((lastEnd wi xs.length us : Nat) : Int) < ((min t.2.toNat xs.length : Nat) : Int) by omega)]
          refine iteF ⟨⟨_, _, by rw [lastEnd_keep (by omega)]; rfl⟩, s4, q4, ?_⟩
          rw [rowB_keep (by omega) (by omega)]
          exact d4
    · subst eσ
      rw [List.length_reverse, List.length_map, h3.1, back_all] at d4
      have hLn : H L = none := hL
      exact ⟨_, rfl, k L H4 hLn s4 d4⟩
theorem ok_wcall {f : Addr} {fd : FuncData} (F : Fun K "__call__" "Work.__call__" sWCall f fd) (W : TxW K mg C D) (cl : Cal P w K mg base 1 "is_list" spIsList) (cbit : Cal P w K mg base 3 "is_bit" spIsBit) (cb : Cal P w K mg base 2 "is_between" spBetw)
    (cf : Cal P w K mg base 4 "filled" (spFilled C)) : FnOk P w K mg base CX0 5 f fd ["self", "row", "width"] (spWCall C D) := by
  refine F.ok scWCall (fun vs H Q E h => ?_) (fun cdv A outer s H vs Q E hr h => ?_)
  · obtain ⟨v, ts, r, xs, wi, rfl, _⟩ := h
    rfl
  · obtain ⟨v, ts, r, xs, wi, rfl, ⟨a, dx, p, as, rfl, h1, h2, h3⟩, ho, hl, hR, hx, w0, w1, k⟩ := h
    have T := W.T
    have B := T.bi
    refine ⟨_, pss_cons (ps_if (pt_not (pt_val (pe_c cl hr (by decide) (by rfl) (pa_cons (pv 1) pa_nil)))) (pss_one ps_never) pss_nil)
      (pss_cons (ps_for PassesOwn.never rfl (pi_enumT (by rfl) W.en (pa_cons (pv 1) pa_nil)) (pg_tup rfl (pgs_cons (pg_name (i := 3) scWCall.nd rfl (.inl rfl)) (pgs_cons (pg_name (i := 4) scWCall.nd rfl (.inl rfl)) pgs_nil)))
        (pss_one (ps_if (pt_not (pt_val (pe_c cbit hr (by decide) (by rfl) (pa_cons (pv 4) pa_nil)))) (pss_one ps_never) pss_nil)))
      (pss_cons (ps_if (pt_not (pt_val (pe_c cb hr (by decide) (by rfl) (pa_cons (pv 2) (pa_cons (pe_gl (by rfl) T.mgLW) (pa_cons (pe_gl (by rfl) T.mgMB) pa_nil)))))) (pss_one ps_never) pss_nil)
      (pss_one (ps_ret (pe_c cf hr (by decide) (by rfl) (pa_cons (pe_fld (pv 0) rfl) (pa_cons (pv 1) (pa_cons (pv 2) pa_nil)))))))), ?_⟩
    -- the row is one of bits
    refine ⟨_, rfl, r, xs, rfl, hR, fun H1 s1 => ⟨_, rfl, iteF ?_⟩⟩
    refine ⟨_, rfl, r, xs.map bV, rfl, for_enumB (K := K) (a := r) (xs := xs.map bV) (fun _ σ H' => (∃ x y : Option V, σ = [some (.ref a), some (.ref r), some (.int (wi : Nat)), x, y]) ∧ L2.Same H H') ⟨⟨_, _, rfl⟩, s1⟩
      (hR.imp (fun e _ _ _ ⟨_, s2⟩ => SqL.of (s2 _ _ e)) fun e _ _ _ ⟨_, s2⟩ => SqT.of (s2 _ _ e)) (fun i y σ H2 T1 hi ⟨⟨x0, y0, eσ⟩, s2⟩ hT => ?_) (fun σ H2 ⟨⟨x0, y0, eσ⟩, s2⟩ => ?_)⟩
    · subst eσ
      rw [List.getElem?_map] at hi
      obtain ⟨b, hb, rfl⟩ := Option.map_eq_some_iff.mp hi
      have s3 := s2.trans (same_new (o := .tup [.int ((i : Nat) : Int), bV b]) hT)
      exact ⟨T1, _, rfl, SqT.of upd_same, rfl, _, _, rfl, _, _, rfl, rfl, _, rfl, b, rfl, _, rfl, iteF ⟨⟨_, _, rfl⟩, s3⟩⟩
    · subst eσ
      refine ⟨_, rfl, _, _, _, rfl, _, rfl, ?_⟩
      rw [decide_eq_true (show (2 : Int) ≤ ((wi : Nat) : Int) ∧ ((wi : Nat) : Int) ≤ 128 from ⟨by omega, by omega⟩)]
      refine iteF ⟨_, rfl, a, D, dx, _, _, rfl, s2 _ _ h1, W.isi.cl, W.nF, wf_at p, _, rfl, _, rfl, p, as, ts, r, xs, wi, rfl, s2 _ _ h2, h3.same s2, ho, hl, hR.same s2, hx, w0, w1, fun l H' hl' s' h' => ?_⟩
      refine k l H' ?_ (s2.trans s') h'
      cases q : H l with
      | none => rfl
      | some o =>
        have := s2 _ _ q
        rw [hl'] at this
        cases this
end
end K15
set_option Elab.async false
set_option linter.all false
set_option maxRecDepth 100000
set_option maxHeartbeats 4000000
namespace K15
open PySem L2 UL
abbrev sWPlain : Stmt := inClass (top 27) 2
abbrev sPlF : Stmt := top 28
abbrev sWLike : Stmt := inClass (top 27) 3
theorem nil_snoc {α : Type} (l : List α) : l = [] ∨ ∃ a x, l = a ++ [x] := by
  rcases List.eq_nil_or_concat l with h | ⟨a, x, h⟩
  · exact .inl h
  · exact .inr ⟨a, x, by rw [h, List.concat_eq_append]⟩
theorem set_last {α : Type} : ∀ (xs : List α) (x y : α), (xs ++ [x]).set xs.length y = xs ++ [y]
  | [], _, _ => rfl
  | a :: xs, x, y => by
    show a :: ((xs ++ [x]).set xs.length y) = a :: (xs ++ [y])
    rw [set_last xs x y]
/-- one turn of plain: ks is kept, its last one sets the least bits -/
def plS (ks : List RT) (t : RT) : List RT := match ks.getLast? with
  | none => ks ++ [t]
  | some k => if t.2 ≤ k.2 then ks else if t.1 = k.1 then ks.dropLast ++ [t] else ks ++ [t]
def plainR (ts : List RT) : List RT := (ts.reverse.foldl plS []).reverse
theorem plS_last {ks : List RT} {k t : RT} : plS (ks ++ [k]) t = if t.2 ≤ k.2 then ks ++ [k] else if t.1 = k.1 then ks ++ [t] else ks ++ [k] ++ [t] := by
  unfold plS
  rw [List.getLast?_concat, List.dropLast_concat]
theorem plS_len (ks : List RT) (t : RT) : (plS ks t).length ≤ ks.length + 1 := by
  unfold plS
  cases h : ks.getLast? with
  | none => simp
  | some k =>
    dsimp only
    by_cases c : t.2 ≤ k.2
    · rw [if_pos c]; omega
    · rw [if_neg c]
      by_cases d : t.1 = k.1
      · rw [if_pos d, List.length_append, List.length_dropLast]
        simp
      · rw [if_neg d]; simp
theorem plF_len : ∀ (us ks : List RT), (us.foldl plS ks).length ≤ ks.length + us.length
  | [], ks => by simp
  | t :: us, ks => by
    have h1 := plF_len us (plS ks t)
    have h2 := plS_len ks t
    simp only [List.foldl_cons, List.length_cons]
    omega
theorem ixN_last {n : Nat} : ixN (n + 1) (-1) = some n := by
  unfold ixN
  rw [if_neg (by decide), if_pos (by omega)]
  congr 1
  omega
theorem word_eq (t u : RT) : decide (V.str (RT.ft t).w = V.str (RT.ft u).w) = decide (t.1 = u.1) := by
  obtain ⟨s, n⟩ := t
  obtain ⟨s', n'⟩ := u
  cases s <;> cases s'
  · show decide (V.str "zeros" = V.str "zeros") = decide (false = false)
    decide +kernel
  · show decide (V.str "zeros" = V.str "sign") = decide (false = true)
    decide +kernel
  · show decide (V.str "sign" = V.str "zeros") = decide (true = false)
    decide +kernel
  · show decide (V.str "sign" = V.str "sign") = decide (true = true)
    decide +kernel
section
variable {P : Program} {w : World} {K : PySem.W.Frag} {mg : Str → Option Value} {base : Heap} {C D : Addr}
/-- plain_fills(fills) of a tuple -/
def spPF (C : Addr) : Sp := fun vs H Q _ => ∃ (p : Addr) (as : List Addr) (ts : List RT), vs = [.ref p] ∧ H p = some (.tup (as.map V.ref)) ∧ FillsAt C H as ts ∧ ts.length ≤ 126 ∧ ∀ (l : Addr) (bs : List Addr) (H' : Hp), L2.Same H H' → H' l = some (.lst (bs.map V.ref)) → FillsAt C H' bs (plainR ts) → Q (.ref l) H'
theorem scPlF : FnScope ["fills", "kept", "fill"] ["fills"] (defScope sPlF) := ⟨rfl, rfl, rfl, by decide +kernel, rfl, by decide +kernel, by decide +kernel⟩
theorem ok_PF {f : Addr} {fd : FuncData} (F : Fun K "plain_fills" "plain_fills" sPlF f fd) (W : TxW K mg C D) (cW : CalP P w K mg base 1 C "word" (spGet C fun t => .str t.w)) (cE : CalP P w K mg base 1 C "extent" (spGet C FT.e)) :
    FnOk P w K mg base CX0 4 f fd ["fills"] (spPF C) := by
  refine F.ok scPlF (fun vs H Q E h => ?_) (fun cdv A outer s H vs Q E hr h => ?_)
  · obtain ⟨p, as, ts, rfl, _⟩ := h
    rfl
  · obtain ⟨p, as, ts, rfl, h2, h3, hl, k⟩ := h
    refine ⟨_, pss_cons (ps_set (i := 1) scPlF.nd rfl (.inl rfl) (pe_lst pa_nil))
      (pss_cons (ps_for PassesOwn.never rfl (pi_tup (pe_revT (pv 0))) (pg_name (i := 2) scPlF.nd rfl (.inl rfl))
        (pss_cons (ps_if (PW.pt (pw_and (pt_truth (pv 1) (fun _ => rfl)) (pw_and1 (pt_cmpR op_le (pe_p (pv 2) cE hr (by decide) (by rfl)) (pe_p (pe_ix ix_list (pv 1) (pe_un un_neg pe_int) (fun _ _ => rfl)) cE hr (by decide) (by rfl)) (nomark _))))) (pss_one ps_continue) pss_nil)
        (pss_one (ps_if (PW.pt (pw_and (pt_truth (pv 1) (fun _ => rfl)) (pw_and1 (pt_cmpR op_eq (pe_p (pv 2) cW hr (by decide) (by rfl)) (pe_p (pe_ix ix_list (pv 1) (pe_un un_neg pe_int) (fun _ _ => rfl)) cW hr (by decide) (by rfl)) (nomark _)))))
          (pss_one (ps_asg (pv 2) (pg_sub (pv 1) (pe_un un_neg pe_int) set_list)))
          (pss_one (ps_expr (pe_bm PySem.F.plainAttrs_list PySem.F.slot_list_append PySem.F.type_list_append mt_append (pv 1) (pa_cons (pv 2) pa_nil))))))))
      (pss_one (ps_ret (pe_revL (pv 1))))), ?_⟩
    refine ⟨(by show 0 ≤ sizeLine; exact Nat.zero_le _), fun L hL => ?_⟩
    have s1 := same_new (o := .lst []) hL
    refine ⟨_, rfl, p, _, rfl, SqT.of (s1 _ _ h2), fun q hq => ?_⟩
    rw [← List.map_reverse]
    have s2 := s1.trans (same_new (o := .tup (as.reverse.map V.ref)) hq)
    have d2 := same_new (o := .tup (as.reverse.map V.ref)) hq _ _ (upd_same (H := H) (a := L) (o := .lst []))
    have q2 : upd (upd H L (.lst [])) q (.tup (as.reverse.map V.ref)) q = some (.tup (as.reverse.map V.ref)) := upd_same
    generalize upd (upd H L (.lst [])) q (.tup (as.reverse.map V.ref)) = H2 at s2 d2 q2 ⊢
    have nLq : q ≠ L := fun e => by
      rw [e, d2] at q2
      cases q2
    have hRv := h3.rev
    refine ⟨q, rfl, ⟨_, SqT.of q2⟩, for_tup (K := K) (a := q) (xs := as.reverse.map V.ref) (fun i σ H' => (∃ x : Option V, σ = [some (.ref p), some (.ref L), x]) ∧ L2.Same H H' ∧ H' q = some (.tup (as.reverse.map V.ref)) ∧ ∃ bs : List Addr, H' L = some (.lst (bs.map V.ref)) ∧ FillsAt C H' bs ((ts.reverse.take i).foldl plS []))
      ⟨⟨_, rfl⟩, s2, q2, [], d2, FillsAt.nil⟩ (fun i σ H' _ ⟨_, _, q3, _⟩ => SqT.of q3) (fun i x σ H3 hi ⟨⟨x2, eσ⟩, s3, q3, bs, d3, hB⟩ => ?_) (fun σ H3 ⟨⟨x2, eσ⟩, s3, q3, bs, d3, hB⟩ => ?_)⟩
    · subst eσ
      rw [List.getElem?_map] at hi
      obtain ⟨fa, hfa, rfl⟩ := Option.map_eq_some_iff.mp hi
      have l1 : i < ts.reverse.length := by rw [← hRv.1]; exact (List.getElem?_eq_some_iff.mp hfa).1
      have ft := (hRv.2 i fa _ hfa (List.getElem?_eq_getElem l1)).same s3
      have htk : ts.reverse.take (i + 1) = ts.reverse.take i ++ [ts.reverse[i]] := by rw [List.take_add_one, List.getElem?_eq_getElem l1]; rfl
      rw [htk, List.foldl_append]
      have kl := plF_len (ts.reverse.take i) []
      generalize (ts.reverse.take i).foldl plS [] = ks at hB kl ⊢
      generalize ts.reverse[i] = t at ft ⊢
      have kl2 : ks.length ≤ 126 := by
        rw [List.length_take, List.length_reverse] at kl
        simp only [List.length_nil] at kl
        omega
      obtain ⟨fa', dfa, efa, hfa'⟩ := id ft
      cases efa
      show tSeq _ _ _ _ _
      have up : ∀ {o : HO} {b : Addr} {u : HO}, b ≠ L → H3 b = some u → upd H3 L o b = some u := fun n e => by rw [upd_ne n]; exact e
      have fin : ∀ (cs : List Addr) (us : List RT) (o : HO), FillsAt C H3 cs us → FillsAt C (upd H3 L o) cs us := fun cs us o hF => ⟨hF.1, fun j b u e1 e2 => by
        obtain ⟨b', db, eb, hb⟩ := hF.2 j b u e1 e2
        cases eb
        exact ⟨b, db, rfl, up (fun z => by rw [z, d3] at hb; cases hb) hb⟩⟩
      rcases nil_snoc bs with rfl | ⟨cs, c, rfl⟩
      · have hks : ks = [] := List.eq_nil_of_length_eq_zero hB.1.symm
        subst hks
        refine ⟨_, rfl, false, .inl ⟨_, SqL.of d3, rfl⟩, iteF (iteF ?_)⟩
        refine ⟨_, rfl, false, .inl ⟨_, SqL.of d3, rfl⟩, iteF (iteF ?_)⟩
        refine ⟨_, rfl, .inl ⟨rfl, _, SqL.of d3⟩, _, rfl, L, _, _, rfl, rfl, d3, line_gt (by decide), ?_⟩
        exact ⟨⟨_, rfl⟩, same_over s3 hL, up nLq q3, [fa], upd_same, fin _ _ _ (FillsAt.one ft)⟩
      · have hne : ks ≠ [] := fun z => by
          have := hB.1
          rw [z] at this
          simp at this
        obtain ⟨us, k0, rfl⟩ : ∃ us k0, ks = us ++ [k0] := by
          rcases nil_snoc ks with z | ⟨us, k0, z⟩
          · exact absurd z hne
          · exact ⟨us, k0, z⟩
        have hcl : cs.length = us.length := by
          have := hB.1
          rw [List.length_append, List.length_append] at this
          simp at this
          exact this
        have fc : FillAt C H3 (.ref c) (RT.ft k0) := hB.2 cs.length c k0 (by simp) (by rw [hcl]; simp)
        obtain ⟨c', dc, ec, hc⟩ := id fc
        cases ec
        have hC : FillsAt C H3 cs us := ⟨hcl, fun j b u e1 e2 => hB.2 j b u (by rw [List.getElem?_append_left (List.getElem?_eq_some_iff.mp e1).1]; exact e1) (by rw [List.getElem?_append_left (List.getElem?_eq_some_iff.mp e2).1]; exact e2)⟩
        rw [List.map_append] at d3
        have at1 : atI (cs.map V.ref ++ [V.ref c]) (-1) = some (V.ref c) := atI_last _ _
        have d3' : H3 L = some (.lst (cs.map V.ref ++ [V.ref c])) := d3
        have tru : (true : Bool) = !(cs.map V.ref ++ [V.ref c]).isEmpty := by simp
        have eS : List.foldl plS (us ++ [k0]) [t] = if t.2 ≤ k0.2 then us ++ [k0] else if t.1 = k0.1 then us ++ [t] else us ++ [k0] ++ [t] := plS_last
        rw [eS]
        refine ⟨_, rfl, true, .inl ⟨_, SqL.of d3', tru⟩, iteT ⟨_, rfl, fa, dfa, _, rfl, hfa', _, _, rfl, ft, _, rfl, 1, rfl, L, _, _, V.ref c, rfl, rfl, SqL.of d3', at1, c, dc, _, rfl, hc, _, _, rfl, fc, t.2, k0.2, rfl, rfl, _, rfl, ?_⟩⟩
        by_cases c1 : t.2 ≤ k0.2
        · rw [decide_eq_true c1, if_pos c1]
          exact iteT ⟨⟨_, rfl⟩, s3, q3, cs ++ [c], by rw [List.map_append]; exact d3', hB⟩
        · rw [decide_eq_false c1, if_neg c1]
          refine iteF ⟨_, rfl, true, .inl ⟨_, SqL.of d3', tru⟩, iteT ⟨_, rfl, fa, dfa, _, rfl, hfa', _, _, rfl, ft, _, rfl, 1, rfl, L, _, _, V.ref c, rfl, rfl, SqL.of d3', at1, c, dc, _, rfl, hc, _, _, rfl, fc, rfl, _, rfl, ?_⟩⟩
          rw [word_eq]
          by_cases c2 : t.1 = k0.1
          · rw [decide_eq_true c2, if_pos c2]
            refine iteT ⟨_, rfl, _, rfl, 1, rfl, L, _, _, cs.length, rfl, rfl, d3', by rw [List.length_append, List.length_map]; exact ixN_last, ?_⟩
            refine ⟨⟨_, rfl⟩, same_over s3 hL, up nLq q3, cs ++ [fa], ?_, fin _ _ _ (hC.app (FillsAt.one ft))⟩
            have e5 : (cs.map V.ref ++ [V.ref c]).set cs.length (V.ref fa) = (cs ++ [fa]).map V.ref := by
              have e6 := set_last (cs.map V.ref) (V.ref c) (V.ref fa)
              rw [List.length_map] at e6
              rw [e6, List.map_append]
              rfl
            rw [e5]
            exact upd_same
          · rw [decide_eq_false c2, if_neg c2]
            refine iteF ⟨_, rfl, .inl ⟨rfl, _, SqL.of d3'⟩, _, rfl, L, _, _, rfl, rfl, d3', line_gt (by rw [List.length_append, List.length_map, hcl]; rw [List.length_append] at kl2; simp at kl2 ⊢; omega), ?_⟩
            refine ⟨⟨_, rfl⟩, same_over s3 hL, up nLq q3, cs ++ [c] ++ [fa], ?_, fin _ _ _ (hB.app (FillsAt.one ft))⟩
            rw [List.map_append, List.map_append]
            exact upd_same
    · subst eσ
      rw [List.length_map, hRv.1, List.take_length] at hB
      refine ⟨_, rfl, L, _, rfl, SqL.of d3, fun r hr' => ?_⟩
      rw [← List.map_reverse]
      have s4 := same_new (o := .lst (bs.reverse.map V.ref)) hr'
      exact k r _ _ (s3.trans s4) upd_same (hB.rev.same s4)
theorem plF_more : ∀ (us ks : List RT), (us.foldl plS ks).length = ks.length + us.length → us.foldl plS ks = ks ++ us
  | [], ks, _ => by simp
  | t :: us, ks, h => by
    have h1 := plF_len us (plS ks t)
    have h2 := plS_len ks t
    simp only [List.foldl_cons, List.length_cons] at h ⊢
    have e : plS ks t = ks ++ [t] := by
      unfold plS
      cases hk : ks.getLast? with
      | none => rfl
      | some k =>
        dsimp only
        have h3 : (plS ks t).length = ks.length + 1 := by omega
        unfold plS at h3
        rw [hk] at h3
        dsimp only at h3
        by_cases c : t.2 ≤ k.2
        · rw [if_pos c] at h3
          omega
        · rw [if_neg c] at h3 ⊢
          by_cases d : t.1 = k.1
          · rw [if_pos d, List.length_append, List.length_dropLast] at h3
            simp at h3
            have : ks ≠ [] := fun z => by rw [z] at hk; cases hk
            have := List.length_pos_iff.mpr this
            omega
          · rw [if_neg d]
    rw [plF_more us (plS ks t) (by rw [e, List.length_append]; rw [e] at h; simp at h ⊢; omega), e, List.append_assoc]
    rfl
theorem plainR_len (ts : List RT) : (plainR ts).length ≤ ts.length := by
  have := plF_len ts.reverse []
  unfold plainR
  rw [List.length_reverse]
  simpa using this
theorem plainR_whole {ts : List RT} (h : (plainR ts).length = ts.length) : plainR ts = ts := by
  unfold plainR at h ⊢
  rw [List.length_reverse] at h
  rw [plF_more ts.reverse [] (by simpa using h)]
  simp
/-- w.plain() -/
def spPlain (C D : Addr) : Sp := fun vs H Q _ => ∃ (v : V) (ts : List RT), vs = [v] ∧ WorkAt C D H v ts ∧ ts.length ≤ 126 ∧ ∀ (u : V) (H' : Hp), L2.Same H H' → WorkAt C D H' u (plainR ts) → Q u H'
theorem scWPlain : FnScope ["self", "fills"] ["self"] (defScope sWPlain) := ⟨rfl, rfl, rfl, by decide +kernel, rfl, by decide +kernel, by decide +kernel⟩
theorem ok_wplain {f : Addr} {fd : FuncData} (F : Fun K "plain" "Work.plain" sWPlain f fd) (W : TxW K mg C D) (cM : MakR P w K mg base 3 "Work" D (spWMake C D)) (cP : Cal P w K mg base 4 "plain_fills" (spPF C)) :
    FnOk P w K mg base CX0 5 f fd ["self"] (spPlain C D) := by
  refine F.ok scWPlain (fun vs H Q E h => ?_) (fun cdv A outer s H vs Q E hr h => ?_)
  · obtain ⟨v, ts, rfl, _⟩ := h
    rfl
  · obtain ⟨v, ts, rfl, ⟨a, dx, p, as, rfl, h1, h2, h3⟩, hl, k⟩ := h
    refine ⟨_, pss_cons (ps_set (i := 1) scWPlain.nd rfl (.inl rfl) (pe_c cP hr (by decide) (by rfl) (pa_cons (pe_fld (pv 0) rfl) pa_nil)))
      (pss_cons (ps_if (pt_cmpR op_eq (pe_callB call_len_seq (by rfl) W.T.bi.len (by decide +kernel) (pa_cons (pv 1) pa_nil)) (pe_callB call_len_seq (by rfl) W.T.bi.len (by decide +kernel) (pa_cons (pe_fld (pv 0) rfl) pa_nil)) (nomark _)) (pss_one (ps_ret (pv 0))) pss_nil)
      (pss_one (ps_ret (pe_nRS cM hr (by decide) (by rfl) (pv 1))))), ?_⟩
    refine ⟨_, rfl, a, D, dx, _, _, rfl, h1, W.isi.cl, W.nF, wf_at p, p, as, ts, rfl, h2, h3, hl, fun l bs H1 s1 e1 f1 => ?_⟩
    refine ⟨_, rfl, l, _, rfl, .inl (SqL.of e1), _, rfl, a, D, dx, _, _, rfl, s1 _ _ h1, W.isi.cl, W.nF, wf_at p, p, _, rfl, .inr (SqT.of (s1 _ _ h2)), rfl, _, rfl, ?_⟩
    rw [List.length_map, List.length_map, f1.1, h3.1]
    cases c : decide (V.int (((plainR ts).length : Nat) : Int) = V.int ((ts.length : Nat) : Int)) with
    | true =>
      have e : plainR ts = ts := plainR_whole (by have := V.int.inj (of_decide_eq_true c); omega)
      refine iteT ⟨_, rfl, k _ _ s1 ?_⟩
      rw [e]
      exact ⟨a, dx, p, as, rfl, s1 _ _ h1, s1 _ _ h2, h3.same s1⟩
    | false =>
      refine iteF ⟨_, rfl, l, _, rfl, .inr (SqL.of e1), wmade rfl f1 (by have := plainR_len ts; omega) fun y H5 s5 hy => k y H5 (s1.trans s5) hy⟩
end
end K15
set_option Elab.async false
set_option linter.all false
set_option maxRecDepth 100000
set_option maxHeartbeats 4000000
namespace K15
open PySem L2 UL
theorem self_first {K : PySem.W.Frag} {C : Addr} : PySem.W.notFirst K C (.ref C) = true := by simp [PySem.W.notFirst]
theorem wf_no {T : Addr} {x : Str} (h : (x == ("_fills" : Str)) = false) : (wf T).lookup x = none := by
  simp only [wf, List.lookup_cons, h, List.lookup_nil]
section
variable {P : Program} {w : World} {K : PySem.W.Frag} {mg : Str → Option Value} {base : Heap} {C D : Addr}
/-- w.is_like(u) -/
def spLike (C D : Addr) : Sp := fun vs H Q _ => ∃ (v u : V) (ts us : List RT), vs = [v, u] ∧ WorkAt C D H v ts ∧ WorkAt C D H u us ∧ ts.length ≤ 126 ∧ us.length ≤ 126 ∧ ∀ H' : Hp, L2.Same H H' → Q (.bl (decide (plainR ts = plainR us))) H'
theorem scWLike : FnScope ["self", "other"] ["self", "other"] (defScope sWLike) := ⟨rfl, rfl, rfl, by decide +kernel, rfl, by decide +kernel, by decide +kernel⟩
theorem ok_wlike {f : Addr} {fd : FuncData} (F : Fun K "is_like" "Work.is_like" sWLike f fd) (W : TxW K mg C D) (cPl : CalM P w K mg base 5 D "plain" (spPlain C D)) (cEq : CalS P w K mg base 3 D "__eq__" (spWEq K C D)) : FnOk P w K mg base CX0 6 f fd ["self", "other"] (spLike C D) := by
  refine F.ok scWLike (fun vs H Q E h => ?_) (fun cdv A outer s H vs Q E hr h => ?_)
  · obtain ⟨v, u, ts, us, rfl, _⟩ := h
    rfl
  · obtain ⟨v, u, ts, us, rfl, hv, hu, hl, hl2, k⟩ := h
    refine ⟨_, pss_cons (ps_if (pt_not (pt_val (pe_callB call_isi (by rfl) W.T.bi.isinstance (by decide +kernel) (pa_cons (pv 1) (pa_cons (pe_glob (v := .ref D) (by rfl) W.mgW rfl) pa_nil))))) (pss_one ps_never) pss_nil)
      (pss_one (ps_ret (pe_cmpR (op_eqS cEq hr (by decide)) (pe_m0 (pv 0) cPl hr (by decide)) (pe_m0 (pv 1) cPl hr (by decide)) (nomark _)))), ?_⟩
    obtain ⟨a, dx, T, as, rfl, v1, v2, v3⟩ := id hv
    obtain ⟨b, dy, T2, bs, rfl, u1, u2, u3⟩ := id hu
    refine ⟨_, rfl, _, _, _, _, true, rfl, .own D, W.isi.ty u1, (by simp [PySem.W.kitOne]), _, rfl, iteF ?_⟩
    refine ⟨_, rfl, a, dx, _, rfl, v1, wf_no (by decide +kernel), .ref a, ts, rfl, hv, hl, fun y H1 s1 hy => ⟨_, rfl, b, dy, _, rfl, s1 _ _ u1, wf_no (by decide +kernel), .ref b, us, rfl, hu.same s1, hl2, fun z H2 s2 hz => ?_⟩⟩
    have hy2 := hy.same s2
    obtain ⟨c, dc, T3, cs, rfl, c1, c2, c3⟩ := id hy2
    obtain ⟨d, dd, T4, ds, rfl, d1, d2, d3⟩ := id hz
    exact ⟨c, dc, _, .ref D, rfl, c1, W.isi.ty d1, self_first, .ref c, .ref d, plainR ts, rfl, hy2, .inl ⟨plainR us, hz, fun H3 s3 => k H3 ((s1.trans s2).trans s3)⟩⟩
end
end K15
set_option Elab.async false
set_option linter.all false
set_option maxRecDepth 100000
set_option maxHeartbeats 4000000
namespace K15
open PySem L2 UL
abbrev sIsInt : Stmt := top 2
abbrev sIsCount : Stmt := top 3
abbrev sIsOneOf : Stmt := top 5
abbrev sRI : Stmt := inClass (top 38) 0
abbrev sRB : Stmt := inClass (top 38) 3
abbrev sSI : Stmt := inClass (top 39) 0
abbrev sSM : Stmt := inClass (top 39) 2
abbrev sSB : Stmt := inClass (top 39) 4
abbrev sNI : Stmt := inClass (top 40) 0
abbrev sNM : Stmt := inClass (top 40) 2
abbrev sNB : Stmt := inClass (top 40) 3
/-- what the text has of places: three classes and some constants -/
structure TxP (K : PySem.W.Frag) (mg : Str → Option Value) (R S N gA aA : Addr) : Prop where
  B : Bi mg
  iR : CIsi K R
  iS : CIsi K S
  iN : CIsi K N
  r1 : NoAttr K R "_group"
  r2 : NoAttr K R "_number"
  r3 : NoAttr K R "_code"
  gS : ∃ u, mg "GROUP_STRIDE" = some u ∧ RelV (.int 8) u
  s1 : NoAttr K S "_offset"
  s2 : NoAttr K S "_many"
  n1 : NoAttr K N "_align"
  n2 : NoAttr K N "_many"
  mgR : mg "Register" = some (.ref R)
  mgS : mg "Slots" = some (.ref S)
  mgN : mg "Next" = some (.ref N)
  gG : mg "GROUPS" = some (.ref gA)
  hG : ∀ H : Hp, SqT K H gA [.str "whole", .str "float"]
  kG : ∃ o : Obj, K.lookup gA = some o ∧ o.cls = .type "tuple" ∧ o.dict = none
  gA_ : mg "ALIGNMENTS" = some (.ref aA)
  hA : ∀ H : Hp, SqT K H aA [.int 1, .int 2, .int 4, .int 8, .int 16]
  gL : ∃ u, mg "LAST_NUMBER" = some u ∧ RelV (.int 7) u
  gB : ∃ u, mg "REGISTER_BITS" = some u ∧ RelV (.int 64) u
  gM : ∃ u, mg "MOST_BYTES" = some u ∧ RelV (.int 16) u
/-- an instance of two fields -/
def two (f g : Str) (x y : V) : List (Str × V) := [(f, x), (g, y)]
section
variable {P : Program} {w : World} {K : PySem.W.Frag} {mg : Str → Option Value} {base : Heap} {R S N gA aA : Addr}
/-- is_integer of an int -/
def spIsInt : Sp := fun vs H Q _ => ∃ i : Int, vs = [.int i] ∧ Q (.bl true) H
theorem scIsInt : FnScope ["value"] ["value"] (defScope sIsInt) := ⟨rfl, rfl, rfl, by decide +kernel, rfl, by decide +kernel, by decide +kernel⟩
theorem ok_isInt {f : Addr} {fd : FuncData} (F : Fun K "is_integer" "is_integer" sIsInt f fd) (B : Bi mg) : FnOk P w K mg base CX0 1 f fd ["value"] spIsInt := by
  refine F.ok scIsInt (fun vs H Q E h => ?_) (fun cdv A outer s H vs Q E hr h => ?_)
  · obtain ⟨i, rfl, _⟩ := h
    rfl
  · obtain ⟨i, rfl, k⟩ := h
    refine ⟨_, pss_one (ps_ret (pe_and (pe_callB call_isi (by rfl) B.isinstance (by decide +kernel) (pa_cons (pv 0) (pa_cons (pe_bltn (v := .ty "int") (by rfl) B.int (by decide +kernel) rfl) pa_nil)))
      (pe_one (pe_not (pe_callB call_isi (by rfl) B.isinstance (by decide +kernel) (pa_cons (pv 0) (pa_cons (pe_bltn (v := .ty "bool") (by rfl) B.bool (by decide +kernel) rfl) pa_nil))))))), ?_⟩
    refine ⟨_, rfl, _, _, _, _, true, rfl, .ty "int", .base (.int i), kit_ty (by decide +kernel), _, rfl, iteT ?_⟩
    exact ⟨_, rfl, _, _, _, _, false, rfl, .ty "bool", .base (.int i), kit_ty (by decide +kernel), _, rfl, k⟩
def spCount : Sp := fun vs H Q _ => ∃ i : Int, vs = [.int i] ∧ 0 ≤ i ∧ Q (.bl true) H
theorem scCount : FnScope ["value"] ["value"] (defScope sIsCount) := ⟨rfl, rfl, rfl, by decide +kernel, rfl, by decide +kernel, by decide +kernel⟩
theorem ok_count {f : Addr} {fd : FuncData} (F : Fun K "is_count" "is_count" sIsCount f fd) (B : Bi mg) : FnOk P w K mg base CX0 2 f fd ["value"] spCount := by
  refine F.ok scCount (fun vs H Q E h => ?_) (fun cdv A outer s H vs Q E hr h => ?_)
  · obtain ⟨i, rfl, _⟩ := h
    rfl
  · obtain ⟨i, rfl, h0, k⟩ := h
    refine ⟨_, pss_one (ps_ret (pe_and (pe_callB call_isi (by rfl) B.isinstance (by decide +kernel) (pa_cons (pv 0) (pa_cons (pe_bltn (v := .ty "int") (by rfl) B.int (by decide +kernel) rfl) pa_nil)))
      (pe_and (pe_not (pe_callB call_isi (by rfl) B.isinstance (by decide +kernel) (pa_cons (pv 0) (pa_cons (pe_bltn (v := .ty "bool") (by rfl) B.bool (by decide +kernel) rfl) pa_nil)))) (pe_one (pe_cmpR op_ge (pv 0) pe_int (nomark _)))))), ?_⟩
    refine ⟨_, rfl, _, _, _, _, true, rfl, .ty "int", .base (.int i), kit_ty (by decide +kernel), _, rfl, iteT ?_⟩
    refine ⟨_, rfl, _, _, _, _, false, rfl, .ty "bool", .base (.int i), kit_ty (by decide +kernel), _, rfl, _, rfl, iteT ⟨_, rfl, _, _, rfl, rfl, ?_⟩⟩
    dsimp only
    rw [decide_eq_true (show (0 : Int) ≤ i from h0)]
    exact k
def spOneOf (K : PySem.W.Frag) : Sp := fun vs H Q _ => ∃ (i : Int) (a : Addr) (xs : List V), vs = [.int i, .ref a] ∧ SqT K H a xs ∧ xs.all flatV = true ∧ Q (.bl (inV (.int i) xs)) H
theorem scOneOf : FnScope ["value", "numbers"] ["value", "numbers"] (defScope sIsOneOf) := ⟨rfl, rfl, rfl, by decide +kernel, rfl, by decide +kernel, by decide +kernel⟩
theorem ok_oneOf {f : Addr} {fd : FuncData} (F : Fun K "is_one_of" "is_one_of" sIsOneOf f fd) (B : Bi mg) (ci : Cal P w K mg base 1 "is_integer" spIsInt) : FnOk P w K mg base CX0 2 f fd ["value", "numbers"] (spOneOf K) := by
  refine F.ok scOneOf (fun vs H Q E h => ?_) (fun cdv A outer s H vs Q E hr h => ?_)
  · obtain ⟨i, a, xs, rfl, _⟩ := h
    rfl
  · obtain ⟨i, a, xs, rfl, hS, hf, k⟩ := h
    refine ⟨_, pss_one (ps_ret (pe_and (pe_c ci hr (by decide) (by rfl) (pa_cons (pv 0) pa_nil)) (pe_one (pe_cmpR op_in_seq (pv 0) (pv 1) (by rfl))))), ?_⟩
    exact ⟨_, rfl, i, rfl, _, rfl, iteT ⟨_, rfl, _, rfl, a, xs, rfl, .inr hS, rfl, hf, k⟩⟩
/-- Register.__init__ of right parts -/
def spRI (R : Addr) : Sp := fun vs H Q _ => ∃ (p dx : Addr) (x : Str) (n : Int), vs = [.ref p, .str x, .int n] ∧ (x = "whole" ∨ x = "float") ∧ 0 ≤ n ∧ n ≤ 7 ∧ H p = some (.ins R dx []) ∧ ∀ (H' : Hp) (fs : List (Str × V)), H' p = some (.ins R dx fs) → (∀ b o, H b = some o → b ≠ p → H' b = some o) → Q .non H'
theorem scRI : FnScope ["self", "group", "number"] ["self", "group", "number"] (defScope sRI) := ⟨rfl, rfl, rfl, by decide +kernel, rfl, by decide +kernel, by decide +kernel⟩
theorem ok_RI {f : Addr} {fd : FuncData} (F : Fun K "__init__" "Register.__init__" sRI f fd) (T : TxP K mg R S N gA aA) (cw : Cal P w K mg base 1 "is_word_of" (spWord K)) (cb : Cal P w K mg base 2 "is_between" spBetw) : FnOk P w K mg base CX0 3 f fd ["self", "group", "number"] (spRI R) := by
  refine F.ok scRI (fun vs H Q E h => ?_) (fun cdv A outer s H vs Q E hr h => ?_)
  · obtain ⟨p, dx, x, n, rfl, _⟩ := h
    rfl
  · obtain ⟨p, dx, x, n, rfl, hx, h0, h7, hp, k⟩ := h
    refine ⟨_, pss_cons (ps_if (pt_not (pt_val (pe_c cw hr (by decide) (by rfl) (pa_cons (pv 1) (pa_cons (pe_glob (v := .ref gA) (by rfl) T.gG rfl) pa_nil))))) (pss_one ps_never) pss_nil)
      (pss_cons (ps_if (pt_not (pt_val (pe_c cb hr (by decide) (by rfl) (pa_cons (pv 2) (pa_cons pe_int (pa_cons (pe_gl (by rfl) T.gL) pa_nil)))))) (pss_one ps_never) pss_nil)
      (pss_cons (ps_fld (pv 0) (pv 1) rfl) (pss_cons (ps_fld (pv 0) (pv 2) rfl) (pss_one (ps_fld (pv 0) (pe_tup (pa_cons (pe_op op_add (pe_op op_mul (pe_bm PySem.F.plainAttrs_tuple PySem.F.slot_tuple_index PySem.F.type_tuple_index mt_tup_index (pe_glob (v := .ref gA) (by rfl) T.gG rfl) (pa_cons (pv 1) pa_nil)) (pe_gl (by rfl) T.gS)) (pv 2)) (pa_cons pe_int pa_nil))) rfl))))), ?_⟩
    have hin : inV (.str x) [.str "whole", .str "float"] = true := by rcases hx with rfl | rfl <;> decide +kernel
    refine ⟨_, rfl, x, gA, _, rfl, T.hG H, rfl, _, rfl, ?_⟩
    rw [hin]
    refine iteF ⟨_, rfl, n, 0, 7, rfl, _, rfl, ?_⟩
    rw [decide_eq_true (show (0 : Int) ≤ n ∧ n ≤ 7 from ⟨h0, h7⟩)]
    refine iteF ⟨_, rfl, _, rfl, p, R, dx, _, rfl, hp, T.iR.cl, T.r1, (by show 0 < 1000; decide), _, rfl, _, rfl, p, R, dx, _, rfl, upd_same, T.iR.cl, T.r2, (by show 1 < 1000; decide), ?_⟩
    obtain ⟨j, hj, hj1, hj2⟩ : ∃ j : Nat, ([("whole" : Str), "float"] : List Str)[j]? = some x ∧ (∀ m, m < j → ([("whole" : Str), "float"] : List Str)[m]? ≠ some x) ∧ j ≤ 1 := by
      rcases hx with rfl | rfl
      · exact ⟨0, rfl, fun m hm => absurd hm (Nat.not_lt_zero m), by decide⟩
      · refine ⟨1, rfl, fun m hm => ?_, by decide⟩
        have : m = 0 := by omega
        subst this
        intro z
        have := Option.some.inj z
        exact absurd this (by decide +kernel)
    have stR := T.hG (upd (upd H p (.ins R dx (putF "_group" (.str x) []))) p (.ins R dx (putF "_number" (.int n) (putF "_group" (.str x) []))))
    refine ⟨.inr (.inl ⟨rfl, T.kG⟩), _, rfl, gA, [("whole" : Str), "float"], x, j, rfl, rfl, stR, hj, hj1, ?_⟩
    refine ⟨_, _, rfl, rfl, .inl ⟨by omega, by omega⟩, _, rfl, _, _, rfl, rfl, (by show 2 ≤ sizeLine; decide), fun q hq => ?_⟩
    have npq : p ≠ q := ne_of_none upd_same hq
    refine ⟨_, rfl, p, R, dx, _, rfl, (by rw [upd_ne npq]; exact upd_same), T.iR.cl, T.r3, (by show 2 < 1000; decide), ?_⟩
    refine k _ _ upd_same fun b o e hb => ?_
    have nbq : b ≠ q := fun z => by
      rw [upd_ne npq.symm, upd_ne npq.symm] at hq
      rw [z, hq] at e
      cases e
    rw [upd_ne hb, upd_ne nbq, upd_ne hb, upd_ne hb]
    exact e
end
end K15
set_option Elab.async false
set_option linter.all false
set_option maxRecDepth 100000
set_option maxHeartbeats 4000000
namespace K15
open PySem L2 UL
section
variable {P : Program} {w : World} {K : PySem.W.Frag} {mg : Str → Option Value} {base : Heap} {R S N gA aA : Addr}
/-- Slots.__init__ of right parts -/
def spSI (S : Addr) : Sp := fun vs H Q _ => ∃ (p dx : Addr) (x n : Int), vs = [.ref p, .int x, .int n] ∧ 0 ≤ x ∧ 1 ≤ n ∧ n ≤ 16 ∧ H p = some (.ins S dx []) ∧ ∀ H' : Hp, H' p = some (.ins S dx (two "_offset" "_many" (.int x) (.int n))) → (∀ b o, H b = some o → b ≠ p → H' b = some o) → Q .non H'
theorem scSI : FnScope ["self", "offset", "many"] ["self", "offset", "many"] (defScope sSI) := ⟨rfl, rfl, rfl, by decide +kernel, rfl, by decide +kernel, by decide +kernel⟩
theorem ok_SI {f : Addr} {fd : FuncData} (F : Fun K "__init__" "Slots.__init__" sSI f fd) (T : TxP K mg R S N gA aA) (cc : Cal P w K mg base 2 "is_count" spCount) (cb : Cal P w K mg base 2 "is_between" spBetw) : FnOk P w K mg base CX0 3 f fd ["self", "offset", "many"] (spSI S) := by
  refine F.ok scSI (fun vs H Q E h => ?_) (fun cdv A outer s H vs Q E hr h => ?_)
  · obtain ⟨p, dx, x, n, rfl, _⟩ := h
    rfl
  · obtain ⟨p, dx, x, n, rfl, hx, h0, h7, hp, k⟩ := h
    refine ⟨_, pss_cons (ps_if (pt_not (pt_val (pe_c cc hr (by decide) (by rfl) (pa_cons (pv 1) pa_nil)))) (pss_one ps_never) pss_nil)
      (pss_cons (ps_if (pt_not (pt_val (pe_c cb hr (by decide) (by rfl) (pa_cons (pv 2) (pa_cons pe_int (pa_cons (pe_gl (by rfl) T.gM) pa_nil)))))) (pss_one ps_never) pss_nil)
      (pss_cons (ps_fld (pv 0) (pv 1) rfl) (pss_one (ps_fld (pv 0) (pv 2) rfl)))), ?_⟩
    refine ⟨_, rfl, x, rfl, hx, _, rfl, iteF ⟨_, rfl, n, 1, 16, rfl, _, rfl, ?_⟩⟩
    rw [decide_eq_true (show (1 : Int) ≤ n ∧ n ≤ 16 from ⟨h0, h7⟩)]
    refine iteF ⟨_, rfl, _, rfl, p, S, dx, _, rfl, hp, T.iS.cl, T.s1, (by show 0 < 1000; decide), _, rfl, _, rfl, p, S, dx, _, rfl, upd_same, T.iS.cl, T.s2, (by show 1 < 1000; decide), ?_⟩
    refine k _ ?_ fun b o e hb => ?_
    · rw [upd_upd]
      exact upd_same
    · rw [upd_upd, upd_ne hb]
      exact e
/-- Next.__init__ of right parts -/
def spNI (N : Addr) : Sp := fun vs H Q _ => ∃ (p dx : Addr) (x n : Int), vs = [.ref p, .int x, .int n] ∧ inV (.int x) [.int 1, .int 2, .int 4, .int 8, .int 16] = true ∧ 1 ≤ n ∧ n ≤ 16 ∧ H p = some (.ins N dx []) ∧ ∀ H' : Hp, H' p = some (.ins N dx (two "_align" "_many" (.int x) (.int n))) → (∀ b o, H b = some o → b ≠ p → H' b = some o) → Q .non H'
theorem scNI : FnScope ["self", "align", "many"] ["self", "align", "many"] (defScope sNI) := ⟨rfl, rfl, rfl, by decide +kernel, rfl, by decide +kernel, by decide +kernel⟩
theorem ok_NI {f : Addr} {fd : FuncData} (F : Fun K "__init__" "Next.__init__" sNI f fd) (T : TxP K mg R S N gA aA) (co : Cal P w K mg base 2 "is_one_of" (spOneOf K)) (cb : Cal P w K mg base 2 "is_between" spBetw) : FnOk P w K mg base CX0 3 f fd ["self", "align", "many"] (spNI N) := by
  refine F.ok scNI (fun vs H Q E h => ?_) (fun cdv A outer s H vs Q E hr h => ?_)
  · obtain ⟨p, dx, x, n, rfl, _⟩ := h
    rfl
  · obtain ⟨p, dx, x, n, rfl, hx, h0, h7, hp, k⟩ := h
    refine ⟨_, pss_cons (ps_if (pt_not (pt_val (pe_c co hr (by decide) (by rfl) (pa_cons (pv 1) (pa_cons (pe_glob (v := .ref aA) (by rfl) T.gA_ rfl) pa_nil))))) (pss_one ps_never) pss_nil)
      (pss_cons (ps_if (pt_not (pt_val (pe_c cb hr (by decide) (by rfl) (pa_cons (pv 2) (pa_cons pe_int (pa_cons (pe_gl (by rfl) T.gM) pa_nil)))))) (pss_one ps_never) pss_nil)
      (pss_cons (ps_fld (pv 0) (pv 1) rfl) (pss_one (ps_fld (pv 0) (pv 2) rfl)))), ?_⟩
    refine ⟨_, rfl, x, aA, _, rfl, T.hA H, rfl, _, rfl, ?_⟩
    rw [hx]
    refine iteF ⟨_, rfl, n, 1, 16, rfl, _, rfl, ?_⟩
    rw [decide_eq_true (show (1 : Int) ≤ n ∧ n ≤ 16 from ⟨h0, h7⟩)]
    refine iteF ⟨_, rfl, _, rfl, p, N, dx, _, rfl, hp, T.iN.cl, T.n1, (by show 0 < 1000; decide), _, rfl, _, rfl, p, N, dx, _, rfl, upd_same, T.iN.cl, T.n2, (by show 1 < 1000; decide), ?_⟩
    refine k _ ?_ fun b o e hb => ?_
    · rw [upd_upd]
      exact upd_same
    · rw [upd_upd, upd_ne hb]
      exact e
/-- .bits, .many -/
def spBitsOf (E : Addr) (f g : Str) (b : V → V → V) : Sp := fun vs H Q _ => ∃ (a dx : Addr) (x : V) (n : Int), vs = [.ref a] ∧ H a = some (.ins E dx (two f g x (.int n))) ∧ Q (b x (.int n)) H
theorem scRB : FnScope ["self"] ["self"] (defScope sRB) := ⟨rfl, rfl, rfl, by decide +kernel, rfl, by decide +kernel, by decide +kernel⟩
def spRB (R : Addr) : Sp := fun vs H Q _ => ∃ (a dx : Addr) (fs : List (Str × V)), vs = [.ref a] ∧ H a = some (.ins R dx fs) ∧ Q (.int 64) H
theorem ok_RB {f : Addr} {fd : FuncData} (F : Fun K "bits" "Register.bits" sRB f fd) (T : TxP K mg R S N gA aA) : FnOk P w K mg base CX0 1 f fd ["self"] (spRB R) := by
  refine F.ok scRB (fun vs H Q E h => ?_) (fun cdv A outer s H vs Q E hr h => ?_)
  · obtain ⟨a, dx, fs, rfl, _⟩ := h
    rfl
  · obtain ⟨a, dx, fs, rfl, ha, k⟩ := h
    refine ⟨_, pss_one (ps_ret (pe_gl (by rfl) T.gB)), ?_⟩
    exact k
def m8 : V → V → V := fun _ v => match v with | .int n => .int (8 * n) | v => v
theorem scSB : FnScope ["self"] ["self"] (defScope sSB) := ⟨rfl, rfl, rfl, by decide +kernel, rfl, by decide +kernel, by decide +kernel⟩
theorem ok_SB {f : Addr} {fd : FuncData} (F : Fun K "bits" "Slots.bits" sSB f fd) (T : TxP K mg R S N gA aA) : FnOk P w K mg base CX0 1 f fd ["self"] (spBitsOf S "_offset" "_many" m8) := by
  refine F.ok scSB (fun vs H Q E h => ?_) (fun cdv A outer s H vs Q E hr h => ?_)
  · obtain ⟨a, dx, x, n, rfl, _⟩ := h
    rfl
  · obtain ⟨a, dx, x, n, rfl, ha, k⟩ := h
    refine ⟨_, pss_one (ps_ret (pe_op op_mul pe_int (pe_fld (pv 0) rfl))), ?_⟩
    exact ⟨_, rfl, a, S, dx, _, _, rfl, ha, T.iS.cl, T.s2, rfl, 8, n, rfl, rfl, .inl ⟨by decide, by decide⟩, k⟩
theorem scNB : FnScope ["self"] ["self"] (defScope sNB) := ⟨rfl, rfl, rfl, by decide +kernel, rfl, by decide +kernel, by decide +kernel⟩
theorem ok_NB {f : Addr} {fd : FuncData} (F : Fun K "bits" "Next.bits" sNB f fd) (T : TxP K mg R S N gA aA) : FnOk P w K mg base CX0 1 f fd ["self"] (spBitsOf N "_align" "_many" m8) := by
  refine F.ok scNB (fun vs H Q E h => ?_) (fun cdv A outer s H vs Q E hr h => ?_)
  · obtain ⟨a, dx, x, n, rfl, _⟩ := h
    rfl
  · obtain ⟨a, dx, x, n, rfl, ha, k⟩ := h
    refine ⟨_, pss_one (ps_ret (pe_op op_mul pe_int (pe_fld (pv 0) rfl))), ?_⟩
    exact ⟨_, rfl, a, N, dx, _, _, rfl, ha, T.iN.cl, T.n2, rfl, 8, n, rfl, rfl, .inl ⟨by decide, by decide⟩, k⟩
theorem scSM : FnScope ["self"] ["self"] (defScope sSM) := ⟨rfl, rfl, rfl, by decide +kernel, rfl, by decide +kernel, by decide +kernel⟩
theorem ok_SM {f : Addr} {fd : FuncData} (F : Fun K "many" "Slots.many" sSM f fd) (T : TxP K mg R S N gA aA) : FnOk P w K mg base CX0 1 f fd ["self"] (spBitsOf S "_offset" "_many" fun _ v => v) := by
  refine F.ok scSM (fun vs H Q E h => ?_) (fun cdv A outer s H vs Q E hr h => ?_)
  · obtain ⟨a, dx, x, n, rfl, _⟩ := h
    rfl
  · obtain ⟨a, dx, x, n, rfl, ha, k⟩ := h
    refine ⟨_, pss_one (ps_ret (pe_fld (pv 0) rfl)), ?_⟩
    exact ⟨_, rfl, a, S, dx, _, _, rfl, ha, T.iS.cl, T.s2, rfl, k⟩
theorem scNM : FnScope ["self"] ["self"] (defScope sNM) := ⟨rfl, rfl, rfl, by decide +kernel, rfl, by decide +kernel, by decide +kernel⟩
theorem ok_NM {f : Addr} {fd : FuncData} (F : Fun K "many" "Next.many" sNM f fd) (T : TxP K mg R S N gA aA) : FnOk P w K mg base CX0 1 f fd ["self"] (spBitsOf N "_align" "_many" fun _ v => v) := by
  refine F.ok scNM (fun vs H Q E h => ?_) (fun cdv A outer s H vs Q E hr h => ?_)
  · obtain ⟨a, dx, x, n, rfl, _⟩ := h
    rfl
  · obtain ⟨a, dx, x, n, rfl, ha, k⟩ := h
    refine ⟨_, pss_one (ps_ret (pe_fld (pv 0) rfl)), ?_⟩
    exact ⟨_, rfl, a, N, dx, _, _, rfl, ha, T.iN.cl, T.n2, rfl, k⟩
end
end K15
set_option Elab.async false
set_option linter.all false
set_option maxRecDepth 100000
set_option maxHeartbeats 4000000
namespace K15
open PySem L2 UL
abbrev sPlace : Stmt := top 45
abbrev sFillL : Stmt := top 46
abbrev sWork : Stmt := top 47
abbrev sSet : Stmt := top 48
abbrev sAlone : Stmt := top 49
abbrev sShows : Stmt := top 50
abbrev sPairR : Stmt := top 51
abbrev sRight : Stmt := top 52
abbrev sLaw : Stmt := top 53
theorem pot_ne {H : Hp} {p l : Addr} (hp : Pot H p) (hl : H l = none) : l ≠ p := by
  obtain ⟨a, b, e, _⟩ := hp
  exact (ne_of_none e hl).symm
theorem stay_new {H : Hp} {p l : Addr} {o : HO} (hl : H l = none) : Stay p H (upd H l o) := Same.stay (same_new hl) p
/-- a place with so many bits -/
def PlaceAt (R S N : Addr) (H : Hp) (v : V) (b : Int) : Prop := ∃ (a dx : Addr) (x : V) (n : Int), v = .ref a ∧
  (((∃ fs, H a = some (.ins R dx fs)) ∧ b = 64) ∨ (H a = some (.ins S dx (two "_offset" "_many" x (.int n))) ∧ 1 ≤ n ∧ n ≤ 16 ∧ b = 8 * n) ∨ (H a = some (.ins N dx (two "_align" "_many" x (.int n))) ∧ 1 ≤ n ∧ n ≤ 16 ∧ b = 8 * n))
section
variable {P : Program} {w : World} {K : PySem.W.Frag} {mg : Str → Option Value} {base : Heap} {R S N gA aA : Addr}
def spPlace (R S N : Addr) : Sp := fun vs H Q _ => ∃ (p : Addr), vs = [.ref p] ∧ Pot H p ∧ ∀ (v : V) (b : Int) (H' : Hp), PlaceAt R S N H' v b → Pot H' p → Stay p H H' → Q v H'
theorem scPlace : FnScope ["_law_pot_here", "_law_way", "_law_many"] ["_law_pot_here"] (defScope sPlace) := ⟨rfl, rfl, rfl, by decide +kernel, rfl, by decide +kernel, by decide +kernel⟩
theorem ok_place {f : Addr} {fd : FuncData} (F : Fun K "_law_place" "_law_place" sPlace f fd) (T : TxP K mg R S N gA aA) (cd : Cal P w K mg base 1 "_law_draw" spDraw) (cp : Cal P w K mg base 2 "_law_pick" (spPick1 K))
    (cR : Mak P w K mg base 3 "Register" R [] (spRI R)) (cS : Mak P w K mg base 3 "Slots" S [] (spSI S)) (cN : Mak P w K mg base 3 "Next" N [] (spNI N)) : FnOk P w K mg base CX0 5 f fd ["_law_pot_here"] (spPlace R S N) := by
  refine F.ok scPlace (fun vs H Q E h => ?_) (fun cdv A outer s H vs Q E hr h => ?_)
  · obtain ⟨p, rfl, _⟩ := h
    rfl
  · obtain ⟨p, rfl, hp, k⟩ := h
    refine ⟨_, pss_cons (ps_set (i := 1) scPlace.nd rfl (.inl rfl) (pe_c cd hr (by decide) (by rfl) (pa_cons (pv 0) (pa_cons pe_int pa_nil))))
      (pss_cons (ps_if (pt_cmpR op_eq (pv 1) pe_int (nomark _)) (pss_one (ps_ret (pe_n cR hr (by decide) (by rfl) (pa_cons (pe_c cp hr (by decide) (by rfl) (pa_cons (pv 0) (pa_cons (pe_lst (pa_cons pe_str (pa_cons pe_str pa_nil))) pa_nil)))
          (pa_cons (pe_c cd hr (by decide) (by rfl) (pa_cons (pv 0) (pa_cons pe_int pa_nil))) pa_nil))))) pss_nil)
      (pss_cons (ps_set (i := 2) scPlace.nd rfl (.inl rfl) (pe_c cp hr (by decide) (by rfl) (pa_cons (pv 0) (pa_cons (pe_lst (pa_cons pe_int (pa_cons pe_int (pa_cons pe_int (pa_cons pe_int (pa_cons pe_int (pa_cons (pe_op op_add pe_int (pe_c cd hr (by decide) (by rfl) (pa_cons (pv 0) (pa_cons pe_int pa_nil)))) pa_nil))))))) pa_nil))))
      (pss_cons (ps_if (pt_cmpR op_eq (pv 1) pe_int (nomark _)) (pss_one (ps_ret (pe_n cN hr (by decide) (by rfl) (pa_cons (pe_c cp hr (by decide) (by rfl) (pa_cons (pv 0) (pa_cons (pe_lst (pa_cons pe_int (pa_cons pe_int (pa_cons pe_int pa_nil)))) pa_nil))) (pa_cons (pv 2) pa_nil))))) pss_nil)
      (pss_one (ps_ret (pe_n cS hr (by decide) (by rfl) (pa_cons (pe_c cd hr (by decide) (by rfl) (pa_cons (pv 0) (pa_cons pe_int pa_nil))) (pa_cons (pv 2) pa_nil)))))))), ?_⟩
    refine ⟨_, rfl, p, 4, rfl, hp, by decide, by decide, fun d H1 d0 d1 hp1 st1 => ⟨_, rfl, rfl, _, rfl, ?_⟩⟩
    cases c0 : decide (V.int d = V.int 0) with
    | true =>
      refine iteT ⟨_, rfl, (by show 2 ≤ sizeLine; decide), fun l hl => ⟨p, l, _, rfl, hp1.same (same_new hl), pot_ne hp1 hl, SqL.of upd_same, (by show 0 < 2; decide), (by show 2 < 1073741824; decide), fun i v H2 hv hp2 st2 => ?_⟩⟩
      obtain ⟨x, hx, rfl⟩ : ∃ x : Str, (x = "whole" ∨ x = "float") ∧ v = .str x := by
        have := List.mem_of_getElem? hv
        simp only [List.mem_cons, List.not_mem_nil, or_false] at this
        rcases this with e | e
        · exact ⟨_, .inl rfl, e⟩
        · exact ⟨_, .inr rfl, e⟩
      refine ⟨_, rfl, p, 8, rfl, hp2, by decide, by decide, fun d2 H3 d20 d21 hp3 st3 => ?_⟩
      intro a0 dx0 nx0 nd0 ne0
      refine ⟨a0, dx0, x, d2, rfl, hx, d20, by omega, upd_same, fun H' fs h kk => ⟨rfl, ?_⟩⟩
      have sm := Same.made nx0 nd0 kk
      exact k _ 64 H' ⟨a0, dx0, .non, 0, rfl, .inl ⟨⟨fs, h⟩, rfl⟩⟩ (hp3.same sm) ((st1.trans ((stay_new hl).trans st2)).trans (st3.trans (Same.stay sm p)))
    | false =>
      refine iteF ⟨_, rfl, _, rfl, p, 16, rfl, hp1, by decide, by decide, fun d2 H2 d20 d21 hp2 st2 => ⟨_, _, rfl, rfl, (by show 6 ≤ sizeLine; decide), fun l hl => ⟨p, l, _, rfl, hp2.same (same_new hl), pot_ne hp2 hl, SqL.of upd_same, (by show 0 < 6; decide), (by show 6 < 1073741824; decide), fun i v H3 hv hp3 st3 => ?_⟩⟩⟩
      obtain ⟨n, n0, n1, rfl⟩ : ∃ n : Int, 1 ≤ n ∧ n ≤ 16 ∧ v = .int n := by
        have := List.mem_of_getElem? hv
        simp only [List.mem_cons, List.not_mem_nil, or_false] at this
        rcases this with e | e | e | e | e | e
        · exact ⟨1, by decide, by decide, e⟩
        · exact ⟨2, by decide, by decide, e⟩
        · exact ⟨4, by decide, by decide, e⟩
        · exact ⟨8, by decide, by decide, e⟩
        · exact ⟨16, by decide, by decide, e⟩
        · exact ⟨1 + d2, by omega, by omega, e⟩
      have st13 : Stay p H H3 := (st1.trans st2).trans ((stay_new hl).trans st3)
      refine ⟨_, rfl, rfl, _, rfl, ?_⟩
      cases c1 : decide (V.int d = V.int 1) with
      | true =>
        refine iteT ⟨_, rfl, (by show 3 ≤ sizeLine; decide), fun l4 hl4 => ⟨p, l4, _, rfl, hp3.same (same_new hl4), pot_ne hp3 hl4, SqL.of upd_same, (by show 0 < 3; decide), (by show 3 < 1073741824; decide), fun i4 v4 H5 hv4 hp5 st5 => ?_⟩⟩
        obtain ⟨x, hx, rfl⟩ : ∃ x : Int, inV (.int x) [.int 1, .int 2, .int 4, .int 8, .int 16] = true ∧ v4 = .int x := by
          have := List.mem_of_getElem? hv4
          simp only [List.mem_cons, List.not_mem_nil, or_false] at this
          rcases this with e | e | e
          · exact ⟨1, by decide +kernel, e⟩
          · exact ⟨4, by decide +kernel, e⟩
          · exact ⟨16, by decide +kernel, e⟩
        refine ⟨_, rfl, ?_⟩
        intro a0 dx0 nx0 nd0 ne0
        refine ⟨a0, dx0, x, n, rfl, hx, n0, n1, upd_same, fun H' h kk => ⟨rfl, ?_⟩⟩
        have sm := Same.made nx0 nd0 kk
        exact k _ (8 * n) H' ⟨a0, dx0, _, _, rfl, .inr (.inr ⟨h, n0, n1, rfl⟩)⟩ (hp5.same sm) ((st13.trans ((stay_new hl4).trans st5)).trans (Same.stay sm p))
      | false =>
        refine iteF ⟨_, rfl, p, 99, rfl, hp3, by decide, by decide, fun d4 H5 d40 d41 hp5 st5 => ⟨_, rfl, ?_⟩⟩
        intro a0 dx0 nx0 nd0 ne0
        refine ⟨a0, dx0, d4, n, rfl, d40, n0, n1, upd_same, fun H' h kk => ⟨rfl, ?_⟩⟩
        have sm := Same.made nx0 nd0 kk
        exact k _ (8 * n) H' ⟨a0, dx0, _, _, rfl, .inr (.inl ⟨h, n0, n1, rfl⟩)⟩ (hp5.same sm) ((st13.trans st5).trans (Same.stay sm p))
end
end K15
set_option Elab.async false
set_option linter.all false
set_option maxRecDepth 100000
set_option maxHeartbeats 4000000
namespace K15
open PySem L2 UL
section
variable {P : Program} {w : World} {K : PySem.W.Frag} {mg : Str → Option Value} {base : Heap} {C D : Addr}
theorem reach_of {z : Int} : 3 ≤ (if (if z < 128 then z else 128) > 3 then (if z < 128 then z else 128) else 3) ∧ (if (if z < 128 then z else 128) > 3 then (if z < 128 then z else 128) else 3) ≤ 128 := by
  by_cases c1 : z < 128
  · rw [if_pos c1]
    by_cases c2 : z > 3
    · rw [if_pos c2]
      omega
    · rw [if_neg c2]
      omega
  · rw [if_neg c1, if_pos (by decide)]
    omega
/-- _law_fill(pot, near): a fill that is not free -/
def spFillL (C : Addr) : Sp := fun vs H Q _ => ∃ (p : Addr) (near : Int), vs = [.ref p, .int near] ∧ Pot H p ∧ ∀ (v : V) (t : RT) (H' : Hp), t.ok → FillAt C H' v (RT.ft t) → Pot H' p → Stay p H H' → Q v H'
theorem scFillL : FnScope ["_law_pot_here", "_law_near", "_law_word", "_law_reach"] ["_law_pot_here", "_law_near"] (defScope sFillL) := ⟨rfl, rfl, rfl, by decide +kernel, rfl, by decide +kernel, by decide +kernel⟩
theorem ok_fillL {f : Addr} {fd : FuncData} (F : Fun K "_law_fill" "_law_fill" sFillL f fd) (B : Bi mg) (cd : Cal P w K mg base 1 "_law_draw" spDraw) (cp : Cal P w K mg base 2 "_law_pick" (spPick1 K)) (c2 : Mak P w K mg base 3 "Fill" C [] (spInit C)) :
    FnOk P w K mg base CX0 5 f fd ["_law_pot_here", "_law_near"] (spFillL C) := by
  refine F.ok scFillL (fun vs H Q E h => ?_) (fun cdv A outer s H vs Q E hr h => ?_)
  · obtain ⟨p, near, rfl, _⟩ := h
    rfl
  · obtain ⟨p, near, rfl, hp, k⟩ := h
    refine ⟨_, pss_cons (ps_par (i := 2) (j := 3) rfl scFillL.nd rfl rfl (by decide) rfl rfl (pa_cons (pe_c cp hr (by decide) (by rfl) (pa_cons (pv 0) (pa_cons (pe_lst (pa_cons pe_str (pa_cons pe_str pa_nil))) pa_nil)))
          (pa_cons (pe_c cp hr (by decide) (by rfl) (pa_cons (pv 0) (pa_cons (pe_lst (pa_cons (pv 1) (pa_cons (pe_op op_add (pv 1) pe_int) (pa_cons (pe_op op_sub (pv 1) pe_int) (pa_cons (pe_op op_add pe_int (pe_c cd hr (by decide) (by rfl) (pa_cons (pv 0) (pa_cons pe_int pa_nil)))) pa_nil))))) pa_nil))) pa_nil)) (by rfl))
      (pss_one (ps_ret (pe_n c2 hr (by decide) (by rfl) (pa_cons (pv 2) (pa_cons (pe_callB (call_max2 rfl) (by rfl) B.max (by decide +kernel) (pa_cons pe_int (pa_cons (pe_callB (call_min2 rfl) (by rfl) B.min (by decide +kernel) (pa_cons pe_int (pa_cons (pv 3) pa_nil))) pa_nil))) pa_nil))))), ?_⟩
    refine ⟨_, rfl, (by show 2 ≤ sizeLine; decide), fun l hl => ⟨p, l, _, rfl, hp.same (same_new hl), pot_ne hp hl, SqL.of upd_same, (by show 0 < 2; decide), (by show 2 < 1073741824; decide), fun i v H1 hv hp1 st1 => ?_⟩⟩
    obtain ⟨sg, rfl⟩ : ∃ sg : Bool, v = .str (wOf sg) := by
      have := List.mem_of_getElem? hv
      simp only [List.mem_cons, List.not_mem_nil, or_false] at this
      rcases this with e | e
      · exact ⟨false, e⟩
      · exact ⟨true, e⟩
    have stA : Stay p H H1 := (stay_new hl).trans st1
    refine ⟨_, rfl, _, rfl, _, rfl, _, _, rfl, rfl, _, rfl, _, _, rfl, rfl, _, rfl, p, 126, rfl, hp1, by decide, by decide, fun d H2 d0 d1 hp2 st2 => ⟨_, _, rfl, rfl, (by show 4 ≤ sizeLine; decide), fun l3 hl3 =>
      ⟨p, l3, _, rfl, hp2.same (same_new hl3), pot_ne hp2 hl3, SqL.of upd_same, (by show 0 < 4; decide), (by show 4 < 1073741824; decide), fun i4 v4 H4 hv4 hp4 st4 => ⟨_, _, rfl, ?_⟩⟩⟩⟩
    obtain ⟨z, rfl⟩ : ∃ z : Int, v4 = .int z := by
      have := List.mem_of_getElem? hv4
      simp only [List.mem_cons, List.not_mem_nil, or_false] at this
      rcases this with e | e | e | e <;> exact ⟨_, e⟩
    have stB : Stay p H H4 := (stA.trans st2).trans ((stay_new hl3).trans st4)
    refine ⟨_, rfl, _, rfl, _, _, rfl, _, _, rfl, ?_⟩
    obtain ⟨m, hm⟩ : ∃ m : Int, m = (if (if z < 128 then z else 128) > 3 then (if z < 128 then z else 128) else 3) := ⟨_, rfl⟩
    have hm2 : 3 ≤ m ∧ m ≤ 128 := by rw [hm]; exact reach_of
    dsimp only
    rw [← hm]
    intro a0 dx0 nx0 nd0 ne0
    refine made1 nx0 nd0 (t := FT.f sg m) hm2 (w_of _ _).symm fun H5 s5 h5 => ⟨rfl, ?_⟩
    exact k _ (sg, m) H5 hm2 h5 (hp4.same s5) (stB.trans (Same.stay s5 p))
/-- _law_work(fill) -/
def spWorkL (C D : Addr) : Sp := fun vs H Q _ => ∃ (v : V) (t : FT), vs = [v] ∧ FillAt C H v t ∧ ∀ (u : V) (H' : Hp), L2.Same H H' → WorkAt C D H' u (more t) → Q u H'
theorem scWorkL : FnScope ["_law_fill_here"] ["_law_fill_here"] (defScope sWork) := ⟨rfl, rfl, rfl, by decide +kernel, rfl, by decide +kernel, by decide +kernel⟩
theorem ok_workL {f : Addr} {fd : FuncData} (F : Fun K "_law_work" "_law_work" sWork f fd) (W : TxW K mg C D) (cM : MakR P w K mg base 3 "Work" D (spWMake C D)) (cW : CalP P w K mg base 1 C "word" (spGet C fun t => .str t.w)) : FnOk P w K mg base CX0 5 f fd ["_law_fill_here"] (spWorkL C D) := by
  refine F.ok scWorkL (fun vs H Q E h => ?_) (fun cdv A outer s H vs Q E hr h => ?_)
  · obtain ⟨v, t, rfl, _⟩ := h
    rfl
  · obtain ⟨v, t, rfl, hv, k⟩ := h
    refine ⟨_, pss_one (ps_ret (pe_ifExp (pt_cmpR op_eq (pe_p (pv 0) cW hr (by decide) (by rfl)) pe_str (nomark _)) (pe_nR0 cM hr (by decide) (by rfl)) (pe_nR cM hr (by decide) (by rfl) (pa_cons (pv 0) pa_nil)))), ?_⟩
    obtain ⟨a, dx, rfl, ha⟩ := id hv
    refine ⟨_, rfl, a, dx, _, rfl, ha, _, t, rfl, hv, rfl, _, rfl, ?_⟩
    cases t with
    | free =>
      refine iteT ?_
      exact wmade (as := []) (ts := []) rfl FillsAt.nil (by decide) fun u H1 s1 hu => k u H1 s1 hu
    | f sg n =>
      rw [w_free]
      refine iteF ⟨_, rfl, ?_⟩
      exact wmade (as := [a]) (ts := [(sg, n)]) rfl (FillsAt.one hv) (by show 1 ≤ 126; decide) fun u H1 s1 hu => k u H1 s1 hu
end
end K15
set_option Elab.async false
set_option linter.all false
set_option maxRecDepth 100000
set_option maxHeartbeats 4000000
namespace K15
open PySem L2 UL
section
variable {P : Program} {w : World} {K : PySem.W.Frag} {mg : Str → Option Value} {base : Heap} {C D : Addr}
theorem zeros_f (s : Bool) (n : Int) : decide (V.str (FT.f s n).w = V.str "zeros") = !s := by
  rw [w_of]
  cases s <;> decide +kernel
theorem upTo_min {w i r : Nat} {c : Bt} {xs : List Bt} (h : ¬ (w ≤ i ∧ i < r)) : upTo w c (min i r) xs = upTo w c (min (i + 1) r) xs := upTo_ext fun j _ => by omega
/-- how far a fill goes, and what it sets -/
def endOf : FT → Nat
  | .free => 0
  | .f _ n => n.toNat
def setOf (w : Nat) : FT → List Bt → Bt
  | .free, _ => none
  | .f s _, xs => bitOf w s xs
theorem rowB_more (w : Nat) (t : FT) (xs : List Bt) : rowB w (more t) xs = upTo w (setOf w t xs) (endOf t) xs := by
  cases t with
  | free => exact (upTo_low (Nat.zero_le _)).symm
  | f s n => rfl
/-- _law_set(fill, bits, wide) -/
def spSet (C : Addr) : Sp := fun vs H Q _ => ∃ (v : V) (t : FT) (r : Addr) (xs : List Bt) (wi : Nat), vs = [v, .ref r, .int (wi : Nat)] ∧ FillAt C H v t ∧ t.ok ∧ H r = some (.lst (xs.map bV)) ∧ xs.length ≤ 200 ∧ 2 ≤ wi ∧ wi ≤ 128 ∧
  ∀ (L : Addr) (H' : Hp), H L = none → L2.Same H H' → H' L = some (.lst ((rowB wi (more t) xs).map bV)) → Q (.ref L) H'
theorem scSet : FnScope ["_law_fill_here", "_law_bits_now", "_law_wide", "_law_found", "_law_at"] ["_law_fill_here", "_law_bits_now", "_law_wide"] (defScope sSet) := ⟨rfl, rfl, rfl, by decide +kernel, rfl, by decide +kernel, by decide +kernel⟩
theorem ok_set {f : Addr} {fd : FuncData} (F : Fun K "_law_set" "_law_set" sSet f fd) (W : TxW K mg C D) (cW : CalP P w K mg base 1 C "word" (spGet C fun t => .str t.w)) (cE : CalP P w K mg base 1 C "extent" (spGet C FT.e)) : FnOk P w K mg base CX0 3 f fd ["_law_fill_here", "_law_bits_now", "_law_wide"] (spSet C) := by
  refine F.ok scSet (fun vs H Q E h => ?_) (fun cdv A outer s H vs Q E hr h => ?_)
  · obtain ⟨v, t, r, xs, wi, rfl, _⟩ := h
    rfl
  · obtain ⟨v, t, r, xs, wi, rfl, hv, ht, hr1, hx, w0, w1, k⟩ := h
    have B := W.T.bi
    refine ⟨_, pss_cons (ps_set (i := 3) scSet.nd rfl (.inl rfl) (pe_callTy call_list_of (by rfl) W.li (by decide +kernel) (pa_cons (pv 1) pa_nil)))
      (pss_cons (ps_for PassesOwn.never rfl (pi_range1 (by rfl) B.range (pa_cons (pe_callB call_len_seq (by rfl) B.len PySem.boot_len (pa_cons (pv 3) pa_nil)) pa_nil)) (pg_name (i := 4) scSet.nd rfl (.inl rfl))
          (pss_one (ps_if (PW.pt (pw_and (pt_cmpR op_ne (pe_p (pv 0) cW hr (by decide) (by rfl)) pe_str (nomark _)) (pw_and1 (pt_chain op_le op_lt (pv 2) (pv 4) (pe_p (pv 0) cE hr (by decide) (by rfl))))))
            (pss_one (ps_asg (pe_ifExp (pt_cmpR op_eq (pe_p (pv 0) cW hr (by decide) (by rfl)) pe_str (nomark _)) pe_int (pe_ix ix_list (pv 1) (pe_op op_sub (pv 2) pe_int) (fun _ _ => rfl))) (pg_sub (pv 3) (pv 4) set_list))) pss_nil)))
      (pss_one (ps_ret (pv 3)))), ?_⟩
    obtain ⟨a, dx, rfl, ha⟩ := id hv
    refine ⟨_, rfl, r, _, rfl, .inl (SqL.of hr1), fun L hL => ?_⟩
    have s1 := same_new (o := .lst (xs.map bV)) hL
    refine ⟨_, rfl, L, _, rfl, .inl (SqL.of upd_same), _, rfl, by omega, by rw [List.length_map]; omega, ?_⟩
    rw [List.length_map]
    refine for_range (lo := 0) (n := ((xs.length : Nat) : Int).toNat)
      (fun j σ H' => (∃ z : Option V, σ = [some (.ref a), some (.ref r), some (.int (wi : Nat)), some (.ref L), z]) ∧ L2.Same H H' ∧ H' L = some (.lst ((upTo wi (setOf wi t xs) (min j (endOf t)) xs).map bV)))
      ⟨⟨_, rfl⟩, s1, by rw [upTo_low (by omega)]; exact upd_same⟩ (fun j σ H5 hj ⟨⟨x5, eσ⟩, s5, d5⟩ => ?_) (fun σ H5 ⟨⟨x5, eσ⟩, s5, d5⟩ => ?_)
    · subst eσ
      have hj' : j < xs.length := by simpa using hj
      rw [show (0 : Int) + ((j : Nat) : Int) = ((j : Nat) : Int) from Int.zero_add _]
      have skip : ¬ (wi ≤ j ∧ j < endOf t) → L2.Same H H5 ∧ H5 L = some (.lst ((upTo wi (setOf wi t xs) (min (j + 1) (endOf t)) xs).map bV)) := fun z => ⟨s5, by rw [← upTo_min z]; exact d5⟩
      have hv5 := hv.same s5
      have a5 := s5 _ _ ha
      have r5 := s5 _ _ hr1
      refine ⟨_, rfl, a, dx, _, rfl, a5, _, t, rfl, hv5, rfl, _, rfl, ?_⟩
      cases t with
      | free =>
        obtain ⟨g1, g2⟩ := skip (by show ¬ (wi ≤ j ∧ j < 0); omega)
        exact iteF (iteF ⟨⟨_, rfl⟩, g1, g2⟩)
      | f sg n =>
        obtain ⟨n0, n1⟩ := (show 3 ≤ n ∧ n ≤ 128 from ht)
        rw [w_free]
        refine iteT ⟨_, rfl, _, rfl, _, _, rfl, rfl, _, rfl, ?_⟩
        try dsimp only
        by_cases c1 : ((wi : Nat) : Int) ≤ ((j : Nat) : Int)
        · rw [decide_eq_true c1]
          refine iteT ⟨_, rfl, a, dx, _, rfl, a5, _, _, rfl, hv5, _, _, rfl, rfl, _, rfl, ?_⟩
          try dsimp only
          by_cases c2 : ((j : Nat) : Int) < n
          · rw [decide_eq_true c2]
            have hmin : min j (endOf (.f sg n)) = j := by show min j n.toNat = j; omega
            have hmin2 : min (j + 1) (endOf (.f sg n)) = j + 1 := by show min (j + 1) n.toNat = j + 1; omega
            rw [hmin] at d5
            rw [hmin2]
            have lx : j < ((upTo wi (setOf wi (.f sg n) xs) j xs).map bV).length := by rw [List.length_map, upTo_len]; exact hj'
            have fin : ∀ (R : Hp → Prop), (∀ H6 : Hp, L2.Same H H6 → H6 L = some (.lst ((upTo wi (setOf wi (.f sg n) xs) (j + 1) xs).map bV)) → R H6) → R (upd H5 L (.lst (((upTo wi (setOf wi (.f sg n) xs) j xs).map bV).set j (bV (setOf wi (.f sg n) xs))))) := fun R kR => by
              refine kR _ (same_over s5 hL) ?_
              rw [← List.map_set, upTo_set (by omega)]
              exact upd_same
            have e1 : ((wi : Nat) : Int) - 1 = ((wi - 1 : Nat) : Int) := by omega
            refine iteT ⟨_, rfl, a, dx, _, rfl, a5, _, _, rfl, hv5, rfl, _, rfl, ?_⟩
            rw [zeros_f]
            cases sg with
            | true =>
              have hb : setOf wi (.f true n) xs = xs[wi - 1] := by
                show (xs[wi - 1]?).getD none = _
                rw [List.getElem?_eq_getElem (by omega)]
                rfl
              have hg : (xs.map bV)[wi - 1]? = some (bV (setOf wi (.f true n) xs)) := by
                rw [List.getElem?_map, List.getElem?_eq_getElem (by omega), hb]
                rfl
              refine iteF ⟨_, rfl, _, rfl, _, _, rfl, rfl, r, _, _, bV (setOf wi (.f true n) xs), rfl, rfl, SqL.of r5, ?_, ?_⟩
              · rw [e1]
                exact atI_nat hg
              · refine ⟨_, rfl, _, rfl, L, _, _, j, rfl, rfl, d5, ixN_nat lx, ?_⟩
                exact fin _ fun H6 s6 d6 => ⟨⟨_, rfl⟩, s6, d6⟩
            | false =>
              refine iteT ⟨_, rfl, _, rfl, L, _, _, j, rfl, rfl, d5, ixN_nat lx, ?_⟩
              exact fin _ fun H6 s6 d6 => ⟨⟨_, rfl⟩, s6, d6⟩
          · rw [decide_eq_false c2]
            obtain ⟨g1, g2⟩ := skip (by show ¬ (wi ≤ j ∧ j < n.toNat); omega)
            exact iteF ⟨⟨_, rfl⟩, g1, g2⟩
        · rw [decide_eq_false c1]
          obtain ⟨g1, g2⟩ := skip (by omega)
          exact iteF ⟨_, rfl, iteF ⟨⟨_, rfl⟩, g1, g2⟩⟩
    · subst eσ
      have e : upTo wi (setOf wi t xs) (min (((xs.length : Nat) : Int).toNat) (endOf t)) xs = rowB wi (more t) xs := by
        rw [rowB_more]
        exact upTo_ext fun q hq => by omega
      rw [e] at d5
      exact ⟨_, rfl, k L H5 hL s5 d5⟩
end
end K15
set_option Elab.async false
set_option linter.all false
set_option maxRecDepth 100000
set_option maxHeartbeats 4000000
namespace K15
open PySem L2 UL
/-- the row that shows what a fill sets -/
def showRow (room wi : Nat) : List Bt := List.replicate (wi - 1) (some false) ++ [some true] ++ List.replicate (room - wi) none
theorem showRow_len {room wi : Nat} (h : 2 ≤ wi) (h2 : wi ≤ room) : (showRow room wi).length = room := by
  unfold showRow
  rw [List.length_append, List.length_append, List.length_replicate, List.length_replicate]
  simp
  omega
def textOf (xs : List Bt) : Str := (PyData.list (xs.map bD)).shown
theorem flat_rep (n : Nat) (v : V) : (List.replicate n [v]).flatten = List.replicate n v := by
  induction n with
  | zero => rfl
  | succ n ih => rw [List.replicate_succ, List.flatten_cons, ih, List.replicate_succ]; rfl
section
variable {P : Program} {w : World} {K : PySem.W.Frag} {mg : Str → Option Value} {base : Heap} {C D : Addr}
/-- _law_shows(plan, room, wide) -/
def spShows (C D : Addr) : Sp := fun vs H Q _ => ∃ (v : V) (ts : List RT) (room wi : Nat), vs = [v, .int (room : Nat), .int (wi : Nat)] ∧ WorkAt C D H v ts ∧ (∀ t ∈ ts, t.ok) ∧ ts.length ≤ 126 ∧ 2 ≤ wi ∧ wi ≤ room ∧ room ≤ 128 ∧ ∀ H' : Hp, L2.Same H H' → Q (.str (textOf (rowB wi ts (showRow room wi)))) H'
theorem scShows : FnScope ["_law_plan", "_law_room", "_law_wide", "_law_bits_now"] ["_law_plan", "_law_room", "_law_wide"] (defScope sShows) := ⟨rfl, rfl, rfl, by decide +kernel, rfl, by decide +kernel, by decide +kernel⟩
theorem ok_shows {f : Addr} {fd : FuncData} (F : Fun K "_law_shows" "_law_shows" sShows f fd) (W : TxW K mg C D) (cO : CalO P w K mg base 5 D (spWCall C D)) : FnG P w K mg base 6 f fd ["_law_plan", "_law_room", "_law_wide"] (spShows C D) := by
  have B := W.T.bi
  refine FnG.mk' F scShows (fun vs H Q E h => ?_) (fun cdv A outer s H vs Q E hgd hr h => ?_)
  · obtain ⟨v, ts, room, wi, rfl, _⟩ := h
    rfl
  · obtain ⟨v, ts, room, wi, rfl, hv, ho, hl, w0, w1, w2, k⟩ := h
    refine ⟨_, pss_cons (ps_set (i := 3) scShows.nd rfl (.inl rfl) (pe_op op_cat (pe_op op_cat (pe_op op_rep (pe_lst (pa_cons pe_int pa_nil)) (pe_op op_sub (pv 2) pe_int)) (pe_lst (pa_cons pe_int pa_nil))) (pe_op op_rep (pe_lst (pa_cons pe_non pa_nil)) (pe_op op_sub (pv 1) (pv 2)))))
      (pss_one (ps_ret (pe_callB (call_reprD hgd hr.units) (by rfl) B.repr (by decide +kernel) (pa_cons (pe_o (pv 0) cO hr (by decide) (pa_cons (pv 3) (pa_cons (pv 2) pa_nil))) pa_nil)))), ?_⟩
    have e1 : ((wi : Nat) : Int) - 1 = ((wi - 1 : Nat) : Int) := by omega
    have e2 : ((room : Nat) : Int) - ((wi : Nat) : Int) = ((room - wi : Nat) : Int) := by omega
    refine ⟨(by show 1 ≤ sizeLine; decide), fun l1 hl1 => ⟨_, rfl, _, _, rfl, rfl, ?_⟩⟩
    have s1 := same_new (o := .lst [.int 0]) hl1
    dsimp only
    rw [e1]
    refine ⟨l1, _, _, rfl, rfl, upd_same, by omega, by omega, line_ge (by rw [List.length_singleton, Int.toNat_natCast]; omega), fun l2 hl2 => ?_⟩
    have s2 := s1.trans (same_new (o := .lst (List.replicate ((wi - 1 : Nat) : Int).toNat [V.int 0]).flatten) hl2)
    have d2 : upd (upd H l1 (.lst [.int 0])) l2 (.lst (List.replicate ((wi - 1 : Nat) : Int).toNat [V.int 0]).flatten) l2 = some (.lst (List.replicate (wi - 1) (V.int 0))) := by
      rw [flat_rep, Int.toNat_natCast]
      exact upd_same
    generalize upd (upd H l1 (.lst [.int 0])) l2 (.lst (List.replicate ((wi - 1 : Nat) : Int).toNat [V.int 0]).flatten) = H2 at s2 d2 ⊢
    refine ⟨(by show 1 ≤ sizeLine; decide), fun l3 hl3 => ?_⟩
    have s3 := s2.trans (same_new (o := .lst [.int 1]) hl3)
    have d23 := same_new (o := .lst [.int 1]) hl3 _ _ d2
    refine ⟨l2, l3, _, _, rfl, rfl, d23, upd_same, line_ge (by rw [List.length_replicate, List.length_singleton]; omega), fun l4 hl4 => ?_⟩
    have s4 := s3.trans (same_new (o := .lst (List.replicate (wi - 1) (V.int 0) ++ [V.int 1])) hl4)
    have d4 : upd (upd H2 l3 (.lst [.int 1])) l4 (.lst (List.replicate (wi - 1) (V.int 0) ++ [V.int 1])) l4 = some (.lst (List.replicate (wi - 1) (V.int 0) ++ [V.int 1])) := upd_same
    generalize upd (upd H2 l3 (.lst [.int 1])) l4 (.lst (List.replicate (wi - 1) (V.int 0) ++ [V.int 1])) = H4 at s4 d4 ⊢
    refine ⟨(by show 1 ≤ sizeLine; decide), fun l5 hl5 => ⟨_, rfl, _, rfl, _, _, rfl, rfl, ?_⟩⟩
    have s5 := s4.trans (same_new (o := .lst [.non]) hl5)
    have d45 := same_new (o := .lst [.non]) hl5 _ _ d4
    have d5 : upd H4 l5 (.lst [.non]) l5 = some (.lst [.non]) := upd_same
    generalize upd H4 l5 (.lst [.non]) = H5 at s5 d45 d5 ⊢
    dsimp only
    rw [e2]
    refine ⟨l5, _, _, rfl, rfl, d5, by omega, by omega, line_ge (by rw [List.length_singleton, Int.toNat_natCast]; omega), fun l6 hl6 => ?_⟩
    have s6 := s5.trans (same_new (o := .lst (List.replicate ((room - wi : Nat) : Int).toNat [V.non]).flatten) hl6)
    have d46 := same_new (o := .lst (List.replicate ((room - wi : Nat) : Int).toNat [V.non]).flatten) hl6 _ _ d45
    have d6 : upd H5 l6 (.lst (List.replicate ((room - wi : Nat) : Int).toNat [V.non]).flatten) l6 = some (.lst (List.replicate (room - wi) V.non)) := by
      rw [flat_rep, Int.toNat_natCast]
      exact upd_same
    generalize upd H5 l6 (.lst (List.replicate ((room - wi : Nat) : Int).toNat [V.non]).flatten) = H6 at s6 d46 d6 ⊢
    refine ⟨l4, l6, _, _, rfl, rfl, d46, d6, line_ge (by rw [List.length_append, List.length_replicate, List.length_replicate, List.length_singleton]; omega), fun l7 hl7 => ?_⟩
    have s7 := s6.trans (same_new (o := .lst (List.replicate (wi - 1) (V.int 0) ++ [V.int 1] ++ List.replicate (room - wi) V.non)) hl7)
    have d7 : upd H6 l7 (.lst (List.replicate (wi - 1) (V.int 0) ++ [V.int 1] ++ List.replicate (room - wi) V.non)) l7 = some (.lst ((showRow room wi).map bV)) := by
      unfold showRow
      rw [List.map_append, List.map_append, List.map_replicate, List.map_replicate]
      exact upd_same
    generalize upd H6 l7 (.lst (List.replicate (wi - 1) (V.int 0) ++ [V.int 1] ++ List.replicate (room - wi) V.non)) = H7 at s7 d7 ⊢
    have hv7 := hv.same s7
    obtain ⟨va, vd, vT, vas, rfl, v1, v2, v3⟩ := id hv7
    have hrl := showRow_len w0 w1
    refine ⟨_, rfl, va, rfl, _, rfl, _, rfl, .inr ⟨vd, _, v1⟩, .ref va, ts, l7, showRow room wi, wi, rfl, hv7, ho, hl, .inl d7, by omega, w0, by omega, fun L8 H8 hL8 s8 d8 => ?_⟩
    obtain ⟨z1, z2, z3, z4⟩ := bits_data (rowB wi ts (showRow room wi)) (by rw [rowB_len]; omega)
    exact ⟨_, _, rfl, .lst (SqL.of d8) (bDs_dp _), z1, z2, z3, line_ge (Nat.le_trans z4 (by decide)), k H8 (s7.trans s8)⟩
end
end K15
set_option Elab.async false
set_option linter.all false
set_option maxRecDepth 100000
set_option maxHeartbeats 4000000
namespace K15
open PySem L2 UL
/-! ### fills on rows: the mathematics -/
theorem over_nil (w : Nat) (xs : List Bt) (j : Nat) (x : Bt) : overB w xs [] j x = x := rfl
theorem over_cons (w : Nat) (xs : List Bt) (t : RT) (us : List RT) (j : Nat) (x : Bt) : overB w xs (t :: us) j x = overB w xs us j (if j < t.2.toNat then bitOf w t.1 xs else x) := rfl
/-- rows are equal where what is set is -/
theorem rowB_eq {w : Nat} (hw : 1 ≤ w) {us vs : List RT} {xs : List Bt} (h : ∀ j x, w ≤ j → j < xs.length → overB w xs us j x = overB w xs vs j x) : rowB w us xs = rowB w vs xs := by
  refine List.ext_getElem? fun j => ?_
  rw [rowB_get hw, rowB_get hw]
  by_cases l : j < xs.length
  · rw [List.getElem?_eq_getElem l]
    show some (if w ≤ j then _ else xs[j]) = some (if w ≤ j then _ else xs[j])
    by_cases c : w ≤ j
    · rw [if_pos c, if_pos c, h j _ c l]
    · rw [if_neg c, if_neg c]
  · rw [List.getElem?_eq_none (by omega)]
    rfl
theorem rowB_ne {w : Nat} (hw : 1 ≤ w) {us vs : List RT} {xs : List Bt} (h : rowB w us xs = rowB w vs xs) {j : Nat} (l : j < xs.length) (c : w ≤ j) : overB w xs us j xs[j] = overB w xs vs j xs[j] := by
  have e : (rowB w us xs)[j]? = (rowB w vs xs)[j]? := by rw [h]
  rw [rowB_get hw, rowB_get hw, List.getElem?_eq_getElem l] at e
  have e' : some (if w ≤ j then overB w xs us j xs[j] else xs[j]) = some (if w ≤ j then overB w xs vs j xs[j] else xs[j]) := e
  rw [if_pos c, if_pos c] at e'
  exact Option.some.inj e'
/-- a cut fill does the same -/
theorem cut_same {w : Nat} (hw : 2 ≤ w) {t : FT} (ht : t.ok) {xs : List Bt} : rowB w (more (cutF t (w : Nat) (xs.length : Nat))) xs = rowB w (more t) xs := by
  refine rowB_eq (by omega) fun j x c l => ?_
  cases t with
  | free => rfl
  | f s n =>
    obtain ⟨n0, n1⟩ := (show 3 ≤ n ∧ n ≤ 128 from ht)
    have e : cutF (.f s n) ((w : Nat) : Int) ((xs.length : Nat) : Int) = if (if n < ((xs.length : Nat) : Int) then n else ((xs.length : Nat) : Int)) ≤ ((w : Nat) : Int) then .free else .f s (if n < ((xs.length : Nat) : Int) then n else ((xs.length : Nat) : Int)) := rfl
    rw [e]
    by_cases c1 : n < ((xs.length : Nat) : Int)
    · rw [if_pos c1]
      by_cases c2 : n ≤ ((w : Nat) : Int)
      · rw [if_pos c2]
        show x = if j < n.toNat then _ else x
        rw [if_neg (by omega)]
      · rw [if_neg c2]
    · rw [if_neg c1]
      by_cases c2 : ((xs.length : Nat) : Int) ≤ ((w : Nat) : Int)
      · omega
      · rw [if_neg c2]
        show (if j < (((xs.length : Nat) : Int)).toNat then bitOf w s xs else x) = if j < n.toNat then bitOf w s xs else x
        rw [if_pos (by omega), if_pos (by omega)]
/-- what a cut fill is -/
def cutIn (w n : Nat) : FT → Prop
  | .free => True
  | .f _ e => (w : Nat) < e ∧ e ≤ (n : Nat)
theorem cut_in {w n : Nat} (t : FT) : cutIn w n (cutF t (w : Nat) (n : Nat)) := by
  cases t with
  | free => exact True.intro
  | f s m =>
    show cutIn w n (if (if m < ((n : Nat) : Int) then m else ((n : Nat) : Int)) ≤ ((w : Nat) : Int) then .free else .f s (if m < ((n : Nat) : Int) then m else ((n : Nat) : Int)))
    by_cases c1 : m < ((n : Nat) : Int)
    · rw [if_pos c1]
      by_cases c2 : m ≤ ((w : Nat) : Int)
      · rw [if_pos c2]
        exact True.intro
      · rw [if_neg c2]
        exact ⟨by omega, by omega⟩
    · rw [if_neg c1]
      by_cases c2 : ((n : Nat) : Int) ≤ ((w : Nat) : Int)
      · rw [if_pos c2]
        exact True.intro
      · rw [if_neg c2]
        exact ⟨by omega, by omega⟩
/-- behind the end a cut fill sets nothing -/
theorem cut_longer {w n : Nat} (hw : 2 ≤ w) {t : FT} (h : cutIn w n t) {xs ys : List Bt} (hn : xs.length = n) : (rowB w (more t) (xs ++ ys)).drop n = ys := by
  refine List.ext_getElem? fun j => ?_
  rw [List.getElem?_drop, rowB_get (by omega)]
  rw [List.getElem?_append_right (by omega), show n + j - xs.length = j by omega]
  cases ys[j]? with
  | none => rfl
  | some y =>
    show some (if w ≤ n + j then overB w (xs ++ ys) (more t) (n + j) y else y) = some y
    cases t with
    | free =>
      show some (if w ≤ n + j then y else y) = some y
      rw [ite_self]
    | f s e =>
      obtain ⟨e0, e1⟩ := (show (w : Nat) < e ∧ e ≤ (n : Nat) from h)
      show some (if w ≤ n + j then (if n + j < e.toNat then _ else y) else y) = some y
      rw [if_neg (show ¬ n + j < e.toNat by omega), ite_self]
theorem show_bit {w n : Nat} (hw : 2 ≤ w) (hn : w ≤ n) (s : Bool) : bitOf w s (showRow n w) = some s := by
  cases s with
  | false => rfl
  | true =>
    show ((showRow n w)[w - 1]?).getD none = some true
    unfold showRow
    rw [List.append_assoc, List.getElem?_append_right (by rw [List.length_replicate]; omega), List.length_replicate, Nat.sub_self]
    rfl
theorem show_at {w n j : Nat} (hw : 2 ≤ w) (hn : w ≤ n) (h1 : w ≤ j) (h2 : j < (showRow n w).length) : (showRow n w)[j] = none := by
  have h3 := h2
  rw [showRow_len hw hn] at h3
  have e : (showRow n w)[j]? = some none := by
    unfold showRow
    rw [List.getElem?_append_right (by rw [List.length_append, List.length_replicate, List.length_singleton]; omega), List.length_append, List.length_replicate, List.length_singleton, List.getElem?_replicate, if_pos (by omega)]
  rw [List.getElem?_eq_getElem h2] at e
  exact Option.some.inj e
/-- what is set at j by one cut fill, by two -/
theorem over_f (w : Nat) (xs : List Bt) (s : Bool) (e : Int) (j : Nat) (x : Bt) : overB w xs (more (.f s e)) j x = if j < e.toNat then bitOf w s xs else x := rfl
theorem over_free' (w : Nat) (xs : List Bt) (j : Nat) (x : Bt) : overB w xs (more .free) j x = x := rfl
theorem over_app (w : Nat) (xs : List Bt) (us vs : List RT) (j : Nat) (x : Bt) : overB w xs (us ++ vs) j x = overB w xs vs j (overB w xs us j x) := by
  unfold overB
  rw [List.foldl_append]
theorem cov_both {w n : Nat} (hw : 2 ≤ w) {a b : FT} {xs : List Bt} (hn : xs.length = n) (hc : covF a b = true) : rowB w (more a ++ more b) xs = rowB w (more a) xs ∧ rowB w (more b ++ more a) xs = rowB w (more a) xs := by
  cases b with
  | free =>
    refine ⟨by rw [show more .free = [] from rfl, List.append_nil], by rw [show more .free = [] from rfl, List.nil_append]⟩
  | f s' e' =>
    cases a with
    | free => cases (show false = true from hc)
    | f s e =>
      have hc' : (decide (s = s') && decide (e' ≤ e)) = true := hc
      rw [Bool.and_eq_true, decide_eq_true_iff, decide_eq_true_iff] at hc'
      obtain ⟨rfl, le⟩ := hc'
      refine ⟨rowB_eq (by omega) fun j x c l => ?_, rowB_eq (by omega) fun j x c l => ?_⟩
      · simp only [over_app, over_f]
        by_cases c1 : j < e'.toNat
        · rw [if_pos c1, if_pos (by omega)]
        · rw [if_neg c1]
      · simp only [over_app, over_f]
        by_cases c1 : j < e.toNat
        · rw [if_pos c1, if_pos c1]
        · rw [if_neg c1, if_neg c1, if_neg (by omega)]
theorem cov_show {w n : Nat} (hw : 2 ≤ w) (hn : w ≤ n) {a b : FT} (ha : cutIn w n a) (hb : cutIn w n b) (h : rowB w (more a) (showRow n w) = rowB w (more a ++ more b) (showRow n w)) : covF a b = true := by
  have hl := showRow_len hw hn
  cases b with
  | free => cases a <;> rfl
  | f s' e' =>
    obtain ⟨g0, g1⟩ := (show (w : Nat) < e' ∧ e' ≤ (n : Nat) from hb)
    have l : e'.toNat - 1 < (showRow n w).length := by omega
    have q := rowB_ne (by omega) h l (by omega)
    rw [show_at hw hn (by omega) l, over_app, over_f, if_pos (by omega), show_bit hw hn] at q
    cases a with
    | free => cases (show (none : Bt) = some s' from q)
    | f s e =>
      rw [over_f, show_bit hw hn] at q
      show (decide (s = s') && decide (e' ≤ e)) = true
      by_cases c : e'.toNat - 1 < e.toNat
      · rw [if_pos c] at q
        rw [Option.some.inj q, decide_eq_true rfl, decide_eq_true (by omega)]
        rfl
      · rw [if_neg c] at q
        cases q
theorem same_show {w n : Nat} (hw : 2 ≤ w) (hn : w ≤ n) {a b : FT} (ha : cutIn w n a) (hb : cutIn w n b) (h : rowB w (more a) (showRow n w) = rowB w (more b) (showRow n w)) : a = b := by
  have hl := showRow_len hw hn
  have at_ : ∀ j : Nat, w ≤ j → j < n → overB w (showRow n w) (more a) j none = overB w (showRow n w) (more b) j none := fun j c l => by
    have q := rowB_ne (by omega) h (show j < (showRow n w).length by omega) c
    rwa [show_at hw hn c (by omega)] at q
  cases a with
  | free =>
    cases b with
    | free => rfl
    | f s' e' =>
      obtain ⟨g0, g1⟩ := (show (w : Nat) < e' ∧ e' ≤ (n : Nat) from hb)
      have q := at_ w (Nat.le_refl _) (by omega)
      rw [over_free', over_f, if_pos (by omega), show_bit hw hn] at q
      cases q
  | f s e =>
    obtain ⟨f0, f1⟩ := (show (w : Nat) < e ∧ e ≤ (n : Nat) from ha)
    cases b with
    | free =>
      have q := at_ w (Nat.le_refl _) (by omega)
      rw [over_free', over_f, if_pos (by omega), show_bit hw hn] at q
      cases q
    | f s' e' =>
      obtain ⟨g0, g1⟩ := (show (w : Nat) < e' ∧ e' ≤ (n : Nat) from hb)
      have q := at_ w (Nat.le_refl _) (by omega)
      rw [over_f, over_f, if_pos (by omega), if_pos (by omega), show_bit hw hn, show_bit hw hn] at q
      obtain rfl := Option.some.inj q
      have he : e = e' := by
        rcases Int.lt_trichotomy e e' with z | z | z
        · have q := at_ e.toNat (by omega) (by omega)
          rw [over_f, over_f, if_neg (by omega), if_pos (by omega), show_bit hw hn] at q
          cases q
        · exact z
        · have q := at_ e'.toNat (by omega) (by omega)
          rw [over_f, over_f, if_pos (by omega), if_neg (by omega), show_bit hw hn] at q
          cases q
      rw [he]
theorem plain_one (a b : FT) : decide (plainR (more a) = plainR (more b)) = decide (a = b) := by
  cases a with
  | free =>
    cases b with
    | free => rfl
    | f s' e' => 
      rw [decide_eq_false (show ¬ plainR (more .free) = plainR (more (.f s' e')) from fun z => nomatch (show ([] : List RT) = [(s', e')] from z)), decide_eq_false (fun z => nomatch z)]
  | f s e =>
    cases b with
    | free => rw [decide_eq_false (show ¬ plainR (more (.f s e)) = plainR (more .free) from fun z => nomatch (show [(s, e)] = ([] : List RT) from z)), decide_eq_false (fun z => nomatch z)]
    | f s' e' =>
      by_cases c : (s, e) = (s', e')
      · cases c
        rw [decide_eq_true rfl, decide_eq_true rfl]
      · rw [decide_eq_false (show ¬ plainR (more (.f s e)) = plainR (more (.f s' e')) from fun z => c (List.cons.inj (show [(s, e)] = [(s', e')] from z)).1), decide_eq_false (fun z => by cases z; exact c rfl)]
end K15
set_option Elab.async false
set_option linter.all false
set_option maxRecDepth 100000
set_option maxHeartbeats 4000000
--@macros begin
local macro_rules | `(tactic| walk_at "look") => `(tactic| first
  | assumption
  | exact L2.upd_same
  | (with_reducible refine UL.new_look (by assumption) ?_; walk_at "look")
  | (with_reducible refine UL.Same.look (by assumption) ?_; walk_at "look")
  | (with_reducible refine UL.Stay.lookT (by assumption) (by walk_at "pot") ?_; walk_at "look")
  | (with_reducible refine UL.Stay.lookI (by assumption) (by walk_at "pot") ?_; walk_at "look"))
local macro_rules | `(tactic| walk_at "pot") => `(tactic| first
  | assumption
  | (with_reducible refine UL.Pot.same (H := _) ?_ (UL.same_new (by assumption)); walk_at "pot")
  | (with_reducible refine UL.Pot.same (H := _) ?_ (by assumption); walk_at "pot"))
local macro_rules | `(tactic| walk_at "same") => `(tactic| first
  | assumption
  | exact L2.Same.refl _
  | exact UL.same_new (by assumption)
  | (with_reducible refine L2.Same.trans ?_ (UL.same_new (by assumption)); walk_at "same")
  | (with_reducible refine L2.Same.trans ?_ (by assumption); walk_at "same"))
local macro_rules | `(tactic| walk_at "stay") => `(tactic| first
  | assumption
  | exact UL.Stay.refl _ _
  | exact UL.stay_upd
  | exact UL.Same.stay (by walk_at "same") _
  | (with_reducible refine UL.Stay.trans ?_ (UL.Same.stay (UL.same_new (by assumption)) _); walk_at "stay")
  | (with_reducible refine UL.Stay.trans ?_ (UL.Same.stay (by assumption) _); walk_at "stay")
  | (with_reducible refine UL.Stay.trans ?_ (by assumption); walk_at "stay")
  | (with_reducible refine UL.Stay.trans ?_ UL.stay_upd; walk_at "stay"))
local macro_rules | `(tactic| walk_at "side") => `(tactic| first
  | assumption
  | rfl
  | exact L2.SqL.of (by walk_at "look")
  | exact L2.SqT.of (by walk_at "look")
  | (with_reducible show _ = some _; walk_at "look")
  | exact L2.atI_nat rfl
  | (with_reducible show UL.Pot _ _; walk_at "pot")
  | (with_reducible show L2.Same _ _; walk_at "same")
  | (with_reducible show UL.Stay _ _ _; walk_at "stay")
  | omega
  | decide
  | (with_reducible show _ ∨ _; first | exact Or.inl (by walk_at "side") | exact Or.inr (by walk_at "side"))
  | (with_reducible show _ ∧ _; exact And.intro (by walk_at "side") (by walk_at "side")))
local macro_rules | `(tactic| walk_at "st3") => `(tactic| first
  | (apply And.intro; · walk_at "side"
     walk_at "st3")
  | skip)
local macro_rules | `(tactic| walk_at "st2") => `(tactic| first
  | (apply Exists.intro; walk_at "st2")
  | (apply And.intro; · walk_at "side"
     walk_at "st3"))
local macro_rules | `(tactic| walk_at "st") => `(tactic| first
  | (refine iteT ?_)
  | (refine iteF ?_)
  | (apply Exists.intro; walk_at "st2"; all_goals (change (_ : Prop)))
  | (apply And.intro; · walk_at "side"
     walk_at "st3"; all_goals (change (_ : Prop)))
  | (apply Or.inl; walk_at "st")
  | (apply Or.inr; walk_at "st"))
local macro_rules | `(tactic| walk_at "go") => `(tactic| repeat walk_at "st")
--@macros end
--@macros begin
local macro_rules | `(tactic| walk_at "fill") => `(tactic| first
  | assumption
  | (with_reducible refine K15.FillAt.same ?_ (UL.same_new (by assumption)); walk_at "fill")
  | (with_reducible refine K15.FillAt.same ?_ (by assumption); walk_at "fill"))
local macro_rules | `(tactic| walk_at "work") => `(tactic| first
  | assumption
  | (with_reducible refine K15.WorkAt.same ?_ (UL.same_new (by assumption)); walk_at "work")
  | (with_reducible refine K15.WorkAt.same ?_ (by assumption); walk_at "work"))
--@macros end
namespace K15
open PySem L2 UL
/-- what the law asks of the text -/
structure Wk (P : Program) (w : World) (K : PySem.W.Frag) (mg : Str → Option Value) (base : Heap) (C D R S N gA aA : Addr) : Prop where
  W : TxW K mg C D
  T : TxP K mg R S N gA aA
  cM : MakR P w K mg base 3 "Work" D (spWMake C D)
  cW : CalP P w K mg base 1 C "word" (spGet C fun t => .str t.w)
  cE : CalP P w K mg base 1 C "extent" (spGet C FT.e)
  cFEq : CalS P w K mg base 1 C "__eq__" (spEqF K C)
  cCut : CalM P w K mg base 5 C "cut" (spCutF C)
  cCov : CalM P w K mg base 3 C "covers" (spCovF C)
  cAd : CalS P w K mg base 5 D "__add__" (spWAdd C D)
  cO : CalO P w K mg base 5 D (spWCall C D)
  cLk : CalM P w K mg base 6 D "is_like" (spLike C D)
  cdr : Cal P w K mg base 1 "_law_draw" spDraw
  cpk : Cal P w K mg base 2 "_law_pick" (spPick1 K)
  cpl : Cal P w K mg base 5 "_law_place" (spPlace R S N)
  cfi : Cal P w K mg base 5 "_law_fill" (spFillL C)
  cwk : Cal P w K mg base 5 "_law_work" (spWorkL C D)
  cst : Cal P w K mg base 3 "_law_set" (spSet C)
  csh : CalG P w K mg base 6 "_law_shows" (spShows C D)
theorem repr_row {K : PySem.W.Frag} {H : Hp} {l : Addr} {xs : List Bt} {Q : VK} (h : H l = some (.lst (xs.map bV))) (hx : xs.length ≤ 200) (k : Q (.str (textOf xs)) H) : rReprD K [.ref l] H Q := by
  obtain ⟨z1, z2, z3, z4⟩ := bits_data xs hx
  exact ⟨_, _, rfl, .lst (SqL.of h) (bDs_dp _), z1, z2, z3, line_ge (Nat.le_trans z4 (by decide)), k⟩
theorem more_ok {t : FT} (h : t.ok) : ∀ u ∈ more t, u.ok := by
  cases t with
  | free => intro u hu; cases hu
  | f s n =>
    intro u hu
    rw [List.mem_singleton.mp hu]
    exact h
theorem more_len (t : FT) : (more t).length ≤ 1 := by cases t <;> simp [more]
theorem enc_small : ∀ (xs : List Bt), ∀ c ∈ enc xs, c < 1114112 := by
  have tk : ∀ x : Bt, ∀ c ∈ tok x, c < 1114112 := by
    intro x
    rcases x with _ | _ | _ <;> decide
  have te : ∀ xs : List Bt, ∀ c ∈ encT xs, c < 1114112 := by
    intro xs
    induction xs with
    | nil => decide
    | cons x xs ih =>
      intro c hc
      simp only [encT, List.mem_cons, List.mem_append] at hc
      rcases hc with rfl | rfl | h | h
      · decide
      · decide
      · exact tk x c h
      · exact ih c h
  intro xs
  cases xs with
  | nil => decide
  | cons x xs =>
    intro c hc
    simp only [enc, List.mem_cons, List.mem_append] at hc
    rcases hc with rfl | h | h
    · decide
    · exact tk x c h
    · exact te xs c h
theorem text_lay (xs : List Bt) : (PyData.str (textOf xs)).canLay0 = true := by
  show PyData.strOk (textOf xs) = true
  unfold PyData.strOk
  rw [← Array.all_toList, show (textOf xs).cps.toList = enc xs by unfold textOf; rw [shown_bits, text_enc]]
  exact List.all_eq_true.mpr fun c hc => decide_eq_true (enc_small xs c hc)
theorem text_eq (xs ys : List Bt) : decide (V.str (textOf xs) = V.str (textOf ys)) = decide (xs = ys) := shown_inj
section
variable {P : Program} {w : World} {K : PySem.W.Frag} {mg : Str → Option Value} {base : Heap} {C D R S N gA aA : Addr}
/-- what a work's call on two names asks, once the work stands -/
theorem run_at {X : Cx} {σ : L2.St} {i j : Nat} {H : Hp} {u : V} {ts : List RT} {r : Addr} {xs : List Bt} {wi : Nat} {Q : VK} (hu : WorkAt C D H u ts) (ho : ∀ t ∈ ts, t.ok) (hl : ts.length ≤ 126) (hr : RowAt H r xs) (hx : xs.length ≤ 200) (w0 : 2 ≤ wi) (w1 : wi ≤ 128)
    (hi : σ[i]? = some (some (.ref r))) (hj : σ[j]? = some (some (.int (wi : Nat))))
    (k : ∀ (L : Addr) (H' : Hp), L2.Same H H' → H' L = some (.lst ((rowB wi ts xs).map bV)) → Q (.ref L) H') : ∃ a, u = V.ref a ∧ tCons (tVar i) (tCons (tVar j) tNil) σ H fun vs H2 => StX.InsC X H2 a D ∧ spWCall C D (V.ref a :: vs) H2 Q E0 := by
  obtain ⟨a, dx, T, as, rfl, h1, h2, h3⟩ := id hu
  exact ⟨a, rfl, _, hi, _, hj, .inr ⟨dx, _, h1⟩, .ref a, ts, r, xs, wi, rfl, hu, ho, hl, hr, hx, w0, w1, fun L H' _ s d => k L H' s d⟩
/-- _law_alone_right(fill, bits, wide) -/
def spAlone (C : Addr) : Sp := fun vs H Q _ => ∃ (v : V) (t : RT) (r : Addr) (xs : List Bt) (wi : Nat), vs = [v, .ref r, .int (wi : Nat)] ∧ FillAt C H v (RT.ft t) ∧ t.ok ∧ H r = some (.lst (xs.map bV)) ∧ 2 ≤ wi ∧ wi ≤ xs.length ∧ xs.length ≤ 128 ∧ ∀ H' : Hp, L2.Same H H' → Q (.bl true) H'
theorem scAlone : FnScope ["_law_fill_here", "_law_bits_now", "_law_wide", "_law_less", "_law_due", "_law_told", "_law_one", "_law_longer"] ["_law_fill_here", "_law_bits_now", "_law_wide"] (defScope sAlone) := ⟨rfl, rfl, rfl, by decide +kernel, rfl, by decide +kernel, by decide +kernel⟩
theorem ok_alone {f : Addr} {fd : FuncData} (F : Fun K "_law_alone_right" "_law_alone_right" sAlone f fd) (M : Wk P w K mg base C D R S N gA aA) : FnG P w K mg base 7 f fd ["_law_fill_here", "_law_bits_now", "_law_wide"] (spAlone C) := by
  refine FnG.mk' F scAlone (fun vs H Q E h => ?_) (fun cdv A outer s H vs Q E hgd hr h => ?_)
  · obtain ⟨v, t, r, xs, wi, rfl, _⟩ := h
    rfl
  · obtain ⟨v, t, r, xs, wi, rfl, hv, ht, hr1, w0, w1, w2, k⟩ := h
    refine ⟨_, pss_cons (ps_set (i := 3) scAlone.nd rfl (.inl rfl) (pe_m (pv 0) M.cCut hr (by decide) (pa_cons (pv 2) (pa_cons (pe_callB call_len_seq (by rfl) M.W.T.bi.len (by decide +kernel) (pa_cons (pv 1) pa_nil)) pa_nil))))
      (pss_cons (ps_set (i := 4) scAlone.nd rfl (.inl rfl) (pe_c M.cst hr (by decide) (by rfl) (pa_cons (pv 0) (pa_cons (pv 1) (pa_cons (pv 2) pa_nil)))))
      (pss_cons (ps_set (i := 5) scAlone.nd rfl (.inl rfl) (pe_lst (pa_cons (pe_o (pe_c M.cwk hr (by decide) (by rfl) (pa_cons (pv 0) pa_nil)) M.cO hr (by decide) (pa_cons (pv 1) (pa_cons (pv 2) pa_nil))) (pa_cons (pe_o (pe_c M.cwk hr (by decide) (by rfl) (pa_cons (pv 3) pa_nil)) M.cO hr (by decide) (pa_cons (pv 1) (pa_cons (pv 2) pa_nil))) (pa_cons (pe_o (pe_op (op_addS M.cAd M.W.sf hr (by decide)) (pe_nR0 M.cM hr (by decide) (by rfl)) (pv 3)) M.cO hr (by decide) (pa_cons (pv 1) (pa_cons (pv 2) pa_nil))) pa_nil)))))
      (pss_cons (ps_if (PW.pt (pw_or (pt_cmpR (op_neD hr.units) (pe_lc (own := [("_law_one", 6)]) (g := gName 6) (tt := tYes) rfl scAlone.nd (pi_list (pv 5)) (blkOk_by (N := ["_law_fill_here", "_law_bits_now", "_law_wide", "_law_less", "_law_due", "_law_told", "_law_one", "_law_longer"]) (sc := defScope sAlone) (by decide +kernel)) (fun _ _ _ _ _ => pg_name (i := 6) scAlone.nd rfl (Or.inl rfl)) (fun _ _ _ _ _ => pts_nil) (fun _ _ _ _ _ => pe_callB (r := rReprD K) (call_reprD hgd hr.units) (by rfl) M.W.T.bi.repr (by decide +kernel) (pa_cons (pv 6) pa_nil))) (pe_op op_rep (pe_lst (pa_cons (pe_callB (r := rReprD K) (call_reprD hgd hr.units) (by rfl) M.W.T.bi.repr (by decide +kernel) (pa_cons (pv 4) pa_nil)) pa_nil)) pe_int) (nomark _)) (pw_or1 (pt_cmpR op_ne (pe_callB (r := rReprD K) (call_reprD hgd hr.units) (by rfl) M.W.T.bi.repr (by decide +kernel) (pa_cons (pe_c M.cst hr (by decide) (by rfl) (pa_cons (pv 3) (pa_cons (pv 1) (pa_cons (pv 2) pa_nil)))) pa_nil)) (pe_callB (r := rReprD K) (call_reprD hgd hr.units) (by rfl) M.W.T.bi.repr (by decide +kernel) (pa_cons (pv 4) pa_nil)) (nomark _))))) (pss_one (ps_ret pe_bl)) pss_nil)
      (pss_cons (ps_set (i := 7) scAlone.nd rfl (.inl rfl) (pe_op op_cat (pe_callTy call_list_of (by rfl) M.W.li (by decide +kernel) (pa_cons (pv 1) pa_nil)) (pe_op op_rep (pe_lst (pa_cons pe_non pa_nil)) pe_int)))
      (pss_one (ps_ret (pe_or (pe_cmpR op_eq (pe_p (pv 3) M.cW hr (by decide) (by rfl)) pe_str (nomark _)) (pe_one (pe_cmpR op_eq (pe_callB (r := rReprD K) (call_reprD hgd hr.units) (by rfl) M.W.T.bi.repr (by decide +kernel) (pa_cons (pe_slice sl_list (pe_o (pe_c M.cwk hr (by decide) (by rfl) (pa_cons (pv 3) pa_nil)) M.cO hr (by decide) (pa_cons (pv 7) (pa_cons (pv 2) pa_nil))) (po_some (pe_un un_neg pe_int)) po_none) pa_nil)) pe_str (nomark _)))))))))), ?_⟩
    obtain ⟨a, dx, rfl, ha⟩ := id hv
    have hxl : ((xs.map bV).length : Int) = ((xs.length : Nat) : Int) := by rw [List.length_map]
    refine ⟨_, rfl, a, dx, _, rfl, ha, ff_no _ (by decide +kernel) (by decide +kernel), _, rfl, _, rfl, r, _, rfl, .inl (SqL.of hr1), ?_⟩
    rw [hxl]
    refine ⟨_, RT.ft t, _, _, rfl, hv, ht, by omega, by omega, by omega, by omega, fun u1 H1 s1 hu1 => ?_⟩
    have hin : cutIn wi xs.length (cutF (RT.ft t) (wi : Nat) (xs.length : Nat)) := cut_in _
    have hco : (cutF (RT.ft t) (wi : Nat) (xs.length : Nat)).ok := cutF_ok ht (by omega) (by omega)
    have heq := cut_same w0 (t := RT.ft t) ht (xs := xs)
    generalize cutF (RT.ft t) (wi : Nat) (xs.length : Nat) = c at hu1 hin hco heq
    have hl := rowB_len wi (more (RT.ft t)) xs
    refine ⟨_, rfl, _, rfl, _, rfl, _, RT.ft t, r, xs, wi, rfl, hv.same s1, ht, s1 _ _ hr1, by omega, w0, by omega, fun P2 H2 _ s2 d2 => ?_⟩
    obtain ⟨zs, hz⟩ : ∃ zs, zs = rowB wi (more (RT.ft t)) xs := ⟨_, rfl⟩
    rw [← hz] at hl d2 heq
    refine ⟨_, rfl, _, RT.ft t, rfl, by walk_at "fill", fun y3 H3 s3 hy3 => ?_⟩
    refine run_at hy3 (more_ok (t := RT.ft t) ht) (Nat.le_trans (more_len _) (by decide)) (.inl (show H3 r = some (.lst (xs.map bV)) by walk_at "look")) (by omega) w0 (by omega) rfl rfl fun P4 H4 s4 d4 => ?_
    rw [← hz] at d4
    refine ⟨_, rfl, _, c, rfl, by walk_at "fill", fun y5 H5 s5 hy5 => ?_⟩
    refine run_at hy5 (more_ok hco) (Nat.le_trans (more_len _) (by decide)) (.inl (show H5 r = some (.lst (xs.map bV)) by walk_at "look")) (by omega) w0 (by omega) rfl rfl fun P6 H6 s6 d6 => ?_
    rw [heq] at d6
    intro x7 dx7' nx7 nd7 ne7
    refine wmade1 (as := []) (ts := []) (vs := []) nx7 nd7 rfl FillsAt.nil (by decide) fun H7 s7 hy7 => ⟨rfl, ?_⟩
    have hu7 : FillAt C H7 u1 c := by walk_at "fill"
    obtain ⟨b7, dx7, T7, as7, e7, w7, _⟩ := id hy7
    obtain ⟨b1, dx1, eu, hb1⟩ := id hu7
    subst eu
    refine ⟨_, rfl, b7, dx7, _, _, e7, w7, M.W.T.isi.ty hb1, .inr ⟨C, rfl, M.W.noC⟩, _, _, [], more c, rfl, hy7, by have := more_len c; simp; omega, .inr ⟨c, hu7, rfl⟩, fun y8 H8 s8 hy8 => ?_⟩
    rw [List.nil_append] at hy8
    refine run_at hy8 (more_ok hco) (Nat.le_trans (more_len _) (by decide)) (.inl (show H8 r = some (.lst (xs.map bV)) by walk_at "look")) (by omega) w0 (by omega) rfl rfl fun P9 H9 s9 d9 => ?_
    rw [heq] at d9
    refine ⟨(by show 3 ≤ sizeLine; decide), fun p hp => ?_⟩
    -- the texts of the three
    obtain ⟨z1, z2, z3, z4⟩ := bits_data zs (by omega)
    have z5 := line_ge (Nat.le_trans z4 (by decide))
    have hall : ∀ x ∈ [V.ref P4, V.ref P6, V.ref P9], ∃ q, x = .ref q ∧ upd H9 p (.lst [V.ref P4, V.ref P6, V.ref P9]) q = some (.lst (zs.map bV)) := by
      intro x hx
      simp only [List.mem_cons, List.not_mem_nil, or_false] at hx
      rcases hx with rfl | rfl | rfl
      · exact ⟨P4, rfl, by walk_at "look"⟩
      · exact ⟨P6, rfl, by walk_at "look"⟩
      · exact ⟨P9, rfl, by walk_at "look"⟩
    have hlst : upd H9 p (.lst [V.ref P4, V.ref P6, V.ref P9]) p = some (.lst [V.ref P4, V.ref P6, V.ref P9]) := upd_same
    have hd10 : upd H9 p (.lst [V.ref P4, V.ref P6, V.ref P9]) P2 = some (.lst (zs.map bV)) := by walk_at "look"
    have hr10 : upd H9 p (.lst [V.ref P4, V.ref P6, V.ref P9]) r = some (.lst (xs.map bV)) := by walk_at "look"
    have hu10 : FillAt C (upd H9 p (.lst [V.ref P4, V.ref P6, V.ref P9])) (.ref b1) c := by walk_at "fill"
    have S10 : L2.Same H (upd H9 p (.lst [V.ref P4, V.ref P6, V.ref P9])) := by walk_at "same"
    generalize upd H9 p (.lst [V.ref P4, V.ref P6, V.ref P9]) = Hc at hall hlst hd10 hr10 hu10 S10 ⊢
    clear d4 d6 d9 hy8 hy7 hu7 hy5 hy3 w7 e7 s9 s8 s7 s6 s5 s4 s3 s2 s1 hu1 hb1 hp nx7 nd7
    refine ⟨_, rfl, p, rfl, ⟨_, SqL.of hlst⟩, fun DD hDD => lc_list (K := K) (a := p) (xs := [V.ref P4, V.ref P6, V.ref P9]) (fun i H' => H' DD = some (.lst ((List.replicate i (textOf zs)).map V.str)) ∧ L2.Same Hc H')
      ⟨upd_same, same_new hDD⟩ (fun i H' _ ⟨_, s⟩ => SqL.of (s _ _ hlst)) (fun i x H' hx ⟨e1, s⟩ => ?_) (fun H' ⟨e1, s⟩ => ?_)⟩
    · obtain ⟨q, rfl, hq⟩ := hall x (List.mem_of_getElem? hx)
      have hi3 : i < 3 := (List.getElem?_eq_some_iff.mp hx).1
      refine ⟨rfl, _, rfl, _, _, rfl, .lst (SqL.of (s _ _ hq)) (bDs_dp _), z1, z2, z3, z5, _, e1, line_gt (by rw [List.length_map, List.length_replicate]; omega), ?_, same_over s hDD⟩
      rw [List.replicate_succ', List.map_append]
      exact upd_same
    · have S' := S10.trans s
      have hd11 := s _ _ hd10
      have hr11 := s _ _ hr10
      have hu11 := hu10.same s
      refine ⟨_, rfl, _, _, rfl, .lst (SqL.of hd11) (bDs_dp _), z1, z2, z3, z5, (by show 1 ≤ sizeLine; decide), fun q hq => ⟨q, 3, _, rfl, rfl, upd_same, by decide, by decide, line_ge (by show 3 ≤ 16000000; decide), fun q2 hq2 => ?_⟩⟩
      have e1' : H' DD = some (.lst ([textOf zs, textOf zs, textOf zs].map V.str)) := e1
      have lay : SeqAt.shaped (.list [.str (textOf zs), .str (textOf zs), .str (textOf zs)]) = true := by
        refine shaped_list (k := 0) (fun d hd => ?_) (fun d hd => ?_) (by decide)
        · simp only [List.mem_cons, List.not_mem_nil, or_false, or_self] at hd
          rw [hd]
          exact text_lay zs
        · simp only [List.mem_cons, List.not_mem_nil, or_false, or_self] at hd
          rw [hd]
          simp [PyData.depth]
      have nq : DD ≠ q := ne_of_none e1 hq
      have e2 := same_new (o := .lst [V.str (textOf zs)]) hq _ _ e1'
      have e3 := same_new (o := .lst (List.replicate (3 : Int).toNat [V.str (textOf zs)]).flatten) hq2 _ _ e2
      have S3 := (S'.trans (same_new (o := .lst [V.str (textOf zs)]) hq)).trans (same_new (o := .lst (List.replicate (3 : Int).toNat [V.str (textOf zs)]).flatten) hq2)
      have r3 := ((same_new (o := .lst [V.str (textOf zs)]) hq).trans (same_new (o := .lst (List.replicate (3 : Int).toNat [V.str (textOf zs)]).flatten) hq2)) _ _ hr11
      have d3 := ((same_new (o := .lst [V.str (textOf zs)]) hq).trans (same_new (o := .lst (List.replicate (3 : Int).toNat [V.str (textOf zs)]).flatten) hq2)) _ _ hd11
      have u3 := hu11.same ((same_new (o := .lst [V.str (textOf zs)]) hq).trans (same_new (o := .lst (List.replicate (3 : Int).toNat [V.str (textOf zs)]).flatten) hq2))
      have q3 : upd (upd H' q (.lst [V.str (textOf zs)])) q2 (.lst (List.replicate (3 : Int).toNat [V.str (textOf zs)]).flatten) q2 = some (.lst [V.str (textOf zs), V.str (textOf zs), V.str (textOf zs)]) := upd_same
      refine ⟨_, _, .lst (SqL.of e3) (.cons (.str _) (.cons (.str _) (.cons (.str _) .nil))), .lst (SqL.of q3) (.cons (.str _) (.cons (.str _) (.cons (.str _) .nil))), lay, lay, _, rfl, ?_⟩
      rw [SeqAt.eqv_refl _ (SeqAt.canLay_of_shaped lay)]
      refine iteF ⟨_, rfl, _, rfl, _, rfl, _, c, r, xs, wi, rfl, u3, hco, r3, by omega, w0, by omega, fun Pz Hz _ sz dz => ?_⟩
      rw [heq] at dz
      refine ⟨_, _, rfl, .lst (SqL.of dz) (bDs_dp _), z1, z2, z3, z5, _, rfl, _, _, rfl, .lst (SqL.of (sz _ _ d3)) (bDs_dp _), z1, z2, z3, z5, rfl, _, rfl, ?_⟩
      rw [decide_eq_true rfl]
      have rz := sz _ _ r3
      have uz := u3.same sz
      have SZ := S3.trans sz
      clear dz d3 r3 u3 sz S3 e3 e2 q3 hd11 hr11 hu11 e1 e1' s S'
      refine iteF ⟨_, rfl, r, _, rfl, .inl (SqL.of rz), fun l hl => ⟨(by show 1 ≤ sizeLine; decide), fun l2 hl2 => ?_⟩⟩
      have t1 := same_new (o := .lst (xs.map bV)) hl
      have t2 := same_new (o := .lst [V.non]) hl2
      have f1 : upd (upd Hz l (.lst (xs.map bV))) l2 (.lst [V.non]) l = some (.lst (xs.map bV)) := t2 _ _ upd_same
      refine ⟨l2, 3, _, rfl, rfl, upd_same, by decide, by decide, line_ge (by show 3 ≤ 16000000; decide), fun l3 hl3 => ?_⟩
      have t3 := same_new (o := .lst (List.replicate (3 : Int).toNat [V.non]).flatten) hl3
      have f2 := t3 _ _ f1
      refine ⟨l, l3, _, _, rfl, rfl, f2, upd_same, line_ge (by rw [List.length_map]; show xs.length + 3 ≤ _; omega), fun l4 hl4 => ?_⟩
      have t4 := same_new (o := .lst (xs.map bV ++ (List.replicate (3 : Int).toNat [V.non]).flatten)) hl4
      have T4 := ((t1.trans t2).trans t3).trans t4
      have g4 : upd (upd (upd (upd Hz l (.lst (xs.map bV))) l2 (.lst [V.non])) l3 (.lst (List.replicate (3 : Int).toNat [V.non]).flatten)) l4 (.lst (xs.map bV ++ (List.replicate (3 : Int).toNat [V.non]).flatten)) l4 = some (.lst ((xs ++ [none, none, none]).map bV)) := by
        rw [List.map_append]
        exact upd_same
      have u4 := uz.same T4
      have S4 := SZ.trans T4
      generalize upd (upd (upd (upd Hz l (.lst (xs.map bV))) l2 (.lst [V.non])) l3 (.lst (List.replicate (3 : Int).toNat [V.non]).flatten)) l4 (.lst (xs.map bV ++ (List.replicate (3 : Int).toNat [V.non]).flatten)) = H4' at g4 u4 S4
      obtain ⟨b4, dx4, eb4, hb4⟩ := id u4
      cases eb4
      refine ⟨_, rfl, b1, dx4, _, rfl, hb4, _, c, rfl, u4, rfl, _, rfl, ?_⟩
      cases c with
      | free => exact iteT (k _ S4)
      | f sg n =>
        rw [w_free]
        refine iteF ⟨_, rfl, _, .f sg n, rfl, u4, fun y5 H5 s5 hy5 => ?_⟩
        refine run_at hy5 (more_ok hco) (Nat.le_trans (more_len _) (by decide)) (.inl (show H5 l4 = some (.lst ((xs ++ [none, none, none]).map bV)) from s5 _ _ g4)) (by rw [List.length_append]; show xs.length + 3 ≤ 200; omega) w0 (by omega) rfl rfl fun P6 H6 s6 d6 => ?_
        have hl6 := rowB_len wi (more (.f sg n)) (xs ++ [none, none, none])
        rw [List.length_append] at hl6
        have hl6' : (rowB wi (more (.f sg n)) (xs ++ [none, none, none])).length = xs.length + 3 := hl6
        have e7 : cutV ((rowB wi (more (.f sg n)) (xs ++ [none, none, none])).map bV) (some (-3)) none = ([none, none, none] : List Bt).map bV := by
          have e8 := cut_longer w0 hin (xs := xs) (ys := [none, none, none]) rfl
          unfold cutV
          rw [List.length_map, hl6']
          show ((_ : List V).drop (((-3 : Int) + ((xs.length + 3 : Nat) : Int)).toNat)).take (xs.length + 3 - ((-3 : Int) + ((xs.length + 3 : Nat) : Int)).toNat) = _
          rw [show ((-3 : Int) + ((xs.length + 3 : Nat) : Int)).toNat = xs.length by omega, ← List.map_drop, e8, show xs.length + 3 - xs.length = 3 by omega]
          rfl
        refine ⟨3, rfl, -3, rfl, P6, _, rfl, SqL.of d6, fun l8 hl8 => ?_⟩
        rw [e7]
        obtain ⟨y1, y2, y3, y4⟩ := bits_data [none, none, none] (by decide)
        refine ⟨_, _, rfl, .lst (SqL.of upd_same) (bDs_dp _), y1, y2, y3, line_ge (Nat.le_trans y4 (by decide)), rfl, ?_⟩
        have e9 : decide (V.str (PyData.list (([none, none, none] : List Bt).map bD)).shown = V.str "[None, None, None]") = true := by decide +kernel
        rw [e9]
        exact k _ (((S4.trans s5).trans s6).trans (same_new hl8))
/-- _law_pair_right(fill, other, bits, wide) -/
def spPair (C : Addr) : Sp := fun vs H Q _ => ∃ (v u : V) (t t' : RT) (r : Addr) (xs : List Bt) (wi : Nat), vs = [v, u, .ref r, .int (wi : Nat)] ∧ FillAt C H v (RT.ft t) ∧ FillAt C H u (RT.ft t') ∧ t.ok ∧ t'.ok ∧ H r = some (.lst (xs.map bV)) ∧ 2 ≤ wi ∧ wi ≤ xs.length ∧ xs.length ≤ 128 ∧ ∀ H' : Hp, L2.Same H H' → Q (.bl true) H'
end
end K15
set_option Elab.async false
set_option linter.all false
set_option maxRecDepth 100000
set_option maxHeartbeats 4000000
--@macros begin
local macro_rules | `(tactic| walk_at "look") => `(tactic| first
  | assumption
  | exact L2.upd_same
  | (with_reducible refine UL.new_look (by assumption) ?_; walk_at "look")
  | (with_reducible refine UL.Same.look (by assumption) ?_; walk_at "look")
  | (with_reducible refine UL.Stay.lookT (by assumption) (by walk_at "pot") ?_; walk_at "look")
  | (with_reducible refine UL.Stay.lookI (by assumption) (by walk_at "pot") ?_; walk_at "look"))
local macro_rules | `(tactic| walk_at "pot") => `(tactic| first
  | assumption
  | (with_reducible refine UL.Pot.same (H := _) ?_ (UL.same_new (by assumption)); walk_at "pot")
  | (with_reducible refine UL.Pot.same (H := _) ?_ (by assumption); walk_at "pot"))
local macro_rules | `(tactic| walk_at "same") => `(tactic| first
  | assumption
  | exact L2.Same.refl _
  | exact UL.same_new (by assumption)
  | (with_reducible refine L2.Same.trans ?_ (UL.same_new (by assumption)); walk_at "same")
  | (with_reducible refine L2.Same.trans ?_ (by assumption); walk_at "same"))
local macro_rules | `(tactic| walk_at "stay") => `(tactic| first
  | assumption
  | exact UL.Stay.refl _ _
  | exact UL.stay_upd
  | exact UL.Same.stay (by walk_at "same") _
  | (with_reducible refine UL.Stay.trans ?_ (UL.Same.stay (UL.same_new (by assumption)) _); walk_at "stay")
  | (with_reducible refine UL.Stay.trans ?_ (UL.Same.stay (by assumption) _); walk_at "stay")
  | (with_reducible refine UL.Stay.trans ?_ (by assumption); walk_at "stay")
  | (with_reducible refine UL.Stay.trans ?_ UL.stay_upd; walk_at "stay"))
local macro_rules | `(tactic| walk_at "side") => `(tactic| first
  | assumption
  | rfl
  | exact L2.SqL.of (by walk_at "look")
  | exact L2.SqT.of (by walk_at "look")
  | (with_reducible show _ = some _; walk_at "look")
  | exact L2.atI_nat rfl
  | (with_reducible show UL.Pot _ _; walk_at "pot")
  | (with_reducible show L2.Same _ _; walk_at "same")
  | (with_reducible show UL.Stay _ _ _; walk_at "stay")
  | omega
  | decide
  | (with_reducible show _ ∨ _; first | exact Or.inl (by walk_at "side") | exact Or.inr (by walk_at "side"))
  | (with_reducible show _ ∧ _; exact And.intro (by walk_at "side") (by walk_at "side")))
local macro_rules | `(tactic| walk_at "st3") => `(tactic| first
  | (apply And.intro; · walk_at "side"
     walk_at "st3")
  | skip)
local macro_rules | `(tactic| walk_at "st2") => `(tactic| first
  | (apply Exists.intro; walk_at "st2")
  | (apply And.intro; · walk_at "side"
     walk_at "st3"))
local macro_rules | `(tactic| walk_at "st") => `(tactic| first
  | (refine iteT ?_)
  | (refine iteF ?_)
  | (apply Exists.intro; walk_at "st2"; all_goals (change (_ : Prop)))
  | (apply And.intro; · walk_at "side"
     walk_at "st3"; all_goals (change (_ : Prop)))
  | (apply Or.inl; walk_at "st")
  | (apply Or.inr; walk_at "st"))
local macro_rules | `(tactic| walk_at "go") => `(tactic| repeat walk_at "st")
--@macros end
--@macros begin
local macro_rules | `(tactic| walk_at "fill") => `(tactic| first
  | assumption
  | (with_reducible refine K15.FillAt.same ?_ (UL.same_new (by assumption)); walk_at "fill")
  | (with_reducible refine K15.FillAt.same ?_ (by assumption); walk_at "fill"))
local macro_rules | `(tactic| walk_at "work") => `(tactic| first
  | assumption
  | (with_reducible refine K15.WorkAt.same ?_ (UL.same_new (by assumption)); walk_at "work")
  | (with_reducible refine K15.WorkAt.same ?_ (by assumption); walk_at "work"))
--@macros end
namespace K15
open PySem L2 UL
theorem bool_data (b : Bool) : (PyData.bool b).showable = true ∧ (PyData.bool b).hasDict = false ∧ (PyData.bool b).depth ≤ 40 ∧ (PyData.bool b).shown.length ≤ sizeLine := by
  cases b
  · refine ⟨by decide +kernel, by decide +kernel, by decide +kernel, line_ge (by decide +kernel)⟩
  · refine ⟨by decide +kernel, by decide +kernel, by decide +kernel, line_ge (by decide +kernel)⟩
theorem work_no {T : Addr} {x : Str} (h : (x == ("_fills" : Str)) = false) : (wf T).lookup x = none := wf_no h
section
variable {P : Program} {w : World} {K : PySem.W.Frag} {mg : Str → Option Value} {base : Heap} {C D R S N gA aA : Addr}
/-- two works joined -/
theorem add_at {H : Hp} {y z : V} {ts us : List RT} {Q : VK} (W : TxW K mg C D) (hy : WorkAt C D H y ts) (hz : WorkAt C D H z us) (hl : ts.length + us.length ≤ 126) (k : ∀ (x : V) (H' : Hp), L2.Same H H' → WorkAt C D H' x (ts ++ us) → Q x H') : rOpO K D "add" (spWAdd C D) E0 y z H Q := by
  obtain ⟨a, dx, T, as, rfl, h1, _⟩ := id hy
  obtain ⟨b, dy, T2, bs, rfl, g1, _⟩ := id hz
  exact ⟨a, dx, _, _, rfl, h1, W.isi.ty g1, .inl rfl, _, _, ts, us, rfl, hy, hl, .inl hz, k⟩
/-- two fills compared -/
theorem eq_at {H : Hp} {y z : V} {t t' : FT} {Q : VK} (W : TxW K mg C D) (hy : FillAt C H y t) (hz : FillAt C H z t') (k : Q (.bl (decide (t = t'))) H) : rEqI K C (spEqF K C) E0 y z H Q := by
  obtain ⟨a, dx, rfl, h1⟩ := id hy
  obtain ⟨b, dy, rfl, g1⟩ := id hz
  exact ⟨a, dx, _, _, rfl, h1, W.T.isi.ty g1, self_first, _, _, t, rfl, hy, .inl ⟨t', hz, k⟩⟩
theorem scPair : FnScope ["_law_fill_here", "_law_other", "_law_bits_now", "_law_wide", "_law_room", "_law_one", "_law_mate", "_law_first", "_law_second", "_law_alone", "_law_both", "_law_back", "_law_seen", "_law_is_hidden"] ["_law_fill_here", "_law_other", "_law_bits_now", "_law_wide"] (defScope sPairR) := ⟨rfl, rfl, rfl, by decide +kernel, rfl, by decide +kernel, by decide +kernel⟩
theorem ok_pair {f : Addr} {fd : FuncData} (F : Fun K "_law_pair_right" "_law_pair_right" sPairR f fd) (M : Wk P w K mg base C D R S N gA aA) : FnG P w K mg base 8 f fd ["_law_fill_here", "_law_other", "_law_bits_now", "_law_wide"] (spPair C) := by
  refine FnG.mk' F scPair (fun vs H Q E h => ?_) (fun cdv A outer s H vs Q E hgd hr h => ?_)
  · obtain ⟨v, u, t, t', r, xs, wi, rfl, _⟩ := h
    rfl
  · obtain ⟨v, u, t, t', r, xs, wi, rfl, hv, hu, ht, ht', hr1, w0, w1, w2, k⟩ := h
    refine ⟨_, pss_cons (ps_set (i := 4) scPair.nd rfl (.inl rfl) (pe_callB call_len_seq (by rfl) M.W.T.bi.len (by decide +kernel) (pa_cons (pv 2) pa_nil)))
      (pss_cons (ps_par (i := 5) (j := 6) rfl scPair.nd rfl rfl (by decide) rfl rfl (pa_cons (pe_m (pv 0) M.cCut hr (by decide) (pa_cons (pv 3) (pa_cons (pv 4) pa_nil))) (pa_cons (pe_m (pv 1) M.cCut hr (by decide) (pa_cons (pv 3) (pa_cons (pv 4) pa_nil))) pa_nil)) (by rfl))
      (pss_cons (ps_par (i := 7) (j := 8) rfl scPair.nd rfl rfl (by decide) rfl rfl (pa_cons (pe_c M.cwk hr (by decide) (by rfl) (pa_cons (pv 5) pa_nil)) (pa_cons (pe_c M.cwk hr (by decide) (by rfl) (pa_cons (pv 6) pa_nil)) pa_nil)) (by rfl))
      (pss_cons (ps_par3 (i := 9) (j := 10) (l := 11) rfl scPair.nd rfl rfl rfl (by decide) (by decide) (by decide) rfl rfl rfl (pa_cons (pe_o (pv 7) M.cO hr (by decide) (pa_cons (pv 2) (pa_cons (pv 3) pa_nil))) (pa_cons (pe_o (pe_op (op_addS M.cAd M.W.sf hr (by decide)) (pv 7) (pv 8)) M.cO hr (by decide) (pa_cons (pv 2) (pa_cons (pv 3) pa_nil))) (pa_cons (pe_o (pe_op (op_addS M.cAd M.W.sf hr (by decide)) (pv 8) (pv 7)) M.cO hr (by decide) (pa_cons (pv 2) (pa_cons (pv 3) pa_nil))) pa_nil))) (by rfl))
      (pss_cons (ps_if (PW.pt (pw_or (pt_cmpR op_ne (pe_callB (r := rReprD K) (call_reprD hgd hr.units) (by rfl) M.W.T.bi.repr (by decide +kernel) (pa_cons (pe_o (pv 8) M.cO hr (by decide) (pa_cons (pv 9) (pa_cons (pv 3) pa_nil))) pa_nil)) (pe_callB (r := rReprD K) (call_reprD hgd hr.units) (by rfl) M.W.T.bi.repr (by decide +kernel) (pa_cons (pv 10) pa_nil)) (nomark _)) (pw_or1 (pt_cmpR op_ne (pe_callB (r := rReprD K) (call_reprD hgd hr.units) (by rfl) M.W.T.bi.repr (by decide +kernel) (pa_cons (pe_o (pv 7) M.cO hr (by decide) (pa_cons (pe_o (pv 8) M.cO hr (by decide) (pa_cons (pv 2) (pa_cons (pv 3) pa_nil))) (pa_cons (pv 3) pa_nil))) pa_nil)) (pe_callB (r := rReprD K) (call_reprD hgd hr.units) (by rfl) M.W.T.bi.repr (by decide +kernel) (pa_cons (pv 11) pa_nil)) (nomark _))))) (pss_one (ps_ret pe_bl)) pss_nil)
      (pss_cons (ps_set (i := 12) scPair.nd rfl (.inl rfl) (pe_cG hgd M.csh hr (by decide) (by rfl) (pa_cons (pv 7) (pa_cons (pv 4) (pa_cons (pv 3) pa_nil)))))
      (pss_cons (ps_set (i := 13) scPair.nd rfl (.inl rfl) (pe_and (pe_cmpR op_eq (pv 12) (pe_cG hgd M.csh hr (by decide) (by rfl) (pa_cons (pe_op (op_addS M.cAd M.W.sf hr (by decide)) (pv 7) (pv 8)) (pa_cons (pv 4) (pa_cons (pv 3) pa_nil)))) (nomark _)) (pe_one (pe_cmpR op_eq (pv 12) (pe_cG hgd M.csh hr (by decide) (by rfl) (pa_cons (pe_op (op_addS M.cAd M.W.sf hr (by decide)) (pv 8) (pv 7)) (pa_cons (pv 4) (pa_cons (pv 3) pa_nil)))) (nomark _)))))
      (pss_cons (ps_if (PW.pt (pw_or (pt_cmpR op_ne (pe_callB (r := rReprD K) (call_reprD hgd hr.units) (by rfl) M.W.T.bi.repr (by decide +kernel) (pa_cons (pe_m (pv 5) M.cCov hr (by decide) (pa_cons (pv 6) pa_nil)) pa_nil)) (pe_callB (r := rReprD K) (call_reprD hgd hr.units) (by rfl) M.W.T.bi.repr (by decide +kernel) (pa_cons (pv 13) pa_nil)) (nomark _)) (pw_or1 (PW.pt (pw_and (pt_val (pv 13)) (pw_and1 (pt_cmpR (op_neD hr.units) (pe_lst (pa_cons (pe_callB (r := rReprD K) (call_reprD hgd hr.units) (by rfl) M.W.T.bi.repr (by decide +kernel) (pa_cons (pv 10) pa_nil)) (pa_cons (pe_callB (r := rReprD K) (call_reprD hgd hr.units) (by rfl) M.W.T.bi.repr (by decide +kernel) (pa_cons (pv 11) pa_nil)) pa_nil))) (pe_op op_rep (pe_lst (pa_cons (pe_callB (r := rReprD K) (call_reprD hgd hr.units) (by rfl) M.W.T.bi.repr (by decide +kernel) (pa_cons (pv 9) pa_nil)) pa_nil)) pe_int) (nomark _)))))))) (pss_one (ps_ret pe_bl)) pss_nil)
      (pss_cons (ps_if (pt_cmpR op_ne (pe_cmpR op_eq (pv 12) (pe_cG hgd M.csh hr (by decide) (by rfl) (pa_cons (pv 8) (pa_cons (pv 4) (pa_cons (pv 3) pa_nil)))) (nomark _)) (pe_cmpR (op_eqS M.cFEq hr (by decide)) (pv 5) (pv 6) (nomark _)) (nomark _)) (pss_one (ps_ret pe_bl)) pss_nil)
      (pss_one (ps_ret (pe_cmpR op_eq (pe_callB (r := rReprD K) (call_reprD hgd hr.units) (by rfl) M.W.T.bi.repr (by decide +kernel) (pa_cons (pe_m (pv 7) M.cLk hr (by decide) (pa_cons (pv 8) pa_nil)) pa_nil)) (pe_callB (r := rReprD K) (call_reprD hgd hr.units) (by rfl) M.W.T.bi.repr (by decide +kernel) (pa_cons (pe_cmpR (op_eqS M.cFEq hr (by decide)) (pv 5) (pv 6) (nomark _)) pa_nil)) (nomark _)))))))))))), ?_⟩
    obtain ⟨a, dx, rfl, ha⟩ := id hv
    obtain ⟨b, dy, rfl, hb⟩ := id hu
    have hxl : ((xs.map bV).length : Int) = ((xs.length : Nat) : Int) := by rw [List.length_map]
    refine ⟨_, rfl, r, _, rfl, .inl (SqL.of hr1), ?_⟩
    rw [hxl]
    refine ⟨_, rfl, a, dx, _, rfl, ha, ff_no _ (by decide +kernel) (by decide +kernel), _, rfl, _, rfl, _, RT.ft t, _, _, rfl, hv, ht, by omega, by omega, by omega, by omega, fun u1 H1 s1 hu1 => ?_⟩
    refine ⟨_, rfl, b, dy, _, rfl, s1 _ _ hb, ff_no _ (by decide +kernel) (by decide +kernel), _, rfl, _, rfl, _, RT.ft t', _, _, rfl, hu.same s1, ht', by omega, by omega, by omega, by omega, fun u2 H2 s2 hu2 => ⟨_, _, rfl, ?_⟩⟩
    have hin : cutIn wi xs.length (cutF (RT.ft t) (wi : Nat) (xs.length : Nat)) := cut_in _
    have hco : (cutF (RT.ft t) (wi : Nat) (xs.length : Nat)).ok := cutF_ok ht (by omega) (by omega)
    have hin' : cutIn wi xs.length (cutF (RT.ft t') (wi : Nat) (xs.length : Nat)) := cut_in _
    have hco' : (cutF (RT.ft t') (wi : Nat) (xs.length : Nat)).ok := cutF_ok ht' (by omega) (by omega)
    generalize cutF (RT.ft t) (wi : Nat) (xs.length : Nat) = c at hu1 hin hco
    generalize cutF (RT.ft t') (wi : Nat) (xs.length : Nat) = c' at hu2 hin' hco'
    have m1 := more_len c
    have m2 := more_len c'
    have mo := more_ok hco
    have mo' := more_ok hco'
    have mab : ∀ t ∈ more c ++ more c', t.ok := fun t ht => (List.mem_append.mp ht).elim (mo t) (mo' t)
    have mba : ∀ t ∈ more c' ++ more c, t.ok := fun t ht => (List.mem_append.mp ht).elim (mo' t) (mo t)
    have lab : (more c ++ more c').length ≤ 126 := by rw [List.length_append]; omega
    have lba : (more c' ++ more c).length ≤ 126 := by rw [List.length_append]; omega
    refine ⟨_, rfl, _, c, rfl, by walk_at "fill", fun y3 H3 s3 hy3 => ⟨_, rfl, _, c', rfl, by walk_at "fill", fun y4 H4 s4 hy4 => ⟨_, _, rfl, ?_⟩⟩⟩
    have hw : WorkAt C D H4 y3 (more c) := by walk_at "work"
    have hf4 : FillAt C H4 u1 c := by walk_at "fill"
    have hg4 : FillAt C H4 u2 c' := by walk_at "fill"
    have hr4 : H4 r = some (.lst (xs.map bV)) := by walk_at "look"
    have S4 : L2.Same H H4 := by walk_at "same"
    clear hu1 hu2 hy3 s1 s2 s3 s4
    refine ⟨_, rfl, ?_⟩
    refine run_at hw mo (by omega) (.inl hr4) (by omega) w0 (by omega) rfl rfl fun P5 H5 s5 d5 => ?_
    refine ⟨_, rfl, _, rfl, add_at M.W (hw.same s5) (hy4.same s5) (by omega) fun y6 H6 s6 hy6 => ?_⟩
    refine run_at hy6 mab lab (.inl (show H6 r = some (.lst (xs.map bV)) by walk_at "look")) (by omega) w0 (by omega) rfl rfl fun P7 H7 s7 d7 => ?_
    refine ⟨_, rfl, _, rfl, add_at M.W (show WorkAt C D H7 y4 (more c') by walk_at "work") (show WorkAt C D H7 y3 (more c) by walk_at "work") (by omega) fun y8 H8 s8 hy8 => ?_⟩
    refine run_at hy8 mba lba (.inl (show H8 r = some (.lst (xs.map bV)) by walk_at "look")) (by omega) w0 (by omega) rfl rfl fun P9 H9 s9 d9 => ?_
    refine ⟨_, _, _, rfl, ?_⟩
    have d5' : H9 P5 = some (.lst ((rowB wi (more c) xs).map bV)) := by walk_at "look"
    have d7' : H9 P7 = some (.lst ((rowB wi (more c ++ more c') xs).map bV)) := by walk_at "look"
    have d9' : H9 P9 = some (.lst ((rowB wi (more c' ++ more c) xs).map bV)) := by walk_at "look"
    have r9 : H9 r = some (.lst (xs.map bV)) := by walk_at "look"
    have v9 : WorkAt C D H9 y3 (more c) := by walk_at "work"
    have x9 : WorkAt C D H9 y4 (more c') := by walk_at "work"
    have f9 : FillAt C H9 u1 c := by walk_at "fill"
    have g9 : FillAt C H9 u2 c' := by walk_at "fill"
    have S9 : L2.Same H H9 := by walk_at "same"
    clear d5 d7 d9 hy8 hy6 hw hy4 hf4 hg4 hr4 S4 s5 s6 s7 s8 s9
    have la := rowB_len wi (more c) xs
    have lb := rowB_len wi (more c') xs
    have lab' := rowB_len wi (more c ++ more c') xs
    have lba' := rowB_len wi (more c' ++ more c) xs
    obtain ⟨z1, z2, z3, z4⟩ := bits_data (rowB wi (more c ++ more c') xs) (by omega)
    have z5 := line_ge (Nat.le_trans z4 (by decide))
    obtain ⟨x1, x2, x3, x4⟩ := bits_data (rowB wi (more c' ++ more c) xs) (by omega)
    have x5 := line_ge (Nat.le_trans x4 (by decide))
    obtain ⟨o1, o2, o3, o4⟩ := bits_data (rowB wi (more c) xs) (by omega)
    have o5 := line_ge (Nat.le_trans o4 (by decide))
    -- second(alone) is both
    refine ⟨_, rfl, ?_⟩
    refine run_at (xs := rowB wi (more c) xs) x9 mo' (by omega) (.inl d5') (by omega) w0 (by omega) rfl rfl fun PB HB sB dB => ?_
    rw [← rowB_app] at dB
    refine ⟨_, _, rfl, .lst (SqL.of dB) (bDs_dp _), z1, z2, z3, z5, _, rfl, _, _, rfl, .lst (SqL.of (sB _ _ d7')) (bDs_dp _), z1, z2, z3, z5, rfl, _, rfl, ?_⟩
    rw [decide_eq_true rfl]
    -- first(second(bits)) is back
    refine iteF ⟨_, rfl, ?_⟩
    obtain ⟨af, dxf, Tf, asf, rfl, hf1, _⟩ := id v9
    refine ⟨af, rfl, _, rfl, ?_⟩
    refine run_at (show WorkAt C D HB y4 (more c') by walk_at "work") mo' (by omega) (.inl (show HB r = some (.lst (xs.map bV)) by walk_at "look")) (by omega) w0 (by omega) rfl rfl fun PD HD sD dD => ?_
    have vD : WorkAt C D HD (.ref af) (more c) := by walk_at "work"
    obtain ⟨af', dxf', Tf', asf', ef', hf1', _⟩ := id vD
    cases ef'
    refine ⟨_, rfl, .inr ⟨_, _, hf1'⟩, _, more c, PD, _, wi, rfl, vD, mo, by omega, .inl dD, by omega, w0, by omega, fun PE' HE _ sE dE => ?_⟩
    rw [← rowB_app] at dE
    refine ⟨_, _, rfl, .lst (SqL.of dE) (bDs_dp _), x1, x2, x3, x5, _, rfl, _, _, rfl, .lst (SqL.of (show HE P9 = some (.lst ((rowB wi (more c' ++ more c) xs).map bV)) by walk_at "look")) (bDs_dp _), x1, x2, x3, x5, rfl, _, rfl, ?_⟩
    rw [decide_eq_true rfl]
    have vE : WorkAt C D HE (.ref af) (more c) := by walk_at "work"
    have xE : WorkAt C D HE y4 (more c') := by walk_at "work"
    have fE : FillAt C HE u1 c := by walk_at "fill"
    have gE : FillAt C HE u2 c' := by walk_at "fill"
    have d5E : HE P5 = some (.lst ((rowB wi (more c) xs).map bV)) := by walk_at "look"
    have d7E : HE P7 = some (.lst ((rowB wi (more c ++ more c') xs).map bV)) := by walk_at "look"
    have d9E : HE P9 = some (.lst ((rowB wi (more c' ++ more c) xs).map bV)) := by walk_at "look"
    have SE : L2.Same H HE := by walk_at "same"
    clear dB dD dE vD v9 x9 f9 g9 d5' d7' d9' r9 S9 sB sD sE hf1 hf1'
    -- what is shown
    refine iteF ⟨_, rfl, _, rfl, _, rfl, _, more c, xs.length, wi, rfl, vE, mo, by omega, w0, w1, w2, fun HF sF => ?_⟩
    refine ⟨_, rfl, _, rfl, _, rfl, add_at M.W (vE.same sF) (xE.same sF) (by omega) fun yG HG sG hyG => ⟨_, rfl, _, rfl, _, more c ++ more c', xs.length, wi, rfl, hyG, mab, lab, w0, w1, w2, fun HI sI => ⟨rfl, _, rfl, ?_⟩⟩⟩
    rw [text_eq]
    have hsame : decide (rowB wi (more c) (showRow xs.length wi) = rowB wi (more c') (showRow xs.length wi)) = decide (c = c') := by
      by_cases z : c = c'
      · rw [z, decide_eq_true rfl, decide_eq_true rfl]
      · rw [decide_eq_false z, decide_eq_false fun y => z (same_show w0 w1 hin hin' y)]
    by_cases hc : covF c c' = true
    · obtain ⟨q1, q2⟩ := cov_both w0 (xs := showRow xs.length wi) (showRow_len w0 w1) hc
      rw [decide_eq_true q1.symm]
      refine iteT ⟨_, rfl, _, rfl, _, rfl, add_at M.W (show WorkAt C D HI y4 (more c') by walk_at "work") (show WorkAt C D HI (.ref af) (more c) by walk_at "work") (by omega) fun yJ HJ sJ hyJ => ⟨_, rfl, _, rfl, _, more c' ++ more c, xs.length, wi, rfl, hyJ, mba, lba, w0, w1, w2, fun HK sK => ⟨rfl, ?_⟩⟩⟩
      rw [text_eq, decide_eq_true q2.symm]
      have hB : covF c c' = true := hc
      have vK : WorkAt C D HK (.ref af) (more c) := by walk_at "work"
      have xK : WorkAt C D HK y4 (more c') := by walk_at "work"
      have fK : FillAt C HK u1 c := by walk_at "fill"
      have gK : FillAt C HK u2 c' := by walk_at "fill"
      have t5 : HK P5 = some (.lst ((rowB wi (more c) xs).map bV)) := by walk_at "look"
      have t7 : HK P7 = some (.lst ((rowB wi (more c ++ more c') xs).map bV)) := by walk_at "look"
      have t9 : HK P9 = some (.lst ((rowB wi (more c' ++ more c) xs).map bV)) := by walk_at "look"
      have SK : L2.Same H HK := by walk_at "same"
      obtain ⟨an, dn, en, hn⟩ := id fK
      cases en
      refine ⟨_, rfl, an, dn, _, rfl, hn, ff_no _ (by decide +kernel) (by decide +kernel), _, rfl, _, _, c, c', rfl, fK, gK, ?_⟩
      rw [hB]
      obtain ⟨b1, b2, b3, b4⟩ := bool_data true
      refine ⟨_, _, rfl, .bl _, b1, b2, b3, b4, _, rfl, _, _, rfl, .bl _, b1, b2, b3, b4, rfl, _, rfl, ?_⟩
      rw [decide_eq_true rfl]
      obtain ⟨e1, e2⟩ := cov_both w0 (xs := xs) rfl hc
      rw [e1] at t7
      rw [e2] at t9
      refine iteF ⟨_, rfl, _, rfl, iteT ⟨_, rfl, _, _, rfl, .lst (SqL.of t7) (bDs_dp _), o1, o2, o3, o5, _, rfl, _, _, rfl, .lst (SqL.of t9) (bDs_dp _), o1, o2, o3, o5, (by show 2 ≤ sizeLine; decide), fun q hq => ?_⟩⟩
      have w1' := same_new (o := .lst [V.str (textOf (rowB wi (more c) xs)), V.str (textOf (rowB wi (more c) xs))]) hq
      refine ⟨_, rfl, _, _, rfl, .lst (SqL.of (w1' _ _ t5)) (bDs_dp _), o1, o2, o3, o5, (by show 1 ≤ sizeLine; decide), fun q2 hq2 => ⟨q2, 2, _, rfl, rfl, upd_same, by decide, by decide, line_ge (by show 2 ≤ 16000000; decide), fun q3 hq3 => ?_⟩⟩
      have lay : SeqAt.shaped (.list [.str (textOf (rowB wi (more c) xs)), .str (textOf (rowB wi (more c) xs))]) = true := by
        refine shaped_list (k := 0) (fun d hd => ?_) (fun d hd => ?_) (by decide)
        · simp only [List.mem_cons, List.not_mem_nil, or_false, or_self] at hd
          rw [hd]
          exact text_lay _
        · simp only [List.mem_cons, List.not_mem_nil, or_false, or_self] at hd
          rw [hd]
          simp [PyData.depth]
      have w2' := same_new (o := .lst [V.str (textOf (rowB wi (more c) xs))]) hq2
      have w3' := same_new (o := .lst (List.replicate (2 : Int).toNat [V.str (textOf (rowB wi (more c) xs))]).flatten) hq3
      have W3 := (w1'.trans w2').trans w3'
      refine ⟨.list [.str (textOf (rowB wi (more c) xs)), .str (textOf (rowB wi (more c) xs))], .list [.str (textOf (rowB wi (more c) xs)), .str (textOf (rowB wi (more c) xs))], .lst (SqL.of (w3' _ _ (w2' _ _ upd_same))) (.cons (.str _) (.cons (.str _) .nil)), .lst (SqL.of upd_same) (.cons (.str _) (.cons (.str _) .nil)), lay, lay, _, rfl, ?_⟩
      rw [SeqAt.eqv_refl _ (SeqAt.canLay_of_shaped lay)]
      refine iteF ⟨_, rfl, _, rfl, _, rfl, _, rfl, _, more c', xs.length, wi, rfl, (xK.same W3), mo', by omega, w0, w1, w2, fun HL sL => ⟨rfl, _, rfl, _, rfl, eq_at M.W ((fK.same W3).same sL) ((gK.same W3).same sL) ⟨rfl, _, rfl, ?_⟩⟩⟩
      rw [text_eq, hsame, decide_eq_true rfl]
      obtain ⟨aq, dq, Tq, asq, eq_, hq, _⟩ := id ((vK.same W3).same sL)
      cases eq_
      refine iteF ⟨_, rfl, af, dq, _, rfl, hq, wf_no (by decide +kernel), _, rfl, _, _, more c, more c', rfl, (vK.same W3).same sL, (xK.same W3).same sL, by omega, by omega, fun HM sM => ?_⟩
      rw [plain_one]
      obtain ⟨n1, n2, n3, n4⟩ := bool_data (decide (c = c'))
      refine ⟨_, _, rfl, .bl _, n1, n2, n3, n4, _, rfl, _, rfl, eq_at M.W (((fK.same W3).same sL).same sM) (((gK.same W3).same sL).same sM) ⟨_, _, rfl, .bl _, n1, n2, n3, n4, rfl, ?_⟩⟩
      rw [decide_eq_true rfl]
      exact k _ (((SK.trans W3).trans sL).trans sM)
    · rw [decide_eq_false fun z => hc (cov_show w0 w1 hin hin' z)]
      refine iteF ?_
      have hB : covF c c' = false := by simpa using hc
      have vK : WorkAt C D HI (.ref af) (more c) := by walk_at "work"
      have xK : WorkAt C D HI y4 (more c') := by walk_at "work"
      have fK : FillAt C HI u1 c := by walk_at "fill"
      have gK : FillAt C HI u2 c' := by walk_at "fill"
      have t5 : HI P5 = some (.lst ((rowB wi (more c) xs).map bV)) := by walk_at "look"
      have t7 : HI P7 = some (.lst ((rowB wi (more c ++ more c') xs).map bV)) := by walk_at "look"
      have t9 : HI P9 = some (.lst ((rowB wi (more c' ++ more c) xs).map bV)) := by walk_at "look"
      have SK : L2.Same H HI := by walk_at "same"
      obtain ⟨an, dn, en, hn⟩ := id fK
      cases en
      refine ⟨_, rfl, an, dn, _, rfl, hn, ff_no _ (by decide +kernel) (by decide +kernel), _, rfl, _, _, c, c', rfl, fK, gK, ?_⟩
      rw [hB]
      obtain ⟨b1, b2, b3, b4⟩ := bool_data false
      refine ⟨_, _, rfl, .bl _, b1, b2, b3, b4, _, rfl, _, _, rfl, .bl _, b1, b2, b3, b4, rfl, _, rfl, ?_⟩
      rw [decide_eq_true rfl]
      refine iteF ⟨_, rfl, _, rfl, iteF ?_⟩
      refine ⟨_, rfl, _, rfl, _, rfl, _, rfl, _, more c', xs.length, wi, rfl, xK, mo', by omega, w0, w1, w2, fun HL sL => ⟨rfl, _, rfl, _, rfl, eq_at M.W (fK.same sL) (gK.same sL) ⟨rfl, _, rfl, ?_⟩⟩⟩
      rw [text_eq, hsame, decide_eq_true rfl]
      obtain ⟨aq, dq, Tq, asq, eq_, hq, _⟩ := id (vK.same sL)
      cases eq_
      refine iteF ⟨_, rfl, af, dq, _, rfl, hq, wf_no (by decide +kernel), _, rfl, _, _, more c, more c', rfl, vK.same sL, xK.same sL, by omega, by omega, fun HM sM => ?_⟩
      rw [plain_one]
      obtain ⟨n1, n2, n3, n4⟩ := bool_data (decide (c = c'))
      refine ⟨_, _, rfl, .bl _, n1, n2, n3, n4, _, rfl, _, rfl, eq_at M.W ((fK.same sL).same sM) ((gK.same sL).same sM) ⟨_, _, rfl, .bl _, n1, n2, n3, n4, rfl, ?_⟩⟩
      rw [decide_eq_true rfl]
      exact k _ ((SK.trans sL).trans sM)
end
end K15
set_option Elab.async false
set_option linter.all false
set_option maxRecDepth 100000
set_option maxHeartbeats 4000000
--@macros begin
local macro_rules | `(tactic| walk_at "look") => `(tactic| first
  | assumption
  | exact L2.upd_same
  | (with_reducible refine UL.new_look (by assumption) ?_; walk_at "look")
  | (with_reducible refine UL.Same.look (by assumption) ?_; walk_at "look")
  | (with_reducible refine UL.Stay.lookT (by assumption) (by walk_at "pot") ?_; walk_at "look")
  | (with_reducible refine UL.Stay.lookI (by assumption) (by walk_at "pot") ?_; walk_at "look"))
local macro_rules | `(tactic| walk_at "pot") => `(tactic| first
  | assumption
  | (with_reducible refine UL.Pot.same (H := _) ?_ (UL.same_new (by assumption)); walk_at "pot")
  | (with_reducible refine UL.Pot.same (H := _) ?_ (by assumption); walk_at "pot"))
local macro_rules | `(tactic| walk_at "same") => `(tactic| first
  | assumption
  | exact L2.Same.refl _
  | exact UL.same_new (by assumption)
  | (with_reducible refine L2.Same.trans ?_ (UL.same_new (by assumption)); walk_at "same")
  | (with_reducible refine L2.Same.trans ?_ (by assumption); walk_at "same"))
local macro_rules | `(tactic| walk_at "stay") => `(tactic| first
  | assumption
  | exact UL.Stay.refl _ _
  | exact UL.stay_upd
  | exact UL.Same.stay (by walk_at "same") _
  | (with_reducible refine UL.Stay.trans ?_ (UL.Same.stay (UL.same_new (by assumption)) _); walk_at "stay")
  | (with_reducible refine UL.Stay.trans ?_ (UL.Same.stay (by assumption) _); walk_at "stay")
  | (with_reducible refine UL.Stay.trans ?_ (by assumption); walk_at "stay")
  | (with_reducible refine UL.Stay.trans ?_ UL.stay_upd; walk_at "stay"))
local macro_rules | `(tactic| walk_at "side") => `(tactic| first
  | assumption
  | rfl
  | exact L2.SqL.of (by walk_at "look")
  | exact L2.SqT.of (by walk_at "look")
  | (with_reducible show _ = some _; walk_at "look")
  | exact L2.atI_nat rfl
  | (with_reducible show UL.Pot _ _; walk_at "pot")
  | (with_reducible show L2.Same _ _; walk_at "same")
  | (with_reducible show UL.Stay _ _ _; walk_at "stay")
  | omega
  | decide
  | (with_reducible show _ ∨ _; first | exact Or.inl (by walk_at "side") | exact Or.inr (by walk_at "side"))
  | (with_reducible show _ ∧ _; exact And.intro (by walk_at "side") (by walk_at "side")))
local macro_rules | `(tactic| walk_at "st3") => `(tactic| first
  | (apply And.intro; · walk_at "side"
     walk_at "st3")
  | skip)
local macro_rules | `(tactic| walk_at "st2") => `(tactic| first
  | (apply Exists.intro; walk_at "st2")
  | (apply And.intro; · walk_at "side"
     walk_at "st3"))
local macro_rules | `(tactic| walk_at "st") => `(tactic| first
  | (refine iteT ?_)
  | (refine iteF ?_)
  | (apply Exists.intro; walk_at "st2"; all_goals (change (_ : Prop)))
  | (apply And.intro; · walk_at "side"
     walk_at "st3"; all_goals (change (_ : Prop)))
  | (apply Or.inl; walk_at "st")
  | (apply Or.inr; walk_at "st"))
local macro_rules | `(tactic| walk_at "go") => `(tactic| repeat walk_at "st")
--@macros end
--@macros begin
local macro_rules | `(tactic| walk_at "fill") => `(tactic| first
  | assumption
  | (with_reducible refine K15.FillAt.same ?_ (UL.same_new (by assumption)); walk_at "fill")
  | (with_reducible refine K15.FillAt.same ?_ (by assumption); walk_at "fill"))
local macro_rules | `(tactic| walk_at "work") => `(tactic| first
  | assumption
  | (with_reducible refine K15.WorkAt.same ?_ (UL.same_new (by assumption)); walk_at "work")
  | (with_reducible refine K15.WorkAt.same ?_ (by assumption); walk_at "work"))
--@macros end
namespace UL
open PySem PySem.Spec PyProof.Rows L2
theorem iteFo {c : Bool} {A B : Prop} (hc : c = false) (h : B) : if c = true then A else B := by rw [if_neg (by rw [hc]; exact Bool.false_ne_true)]; exact h
/-- one of two readings -/
theorem pe_either {X : Cx} {e : Expr} {t u : TE} (h : PE X e t) (g : PE X e u) : PE X e (fun σ H Q => t σ H Q ∨ u σ H Q) :=
  ⟨fun pins s σ H Q I q => q.elim (h.run pins s σ H Q I) (g.run pins s σ H Q I)⟩
end UL
namespace K15
open PySem L2 UL
/-- .. of places -/
structure Wp (P : Program) (w : World) (K : PySem.W.Frag) (mg : Str → Option Value) (base : Heap) (R S N : Addr) : Prop where
  rB : CalP P w K mg base 1 R "bits" (spRB R)
  sB : CalP P w K mg base 1 S "bits" (spBitsOf S "_offset" "_many" m8)
  nB : CalP P w K mg base 1 N "bits" (spBitsOf N "_align" "_many" m8)
  sM : CalP P w K mg base 1 S "many" (spBitsOf S "_offset" "_many" fun _ v => v)
  nM : CalP P w K mg base 1 N "many" (spBitsOf N "_align" "_many" fun _ v => v)
  kS : PySem.W.kitOne K (.ref S) (.ref R) = some false
  kN : PySem.W.kitOne K (.ref N) (.ref R) = some false
theorem PlaceAt.stay {R S N p : Addr} {H H' : Hp} {v : V} {b : Int} (h : PlaceAt R S N H v b) (hp : Pot H p) (s : Stay p H H') : PlaceAt R S N H' v b := by
  obtain ⟨a, dx, x, n, e, h⟩ := h
  refine ⟨a, dx, x, n, e, ?_⟩
  rcases h with ⟨⟨fs, h⟩, e⟩ | ⟨h, r⟩ | ⟨h, r⟩
  · exact .inl ⟨⟨fs, s.lookI hp h⟩, e⟩
  · exact .inr (.inl ⟨s.lookI hp h, r⟩)
  · exact .inr (.inr ⟨s.lookI hp h, r⟩)
theorem bV_mem {v : V} (h : v ∈ [V.int 0, V.int 1, V.non]) : ∃ b : Bt, v = bV b := by
  simp only [List.mem_cons, List.not_mem_nil, or_false] at h
  rcases h with rfl | rfl | rfl
  · exact ⟨some false, rfl⟩
  · exact ⟨some true, rfl⟩
  · exact ⟨none, rfl⟩
section
variable {P : Program} {w : World} {K : PySem.W.Frag} {mg : Str → Option Value} {base : Heap} {C D R S N gA aA : Addr}
/-- _law_right(pot) -/
def spR : Sp := fun vs H Q _ => ∃ (p : Addr), vs = [.ref p] ∧ Pot H p ∧ ∀ H' : Hp, Pot H' p → Stay p H H' → Q (.bl true) H'
theorem scRight : FnScope ["_law_pot_here", "_law_turn", "_law_place_here", "_law_room", "_law_wide", "_law_near", "_law_fill_here", "_law_other", "_law_bits_now", "_law_at"] ["_law_pot_here"] (defScope sRight) := ⟨rfl, rfl, rfl, by decide +kernel, rfl, by decide +kernel, by decide +kernel⟩
theorem ok_right {f : Addr} {fd : FuncData} (F : Fun K "_law_right" "_law_right" sRight f fd) (M : Wk P w K mg base C D R S N gA aA) (O : Wp P w K mg base R S N) (cA : CalG P w K mg base 7 "_law_alone_right" (spAlone C)) (cP : CalG P w K mg base 8 "_law_pair_right" (spPair C)) :
    FnG P w K mg base 9 f fd ["_law_pot_here"] spR := by
  refine FnG.mk' F scRight (fun vs H Q E h => ?_) (fun cdv A outer s H vs Q E hgd hr h => ?_)
  · obtain ⟨p, rfl, _⟩ := h
    rfl
  · obtain ⟨p, rfl, hp, k⟩ := h
    refine ⟨_, pss_cons (ps_for PassesOwn.never rfl (pi_range1 (by rfl) M.W.T.bi.range (pa_cons pe_int pa_nil)) (pg_name (i := 1) scRight.nd rfl (Or.inl rfl))
        (pss_cons (ps_set (i := 2) scRight.nd rfl (.inl rfl) (pe_c M.cpl hr (by decide) (by rfl) (pa_cons (pv 0) pa_nil)))
          (pss_cons (ps_set (i := 3) scRight.nd rfl (.inl rfl) (pe_either (pe_p (pv 2) O.rB hr (by decide) (by rfl)) (pe_either (pe_p (pv 2) O.sB hr (by decide) (by rfl)) (pe_p (pv 2) O.nB hr (by decide) (by rfl)))))
          (pss_cons (ps_if (pt_cmpR op_ne (pv 3) (pe_ifExp (pt_val (pe_callB call_isi (by rfl) M.W.T.bi.isinstance (by decide +kernel) (pa_cons (pv 2) (pa_cons (pe_glob (v := .ref R) (by rfl) M.T.mgR rfl) pa_nil)))) pe_int (pe_op op_mul pe_int (pe_either (pe_p (pv 2) O.sM hr (by decide) (by rfl)) (pe_p (pv 2) O.nM hr (by decide) (by rfl))))) (nomark _)) (pss_one (ps_ret pe_bl)) pss_nil)
          (pss_cons (ps_set (i := 4) scRight.nd rfl (.inl rfl) (pe_callB (call_max2 rfl) (by rfl) M.W.T.bi.max (by decide +kernel) (pa_cons pe_int (pa_cons (pe_callB (call_min2 rfl) (by rfl) M.W.T.bi.min (by decide +kernel) (pa_cons (pe_callTy call_int1 (by rfl) M.W.T.bi.int (by decide +kernel) (pa_cons (pv 3) pa_nil)) (pa_cons (pe_c M.cpk hr (by decide) (by rfl) (pa_cons (pv 0) (pa_cons (pe_lst (pa_cons (pv 3) (pa_cons (pe_op op_sub (pv 3) pe_int) (pa_cons pe_int (pa_cons pe_int (pa_cons (pe_op op_add pe_int (pe_c M.cdr hr (by decide) (by rfl) (pa_cons (pv 0) (pa_cons pe_int pa_nil)))) pa_nil)))))) pa_nil))) pa_nil))) pa_nil))))
          (pss_cons (ps_set (i := 5) scRight.nd rfl (.inl rfl) (pe_c M.cpk hr (by decide) (by rfl) (pa_cons (pv 0) (pa_cons (pe_lst (pa_cons (pv 3) (pa_cons (pv 4) (pa_cons (pe_op op_add pe_int (pe_c M.cdr hr (by decide) (by rfl) (pa_cons (pv 0) (pa_cons pe_int pa_nil)))) pa_nil)))) pa_nil))))
          (pss_cons (ps_par (i := 6) (j := 7) rfl scRight.nd rfl rfl (by decide) rfl rfl (pa_cons (pe_c M.cfi hr (by decide) (by rfl) (pa_cons (pv 0) (pa_cons (pv 5) pa_nil))) (pa_cons (pe_c M.cfi hr (by decide) (by rfl) (pa_cons (pv 0) (pa_cons (pv 5) pa_nil))) pa_nil)) (by rfl))
          (pss_cons (ps_setLc (i := 8) (own := [("_law_at", 9)]) (g := gName 9) (tt := tYes) rfl scRight.nd rfl rfl (sw_true rfl rfl rfl (by decide +kernel)) (pi_range1 (by rfl) M.W.T.bi.range (pa_cons (pv 3) pa_nil)) (blkOk_by (N := ["_law_pot_here", "_law_turn", "_law_place_here", "_law_room", "_law_wide", "_law_near", "_law_fill_here", "_law_other", "_law_bits_now", "_law_at"]) (sc := defScope sRight) (by decide +kernel)) (fun _ _ _ _ _ => pg_name (i := 9) scRight.nd rfl (Or.inl rfl)) (fun _ _ _ _ _ => pts_nil) (fun _ _ _ _ _ => pe_c M.cpk hr (by decide) (by rfl) (pa_cons (pv 0) (pa_cons (pe_lst (pa_cons pe_int (pa_cons pe_int (pa_cons pe_non pa_nil)))) pa_nil))))
          (pss_cons (ps_if (PW.pt (pw_or (pt_not (pt_val (pe_cG hgd cA hr (by decide) (by rfl) (pa_cons (pv 6) (pa_cons (pv 8) (pa_cons (pv 4) pa_nil)))))) (pw_or1 (pt_not (pt_val (pe_cG hgd cA hr (by decide) (by rfl) (pa_cons (pv 7) (pa_cons (pv 8) (pa_cons (pv 4) pa_nil))))))))) (pss_one (ps_ret pe_bl)) pss_nil)
          (pss_one (ps_if (pt_not (pt_val (pe_cG hgd cP hr (by decide) (by rfl) (pa_cons (pv 6) (pa_cons (pv 7) (pa_cons (pv 8) (pa_cons (pv 4) pa_nil))))))) (pss_one (ps_ret pe_bl)) pss_nil)))))))))))
      (pss_one (ps_ret pe_bl)), ?_⟩
    refine ⟨4, rfl, by decide, by decide, for_range (lo := 0) (n := 4) (fun _ σ H' => (∃ x1 x2 x3 x4 x5 x6 x7 x8 x9 : Option V, σ = [some (.ref p), x1, x2, x3, x4, x5, x6, x7, x8, x9]) ∧ Pot H' p ∧ Stay p H H')
      ⟨⟨_, _, _, _, _, _, _, _, _, rfl⟩, hp, Stay.refl _ _⟩ (fun i σ H1 hi ⟨⟨x1, x2, x3, x4, x5, x6, x7, x8, x9, eσ⟩, hp1, st1⟩ => ?_) (fun σ H1 ⟨⟨x1, x2, x3, x4, x5, x6, x7, x8, x9, eσ⟩, hp1, st1⟩ => ?_)⟩
    · subst eσ
      refine ⟨_, rfl, p, rfl, hp1, fun v b H2 hpl hp2 st2 => ?_⟩
      have st12 := st1.trans st2
      clear st1 st2 hp1
      obtain ⟨a, dx, x, n, rfl, hpl⟩ := hpl
      rcases hpl with ⟨⟨fs, hR⟩, eb⟩ | ⟨hS, n0, n1, eb⟩ | ⟨hN, n0, n1, eb⟩
      case' inl =>
        refine .inl ⟨_, rfl, a, dx, fs, rfl, hR, a, dx, fs, rfl, hR, ?_⟩
        refine ⟨_, rfl, _, rfl, _, _, _, _, true, rfl, .own R, M.T.iR.ty hR, (by simp [PySem.W.kitOne]), _, rfl, iteT ⟨rfl, _, rfl, ?_⟩⟩
        refine iteFo (by simp) ?_
        rw [← eb]
        have b0 : 8 ≤ b := by omega
        have b1 : b ≤ 128 := by omega
        clear eb hR
      case' inr.inl =>
        refine .inr (.inl ⟨_, rfl, a, dx, _, rfl, hS, a, dx, x, n, rfl, hS, ?_⟩)
        show tSeq _ _ _ _ _
        refine ⟨_, rfl, _, rfl, _, _, _, _, false, rfl, .own R, M.T.iS.ty hS, O.kS, _, rfl, iteF (.inl ⟨_, rfl, a, dx, _, rfl, hS, a, dx, x, n, rfl, hS, 8, n, rfl, rfl, .inl ⟨by decide, by decide⟩, rfl, _, rfl, ?_⟩)⟩
        dsimp only [m8]
        refine iteFo (by simp) ?_
        rw [← eb]
        have b0 : 8 ≤ b := by omega
        have b1 : b ≤ 128 := by omega
        clear eb hS
      case' inr.inr =>
        refine .inr (.inr ⟨_, rfl, a, dx, _, rfl, hN, a, dx, x, n, rfl, hN, ?_⟩)
        show tSeq _ _ _ _ _
        refine ⟨_, rfl, _, rfl, _, _, _, _, false, rfl, .own R, M.T.iN.ty hN, O.kN, _, rfl, iteF (.inr ⟨_, rfl, a, dx, _, rfl, hN, a, dx, x, n, rfl, hN, 8, n, rfl, rfl, .inl ⟨by decide, by decide⟩, rfl, _, rfl, ?_⟩)⟩
        dsimp only [m8]
        refine iteFo (by simp) ?_
        rw [← eb]
        have b0 : 8 ≤ b := by omega
        have b1 : b ≤ 128 := by omega
        clear eb hN
      all_goals
        -- the width
        refine ⟨_, rfl, .inl ⟨_, rfl, _, rfl, _, rfl, _, rfl, _, _, rfl, rfl, _, rfl, p, 127, rfl, hp2, by decide, by decide, fun d H3 d0 d1 hp3 st3 => ⟨_, _, rfl, rfl, (by show 5 ≤ sizeLine; decide), fun l hl => ⟨p, l, _, rfl, hp3.same (same_new hl), pot_ne hp3 hl, SqL.of upd_same, (by show 0 < 5; decide), (by show 5 < 1073741824; decide), fun i4 v4 H4 hv4 hp4 st4 => ?_⟩⟩⟩⟩
        obtain ⟨z, rfl⟩ : ∃ z : Int, v4 = .int z := by
          have := List.mem_of_getElem? hv4
          simp only [List.mem_cons, List.not_mem_nil, or_false] at this
          rcases this with e | e | e | e | e <;> exact ⟨_, e⟩
        have stA : Stay p H H4 := (st12.trans st3).trans ((stay_new hl).trans st4)
        clear st3 st4 hv4 hl hp3 d0 d1
        refine ⟨_, _, rfl, _, _, rfl, ?_⟩
        obtain ⟨wi, hwi, w0, w1⟩ : ∃ wi : Nat, ((wi : Nat) : Int) = (if (if z < b then z else b) > 2 then (if z < b then z else b) else 2) ∧ 2 ≤ wi ∧ ((wi : Nat) : Int) ≤ b := by
          by_cases c1 : z < b
          · rw [if_pos c1]
            by_cases c2 : z > 2
            · rw [if_pos c2]
              exact ⟨z.toNat, by omega, by omega, by omega⟩
            · rw [if_neg c2]
              exact ⟨2, rfl, by omega, by omega⟩
          · rw [if_neg c1, if_pos (by omega)]
            exact ⟨b.toNat, by omega, by omega, by omega⟩
        rw [← hwi]
        clear hwi
        -- what is near
        refine ⟨_, rfl, _, rfl, _, rfl, _, rfl, p, 126, rfl, hp4, by decide, by decide, fun d H5 d0 d1 hp5 st5 => ⟨_, _, rfl, rfl, (by show 3 ≤ sizeLine; decide), fun l hl => ⟨p, l, _, rfl, hp5.same (same_new hl), pot_ne hp5 hl, SqL.of upd_same, (by show 0 < 3; decide), (by show 3 < 1073741824; decide), fun i6 v6 H6 hv6 hp6 st6 => ?_⟩⟩⟩
        obtain ⟨near, rfl⟩ : ∃ z : Int, v6 = .int z := by
          have := List.mem_of_getElem? hv6
          simp only [List.mem_cons, List.not_mem_nil, or_false] at this
          rcases this with e | e | e <;> exact ⟨_, e⟩
        have stB : Stay p H H6 := (stA.trans st5).trans ((stay_new hl).trans st6)
        clear st5 st6 hv6 hl hp5 d0 d1 stA
        -- the fills
        refine ⟨_, rfl, _, rfl, p, near, rfl, hp6, fun v t H7 ht hv hp7 st7 => ⟨_, rfl, _, rfl, p, near, rfl, hp7, fun u t' H8 ht' hu hp8 st8 => ⟨_, _, rfl, ?_⟩⟩⟩
        have hv8 := hv.stay hp7 st8
        have stC : Stay p H H8 := (stB.trans st7).trans st8
        clear hv st7 st8 stB hp7 hp6
        obtain ⟨bn, rfl⟩ : ∃ bn : Nat, b = ((bn : Nat) : Int) := ⟨b.toNat, by omega⟩
        -- the bits
        refine ⟨_, rfl, ((bn : Nat) : Int), rfl, by omega, by omega, fun DD hDD => ?_⟩
        have npD : p ≠ DD := (pot_ne hp8 hDD).symm
        refine lc_range (lo := 0) (n := ((bn : Nat) : Int).toNat) (fun i H' => (∃ xs : List Bt, xs.length = i ∧ H' DD = some (.lst (xs.map bV))) ∧ Pot H' p ∧ Stay p H8 H')
          ⟨⟨[], rfl, upd_same⟩, hp8.same (same_new hDD), stay_new hDD⟩ (fun i H' hi ⟨⟨xs, ex, e1⟩, hq, st⟩ => ?_) (fun H' ⟨⟨xs, ex, e1⟩, hq, st⟩ => ?_)
        · refine ⟨rfl, _, rfl, (by show 3 ≤ sizeLine; decide), fun l hl => ⟨p, l, _, rfl, hq.same (same_new hl), pot_ne hq hl, SqL.of upd_same, (by show 0 < 3; decide), (by show 3 < 1073741824; decide), fun i9 v9 H9 hv9 hp9 st9 => ?_⟩⟩
          obtain ⟨y, rfl⟩ := bV_mem (List.mem_of_getElem? hv9)
          have e2 : H9 DD = some (.lst (xs.map bV)) := st9 _ _ npD.symm (same_new hl _ _ e1)
          refine ⟨_, e2, line_gt (by rw [List.length_map]; omega), ⟨xs ++ [y], by rw [List.length_append, ex]; rfl, by rw [List.map_append]; exact upd_same⟩, ?_, fun b o nb eb => ?_⟩
          · obtain ⟨y1, y2, ey, y3⟩ := hp9
            exact ⟨y1, y2, by rw [upd_ne npD]; exact ey, y3⟩
          · have nbD : b ≠ DD := fun z => by
              rw [z, hDD] at eb
              cases eb
            rw [upd_ne nbD]
            exact st9 _ _ nb (same_new hl _ _ (st _ _ nb eb))
        · have hvH := hv8.stay hp8 st
          have huH := hu.stay hp8 st
          have stD : Stay p H H' := stC.trans st
          have lx : xs.length = bn := by omega
          clear hv8 hu stC st hp8 ex
          refine ⟨_, rfl, _, rfl, _, rfl, _, t, DD, xs, wi, rfl, hvH, ht, e1, w0, by omega, by omega, fun Ha sa => ⟨_, rfl, iteF ⟨_, rfl, _, rfl, _, rfl, _, t', DD, xs, wi, rfl, huH.same sa, ht', sa _ _ e1, w0, by omega, by omega, fun Hb sb => ⟨_, rfl, iteF ?_⟩⟩⟩⟩
          refine ⟨_, rfl, _, rfl, _, rfl, _, rfl, _, _, t, t', DD, xs, wi, rfl, (hvH.same sa).same sb, (huH.same sa).same sb, ht, ht', sb _ _ (sa _ _ e1), w0, by omega, by omega, fun Hc sc => ⟨_, rfl, iteF ?_⟩⟩
          exact ⟨⟨_, _, _, _, _, _, _, _, _, rfl⟩, ((hq.same sa).same sb).same sc, ((stD.trans (Same.stay sa p)).trans (Same.stay sb p)).trans (Same.stay sc p)⟩
    · subst eσ
      exact k H1 hp1 st1
end
end K15
set_option Elab.async false
set_option linter.all false
set_option maxRecDepth 100000
set_option maxHeartbeats 4000000
namespace UL
open PySem L2
theorem SqL.past {K : PySem.W.Frag} {a p : Addr} {H H1 H2 : Hp} {xs : List V} (h : SqL K H a xs) (hp : H p = none) (s : L2.Same H H1) (st : Stay p H1 H2) : SqL K H2 a xs := by
  rcases h with (h | ⟨o, h⟩) | h
  · exact .inl (.inl (st _ _ (ne_of_none h hp) (s _ _ h)))
  · exact .inl (.inr ⟨o, st _ _ (ne_of_none h hp) (s _ _ h)⟩)
  · exact .inr h
theorem sq_same {K : PySem.W.Frag} {a : Addr} {H H1 : Hp} {xs : List V} (h : SqL K H a xs) (s : L2.Same H H1) : SqL K H1 a xs := by
  rcases h with (h | ⟨o, h⟩) | h
  · exact .inl (.inl (s _ _ h))
  · exact .inl (.inr ⟨o, s _ _ h⟩)
  · exact .inr h
theorem sq_off {K : PySem.W.Frag} {a D : Addr} {H : Hp} {xs : List V} (h : SqL K H a xs) (hD : H D = none) : ∀ (H2 : Hp) (o : HO), SqL K H2 a xs → SqL K (upd H2 D o) a xs := by
  intro H2 o h2
  have key : a ≠ D → SqL K (upd H2 D o) a xs := fun n => by
    rcases h2 with (h2 | ⟨u, h2⟩) | h2
    · exact .inl (.inl (by rw [upd_ne n]; exact h2))
    · exact .inl (.inr ⟨u, by rw [upd_ne n]; exact h2⟩)
    · exact .inr h2
  rcases h with (h | ⟨u, h⟩) | h
  · exact key (ne_of_none h hD)
  · exact key (ne_of_none h hD)
  · exact .inr h
theorem four {z : Int} : (if (if 4 < z then 4 else z) > 1 then (if 4 < z then 4 else z) else 1) ≤ 4 ∧ 1 ≤ (if (if 4 < z then 4 else z) > 1 then (if 4 < z then 4 else z) else 1) := by
  by_cases c : 4 < z
  · rw [if_pos c, if_pos (by decide)]
    decide
  · rw [if_neg c]
    by_cases d : z > 1
    · rw [if_pos d]
      omega
    · rw [if_neg d]
      decide
end UL
namespace K15
open PySem L2 UL
section
variable {P : Program} {w : World} {K : PySem.W.Frag} {mg : Str → Option Value} {base : Heap} {C : Addr}
/-- law(script) -/
def spLaw (K : PySem.W.Frag) : Sp := fun vs H Q _ => ∃ (a : Addr) (ns : List Int), vs = [.ref a] ∧ SqL K H a (ns.map V.int) ∧ ns.length ≤ 63 ∧ ∀ H' : Hp, Q (.bl true) H'
theorem scLaw : FnScope ["_law_script", "_law_k"] ["_law_script"] (defScope sLaw) := ⟨rfl, rfl, rfl, by decide +kernel, rfl, by decide +kernel, by decide +kernel⟩
theorem ok_law {f : Addr} {fd : FuncData} (F : Fun K "law" "law" sLaw f fd) (B : Bi mg) (cp : Cal P w K mg base 1 "_law_pot" (spPot K)) (cr : CalG P w K mg base 9 "_law_right" spR) :
    FnG P w K mg base 10 f fd ["_law_script"] (spLaw K) := by
  refine FnG.mk' F scLaw (fun vs H Q E h => ?_) (fun cdv A outer s H vs Q E hgd hr h => ?_)
  · obtain ⟨a, ns, rfl, _⟩ := h
    rfl
  · obtain ⟨a, ns, rfl, hS, hn, k⟩ := h
    refine ⟨_, pss_one (ps_ret (pe_callB (cr_all rfl) (by rfl) B.all (by decide +kernel) (pa_cons (pe_lc (own := [("_law_k", 1)]) (g := gName 1) (tt := tYes) rfl scLaw.nd
        (pi_range1 (by rfl) B.range (pa_cons (pe_callB (call_max2 rfl) (by rfl) B.max (by decide +kernel) (pa_cons pe_int (pa_cons (pe_callB (call_min2 rfl) (by rfl) B.min (by decide +kernel) (pa_cons (pe_callB call_len_seq (by rfl) B.len PySem.boot_len (pa_cons (pv 0) pa_nil)) (pa_cons pe_int pa_nil))) pa_nil))) pa_nil))
        (blkOk_by (N := ["_law_script", "_law_k"]) (sc := defScope sLaw) (by decide +kernel)) (fun _ _ _ _ _ => pg_name (i := 1) scLaw.nd rfl (Or.inl rfl)) (fun _ _ _ _ _ => pts_nil)
        (fun _ _ _ _ _ => pe_cG hgd cr hr (by decide) (by rfl) (pa_cons (pe_c cp hr (by decide) (by rfl) (pa_cons (pv 0) (pa_cons (pv 1) pa_nil))) pa_nil))) pa_nil))), ?_⟩
    refine ⟨_, rfl, a, _, rfl, .inl hS, ?_⟩
    refine ⟨_, _, rfl, _, _, rfl, ?_⟩
    obtain ⟨m4, m1⟩ := four (z := ((ns.map V.int).length : Int))
    generalize (if (if 4 < ((ns.map V.int).length : Int) then 4 else ((ns.map V.int).length : Int)) > 1 then (if 4 < ((ns.map V.int).length : Int) then 4 else ((ns.map V.int).length : Int)) else 1) = m at m4 m1
    refine ⟨m, rfl, by omega, by omega, fun D hD => ?_⟩
    refine lc_range (lo := 0) (n := m.toNat) (fun i H' => H' D = some (.lst ((List.replicate i true).map V.bl)) ∧ SqL K H' a (ns.map V.int)) ⟨upd_same, sq_same hS (same_new hD)⟩ (fun i H' hi ⟨d1, s1⟩ => ?_) (fun H' ⟨d1, s1⟩ => ?_)
    · refine ⟨rfl, _, rfl, _, rfl, a, ns, _, rfl, s1, by omega, by omega, fun p H1 np hp sm => ?_⟩
      refine ⟨p, rfl, hp, fun H2 hp2 st => ⟨_, st _ _ (ne_of_none d1 np) (sm _ _ d1), line_gt (by rw [List.length_map, List.length_replicate]; omega), ?_, ?_⟩⟩
      · rw [List.replicate_succ', List.map_append]
        exact upd_same
      · have sS := SqL.past s1 np sm st
        exact sq_off hS hD _ _ sS
    · refine ⟨D, _, rfl, SqL.of d1, ?_⟩
      have e : ((List.replicate m.toNat true).all id) = true := by
        rw [List.all_eq_true]
        intro x hx
        rw [List.eq_of_mem_replicate hx]
        rfl
      rw [e]
      exact k H'
end
end K15
set_option Elab.async false
set_option linter.all false
set_option maxRecDepth 100000
set_option maxHeartbeats 4000000
namespace K15
open PySem PySem.Spec PyProof.Rows L2 UL
theorem dr_add : dunderR "add" = ("__radd__" : Str) := by decide +kernel
theorem kt_own {K : PySem.W.Frag} {C D : Addr} (h0 : (Value.ref C == Value.ref D) = false) (h1 : PySem.W.isClsIn K D = true) (h2 : PySem.W.typeIn K (.ref D) = some (.type "type")) (h3 : PySem.W.subIn K (.ref C) (.ref D) = some false) :
    PySem.W.kitOne K (.ref C) (.ref D) = some false ∧ PySem.W.notFirst K D (.ref C) = true := by
  constructor
  · unfold PySem.W.kitOne PySem.W.kitCls
    rw [h0, if_neg Bool.false_ne_true]
    dsimp only
    rw [if_pos (by rw [h2]; simp [show (PySem.W.clsIn K D).isSome = true from h1])]
    exact h3
  · unfold PySem.W.notFirst
    rw [h3]
    simp
theorem all_mk {l : PySem.W.OpenLaw} {w : World} {K : PySem.W.Frag} {h : Heap} {mg : Str → Option Value} {fa C D R S N tG tA T0 f_isi f_cou f_oof f_btw f_wrd f_isl f_isb f_fld f_plf f_pot f_drw f_pck f_plc f_fil f_wrk f_lst f_alo f_shw f_par f_rgt f_law f_ini f_wi f_ri f_si f_ni f_eq f_cut f_cov f_wpl f_wlk f_wca f_wad f_weq f_pw f_pe f_pf f_rb f_sm f_sb f_nm f_nb p_pw p_pe p_pf p_rb p_sm p_sb p_nm p_nb : Addr} (X : K.In h) (G : h.Ns mainGlobals mg) (hfa : mg "law" = some (.ref fa))
    {od_isi an_isi od_cou an_cou od_oof an_oof od_btw an_btw od_wrd an_wrd od_isl an_isl od_isb an_isb od_fld an_fld od_plf an_plf od_pot an_pot od_drw an_drw od_pck an_pck od_plc an_plc od_fil an_fil od_wrk an_wrk od_lst an_lst od_alo an_alo od_shw an_shw od_par an_par od_rgt an_rgt od_law an_law od_ini an_ini od_wi an_wi od_ri an_ri od_si an_si od_ni an_ni od_eq an_eq od_cut an_cut od_cov an_cov od_wpl an_wpl od_wlk an_wlk od_wca an_wca od_wad an_wad od_weq an_weq od_pw an_pw od_pe an_pe od_pf an_pf od_rb an_rb od_sm an_sm od_sb an_sb od_nm an_nm od_nb an_nb odT : Option Addr} {sl_isi sl_cou sl_oof sl_btw sl_wrd sl_isl sl_isb sl_fld sl_plf sl_pot sl_drw sl_pck sl_plc sl_fil sl_wrk sl_lst sl_alo sl_shw sl_par sl_rgt sl_law sl_ini sl_wi sl_ri sl_si sl_ni sl_eq sl_cut sl_cov sl_wpl sl_wlk sl_wca sl_wad sl_weq sl_pw sl_pe sl_pf sl_rb sl_sm sl_sb sl_nm sl_nb slT : Array (Option Value)} {oc_isi kV_isi dc_isi pm_isi cd_isi ct_isi oc_cou kV_cou dc_cou pm_cou cd_cou ct_cou oc_oof kV_oof dc_oof pm_oof cd_oof ct_oof oc_btw kV_btw dc_btw pm_btw cd_btw ct_btw oc_wrd kV_wrd dc_wrd pm_wrd cd_wrd ct_wrd oc_isl kV_isl dc_isl pm_isl cd_isl ct_isl oc_isb kV_isb dc_isb pm_isb cd_isb ct_isb oc_fld kV_fld dc_fld pm_fld cd_fld ct_fld oc_plf kV_plf dc_plf pm_plf cd_plf ct_plf oc_pot kV_pot dc_pot pm_pot cd_pot ct_pot oc_drw kV_drw dc_drw pm_drw cd_drw ct_drw oc_pck kV_pck dc_pck pm_pck cd_pck ct_pck oc_plc kV_plc dc_plc pm_plc cd_plc ct_plc oc_fil kV_fil dc_fil pm_fil cd_fil ct_fil oc_wrk kV_wrk dc_wrk pm_wrk cd_wrk ct_wrk oc_lst kV_lst dc_lst pm_lst cd_lst ct_lst oc_alo kV_alo dc_alo pm_alo cd_alo ct_alo oc_shw kV_shw dc_shw pm_shw cd_shw ct_shw oc_par kV_par dc_par pm_par cd_par ct_par oc_rgt kV_rgt dc_rgt pm_rgt cd_rgt ct_rgt oc_law kV_law dc_law pm_law cd_law ct_law oc_ini kV_ini dc_ini pm_ini cd_ini ct_ini oc_wi kV_wi dc_wi pm_wi cd_wi ct_wi oc_ri kV_ri dc_ri pm_ri cd_ri ct_ri oc_si kV_si dc_si pm_si cd_si ct_si oc_ni kV_ni dc_ni pm_ni cd_ni ct_ni oc_eq kV_eq dc_eq pm_eq cd_eq ct_eq oc_cut kV_cut dc_cut pm_cut cd_cut ct_cut oc_cov kV_cov dc_cov pm_cov cd_cov ct_cov oc_wpl kV_wpl dc_wpl pm_wpl cd_wpl ct_wpl oc_wlk kV_wlk dc_wlk pm_wlk cd_wlk ct_wlk oc_wca kV_wca dc_wca pm_wca cd_wca ct_wca oc_wad kV_wad dc_wad pm_wad cd_wad ct_wad oc_weq kV_weq dc_weq pm_weq cd_weq ct_weq oc_pw kV_pw dc_pw pm_pw cd_pw ct_pw oc_pe kV_pe dc_pe pm_pe cd_pe ct_pe oc_pf kV_pf dc_pf pm_pf cd_pf ct_pf oc_rb kV_rb dc_rb pm_rb cd_rb ct_rb oc_sm kV_sm dc_sm pm_sm cd_sm ct_sm oc_sb kV_sb dc_sb pm_sb cd_sb ct_sb oc_nm kV_nm dc_nm pm_nm cd_nm ct_nm oc_nb kV_nb dc_nb pm_nb cd_nb ct_nb ocT u_LAST_NUMBER u_GROUP_STRIDE u_REGISTER_BITS u_MOST_BYTES u_FREE u_ZEROS u_SIGN u_LEAST_EXTENT u_LEAST_WIDTH u_MOST_BITS u_MOST_FILLS : Value} {re_pw re_pe re_pf re_rb re_sm re_sb re_nm re_nb : List Value} {itT itG itA : Array Value} {nT ntG ntA : Nat} {slG slA : Array (Option Value)} {cldC cldD : ClassData}
    (aR : PySem.W.nsIn K mainGlobals "Register" = some (some (.ref R)))
    (aS : PySem.W.nsIn K mainGlobals "Slots" = some (some (.ref S)))
    (aN : PySem.W.nsIn K mainGlobals "Next" = some (some (.ref N)))
    (aC : PySem.W.nsIn K mainGlobals "Fill" = some (some (.ref C)))
    (aD : PySem.W.nsIn K mainGlobals "Work" = some (some (.ref D)))
    (a_isi : PySem.W.nsIn K mainGlobals "is_integer" = some (some (.ref f_isi)))
    (l_isi : K.lookup f_isi = some ⟨oc_isi, od_isi, .func (PySem.W.fnOf "is_integer" "is_integer" (defArgs sIsInt) (defBody sIsInt) (defScope sIsInt) .none kV_isi dc_isi pm_isi an_isi cd_isi ct_isi), sl_isi⟩)
    (c_isi : PySem.W.codeIn K cd_isi "is_integer" = true)
    (k_isi : PySem.W.keepIn K (.ref f_isi) = true)
    (a_cou : PySem.W.nsIn K mainGlobals "is_count" = some (some (.ref f_cou)))
    (l_cou : K.lookup f_cou = some ⟨oc_cou, od_cou, .func (PySem.W.fnOf "is_count" "is_count" (defArgs sIsCount) (defBody sIsCount) (defScope sIsCount) .none kV_cou dc_cou pm_cou an_cou cd_cou ct_cou), sl_cou⟩)
    (c_cou : PySem.W.codeIn K cd_cou "is_count" = true)
    (k_cou : PySem.W.keepIn K (.ref f_cou) = true)
    (a_oof : PySem.W.nsIn K mainGlobals "is_one_of" = some (some (.ref f_oof)))
    (l_oof : K.lookup f_oof = some ⟨oc_oof, od_oof, .func (PySem.W.fnOf "is_one_of" "is_one_of" (defArgs sIsOneOf) (defBody sIsOneOf) (defScope sIsOneOf) .none kV_oof dc_oof pm_oof an_oof cd_oof ct_oof), sl_oof⟩)
    (c_oof : PySem.W.codeIn K cd_oof "is_one_of" = true)
    (k_oof : PySem.W.keepIn K (.ref f_oof) = true)
    (a_btw : PySem.W.nsIn K mainGlobals "is_between" = some (some (.ref f_btw)))
    (l_btw : K.lookup f_btw = some ⟨oc_btw, od_btw, .func (PySem.W.fnOf "is_between" "is_between" (defArgs sBetw) (defBody sBetw) (defScope sBetw) .none kV_btw dc_btw pm_btw an_btw cd_btw ct_btw), sl_btw⟩)
    (c_btw : PySem.W.codeIn K cd_btw "is_between" = true)
    (k_btw : PySem.W.keepIn K (.ref f_btw) = true)
    (a_wrd : PySem.W.nsIn K mainGlobals "is_word_of" = some (some (.ref f_wrd)))
    (l_wrd : K.lookup f_wrd = some ⟨oc_wrd, od_wrd, .func (PySem.W.fnOf "is_word_of" "is_word_of" (defArgs sWord) (defBody sWord) (defScope sWord) .none kV_wrd dc_wrd pm_wrd an_wrd cd_wrd ct_wrd), sl_wrd⟩)
    (c_wrd : PySem.W.codeIn K cd_wrd "is_word_of" = true)
    (k_wrd : PySem.W.keepIn K (.ref f_wrd) = true)
    (a_isl : PySem.W.nsIn K mainGlobals "is_list" = some (some (.ref f_isl)))
    (l_isl : K.lookup f_isl = some ⟨oc_isl, od_isl, .func (PySem.W.fnOf "is_list" "is_list" (defArgs sIsList) (defBody sIsList) (defScope sIsList) .none kV_isl dc_isl pm_isl an_isl cd_isl ct_isl), sl_isl⟩)
    (c_isl : PySem.W.codeIn K cd_isl "is_list" = true)
    (k_isl : PySem.W.keepIn K (.ref f_isl) = true)
    (a_isb : PySem.W.nsIn K mainGlobals "is_bit" = some (some (.ref f_isb)))
    (l_isb : K.lookup f_isb = some ⟨oc_isb, od_isb, .func (PySem.W.fnOf "is_bit" "is_bit" (defArgs sIsBit) (defBody sIsBit) (defScope sIsBit) .none kV_isb dc_isb pm_isb an_isb cd_isb ct_isb), sl_isb⟩)
    (c_isb : PySem.W.codeIn K cd_isb "is_bit" = true)
    (k_isb : PySem.W.keepIn K (.ref f_isb) = true)
    (a_fld : PySem.W.nsIn K mainGlobals "filled" = some (some (.ref f_fld)))
    (l_fld : K.lookup f_fld = some ⟨oc_fld, od_fld, .func (PySem.W.fnOf "filled" "filled" (defArgs sFilled) (defBody sFilled) (defScope sFilled) .none kV_fld dc_fld pm_fld an_fld cd_fld ct_fld), sl_fld⟩)
    (c_fld : PySem.W.codeIn K cd_fld "filled" = true)
    (k_fld : PySem.W.keepIn K (.ref f_fld) = true)
    (a_plf : PySem.W.nsIn K mainGlobals "plain_fills" = some (some (.ref f_plf)))
    (l_plf : K.lookup f_plf = some ⟨oc_plf, od_plf, .func (PySem.W.fnOf "plain_fills" "plain_fills" (defArgs sPlF) (defBody sPlF) (defScope sPlF) .none kV_plf dc_plf pm_plf an_plf cd_plf ct_plf), sl_plf⟩)
    (c_plf : PySem.W.codeIn K cd_plf "plain_fills" = true)
    (k_plf : PySem.W.keepIn K (.ref f_plf) = true)
    (a_pot : PySem.W.nsIn K mainGlobals "_law_pot" = some (some (.ref f_pot)))
    (l_pot : K.lookup f_pot = some ⟨oc_pot, od_pot, .func (PySem.W.fnOf "_law_pot" "_law_pot" (defArgs sPot) (defBody sPot) (defScope sPot) .none kV_pot dc_pot pm_pot an_pot cd_pot ct_pot), sl_pot⟩)
    (c_pot : PySem.W.codeIn K cd_pot "_law_pot" = true)
    (k_pot : PySem.W.keepIn K (.ref f_pot) = true)
    (a_drw : PySem.W.nsIn K mainGlobals "_law_draw" = some (some (.ref f_drw)))
    (l_drw : K.lookup f_drw = some ⟨oc_drw, od_drw, .func (PySem.W.fnOf "_law_draw" "_law_draw" (defArgs sDraw) (defBody sDraw) (defScope sDraw) .none kV_drw dc_drw pm_drw an_drw cd_drw ct_drw), sl_drw⟩)
    (c_drw : PySem.W.codeIn K cd_drw "_law_draw" = true)
    (k_drw : PySem.W.keepIn K (.ref f_drw) = true)
    (a_pck : PySem.W.nsIn K mainGlobals "_law_pick" = some (some (.ref f_pck)))
    (l_pck : K.lookup f_pck = some ⟨oc_pck, od_pck, .func (PySem.W.fnOf "_law_pick" "_law_pick" (defArgs sPick) (defBody sPick) (defScope sPick) .none kV_pck dc_pck pm_pck an_pck cd_pck ct_pck), sl_pck⟩)
    (c_pck : PySem.W.codeIn K cd_pck "_law_pick" = true)
    (k_pck : PySem.W.keepIn K (.ref f_pck) = true)
    (a_plc : PySem.W.nsIn K mainGlobals "_law_place" = some (some (.ref f_plc)))
    (l_plc : K.lookup f_plc = some ⟨oc_plc, od_plc, .func (PySem.W.fnOf "_law_place" "_law_place" (defArgs sPlace) (defBody sPlace) (defScope sPlace) .none kV_plc dc_plc pm_plc an_plc cd_plc ct_plc), sl_plc⟩)
    (c_plc : PySem.W.codeIn K cd_plc "_law_place" = true)
    (k_plc : PySem.W.keepIn K (.ref f_plc) = true)
    (a_fil : PySem.W.nsIn K mainGlobals "_law_fill" = some (some (.ref f_fil)))
    (l_fil : K.lookup f_fil = some ⟨oc_fil, od_fil, .func (PySem.W.fnOf "_law_fill" "_law_fill" (defArgs sFillL) (defBody sFillL) (defScope sFillL) .none kV_fil dc_fil pm_fil an_fil cd_fil ct_fil), sl_fil⟩)
    (c_fil : PySem.W.codeIn K cd_fil "_law_fill" = true)
    (k_fil : PySem.W.keepIn K (.ref f_fil) = true)
    (a_wrk : PySem.W.nsIn K mainGlobals "_law_work" = some (some (.ref f_wrk)))
    (l_wrk : K.lookup f_wrk = some ⟨oc_wrk, od_wrk, .func (PySem.W.fnOf "_law_work" "_law_work" (defArgs sWork) (defBody sWork) (defScope sWork) .none kV_wrk dc_wrk pm_wrk an_wrk cd_wrk ct_wrk), sl_wrk⟩)
    (c_wrk : PySem.W.codeIn K cd_wrk "_law_work" = true)
    (k_wrk : PySem.W.keepIn K (.ref f_wrk) = true)
    (a_lst : PySem.W.nsIn K mainGlobals "_law_set" = some (some (.ref f_lst)))
    (l_lst : K.lookup f_lst = some ⟨oc_lst, od_lst, .func (PySem.W.fnOf "_law_set" "_law_set" (defArgs sSet) (defBody sSet) (defScope sSet) .none kV_lst dc_lst pm_lst an_lst cd_lst ct_lst), sl_lst⟩)
    (c_lst : PySem.W.codeIn K cd_lst "_law_set" = true)
    (k_lst : PySem.W.keepIn K (.ref f_lst) = true)
    (a_alo : PySem.W.nsIn K mainGlobals "_law_alone_right" = some (some (.ref f_alo)))
    (l_alo : K.lookup f_alo = some ⟨oc_alo, od_alo, .func (PySem.W.fnOf "_law_alone_right" "_law_alone_right" (defArgs sAlone) (defBody sAlone) (defScope sAlone) .none kV_alo dc_alo pm_alo an_alo cd_alo ct_alo), sl_alo⟩)
    (c_alo : PySem.W.codeIn K cd_alo "_law_alone_right" = true)
    (k_alo : PySem.W.keepIn K (.ref f_alo) = true)
    (a_shw : PySem.W.nsIn K mainGlobals "_law_shows" = some (some (.ref f_shw)))
    (l_shw : K.lookup f_shw = some ⟨oc_shw, od_shw, .func (PySem.W.fnOf "_law_shows" "_law_shows" (defArgs sShows) (defBody sShows) (defScope sShows) .none kV_shw dc_shw pm_shw an_shw cd_shw ct_shw), sl_shw⟩)
    (c_shw : PySem.W.codeIn K cd_shw "_law_shows" = true)
    (k_shw : PySem.W.keepIn K (.ref f_shw) = true)
    (a_par : PySem.W.nsIn K mainGlobals "_law_pair_right" = some (some (.ref f_par)))
    (l_par : K.lookup f_par = some ⟨oc_par, od_par, .func (PySem.W.fnOf "_law_pair_right" "_law_pair_right" (defArgs sPairR) (defBody sPairR) (defScope sPairR) .none kV_par dc_par pm_par an_par cd_par ct_par), sl_par⟩)
    (c_par : PySem.W.codeIn K cd_par "_law_pair_right" = true)
    (k_par : PySem.W.keepIn K (.ref f_par) = true)
    (a_rgt : PySem.W.nsIn K mainGlobals "_law_right" = some (some (.ref f_rgt)))
    (l_rgt : K.lookup f_rgt = some ⟨oc_rgt, od_rgt, .func (PySem.W.fnOf "_law_right" "_law_right" (defArgs sRight) (defBody sRight) (defScope sRight) .none kV_rgt dc_rgt pm_rgt an_rgt cd_rgt ct_rgt), sl_rgt⟩)
    (c_rgt : PySem.W.codeIn K cd_rgt "_law_right" = true)
    (k_rgt : PySem.W.keepIn K (.ref f_rgt) = true)
    (a_law : PySem.W.nsIn K mainGlobals "law" = some (some (.ref f_law)))
    (l_law : K.lookup f_law = some ⟨oc_law, od_law, .func (PySem.W.fnOf "law" "law" (defArgs sLaw) (defBody sLaw) (defScope sLaw) .none kV_law dc_law pm_law an_law cd_law ct_law), sl_law⟩)
    (c_law : PySem.W.codeIn K cd_law "law" = true)
    (k_law : PySem.W.keepIn K (.ref f_law) = true)
    (a_ini : PySem.W.findIn K (.ref C) "__init__" = some (some (.ref f_ini)))
    (i_ini : PySem.W.isFn K (.ref f_ini) = true)
    (l_ini : K.lookup f_ini = some ⟨oc_ini, od_ini, .func (PySem.W.fnOf "__init__" "Fill.__init__" (defArgs sInit) (defBody sInit) (defScope sInit) (.ref T0) kV_ini dc_ini pm_ini an_ini cd_ini ct_ini), sl_ini⟩)
    (c_ini : PySem.W.codeIn K cd_ini "Fill.__init__" = true)
    (k_ini : PySem.W.keepIn K (.ref f_ini) = true)
    (tO : K.lookup T0 = some ⟨ocT, odT, .seq itT nT, slT⟩)
    (vT : Vals [.str "free", .non] itT.toList)
    (a_wi : PySem.W.findIn K (.ref D) "__init__" = some (some (.ref f_wi)))
    (i_wi : PySem.W.isFn K (.ref f_wi) = true)
    (l_wi : K.lookup f_wi = some ⟨oc_wi, od_wi, .func (PySem.W.fnOf "__init__" "Work.__init__" (defArgs sWInit) (defBody sWInit) (defScope sWInit) .none kV_wi dc_wi pm_wi an_wi cd_wi ct_wi), sl_wi⟩)
    (c_wi : PySem.W.codeIn K cd_wi "Work.__init__" = true)
    (k_wi : PySem.W.keepIn K (.ref f_wi) = true)
    (a_ri : PySem.W.findIn K (.ref R) "__init__" = some (some (.ref f_ri)))
    (i_ri : PySem.W.isFn K (.ref f_ri) = true)
    (l_ri : K.lookup f_ri = some ⟨oc_ri, od_ri, .func (PySem.W.fnOf "__init__" "Register.__init__" (defArgs sRI) (defBody sRI) (defScope sRI) .none kV_ri dc_ri pm_ri an_ri cd_ri ct_ri), sl_ri⟩)
    (c_ri : PySem.W.codeIn K cd_ri "Register.__init__" = true)
    (k_ri : PySem.W.keepIn K (.ref f_ri) = true)
    (a_si : PySem.W.findIn K (.ref S) "__init__" = some (some (.ref f_si)))
    (i_si : PySem.W.isFn K (.ref f_si) = true)
    (l_si : K.lookup f_si = some ⟨oc_si, od_si, .func (PySem.W.fnOf "__init__" "Slots.__init__" (defArgs sSI) (defBody sSI) (defScope sSI) .none kV_si dc_si pm_si an_si cd_si ct_si), sl_si⟩)
    (c_si : PySem.W.codeIn K cd_si "Slots.__init__" = true)
    (k_si : PySem.W.keepIn K (.ref f_si) = true)
    (a_ni : PySem.W.findIn K (.ref N) "__init__" = some (some (.ref f_ni)))
    (i_ni : PySem.W.isFn K (.ref f_ni) = true)
    (l_ni : K.lookup f_ni = some ⟨oc_ni, od_ni, .func (PySem.W.fnOf "__init__" "Next.__init__" (defArgs sNI) (defBody sNI) (defScope sNI) .none kV_ni dc_ni pm_ni an_ni cd_ni ct_ni), sl_ni⟩)
    (c_ni : PySem.W.codeIn K cd_ni "Next.__init__" = true)
    (k_ni : PySem.W.keepIn K (.ref f_ni) = true)
    (a_eq : PySem.W.findIn K (.ref C) "__eq__" = some (some (.ref f_eq)))
    (i_eq : PySem.W.isFn K (.ref f_eq) = true)
    (l_eq : K.lookup f_eq = some ⟨oc_eq, od_eq, .func (PySem.W.fnOf "__eq__" "Fill.__eq__" (defArgs sEq) (defBody sEq) (defScope sEq) .none kV_eq dc_eq pm_eq an_eq cd_eq ct_eq), sl_eq⟩)
    (c_eq : PySem.W.codeIn K cd_eq "Fill.__eq__" = true)
    (k_eq : PySem.W.keepIn K (.ref f_eq) = true)
    (a_cut : PySem.W.findIn K (.ref C) "cut" = some (some (.ref f_cut)))
    (i_cut : PySem.W.isFn K (.ref f_cut) = true)
    (l_cut : K.lookup f_cut = some ⟨oc_cut, od_cut, .func (PySem.W.fnOf "cut" "Fill.cut" (defArgs sCut) (defBody sCut) (defScope sCut) .none kV_cut dc_cut pm_cut an_cut cd_cut ct_cut), sl_cut⟩)
    (c_cut : PySem.W.codeIn K cd_cut "Fill.cut" = true)
    (k_cut : PySem.W.keepIn K (.ref f_cut) = true)
    (a_cov : PySem.W.findIn K (.ref C) "covers" = some (some (.ref f_cov)))
    (i_cov : PySem.W.isFn K (.ref f_cov) = true)
    (l_cov : K.lookup f_cov = some ⟨oc_cov, od_cov, .func (PySem.W.fnOf "covers" "Fill.covers" (defArgs sCov) (defBody sCov) (defScope sCov) .none kV_cov dc_cov pm_cov an_cov cd_cov ct_cov), sl_cov⟩)
    (c_cov : PySem.W.codeIn K cd_cov "Fill.covers" = true)
    (k_cov : PySem.W.keepIn K (.ref f_cov) = true)
    (a_wpl : PySem.W.findIn K (.ref D) "plain" = some (some (.ref f_wpl)))
    (i_wpl : PySem.W.isFn K (.ref f_wpl) = true)
    (l_wpl : K.lookup f_wpl = some ⟨oc_wpl, od_wpl, .func (PySem.W.fnOf "plain" "Work.plain" (defArgs sWPlain) (defBody sWPlain) (defScope sWPlain) .none kV_wpl dc_wpl pm_wpl an_wpl cd_wpl ct_wpl), sl_wpl⟩)
    (c_wpl : PySem.W.codeIn K cd_wpl "Work.plain" = true)
    (k_wpl : PySem.W.keepIn K (.ref f_wpl) = true)
    (a_wlk : PySem.W.findIn K (.ref D) "is_like" = some (some (.ref f_wlk)))
    (i_wlk : PySem.W.isFn K (.ref f_wlk) = true)
    (l_wlk : K.lookup f_wlk = some ⟨oc_wlk, od_wlk, .func (PySem.W.fnOf "is_like" "Work.is_like" (defArgs sWLike) (defBody sWLike) (defScope sWLike) .none kV_wlk dc_wlk pm_wlk an_wlk cd_wlk ct_wlk), sl_wlk⟩)
    (c_wlk : PySem.W.codeIn K cd_wlk "Work.is_like" = true)
    (k_wlk : PySem.W.keepIn K (.ref f_wlk) = true)
    (a_wca : PySem.W.findIn K (.ref D) "__call__" = some (some (.ref f_wca)))
    (i_wca : PySem.W.isFn K (.ref f_wca) = true)
    (l_wca : K.lookup f_wca = some ⟨oc_wca, od_wca, .func (PySem.W.fnOf "__call__" "Work.__call__" (defArgs sWCall) (defBody sWCall) (defScope sWCall) .none kV_wca dc_wca pm_wca an_wca cd_wca ct_wca), sl_wca⟩)
    (c_wca : PySem.W.codeIn K cd_wca "Work.__call__" = true)
    (k_wca : PySem.W.keepIn K (.ref f_wca) = true)
    (a_wad : PySem.W.findIn K (.ref D) "__add__" = some (some (.ref f_wad)))
    (i_wad : PySem.W.isFn K (.ref f_wad) = true)
    (l_wad : K.lookup f_wad = some ⟨oc_wad, od_wad, .func (PySem.W.fnOf "__add__" "Work.__add__" (defArgs sWAdd) (defBody sWAdd) (defScope sWAdd) .none kV_wad dc_wad pm_wad an_wad cd_wad ct_wad), sl_wad⟩)
    (c_wad : PySem.W.codeIn K cd_wad "Work.__add__" = true)
    (k_wad : PySem.W.keepIn K (.ref f_wad) = true)
    (a_weq : PySem.W.findIn K (.ref D) "__eq__" = some (some (.ref f_weq)))
    (i_weq : PySem.W.isFn K (.ref f_weq) = true)
    (l_weq : K.lookup f_weq = some ⟨oc_weq, od_weq, .func (PySem.W.fnOf "__eq__" "Work.__eq__" (defArgs sWEq) (defBody sWEq) (defScope sWEq) .none kV_weq dc_weq pm_weq an_weq cd_weq ct_weq), sl_weq⟩)
    (c_weq : PySem.W.codeIn K cd_weq "Work.__eq__" = true)
    (k_weq : PySem.W.keepIn K (.ref f_weq) = true)
    (n_wca : PySem.W.fnIn K f_wca = true)
    (a_pw : PySem.W.findIn K (.ref C) "word" = some (some (.ref p_pw)))
    (g_pw : PySem.W.specialIn K (.ref p_pw) "__get__" = some (some (.builtin "property.__get__")))
    (t_pw : PySem.W.takesIn K (.ref p_pw) = some true)
    (r_pw : PySem.W.recIn K p_pw "property" = some (.ref f_pw :: re_pw))
    (l_pw : K.lookup f_pw = some ⟨oc_pw, od_pw, .func (PySem.W.fnOf "word" "Fill.word" (defArgs sPW) (defBody sPW) (defScope sPW) .none kV_pw dc_pw pm_pw an_pw cd_pw ct_pw), sl_pw⟩)
    (c_pw : PySem.W.codeIn K cd_pw "Fill.word" = true)
    (k_pw : PySem.W.keepIn K (.ref f_pw) = true)
    (a_pe : PySem.W.findIn K (.ref C) "extent" = some (some (.ref p_pe)))
    (g_pe : PySem.W.specialIn K (.ref p_pe) "__get__" = some (some (.builtin "property.__get__")))
    (t_pe : PySem.W.takesIn K (.ref p_pe) = some true)
    (r_pe : PySem.W.recIn K p_pe "property" = some (.ref f_pe :: re_pe))
    (l_pe : K.lookup f_pe = some ⟨oc_pe, od_pe, .func (PySem.W.fnOf "extent" "Fill.extent" (defArgs sPE) (defBody sPE) (defScope sPE) .none kV_pe dc_pe pm_pe an_pe cd_pe ct_pe), sl_pe⟩)
    (c_pe : PySem.W.codeIn K cd_pe "Fill.extent" = true)
    (k_pe : PySem.W.keepIn K (.ref f_pe) = true)
    (a_pf : PySem.W.findIn K (.ref C) "is_free" = some (some (.ref p_pf)))
    (g_pf : PySem.W.specialIn K (.ref p_pf) "__get__" = some (some (.builtin "property.__get__")))
    (t_pf : PySem.W.takesIn K (.ref p_pf) = some true)
    (r_pf : PySem.W.recIn K p_pf "property" = some (.ref f_pf :: re_pf))
    (l_pf : K.lookup f_pf = some ⟨oc_pf, od_pf, .func (PySem.W.fnOf "is_free" "Fill.is_free" (defArgs sPF) (defBody sPF) (defScope sPF) .none kV_pf dc_pf pm_pf an_pf cd_pf ct_pf), sl_pf⟩)
    (c_pf : PySem.W.codeIn K cd_pf "Fill.is_free" = true)
    (k_pf : PySem.W.keepIn K (.ref f_pf) = true)
    (a_rb : PySem.W.findIn K (.ref R) "bits" = some (some (.ref p_rb)))
    (g_rb : PySem.W.specialIn K (.ref p_rb) "__get__" = some (some (.builtin "property.__get__")))
    (t_rb : PySem.W.takesIn K (.ref p_rb) = some true)
    (r_rb : PySem.W.recIn K p_rb "property" = some (.ref f_rb :: re_rb))
    (l_rb : K.lookup f_rb = some ⟨oc_rb, od_rb, .func (PySem.W.fnOf "bits" "Register.bits" (defArgs sRB) (defBody sRB) (defScope sRB) .none kV_rb dc_rb pm_rb an_rb cd_rb ct_rb), sl_rb⟩)
    (c_rb : PySem.W.codeIn K cd_rb "Register.bits" = true)
    (k_rb : PySem.W.keepIn K (.ref f_rb) = true)
    (a_sm : PySem.W.findIn K (.ref S) "many" = some (some (.ref p_sm)))
    (g_sm : PySem.W.specialIn K (.ref p_sm) "__get__" = some (some (.builtin "property.__get__")))
    (t_sm : PySem.W.takesIn K (.ref p_sm) = some true)
    (r_sm : PySem.W.recIn K p_sm "property" = some (.ref f_sm :: re_sm))
    (l_sm : K.lookup f_sm = some ⟨oc_sm, od_sm, .func (PySem.W.fnOf "many" "Slots.many" (defArgs sSM) (defBody sSM) (defScope sSM) .none kV_sm dc_sm pm_sm an_sm cd_sm ct_sm), sl_sm⟩)
    (c_sm : PySem.W.codeIn K cd_sm "Slots.many" = true)
    (k_sm : PySem.W.keepIn K (.ref f_sm) = true)
    (a_sb : PySem.W.findIn K (.ref S) "bits" = some (some (.ref p_sb)))
    (g_sb : PySem.W.specialIn K (.ref p_sb) "__get__" = some (some (.builtin "property.__get__")))
    (t_sb : PySem.W.takesIn K (.ref p_sb) = some true)
    (r_sb : PySem.W.recIn K p_sb "property" = some (.ref f_sb :: re_sb))
    (l_sb : K.lookup f_sb = some ⟨oc_sb, od_sb, .func (PySem.W.fnOf "bits" "Slots.bits" (defArgs sSB) (defBody sSB) (defScope sSB) .none kV_sb dc_sb pm_sb an_sb cd_sb ct_sb), sl_sb⟩)
    (c_sb : PySem.W.codeIn K cd_sb "Slots.bits" = true)
    (k_sb : PySem.W.keepIn K (.ref f_sb) = true)
    (a_nm : PySem.W.findIn K (.ref N) "many" = some (some (.ref p_nm)))
    (g_nm : PySem.W.specialIn K (.ref p_nm) "__get__" = some (some (.builtin "property.__get__")))
    (t_nm : PySem.W.takesIn K (.ref p_nm) = some true)
    (r_nm : PySem.W.recIn K p_nm "property" = some (.ref f_nm :: re_nm))
    (l_nm : K.lookup f_nm = some ⟨oc_nm, od_nm, .func (PySem.W.fnOf "many" "Next.many" (defArgs sNM) (defBody sNM) (defScope sNM) .none kV_nm dc_nm pm_nm an_nm cd_nm ct_nm), sl_nm⟩)
    (c_nm : PySem.W.codeIn K cd_nm "Next.many" = true)
    (k_nm : PySem.W.keepIn K (.ref f_nm) = true)
    (a_nb : PySem.W.findIn K (.ref N) "bits" = some (some (.ref p_nb)))
    (g_nb : PySem.W.specialIn K (.ref p_nb) "__get__" = some (some (.builtin "property.__get__")))
    (t_nb : PySem.W.takesIn K (.ref p_nb) = some true)
    (r_nb : PySem.W.recIn K p_nb "property" = some (.ref f_nb :: re_nb))
    (l_nb : K.lookup f_nb = some ⟨oc_nb, od_nb, .func (PySem.W.fnOf "bits" "Next.bits" (defArgs sNB) (defBody sNB) (defScope sNB) .none kV_nb dc_nb pm_nb an_nb cd_nb ct_nb), sl_nb⟩)
    (c_nb : PySem.W.codeIn K cd_nb "Next.bits" = true)
    (k_nb : PySem.W.keepIn K (.ref f_nb) = true)
    (pgC : PySem.W.plainGet K C Str.empty = true)
    (hdC : PySem.W.hasDictIn K C = true)
    (poC : PySem.W.plainOver K C = true)
    (saC : PySem.W.findIn K (.ref C) "__setattr__" = some (some (.builtin "object.__setattr__")))
    (mkC : PySem.W.makesIn K C = true)
    (kcC : PySem.W.keepIn K (.ref C) = true)
    (caC : PySem.W.findIn K (.ref C) "__class__" = some (some (.builtin "object.__class__")))
    (cmC : PySem.W.mroIn K C (.type "object") = some true)
    (icC : PySem.W.isClsIn K C = true)
    (tyC : PySem.W.typeIn K (.ref C) = some (.type "type"))
    (suC_NoneType : PySem.W.subIn K (.type "NoneType") (.ref C) = some false)
    (suC_tuple : PySem.W.subIn K (.type "tuple") (.ref C) = some false)
    (suC_str : PySem.W.subIn K (.type "str") (.ref C) = some false)
    (suC_int : PySem.W.subIn K (.type "int") (.ref C) = some false)
    (suC_list : PySem.W.subIn K (.type "list") (.ref C) = some false)
    (clC : PySem.W.clsIn K C = some cldC)
    (mrC : cldC.mro = [.ref C, .type "object"])
    (pgD : PySem.W.plainGet K D Str.empty = true)
    (hdD : PySem.W.hasDictIn K D = true)
    (poD : PySem.W.plainOver K D = true)
    (saD : PySem.W.findIn K (.ref D) "__setattr__" = some (some (.builtin "object.__setattr__")))
    (mkD : PySem.W.makesIn K D = true)
    (kcD : PySem.W.keepIn K (.ref D) = true)
    (caD : PySem.W.findIn K (.ref D) "__class__" = some (some (.builtin "object.__class__")))
    (cmD : PySem.W.mroIn K D (.type "object") = some true)
    (icD : PySem.W.isClsIn K D = true)
    (tyD : PySem.W.typeIn K (.ref D) = some (.type "type"))
    (suD_NoneType : PySem.W.subIn K (.type "NoneType") (.ref D) = some false)
    (suD_tuple : PySem.W.subIn K (.type "tuple") (.ref D) = some false)
    (suD_str : PySem.W.subIn K (.type "str") (.ref D) = some false)
    (suD_int : PySem.W.subIn K (.type "int") (.ref D) = some false)
    (suD_list : PySem.W.subIn K (.type "list") (.ref D) = some false)
    (clD : PySem.W.clsIn K D = some cldD)
    (mrD : cldD.mro = [.ref D, .type "object"])
    (pgR : PySem.W.plainGet K R Str.empty = true)
    (hdR : PySem.W.hasDictIn K R = true)
    (poR : PySem.W.plainOver K R = true)
    (saR : PySem.W.findIn K (.ref R) "__setattr__" = some (some (.builtin "object.__setattr__")))
    (mkR : PySem.W.makesIn K R = true)
    (kcR : PySem.W.keepIn K (.ref R) = true)
    (caR : PySem.W.findIn K (.ref R) "__class__" = some (some (.builtin "object.__class__")))
    (cmR : PySem.W.mroIn K R (.type "object") = some true)
    (icR : PySem.W.isClsIn K R = true)
    (tyR : PySem.W.typeIn K (.ref R) = some (.type "type"))
    (pgS : PySem.W.plainGet K S Str.empty = true)
    (hdS : PySem.W.hasDictIn K S = true)
    (poS : PySem.W.plainOver K S = true)
    (saS : PySem.W.findIn K (.ref S) "__setattr__" = some (some (.builtin "object.__setattr__")))
    (mkS : PySem.W.makesIn K S = true)
    (kcS : PySem.W.keepIn K (.ref S) = true)
    (caS : PySem.W.findIn K (.ref S) "__class__" = some (some (.builtin "object.__class__")))
    (cmS : PySem.W.mroIn K S (.type "object") = some true)
    (icS : PySem.W.isClsIn K S = true)
    (tyS : PySem.W.typeIn K (.ref S) = some (.type "type"))
    (pgN : PySem.W.plainGet K N Str.empty = true)
    (hdN : PySem.W.hasDictIn K N = true)
    (poN : PySem.W.plainOver K N = true)
    (saN : PySem.W.findIn K (.ref N) "__setattr__" = some (some (.builtin "object.__setattr__")))
    (mkN : PySem.W.makesIn K N = true)
    (kcN : PySem.W.keepIn K (.ref N) = true)
    (caN : PySem.W.findIn K (.ref N) "__class__" = some (some (.builtin "object.__class__")))
    (cmN : PySem.W.mroIn K N (.type "object") = some true)
    (icN : PySem.W.isClsIn K N = true)
    (tyN : PySem.W.typeIn K (.ref N) = some (.type "type"))
    (cn : PySem.W.specialIn K (.builtin "object.__class__") "__get__" = some (some (.builtin "getset_descriptor.__get__")))
    (ctk : PySem.W.takesIn K (.builtin "object.__class__") = some true)
    (nW : PySem.W.findIn K (.ref C) "_word" = some none)
    (nE : PySem.W.findIn K (.ref C) "_extent" = some none)
    (nF : PySem.W.findIn K (.ref D) "_fills" = some none)
    (nR_group : PySem.W.findIn K (.ref R) "_group" = some none)
    (nR_number : PySem.W.findIn K (.ref R) "_number" = some none)
    (nR_code : PySem.W.findIn K (.ref R) "_code" = some none)
    (nS_offset : PySem.W.findIn K (.ref S) "_offset" = some none)
    (nS_many : PySem.W.findIn K (.ref S) "_many" = some none)
    (nN_align : PySem.W.findIn K (.ref N) "_align" = some none)
    (nN_many : PySem.W.findIn K (.ref N) "_many" = some none)
    (sSR : PySem.W.subIn K (.ref S) (.ref R) = some false)
    (sNR : PySem.W.subIn K (.ref N) (.ref R) = some false)
    (neS : (Value.ref S == Value.ref R) = false)
    (neN : (Value.ref N == Value.ref R) = false)
    (aGROUPS : PySem.W.nsIn K mainGlobals "GROUPS" = some (some (.ref tG)))
    (oGROUPS : K.lookup tG = some ⟨.type "tuple", none, .seq itG ntG, slG⟩)
    (aALIGNMENTS : PySem.W.nsIn K mainGlobals "ALIGNMENTS" = some (some (.ref tA)))
    (oALIGNMENTS : K.lookup tA = some ⟨.type "tuple", none, .seq itA ntA, slA⟩)
    (vGROUPS : Vals [.str "whole", .str "float"] itG.toList)
    (vALIGNMENTS : Vals [.int 1, .int 2, .int 4, .int 8, .int 16] itA.toList)
    (sCD : PySem.W.subIn K (.ref C) (.ref D) = some false)
    (neq : (Value.ref C == Value.ref D) = false)
    (sfD : PySem.W.selfFirst K D = true)
    (iaD : PySem.W.findIn K (.ref D) "__iadd__" = some none)
    (oi : PySem.W.findIn K (.type "object") "__iadd__" = some none)
    (cad : PySem.W.findIn K (.ref C) "__add__" = some none)
    (crd : PySem.W.findIn K (.ref C) "__radd__" = some none)
    (oad : PySem.W.findIn K (.type "object") "__add__" = some none)
    (ord_ : PySem.W.findIn K (.type "object") "__radd__" = some none)
    (a_LAST_NUMBER : PySem.W.nsIn K mainGlobals "LAST_NUMBER" = some (some u_LAST_NUMBER))
    (v_LAST_NUMBER : RelV (.int 7) u_LAST_NUMBER)
    (a_GROUP_STRIDE : PySem.W.nsIn K mainGlobals "GROUP_STRIDE" = some (some u_GROUP_STRIDE))
    (v_GROUP_STRIDE : RelV (.int 8) u_GROUP_STRIDE)
    (a_REGISTER_BITS : PySem.W.nsIn K mainGlobals "REGISTER_BITS" = some (some u_REGISTER_BITS))
    (v_REGISTER_BITS : RelV (.int 64) u_REGISTER_BITS)
    (a_MOST_BYTES : PySem.W.nsIn K mainGlobals "MOST_BYTES" = some (some u_MOST_BYTES))
    (v_MOST_BYTES : RelV (.int 16) u_MOST_BYTES)
    (a_FREE : PySem.W.nsIn K mainGlobals "FREE" = some (some u_FREE))
    (v_FREE : RelV (.str "free") u_FREE)
    (a_ZEROS : PySem.W.nsIn K mainGlobals "ZEROS" = some (some u_ZEROS))
    (v_ZEROS : RelV (.str "zeros") u_ZEROS)
    (a_SIGN : PySem.W.nsIn K mainGlobals "SIGN" = some (some u_SIGN))
    (v_SIGN : RelV (.str "sign") u_SIGN)
    (a_LEAST_EXTENT : PySem.W.nsIn K mainGlobals "LEAST_EXTENT" = some (some u_LEAST_EXTENT))
    (v_LEAST_EXTENT : RelV (.int 3) u_LEAST_EXTENT)
    (a_LEAST_WIDTH : PySem.W.nsIn K mainGlobals "LEAST_WIDTH" = some (some u_LEAST_WIDTH))
    (v_LEAST_WIDTH : RelV (.int 2) u_LEAST_WIDTH)
    (a_MOST_BITS : PySem.W.nsIn K mainGlobals "MOST_BITS" = some (some u_MOST_BITS))
    (v_MOST_BITS : RelV (.int 128) u_MOST_BITS)
    (a_MOST_FILLS : PySem.W.nsIn K mainGlobals "MOST_FILLS" = some (some u_MOST_FILLS))
    (v_MOST_FILLS : RelV (.int 126) u_MOST_FILLS)
    (b_abs : PySem.W.nsIn K mainGlobals "abs" = some none)
    (b_max : PySem.W.nsIn K mainGlobals "max" = some none)
    (b_min : PySem.W.nsIn K mainGlobals "min" = some none)
    (b_int : PySem.W.nsIn K mainGlobals "int" = some none)
    (b_len : PySem.W.nsIn K mainGlobals "len" = some none)
    (b_divmod : PySem.W.nsIn K mainGlobals "divmod" = some none)
    (b_range : PySem.W.nsIn K mainGlobals "range" = some none)
    (b_str : PySem.W.nsIn K mainGlobals "str" = some none)
    (b_repr : PySem.W.nsIn K mainGlobals "repr" = some none)
    (b_isinstance : PySem.W.nsIn K mainGlobals "isinstance" = some none)
    (b_all : PySem.W.nsIn K mainGlobals "all" = some none)
    (b_bool : PySem.W.nsIn K mainGlobals "bool" = some none)
    (b_enumerate : PySem.W.nsIn K mainGlobals "enumerate" = some none)
    (b_list : PySem.W.nsIn K mainGlobals "list" = some none)
    (b_tuple : PySem.W.nsIn K mainGlobals "tuple" = some none) :
    ∃ fd : FuncData, (∀ (s : Shared) (v : Value), BindsTo s fd ⟨[v], []⟩ [("_law_script", v)]) ∧ ∀ base : Heap, K.In base → base.Ns mainGlobals mg → FnG l.prog w K mg base 10 fa fd ["_law_script"] (spLaw K) := by
  have e := hfa.symm.trans (PySem.W.mg_of X G a_law)
  cases e
  have cl : Cls K C := ⟨pgC, hdC, poC, saC⟩
  have clW : Cls K D := ⟨pgD, hdD, poD, saD⟩
  have B : Bi mg := ⟨PySem.W.mg_none_of X G b_abs, PySem.W.mg_none_of X G b_max, PySem.W.mg_none_of X G b_min, PySem.W.mg_none_of X G b_int, PySem.W.mg_none_of X G b_len, PySem.W.mg_none_of X G b_divmod, PySem.W.mg_none_of X G b_range, PySem.W.mg_none_of X G b_str, PySem.W.mg_none_of X G b_repr, PySem.W.mg_none_of X G b_isinstance, PySem.W.mg_none_of X G b_all, PySem.W.mg_none_of X G b_bool⟩
  have T : Txt K mg C := ⟨B, ⟨cl, caC, cn, ctk, cmC⟩, nW, nE, PySem.W.mg_of X G aC, ⟨_, PySem.W.mg_of X G a_FREE, v_FREE⟩, ⟨_, PySem.W.mg_of X G a_ZEROS, v_ZEROS⟩, ⟨_, PySem.W.mg_of X G a_SIGN, v_SIGN⟩, ⟨_, PySem.W.mg_of X G a_LEAST_EXTENT, v_LEAST_EXTENT⟩, ⟨_, PySem.W.mg_of X G a_LEAST_WIDTH, v_LEAST_WIDTH⟩, ⟨_, PySem.W.mg_of X G a_MOST_BITS, v_MOST_BITS⟩, fun T hT => by
    simp only [List.mem_cons, List.not_mem_nil, or_false] at hT
    rcases hT with rfl | rfl | rfl | rfl | rfl
    · exact kt_of icC tyC suC_NoneType
    · exact kt_of icC tyC suC_tuple
    · exact kt_of icC tyC suC_str
    · exact kt_of icC tyC suC_int
    · exact kt_of icC tyC suC_list⟩
  have W : TxW K mg C D := ⟨T, ⟨clW, caD, cn, ctk, cmD⟩, nF, PySem.W.mg_of X G aD, ⟨_, PySem.W.mg_of X G a_MOST_FILLS, v_MOST_FILLS⟩, PySem.W.mg_none_of X G b_enumerate, PySem.W.mg_none_of X G b_list, PySem.W.mg_none_of X G b_tuple, sfD, ⟨_, clD, mrD⟩, iaD, oi,
    ⟨⟨_, clC, mrC⟩, by rw [du_add]; exact cad, by rw [dr_add]; exact crd, by rw [du_add]; exact oad, by rw [dr_add]; exact ord_⟩, kt_own neq icD tyD sCD, fun T hT => by
    simp only [List.mem_cons, List.not_mem_nil, or_false] at hT
    rcases hT with rfl | rfl | rfl | rfl | rfl
    · exact kt_of icD tyD suD_NoneType
    · exact kt_of icD tyD suD_tuple
    · exact kt_of icD tyD suD_str
    · exact kt_of icD tyD suD_int
    · exact kt_of icD tyD suD_list⟩
  have F_isi := fun_mk (st := sIsInt) l_isi c_isi k_isi
  have B_isi := F_isi.binds (ps := ["value"]) fun _ _ _ _ _ _ us hl => match us, hl with | [_], _ => rfl
  have F_cou := fun_mk (st := sIsCount) l_cou c_cou k_cou
  have B_cou := F_cou.binds (ps := ["value"]) fun _ _ _ _ _ _ us hl => match us, hl with | [_], _ => rfl
  have F_oof := fun_mk (st := sIsOneOf) l_oof c_oof k_oof
  have B_oof := F_oof.binds (ps := ["value", "numbers"]) fun _ _ _ _ _ _ us hl => match us, hl with | [_, _], _ => rfl
  have F_btw := fun_mk (st := sBetw) l_btw c_btw k_btw
  have B_btw := F_btw.binds (ps := ["value", "least", "most"]) fun _ _ _ _ _ _ us hl => match us, hl with | [_, _, _], _ => rfl
  have F_wrd := fun_mk (st := sWord) l_wrd c_wrd k_wrd
  have B_wrd := F_wrd.binds (ps := ["value", "words"]) fun _ _ _ _ _ _ us hl => match us, hl with | [_, _], _ => rfl
  have F_isl := fun_mk (st := sIsList) l_isl c_isl k_isl
  have B_isl := F_isl.binds (ps := ["value"]) fun _ _ _ _ _ _ us hl => match us, hl with | [_], _ => rfl
  have F_isb := fun_mk (st := sIsBit) l_isb c_isb k_isb
  have B_isb := F_isb.binds (ps := ["value"]) fun _ _ _ _ _ _ us hl => match us, hl with | [_], _ => rfl
  have F_fld := fun_mk (st := sFilled) l_fld c_fld k_fld
  have B_fld := F_fld.binds (ps := ["fills", "row", "width"]) fun _ _ _ _ _ _ us hl => match us, hl with | [_, _, _], _ => rfl
  have F_plf := fun_mk (st := sPlF) l_plf c_plf k_plf
  have B_plf := F_plf.binds (ps := ["fills"]) fun _ _ _ _ _ _ us hl => match us, hl with | [_], _ => rfl
  have F_pot := fun_mk (st := sPot) l_pot c_pot k_pot
  have B_pot := F_pot.binds (ps := ["_law_script", "_law_k"]) fun _ _ _ _ _ _ us hl => match us, hl with | [_, _], _ => rfl
  have F_drw := fun_mk (st := sDraw) l_drw c_drw k_drw
  have B_drw := F_drw.binds (ps := ["_law_pot_here", "_law_size"]) fun _ _ _ _ _ _ us hl => match us, hl with | [_, _], _ => rfl
  have F_pck := fun_mk (st := sPick) l_pck c_pck k_pck
  have B_pck := F_pck.binds (ps := ["_law_pot_here", "_law_some"]) fun _ _ _ _ _ _ us hl => match us, hl with | [_, _], _ => rfl
  have F_plc := fun_mk (st := sPlace) l_plc c_plc k_plc
  have B_plc := F_plc.binds (ps := ["_law_pot_here"]) fun _ _ _ _ _ _ us hl => match us, hl with | [_], _ => rfl
  have F_fil := fun_mk (st := sFillL) l_fil c_fil k_fil
  have B_fil := F_fil.binds (ps := ["_law_pot_here", "_law_near"]) fun _ _ _ _ _ _ us hl => match us, hl with | [_, _], _ => rfl
  have F_wrk := fun_mk (st := sWork) l_wrk c_wrk k_wrk
  have B_wrk := F_wrk.binds (ps := ["_law_fill_here"]) fun _ _ _ _ _ _ us hl => match us, hl with | [_], _ => rfl
  have F_lst := fun_mk (st := sSet) l_lst c_lst k_lst
  have B_lst := F_lst.binds (ps := ["_law_fill_here", "_law_bits_now", "_law_wide"]) fun _ _ _ _ _ _ us hl => match us, hl with | [_, _, _], _ => rfl
  have F_alo := fun_mk (st := sAlone) l_alo c_alo k_alo
  have B_alo := F_alo.binds (ps := ["_law_fill_here", "_law_bits_now", "_law_wide"]) fun _ _ _ _ _ _ us hl => match us, hl with | [_, _, _], _ => rfl
  have F_shw := fun_mk (st := sShows) l_shw c_shw k_shw
  have B_shw := F_shw.binds (ps := ["_law_plan", "_law_room", "_law_wide"]) fun _ _ _ _ _ _ us hl => match us, hl with | [_, _, _], _ => rfl
  have F_par := fun_mk (st := sPairR) l_par c_par k_par
  have B_par := F_par.binds (ps := ["_law_fill_here", "_law_other", "_law_bits_now", "_law_wide"]) fun _ _ _ _ _ _ us hl => match us, hl with | [_, _, _, _], _ => rfl
  have F_rgt := fun_mk (st := sRight) l_rgt c_rgt k_rgt
  have B_rgt := F_rgt.binds (ps := ["_law_pot_here"]) fun _ _ _ _ _ _ us hl => match us, hl with | [_], _ => rfl
  have F_law := fun_mk (st := sLaw) l_law c_law k_law
  have B_law := F_law.binds (ps := ["_law_script"]) fun _ _ _ _ _ _ us hl => match us, hl with | [_], _ => rfl
  have F_eq := fun_mk (st := sEq) l_eq c_eq k_eq
  have B_eq := F_eq.binds (ps := ["self", "other"]) fun _ _ _ _ _ _ us hl => match us, hl with | [_, _], _ => rfl
  have F_cut := fun_mk (st := sCut) l_cut c_cut k_cut
  have B_cut := F_cut.binds (ps := ["self", "width", "bits"]) fun _ _ _ _ _ _ us hl => match us, hl with | [_, _, _], _ => rfl
  have F_cov := fun_mk (st := sCov) l_cov c_cov k_cov
  have B_cov := F_cov.binds (ps := ["self", "other"]) fun _ _ _ _ _ _ us hl => match us, hl with | [_, _], _ => rfl
  have F_wpl := fun_mk (st := sWPlain) l_wpl c_wpl k_wpl
  have B_wpl := F_wpl.binds (ps := ["self"]) fun _ _ _ _ _ _ us hl => match us, hl with | [_], _ => rfl
  have F_wlk := fun_mk (st := sWLike) l_wlk c_wlk k_wlk
  have B_wlk := F_wlk.binds (ps := ["self", "other"]) fun _ _ _ _ _ _ us hl => match us, hl with | [_, _], _ => rfl
  have F_wca := fun_mk (st := sWCall) l_wca c_wca k_wca
  have B_wca := F_wca.binds (ps := ["self", "row", "width"]) fun _ _ _ _ _ _ us hl => match us, hl with | [_, _, _], _ => rfl
  have F_wad := fun_mk (st := sWAdd) l_wad c_wad k_wad
  have B_wad := F_wad.binds (ps := ["self", "other"]) fun _ _ _ _ _ _ us hl => match us, hl with | [_, _], _ => rfl
  have F_weq := fun_mk (st := sWEq) l_weq c_weq k_weq
  have B_weq := F_weq.binds (ps := ["self", "other"]) fun _ _ _ _ _ _ us hl => match us, hl with | [_, _], _ => rfl
  have F_pw := fun_mk (st := sPW) l_pw c_pw k_pw
  have B_pw := F_pw.binds (ps := ["self"]) fun _ _ _ _ _ _ us hl => match us, hl with | [_], _ => rfl
  have F_pe := fun_mk (st := sPE) l_pe c_pe k_pe
  have B_pe := F_pe.binds (ps := ["self"]) fun _ _ _ _ _ _ us hl => match us, hl with | [_], _ => rfl
  have F_pf := fun_mk (st := sPF) l_pf c_pf k_pf
  have B_pf := F_pf.binds (ps := ["self"]) fun _ _ _ _ _ _ us hl => match us, hl with | [_], _ => rfl
  have F_rb := fun_mk (st := sRB) l_rb c_rb k_rb
  have B_rb := F_rb.binds (ps := ["self"]) fun _ _ _ _ _ _ us hl => match us, hl with | [_], _ => rfl
  have F_sm := fun_mk (st := sSM) l_sm c_sm k_sm
  have B_sm := F_sm.binds (ps := ["self"]) fun _ _ _ _ _ _ us hl => match us, hl with | [_], _ => rfl
  have F_sb := fun_mk (st := sSB) l_sb c_sb k_sb
  have B_sb := F_sb.binds (ps := ["self"]) fun _ _ _ _ _ _ us hl => match us, hl with | [_], _ => rfl
  have F_nm := fun_mk (st := sNM) l_nm c_nm k_nm
  have B_nm := F_nm.binds (ps := ["self"]) fun _ _ _ _ _ _ us hl => match us, hl with | [_], _ => rfl
  have F_nb := fun_mk (st := sNB) l_nb c_nb k_nb
  have B_nb := F_nb.binds (ps := ["self"]) fun _ _ _ _ _ _ us hl => match us, hl with | [_], _ => rfl
  have F_ri := fun_mk (st := sRI) l_ri c_ri k_ri
  have B_ri := F_ri.binds (ps := ["self", "group", "number"]) fun _ _ _ _ _ _ us hl => match us, hl with | [_, _, _], _ => rfl
  have F_si := fun_mk (st := sSI) l_si c_si k_si
  have B_si := F_si.binds (ps := ["self", "offset", "many"]) fun _ _ _ _ _ _ us hl => match us, hl with | [_, _, _], _ => rfl
  have F_ni := fun_mk (st := sNI) l_ni c_ni k_ni
  have B_ni := F_ni.binds (ps := ["self", "align", "many"]) fun _ _ _ _ _ _ us hl => match us, hl with | [_, _, _], _ => rfl
  have FI : FunD K "__init__" "Fill.__init__" (defArgs sInit) (defBody sInit) (defScope sInit) [.str "free", .non] [] f_ini _ := ⟨⟨_, _, _, _, _, _, _, _, _, _, rfl, l_ini, c_ini, .inr ⟨by simp, T0, _, itT.toList, nT, rfl, tO, by simp, vT⟩, .inl rfl⟩, k_ini⟩
  obtain ⟨ds0, v0, I0⟩ := FI.binds1 (ps := ["self", "word", "extent"]) 1 0 (by simp) rfl fun _ _ _ _ _ _ _ us its h1 h2 => match us, its, h1, h2 with | [_], [_, _], _, _ => ⟨_, rfl, rfl⟩
  obtain ⟨ds2, v2, I2⟩ := FI.binds1 (ps := ["self", "word", "extent"]) 3 2 (by simp) rfl fun _ _ _ _ _ _ _ us its h1 h2 => match us, its, h1, h2 with | [_, _, _], [_, _], _, _ => ⟨_, rfl, rfl⟩
  refine ⟨PySem.W.fnOf "law" "law" (defArgs sLaw) (defBody sLaw) (defScope sLaw) .none kV_law dc_law pm_law an_law cd_law ct_law, fun s v => .of_eq rfl, fun base _ _ => ?_⟩
  have clR : Cls K R := ⟨pgR, hdR, poR, saR⟩
  have clS : Cls K S := ⟨pgS, hdS, poS, saS⟩
  have clN : Cls K N := ⟨pgN, hdN, poN, saN⟩
  have mk_ : Mk K C f_ini := ⟨mkC, a_ini, i_ini, kcC⟩
  have mkW : Mk K D f_wi := ⟨mkD, a_wi, i_wi, kcD⟩
  have mkR_ : Mk K R f_ri := ⟨mkR, a_ri, i_ri, kcR⟩
  have mkS_ : Mk K S f_si := ⟨mkS, a_si, i_si, kcS⟩
  have mkN_ : Mk K N f_ni := ⟨mkN, a_ni, i_ni, kcN⟩
  have gC := PySem.W.mg_of X G aC
  have gD := PySem.W.mg_of X G aD
  have szG : itG.toList.length ≤ sizeLine := by have := vGROUPS.length; rw [← this]; exact line_ge (by show 2 ≤ 16000000; decide)
  have szA : itA.toList.length ≤ sizeLine := by have := vALIGNMENTS.length; rw [← this]; exact line_ge (by show 5 ≤ 16000000; decide)
  have TP : TxP K mg R S N tG tA := ⟨B, ⟨clR, caR, cn, ctk, cmR⟩, ⟨clS, caS, cn, ctk, cmS⟩, ⟨clN, caN, cn, ctk, cmN⟩, nR_group, nR_number, nR_code, ⟨_, PySem.W.mg_of X G a_GROUP_STRIDE, v_GROUP_STRIDE⟩, nS_offset, nS_many, nN_align, nN_many, PySem.W.mg_of X G aR, PySem.W.mg_of X G aS, PySem.W.mg_of X G aN,
    PySem.W.mg_of X G aGROUPS, fun H => .inr ⟨_, _, _, oGROUPS, rfl, rfl, by rw [← Array.length_toList]; exact szG, vGROUPS⟩, ⟨_, oGROUPS, rfl, rfl⟩, PySem.W.mg_of X G aALIGNMENTS, fun H => .inr ⟨_, _, _, oALIGNMENTS, rfl, rfl, by rw [← Array.length_toList]; exact szA, vALIGNMENTS⟩, ⟨_, PySem.W.mg_of X G a_LAST_NUMBER, v_LAST_NUMBER⟩, ⟨_, PySem.W.mg_of X G a_REGISTER_BITS, v_REGISTER_BITS⟩, ⟨_, PySem.W.mg_of X G a_MOST_BYTES, v_MOST_BYTES⟩⟩
  have O_btw : FnOk l.prog w K mg base CX0 2 _ _ _ _ := ok_betw F_btw B
  have O_wrd : FnOk l.prog w K mg base CX0 1 _ _ _ _ := ok_word F_wrd B
  have O_ini : FnOk l.prog w K mg base CX0 3 _ _ _ _ := ok_init FI T O_btw k_btw B_btw (PySem.W.mg_of X G a_btw) O_wrd k_wrd B_wrd (PySem.W.mg_of X G a_wrd)
  have M0 : Mak l.prog w K mg base 3 "Fill" C [.str "free", .non] (spInit C) := ⟨_, _, _, _, O_ini, mk_, gC, I0, v0⟩
  have M2 : Mak l.prog w K mg base 3 "Fill" C [] (spInit C) := ⟨_, _, _, _, O_ini, mk_, gC, I2, v2⟩
  have cbt : Cal l.prog w K mg base 2 "is_between" spBetw := ⟨_, _, _, O_btw, k_btw, B_btw, PySem.W.mg_of X G a_btw⟩
  have cwd : Cal l.prog w K mg base 1 "is_word_of" (spWord K) := ⟨_, _, _, O_wrd, k_wrd, B_wrd, PySem.W.mg_of X G a_wrd⟩
  have cin : Cal l.prog w K mg base 1 "is_integer" spIsInt := ⟨_, _, _, ok_isInt F_isi B, k_isi, B_isi, PySem.W.mg_of X G a_isi⟩
  have cco : Cal l.prog w K mg base 2 "is_count" spCount := ⟨_, _, _, ok_count F_cou B, k_cou, B_cou, PySem.W.mg_of X G a_cou⟩
  have cof : Cal l.prog w K mg base 2 "is_one_of" (spOneOf K) := ⟨_, _, _, ok_oneOf F_oof B cin, k_oof, B_oof, PySem.W.mg_of X G a_oof⟩
  have cil : Cal l.prog w K mg base 1 "is_list" spIsList := ⟨_, _, _, ok_isList F_isl W, k_isl, B_isl, PySem.W.mg_of X G a_isl⟩
  have cib : Cal l.prog w K mg base 3 "is_bit" spIsBit := ⟨_, _, _, ok_isBit F_isb cbt, k_isb, B_isb, PySem.W.mg_of X G a_isb⟩
  have PO_pw : PropOf K C "word" p_pw f_pw := ⟨a_pw, g_pw, t_pw, ⟨_, r_pw⟩⟩
  have PO_pe : PropOf K C "extent" p_pe f_pe := ⟨a_pe, g_pe, t_pe, ⟨_, r_pe⟩⟩
  have PO_pf : PropOf K C "is_free" p_pf f_pf := ⟨a_pf, g_pf, t_pf, ⟨_, r_pf⟩⟩
  have cW : CalP l.prog w K mg base 1 C "word" (spGet C fun t => .str t.w) := ⟨_, _, _, _, ok_pw F_pw T, cl, PO_pw, B_pw⟩
  have cE : CalP l.prog w K mg base 1 C "extent" (spGet C FT.e) := ⟨_, _, _, _, ok_pe F_pe T, cl, PO_pe, B_pe⟩
  have cF : CalP l.prog w K mg base 1 C "is_free" (spGet C fun t => .bl (decide (t = .free))) := ⟨_, _, _, _, ok_pf F_pf T, cl, PO_pf, B_pf⟩
  have O : Wp l.prog w K mg base R S N := ⟨⟨_, _, _, _, ok_RB F_rb TP, clR, ⟨a_rb, g_rb, t_rb, ⟨_, r_rb⟩⟩, B_rb⟩, ⟨_, _, _, _, ok_SB F_sb TP, clS, ⟨a_sb, g_sb, t_sb, ⟨_, r_sb⟩⟩, B_sb⟩, ⟨_, _, _, _, ok_NB F_nb TP, clN, ⟨a_nb, g_nb, t_nb, ⟨_, r_nb⟩⟩, B_nb⟩,
    ⟨_, _, _, _, ok_SM F_sm TP, clS, ⟨a_sm, g_sm, t_sm, ⟨_, r_sm⟩⟩, B_sm⟩, ⟨_, _, _, _, ok_NM F_nm TP, clN, ⟨a_nm, g_nm, t_nm, ⟨_, r_nm⟩⟩, B_nm⟩, (kt_own neS icR tyR sSR).1, (kt_own neN icR tyR sNR).1⟩
  have nil_ : Vals ([] : List V) [] := .nil
  have R_eq : CalS l.prog w K mg base 1 C "__eq__" (spEqF K C) := ⟨_, ((ok_eq F_eq T).raw B_eq nil_).imp fun vs H Q E h => by rw [List.append_nil]; exact h, a_eq, i_eq⟩
  have cCut : CalM l.prog w K mg base 5 C "cut" (spCutF C) := ⟨_, _, _, ok_cutF F_cut T cbt M0 M2, cl, ⟨a_cut, i_cut, k_cut⟩, B_cut⟩
  have cCov : CalM l.prog w K mg base 3 C "covers" (spCovF C) := ⟨_, _, _, ok_covF F_cov T cF cW cE, cl, ⟨a_cov, i_cov, k_cov⟩, B_cov⟩
  have cM : MakR l.prog w K mg base 3 "Work" D (spWMake C D) := ⟨_, ok_wmake (dV := .none) (fd := PySem.W.fnOf "law" "law" (defArgs sLaw) (defBody sLaw) (defScope sLaw) .none kV_law dc_law pm_law an_law cd_law ct_law) l_wi c_wi W cF, mkW, gD⟩
  have cPl : Cal l.prog w K mg base 4 "plain_fills" (spPF C) := ⟨_, _, _, ok_PF F_plf W cW cE, k_plf, B_plf, PySem.W.mg_of X G a_plf⟩
  have cPla : CalM l.prog w K mg base 5 D "plain" (spPlain C D) := ⟨_, _, _, ok_wplain F_wpl W cM cPl, clW, ⟨a_wpl, i_wpl, k_wpl⟩, B_wpl⟩
  have cEq : CalS l.prog w K mg base 3 D "__eq__" (spWEq K C D) := ⟨_, ((ok_weq F_weq W R_eq).raw B_weq nil_).imp fun vs H Q E h => by rw [List.append_nil]; exact h, a_weq, i_weq⟩
  have cLk : CalM l.prog w K mg base 6 D "is_like" (spLike C D) := ⟨_, _, _, ok_wlike F_wlk W cPla cEq, clW, ⟨a_wlk, i_wlk, k_wlk⟩, B_wlk⟩
  have cAd : CalS l.prog w K mg base 5 D "__add__" (spWAdd C D) := ⟨_, ((ok_wadd F_wad W cM cF).raw B_wad nil_).imp fun vs H Q E h => by rw [List.append_nil]; exact h, a_wad, i_wad⟩
  have cfl : Cal l.prog w K mg base 4 "filled" (spFilled C) := ⟨_, _, _, ok_filled F_fld W cW cE, k_fld, B_fld, PySem.W.mg_of X G a_fld⟩
  have O_ca : FnOk l.prog w K mg base CX0 5 _ _ _ _ := ok_wcall F_wca W cil cib cbt cfl
  have cO_ : StX.CallO K D f_wca := ⟨a_wca, i_wca, n_wca⟩
  have cO : CalO l.prog w K mg base 5 D (spWCall C D) := ⟨_, (O_ca.raw B_wca nil_).imp fun vs H Q E h => by rw [List.append_nil]; exact h, cO_⟩
  have vn : Vals ([] : List V) [] := .nil
  have cRI : Mak l.prog w K mg base 3 "Register" R [] (spRI R) := ⟨_, _, _, _, ok_RI F_ri TP cwd cbt, mkR_, PySem.W.mg_of X G aR, B_ri, vn⟩
  have cSI : Mak l.prog w K mg base 3 "Slots" S [] (spSI S) := ⟨_, _, _, _, ok_SI F_si TP cco cbt, mkS_, PySem.W.mg_of X G aS, B_si, vn⟩
  have cNI : Mak l.prog w K mg base 3 "Next" N [] (spNI N) := ⟨_, _, _, _, ok_NI F_ni TP cof cbt, mkN_, PySem.W.mg_of X G aN, B_ni, vn⟩
  have cdr : Cal l.prog w K mg base 1 "_law_draw" spDraw := ⟨_, _, _, ok_draw F_drw B, k_drw, B_drw, PySem.W.mg_of X G a_drw⟩
  have cpk : Cal l.prog w K mg base 2 "_law_pick" (spPick1 K) := ⟨_, _, _, ok_pick F_pck B cdr, k_pck, B_pck, PySem.W.mg_of X G a_pck⟩
  have cpl : Cal l.prog w K mg base 5 "_law_place" (spPlace R S N) := ⟨_, _, _, ok_place F_plc TP cdr cpk cRI cSI cNI, k_plc, B_plc, PySem.W.mg_of X G a_plc⟩
  have cfi : Cal l.prog w K mg base 5 "_law_fill" (spFillL C) := ⟨_, _, _, ok_fillL F_fil B cdr cpk M2, k_fil, B_fil, PySem.W.mg_of X G a_fil⟩
  have cwk : Cal l.prog w K mg base 5 "_law_work" (spWorkL C D) := ⟨_, _, _, ok_workL F_wrk W cM cW, k_wrk, B_wrk, PySem.W.mg_of X G a_wrk⟩
  have cst : Cal l.prog w K mg base 3 "_law_set" (spSet C) := ⟨_, _, _, ok_set F_lst W cW cE, k_lst, B_lst, PySem.W.mg_of X G a_lst⟩
  have csh : CalG l.prog w K mg base 6 "_law_shows" (spShows C D) := ⟨_, _, _, ok_shows F_shw W cO, k_shw, B_shw, PySem.W.mg_of X G a_shw⟩
  have M : Wk l.prog w K mg base C D R S N tG tA := ⟨W, TP, cM, cW, cE, R_eq, cCut, cCov, cAd, cO, cLk, cdr, cpk, cpl, cfi, cwk, cst, csh⟩
  have cal : CalG l.prog w K mg base 7 "_law_alone_right" (spAlone C) := ⟨_, _, _, ok_alone F_alo M, k_alo, B_alo, PySem.W.mg_of X G a_alo⟩
  have cpr : CalG l.prog w K mg base 8 "_law_pair_right" (spPair C) := ⟨_, _, _, ok_pair F_par M, k_par, B_par, PySem.W.mg_of X G a_par⟩
  have crg : CalG l.prog w K mg base 9 "_law_right" spR := ⟨_, _, _, ok_right F_rgt M O cal cpr, k_rgt, B_rgt, PySem.W.mg_of X G a_rgt⟩
  have cpo : Cal l.prog w K mg base 1 "_law_pot" (spPot K) := ⟨_, _, _, ok_pot F_pot B, k_pot, B_pot, PySem.W.mg_of X G a_pot⟩
  exact ok_law F_law B cpo crg
end K15
set_option Elab.async false
set_option linter.all false
open PySem PySem.W PyProof.Rows L2
set_option maxRecDepth 100000 in
set_option maxHeartbeats 0 in
theorem PySem.Challenge.cw_unlikecalls_k15_whole_fills_done_as_work_holds : PySem.Challenge.rw_unlikecalls_k15_whole_fills_done_as_work.Holds := by
  w_on; o_law; k_head; (case hw => w_witness2)
  k_fill
  refine UL.walkG (l := PySem.Challenge.rw_unlikecalls_k15_whole_fills_done_as_work) (n := 63) (k := 10) (x := "_law_script") (sp := fun w => K15.spLaw _) rfl (by decide) rfl ⟨rfl, by decide, by decide⟩ (fun w h Y => PySem.W.kIn_of Y) ?F (fun _ _ a ns hl _ hS => ⟨a, ns, rfl, hS, hl, fun _ => rfl⟩)
  case F =>
    intro w mg fa h KX G hmg
    refine' K15.all_mk KX G hmg ?aR ?aS ?aN ?aC ?aD ?a_isi ?l_isi ?c_isi ?k_isi ?a_cou ?l_cou ?c_cou ?k_cou ?a_oof ?l_oof ?c_oof ?k_oof ?a_btw ?l_btw ?c_btw ?k_btw ?a_wrd ?l_wrd ?c_wrd ?k_wrd ?a_isl ?l_isl ?c_isl ?k_isl ?a_isb ?l_isb ?c_isb ?k_isb ?a_fld ?l_fld ?c_fld ?k_fld ?a_plf ?l_plf ?c_plf ?k_plf ?a_pot ?l_pot ?c_pot ?k_pot ?a_drw ?l_drw ?c_drw ?k_drw ?a_pck ?l_pck ?c_pck ?k_pck ?a_plc ?l_plc ?c_plc ?k_plc ?a_fil ?l_fil ?c_fil ?k_fil ?a_wrk ?l_wrk ?c_wrk ?k_wrk ?a_lst ?l_lst ?c_lst ?k_lst ?a_alo ?l_alo ?c_alo ?k_alo ?a_shw ?l_shw ?c_shw ?k_shw ?a_par ?l_par ?c_par ?k_par ?a_rgt ?l_rgt ?c_rgt ?k_rgt ?a_law ?l_law ?c_law ?k_law ?a_ini ?i_ini ?l_ini ?c_ini ?k_ini ?tO ?vT ?a_wi ?i_wi ?l_wi ?c_wi ?k_wi ?a_ri ?i_ri ?l_ri ?c_ri ?k_ri ?a_si ?i_si ?l_si ?c_si ?k_si ?a_ni ?i_ni ?l_ni ?c_ni ?k_ni ?a_eq ?i_eq ?l_eq ?c_eq ?k_eq ?a_cut ?i_cut ?l_cut ?c_cut ?k_cut ?a_cov ?i_cov ?l_cov ?c_cov ?k_cov ?a_wpl ?i_wpl ?l_wpl ?c_wpl ?k_wpl ?a_wlk ?i_wlk ?l_wlk ?c_wlk ?k_wlk ?a_wca ?i_wca ?l_wca ?c_wca ?k_wca ?a_wad ?i_wad ?l_wad ?c_wad ?k_wad ?a_weq ?i_weq ?l_weq ?c_weq ?k_weq ?n_wca ?a_pw ?g_pw ?t_pw ?r_pw ?l_pw ?c_pw ?k_pw ?a_pe ?g_pe ?t_pe ?r_pe ?l_pe ?c_pe ?k_pe ?a_pf ?g_pf ?t_pf ?r_pf ?l_pf ?c_pf ?k_pf ?a_rb ?g_rb ?t_rb ?r_rb ?l_rb ?c_rb ?k_rb ?a_sm ?g_sm ?t_sm ?r_sm ?l_sm ?c_sm ?k_sm ?a_sb ?g_sb ?t_sb ?r_sb ?l_sb ?c_sb ?k_sb ?a_nm ?g_nm ?t_nm ?r_nm ?l_nm ?c_nm ?k_nm ?a_nb ?g_nb ?t_nb ?r_nb ?l_nb ?c_nb ?k_nb ?pgC ?hdC ?poC ?saC ?mkC ?kcC ?caC ?cmC ?icC ?tyC ?suC_NoneType ?suC_tuple ?suC_str ?suC_int ?suC_list ?clC ?mrC ?pgD ?hdD ?poD ?saD ?mkD ?kcD ?caD ?cmD ?icD ?tyD ?suD_NoneType ?suD_tuple ?suD_str ?suD_int ?suD_list ?clD ?mrD ?pgR ?hdR ?poR ?saR ?mkR ?kcR ?caR ?cmR ?icR ?tyR ?pgS ?hdS ?poS ?saS ?mkS ?kcS ?caS ?cmS ?icS ?tyS ?pgN ?hdN ?poN ?saN ?mkN ?kcN ?caN ?cmN ?icN ?tyN ?cn ?ctk ?nW ?nE ?nF ?nR_group ?nR_number ?nR_code ?nS_offset ?nS_many ?nN_align ?nN_many ?sSR ?sNR ?neS ?neN ?aGROUPS ?oGROUPS ?aALIGNMENTS ?oALIGNMENTS ?vGROUPS ?vALIGNMENTS ?sCD ?neq ?sfD ?iaD ?oi ?cad ?crd ?oad ?ord_ ?a_LAST_NUMBER ?v_LAST_NUMBER ?a_GROUP_STRIDE ?v_GROUP_STRIDE ?a_REGISTER_BITS ?v_REGISTER_BITS ?a_MOST_BYTES ?v_MOST_BYTES ?a_FREE ?v_FREE ?a_ZEROS ?v_ZEROS ?a_SIGN ?v_SIGN ?a_LEAST_EXTENT ?v_LEAST_EXTENT ?a_LEAST_WIDTH ?v_LEAST_WIDTH ?a_MOST_BITS ?v_MOST_BITS ?a_MOST_FILLS ?v_MOST_FILLS ?b_abs ?b_max ?b_min ?b_int ?b_len ?b_divmod ?b_range ?b_str ?b_repr ?b_isinstance ?b_all ?b_bool ?b_enumerate ?b_list ?b_tuple
    (case aR => k_is)
    (case aS => k_is)
    (case aN => k_is)
    (case aC => k_is)
    (case aD => k_is)
    (case a_isi => k_is)
    (case l_isi => k_is)
    (case c_isi => k_is)
    (case k_isi => k_is)
    (case a_cou => k_is)
    (case l_cou => k_is)
    (case c_cou => k_is)
    (case k_cou => k_is)
    (case a_oof => k_is)
    (case l_oof => k_is)
    (case c_oof => k_is)
    (case k_oof => k_is)
    (case a_btw => k_is)
    (case l_btw => k_is)
    (case c_btw => k_is)
    (case k_btw => k_is)
    (case a_wrd => k_is)
    (case l_wrd => k_is)
    (case c_wrd => k_is)
    (case k_wrd => k_is)
    (case a_isl => k_is)
    (case l_isl => k_is)
    (case c_isl => k_is)
    (case k_isl => k_is)
    (case a_isb => k_is)
    (case l_isb => k_is)
    (case c_isb => k_is)
    (case k_isb => k_is)
    (case a_fld => k_is)
    (case l_fld => k_is)
    (case c_fld => k_is)
    (case k_fld => k_is)
    (case a_plf => k_is)
    (case l_plf => k_is)
    (case c_plf => k_is)
    (case k_plf => k_is)
    (case a_pot => k_is)
    (case l_pot => k_is)
    (case c_pot => k_is)
    (case k_pot => k_is)
    (case a_drw => k_is)
    (case l_drw => k_is)
    (case c_drw => k_is)
    (case k_drw => k_is)
    (case a_pck => k_is)
    (case l_pck => k_is)
    (case c_pck => k_is)
    (case k_pck => k_is)
    (case a_plc => k_is)
    (case l_plc => k_is)
    (case c_plc => k_is)
    (case k_plc => k_is)
    (case a_fil => k_is)
    (case l_fil => k_is)
    (case c_fil => k_is)
    (case k_fil => k_is)
    (case a_wrk => k_is)
    (case l_wrk => k_is)
    (case c_wrk => k_is)
    (case k_wrk => k_is)
    (case a_lst => k_is)
    (case l_lst => k_is)
    (case c_lst => k_is)
    (case k_lst => k_is)
    (case a_alo => k_is)
    (case l_alo => k_is)
    (case c_alo => k_is)
    (case k_alo => k_is)
    (case a_shw => k_is)
    (case l_shw => k_is)
    (case c_shw => k_is)
    (case k_shw => k_is)
    (case a_par => k_is)
    (case l_par => k_is)
    (case c_par => k_is)
    (case k_par => k_is)
    (case a_rgt => k_is)
    (case l_rgt => k_is)
    (case c_rgt => k_is)
    (case k_rgt => k_is)
    (case a_law => k_is)
    (case l_law => k_is)
    (case c_law => k_is)
    (case k_law => k_is)
    (case a_ini => k_is)
    (case i_ini => k_is)
    (case l_ini => k_is)
    (case c_ini => k_is)
    (case k_ini => k_is)
    (case tO => k_is)
    (case vT => exact .cons ⟨_, rfl⟩ (.cons rfl .nil))
    (case a_wi => k_is)
    (case i_wi => k_is)
    (case l_wi => k_is)
    (case c_wi => k_is)
    (case k_wi => k_is)
    (case a_ri => k_is)
    (case i_ri => k_is)
    (case l_ri => k_is)
    (case c_ri => k_is)
    (case k_ri => k_is)
    (case a_si => k_is)
    (case i_si => k_is)
    (case l_si => k_is)
    (case c_si => k_is)
    (case k_si => k_is)
    (case a_ni => k_is)
    (case i_ni => k_is)
    (case l_ni => k_is)
    (case c_ni => k_is)
    (case k_ni => k_is)
    (case a_eq => k_is)
    (case i_eq => k_is)
    (case l_eq => k_is)
    (case c_eq => k_is)
    (case k_eq => k_is)
    (case a_cut => k_is)
    (case i_cut => k_is)
    (case l_cut => k_is)
    (case c_cut => k_is)
    (case k_cut => k_is)
    (case a_cov => k_is)
    (case i_cov => k_is)
    (case l_cov => k_is)
    (case c_cov => k_is)
    (case k_cov => k_is)
    (case a_wpl => k_is)
    (case i_wpl => k_is)
    (case l_wpl => k_is)
    (case c_wpl => k_is)
    (case k_wpl => k_is)
    (case a_wlk => k_is)
    (case i_wlk => k_is)
    (case l_wlk => k_is)
    (case c_wlk => k_is)
    (case k_wlk => k_is)
    (case a_wca => k_is)
    (case i_wca => k_is)
    (case l_wca => k_is)
    (case c_wca => k_is)
    (case k_wca => k_is)
    (case a_wad => k_is)
    (case i_wad => k_is)
    (case l_wad => k_is)
    (case c_wad => k_is)
    (case k_wad => k_is)
    (case a_weq => k_is)
    (case i_weq => k_is)
    (case l_weq => k_is)
    (case c_weq => k_is)
    (case k_weq => k_is)
    (case n_wca => k_is)
    (case a_pw => k_is)
    (case g_pw => k_is)
    (case t_pw => k_is)
    (case r_pw => k_is)
    (case l_pw => k_is)
    (case c_pw => k_is)
    (case k_pw => k_is)
    (case a_pe => k_is)
    (case g_pe => k_is)
    (case t_pe => k_is)
    (case r_pe => k_is)
    (case l_pe => k_is)
    (case c_pe => k_is)
    (case k_pe => k_is)
    (case a_pf => k_is)
    (case g_pf => k_is)
    (case t_pf => k_is)
    (case r_pf => k_is)
    (case l_pf => k_is)
    (case c_pf => k_is)
    (case k_pf => k_is)
    (case a_rb => k_is)
    (case g_rb => k_is)
    (case t_rb => k_is)
    (case r_rb => k_is)
    (case l_rb => k_is)
    (case c_rb => k_is)
    (case k_rb => k_is)
    (case a_sm => k_is)
    (case g_sm => k_is)
    (case t_sm => k_is)
    (case r_sm => k_is)
    (case l_sm => k_is)
    (case c_sm => k_is)
    (case k_sm => k_is)
    (case a_sb => k_is)
    (case g_sb => k_is)
    (case t_sb => k_is)
    (case r_sb => k_is)
    (case l_sb => k_is)
    (case c_sb => k_is)
    (case k_sb => k_is)
    (case a_nm => k_is)
    (case g_nm => k_is)
    (case t_nm => k_is)
    (case r_nm => k_is)
    (case l_nm => k_is)
    (case c_nm => k_is)
    (case k_nm => k_is)
    (case a_nb => k_is)
    (case g_nb => k_is)
    (case t_nb => k_is)
    (case r_nb => k_is)
    (case l_nb => k_is)
    (case c_nb => k_is)
    (case k_nb => k_is)
    (case pgC => k_is)
    (case hdC => k_is)
    (case poC => k_is)
    (case saC => k_is)
    (case mkC => k_is)
    (case kcC => k_is)
    (case caC => k_is)
    (case cmC => k_is)
    (case icC => k_is)
    (case tyC => k_is)
    (case suC_NoneType => k_is)
    (case suC_tuple => k_is)
    (case suC_str => k_is)
    (case suC_int => k_is)
    (case suC_list => k_is)
    (case clC => k_is)
    (case mrC => rfl)
    (case pgD => k_is)
    (case hdD => k_is)
    (case poD => k_is)
    (case saD => k_is)
    (case mkD => k_is)
    (case kcD => k_is)
    (case caD => k_is)
    (case cmD => k_is)
    (case icD => k_is)
    (case tyD => k_is)
    (case suD_NoneType => k_is)
    (case suD_tuple => k_is)
    (case suD_str => k_is)
    (case suD_int => k_is)
    (case suD_list => k_is)
    (case clD => k_is)
    (case mrD => rfl)
    (case pgR => k_is)
    (case hdR => k_is)
    (case poR => k_is)
    (case saR => k_is)
    (case mkR => k_is)
    (case kcR => k_is)
    (case caR => k_is)
    (case cmR => k_is)
    (case icR => k_is)
    (case tyR => k_is)
    (case pgS => k_is)
    (case hdS => k_is)
    (case poS => k_is)
    (case saS => k_is)
    (case mkS => k_is)
    (case kcS => k_is)
    (case caS => k_is)
    (case cmS => k_is)
    (case icS => k_is)
    (case tyS => k_is)
    (case pgN => k_is)
    (case hdN => k_is)
    (case poN => k_is)
    (case saN => k_is)
    (case mkN => k_is)
    (case kcN => k_is)
    (case caN => k_is)
    (case cmN => k_is)
    (case icN => k_is)
    (case tyN => k_is)
    (case cn => k_is)
    (case ctk => k_is)
    (case nW => k_is)
    (case nE => k_is)
    (case nF => k_is)
    (case nR_group => k_is)
    (case nR_number => k_is)
    (case nR_code => k_is)
    (case nS_offset => k_is)
    (case nS_many => k_is)
    (case nN_align => k_is)
    (case nN_many => k_is)
    (case sSR => k_is)
    (case sNR => k_is)
    (case neS => rfl)
    (case neN => rfl)
    (case aGROUPS => k_is)
    (case oGROUPS => k_is)
    (case aALIGNMENTS => k_is)
    (case oALIGNMENTS => k_is)
    (case vGROUPS => exact .cons ⟨_, rfl⟩ (.cons ⟨_, rfl⟩ .nil))
    (case vALIGNMENTS => exact .cons ⟨_, rfl⟩ (.cons ⟨_, rfl⟩ (.cons ⟨_, rfl⟩ (.cons ⟨_, rfl⟩ (.cons ⟨_, rfl⟩ .nil)))))
    (case sCD => k_is)
    (case neq => rfl)
    (case sfD => k_is)
    (case iaD => k_is)
    (case oi => k_is)
    (case cad => k_is)
    (case crd => k_is)
    (case oad => k_is)
    (case ord_ => k_is)
    (case a_LAST_NUMBER => k_is)
    (case v_LAST_NUMBER => exact ⟨_, rfl⟩)
    (case a_GROUP_STRIDE => k_is)
    (case v_GROUP_STRIDE => exact ⟨_, rfl⟩)
    (case a_REGISTER_BITS => k_is)
    (case v_REGISTER_BITS => exact ⟨_, rfl⟩)
    (case a_MOST_BYTES => k_is)
    (case v_MOST_BYTES => exact ⟨_, rfl⟩)
    (case a_FREE => k_is)
    (case v_FREE => exact ⟨_, rfl⟩)
    (case a_ZEROS => k_is)
    (case v_ZEROS => exact ⟨_, rfl⟩)
    (case a_SIGN => k_is)
    (case v_SIGN => exact ⟨_, rfl⟩)
    (case a_LEAST_EXTENT => k_is)
    (case v_LEAST_EXTENT => exact ⟨_, rfl⟩)
    (case a_LEAST_WIDTH => k_is)
    (case v_LEAST_WIDTH => exact ⟨_, rfl⟩)
    (case a_MOST_BITS => k_is)
    (case v_MOST_BITS => exact ⟨_, rfl⟩)
    (case a_MOST_FILLS => k_is)
    (case v_MOST_FILLS => exact ⟨_, rfl⟩)
    (case b_abs => k_is)
    (case b_max => k_is)
    (case b_min => k_is)
    (case b_int => k_is)
    (case b_len => k_is)
    (case b_divmod => k_is)
    (case b_range => k_is)
    (case b_str => k_is)
    (case b_repr => k_is)
    (case b_isinstance => k_is)
    (case b_all => k_is)
    (case b_bool => k_is)
    (case b_enumerate => k_is)
    (case b_list => k_is)
    (case b_tuple => k_is)
#print axioms PySem.Challenge.cw_unlikecalls_k15_whole_fills_done_as_work_holds
