import PyProof.Rows.All
import Wide.All
import OpenK.AllK
import Wide.FinOn
import HandS.ForMost
import HandS.IsInst
import HandS.Deep
import HandS.FStr
import HandS.Defaults
import HandS.MakeKw
import HandS.MakeKwOnly
import HandS.Property
import HandS.Flow
import HandS.Style
import HandS.TupLe
import HandS.WideBits
import HandS.RaiseMore
import HandS.SlotsOwn
import HandS.ClsMeth
import HandS.More
import HandS.Iter
import HandS.Walk
import KE.GoesMore
import KE.GoesEnum
import KE.GoesNew
import HandS.Star
import HandS.OwnEq
import PyProof.FitsReplace
import PyProof.ReprLoop
import HandS.Text
import HandS.TupAny
import KE.KOpsOwn
import KE.LtSeq
import KE.Datum
import PySem.Challenge.RW_unlikecalls_k23_signatures_in_order
set_option Elab.async false
set_option linter.all false
set_option maxRecDepth 100000
set_option maxHeartbeats 4000000
namespace UL
open PySem L2
/-! what every law of this document draws from: a list of two ints -/
/-- all that is tracked stays, but the object at p -/
def Stay (p : Addr) (H H' : Hp) : Prop := ∀ b o, b ≠ p → H b = some o → H' b = some o
theorem Stay.refl (p : Addr) (H : Hp) : Stay p H H := fun _ _ _ h => h
theorem Stay.trans {p : Addr} {H H1 H2 : Hp} (a : Stay p H H1) (b : Stay p H1 H2) : Stay p H H2 := fun c o n h => b c o n (a c o n h)
theorem Same.stay {H H' : Hp} (s : L2.Same H H') (p : Addr) : Stay p H H' := fun b o _ h => s b o h
theorem same_new {H : Hp} {p : Addr} {o : HO} (h : H p = none) : L2.Same H (upd H p o) := fun b u e => by rw [upd_ne (ne_of_none e h)]; exact e
/-- the pot: what is left of the digits, and the mixed number -/
def Pot (H : Hp) (p : Addr) : Prop := ∃ a b : Int, H p = some (.lst [.int a, .int b]) ∧ 0 ≤ b ∧ b < 4294967296
theorem Pot.same {H H' : Hp} {p : Addr} (h : Pot H p) (s : L2.Same H H') : Pot H' p := by
  obtain ⟨a, b, e, h1, h2⟩ := h
  exact ⟨a, b, s _ _ e, h1, h2⟩
theorem stay_upd {H : Hp} {p : Addr} {o : HO} : Stay p H (upd H p o) := fun b u n e => by rw [upd_ne n]; exact e
/-- _law_draw(pot, n): an int from 0 to n - 1 -/
def spDraw : Sp := fun vs H Q _ => ∃ (p : Addr) (n : Int), vs = [.ref p, .int n] ∧ Pot H p ∧ 0 < n ∧ n < 1073741824 ∧
  ∀ (d : Int) (H' : Hp), 0 ≤ d → d < n → Pot H' p → Stay p H H' → Q (.int d) H'
/-- _law_pick(pot, some): one of them -/
def spPick (K : PySem.W.Frag) : Sp := fun vs H Q _ => ∃ (p l : Addr) (xs : List V), vs = [.ref p, .ref l] ∧ Pot H p ∧ SqL K H l xs ∧ xs ≠ [] ∧ xs.length < 1073741824 ∧
  ∀ (i : Nat) (v : V) (H' : Hp), xs[i]? = some v → Pot H' p → Stay p H H' → Q v H'
end UL
set_option Elab.async false
set_option linter.all false
set_option maxRecDepth 100000
set_option maxHeartbeats 4000000
namespace UL
open PySem PySem.Spec PyProof.Rows L2
/-! ### instances of the text's own classes under ==, str, repr -/
section
variable {X : Cx} {CX : CXT} {C g : Addr} {n : Nat} {sp : Sp} {E : XK}
/-- what is asked of an instance's class for isinstance -/
structure CIsi (K : PySem.W.Frag) (C : Addr) : Prop where
  cl : Cls K C
  ca : PySem.W.findIn K (.ref C) "__class__" = some (some (.builtin "object.__class__"))
  cn : PySem.W.specialIn K (.builtin "object.__class__") "__get__" = some (some (.builtin "getset_descriptor.__get__"))
  ct : PySem.W.takesIn K (.builtin "object.__class__") = some true
  cm : PySem.W.mroIn K C (.type "object") = some true
theorem CIsi.ty {K : PySem.W.Frag} {C a dx : Addr} {H : Hp} {fs : List (Str × V)} (c : CIsi K C) (h : H a = some (.ins C dx fs)) : TyX K H (.ref a) (.ref C) :=
  .base (.ins h c.cl c.ca c.cn c.ct c.cm)
/-- x == y by the def at g, x an instance of the class at C, y anything whose type is known -/
def rEqI (K : PySem.W.Frag) (C : Addr) (sp : Sp) (E : XK) : R2 := fun x y H Q => ∃ (a dx : Addr) (fs : List (Str × V)) (t : Value), x = .ref a ∧ H a = some (.ins C dx fs) ∧ TyX K H y t ∧ PySem.W.notFirst K C t = true ∧ sp [x, y] H Q E
theorem op_eqI (hs : PySem.W.findIn X.K (.ref C) "__eq__" = some (some (.ref g))) (hf : PySem.W.isFn X.K (.ref g) = true) (F : FnR X.prog X.w X.K X.mg X.base CX n g sp) (hr : Room n X.A) (hx : Passes CX X E) :
    OpR X (compareOp .Eq) (rEqI X.K C sp E) := by
  intro pins s σ H x y v u Q I rx ry h
  obtain ⟨a, dx, fs, t, rfl, ha, ty, hn, q⟩ := h
  cases (show v = Value.ref a from rx)
  obtain ⟨mA, O, _⟩ := ins_get I.hok ha
  obtain ⟨od, J, _⟩ := O.look
  obtain ⟨m, hF⟩ := I.fr
  obtain ⟨Pk, Z, pk, _⟩ := kit_of I ry ty
  show wpAny _ _ (richCompare .Eq (.ref a) u) _ _ _
  refine PySem.W.cmp_K (op := .Eq) hr.units0 hF I.ok.mod.kin J (Z.ty _ _ I.kIn pk) hn hs hf ?_
  refine wpAny_mono (wpAny_call (run_fnR (us := [.ref a, u]) (vs := [.ref a, y]) F hr hx I (.cons rfl (.cons ry .nil)) q)) (fun r s' z => ?_) fun _ _ e => e
  obtain ⟨z', H', I', rz, qz⟩ := z
  exact SlX.cmpback rz ⟨z', H', I', rz, qz⟩
/-- repr(x), str(x) by the def at g: it hands back a text -/
def rShowI (C : Addr) (sp : Sp) (E : XK) : List V → Hp → VK → Prop := fun xs H Q => ∃ (a dx : Addr) (fs : List (Str × V)), xs = [.ref a] ∧ H a = some (.ins C dx fs) ∧ sp [.ref a] H (fun z H' => ∃ y, z = .str y ∧ Q z H') E
theorem call_reprI (hs : PySem.W.findIn X.K (.ref C) "__repr__" = some (some (.ref g))) (hf : PySem.W.isFn X.K (.ref g) = true) (F : FnR X.prog X.w X.K X.mg X.base CX n g sp) (hr : Room (n + 1) X.A) (hx : Passes CX X E) :
    CallR X (.builtin "repr") (rShowI C sp E) := by
  intro pins s σ H xs us Q I r h
  obtain ⟨a, dx, fs, rfl, ha, q⟩ := h
  obtain ⟨u, rfl, ru⟩ := vals1 r
  cases (show u = Value.ref a from ru)
  obtain ⟨mA, O, _⟩ := ins_get I.hok ha
  obtain ⟨od, J, _⟩ := O.look
  obtain ⟨m, hF⟩ := I.fr
  refine PySem.W.repr_K hr.in1.units0 hF I.ok.mod.kin J hs hf (wpAny_mono (wpAny_call (SlX.run_at (us := [.ref a]) (ws := [.ref a]) F hr.in1 I.env0.in1 hx I (.cons rfl .nil) q)) (fun w s' z => ?_) fun _ _ e => e)
  obtain ⟨z', H', I', rz, y, ey, qz⟩ := z
  subst ey
  obtain ⟨t, rfl⟩ := (show ∃ t, w = Value.str y t from rz)
  exact ⟨.str y, H', I', ⟨t, rfl⟩, qz⟩
theorem call_strI (hs : PySem.W.findIn X.K (.ref C) "__str__" = some (some (.ref g))) (hf : PySem.W.isFn X.K (.ref g) = true) (F : FnR X.prog X.w X.K X.mg X.base CX n g sp) (hr : Room (n + 2) X.A) (hx : Passes CX X E) :
    CallR X (.type "str") (rShowI C sp E) := by
  intro pins s σ H xs us Q I r h
  obtain ⟨a, dx, fs, rfl, ha, q⟩ := h
  obtain ⟨u, rfl, ru⟩ := vals1 r
  cases (show u = Value.ref a from ru)
  obtain ⟨mA, O, _⟩ := ins_get I.hok ha
  obtain ⟨od, J, _⟩ := O.look
  have hr2 : Room n X.A.in1.in1 := (show Room (n + 1) X.A.in1 from Room.in1 hr).in1
  refine PySem.W.kso_call hr2.units0 I.kIn J hs hf (wpAny_mono (wpAny_call (SlX.run_at (us := [.ref a]) (ws := [.ref a]) F hr2 I.env0.in1.in1 hx I (.cons rfl .nil) q)) (fun w s' z => ?_) fun _ _ e => e)
  obtain ⟨z', H', I', rz, y, ey, qz⟩ := z
  subst ey
  obtain ⟨t, rfl⟩ := (show ∃ t, w = Value.str y t from rz)
  exact ⟨.str y, H', I', ⟨t, rfl⟩, qz⟩
end
/-- a name of the module that holds v -/
theorem pe_gl {X : Cx} {x : Str} {v : V} {pos : Pos} (hg : Gl X x) (h : ∃ u, X.mg x = some u ∧ RelV v u) (hd : (x == ("__debug__" : Str)) = false := by decide) : PE X (.Name x pos) (tC v) :=
  let ⟨_, hm, r⟩ := h
  pe_glob hg hm r hd
/-! ### a static method, called by its class's name -/
/-- C.m is the def at g, a static method whose record stands at p -/
structure SMet (K : PySem.W.Frag) (C : Addr) (mc : Value) (m : Str) (p g : Addr) : Prop where
  rd : PySem.W.readsIn K C mc = true
  ga : PySem.W.specialIn K (.ref C) "__getattribute__" = some (some (.builtin "type.__getattribute__"))
  at_ : PySem.W.findCls K (.ref C) mc m = some (.get (.builtin "staticmethod.__get__") (.ref p) .none (.ref C))
  rc : ∃ rest, PySem.W.recIn K p "staticmethod" = some (.ref g :: rest)
  kp : PySem.W.keepIn K (.ref g) = true
section
variable {X : Cx} {CX : CXT} {C p g : Addr} {mc : Value} {k n : Nat} {fd : FuncData} {ps ks : List Str} {sp : Sp} {dvs : List V} {ds : List Value} {E : XK} {o e : Expr} {es : List Expr} {kws : List Keyword} {m : Str} {pos apos : Pos} {ta : TE} {t tk : TA}
  {gg : List Value → List Value → List Value} {gV : List V → List V → List V}
def tSMeth (C : Addr) (sp : Sp) (dvs : List V) (E : XK) (ta : TE) (t : TA) : TE := fun σ H Q => ta σ H fun x H1 => x = .ref C ∧ t σ H1 fun vs H2 => sp (vs ++ dvs) H2 Q E
theorem getsm_ok {pins : List (Addr × Obj)} {σ : L2.St} {H : Hp} {s : Shared} {A : Around} {E' : Value → Shared → Prop} {pl : Sem Bool} {Q : Value × List Value → Shared → Prop} (I : Inv X pins σ H s) (c : SMet X.K C mc m p g)
    (h : ∀ s', Inv X pins σ H s' → Q (.ref g, []) s') : wpAny (model X.prog X.w) A (getMethod (.ref C) m pl) Q E' s := by
  obtain ⟨rest, hp⟩ := c.rc
  refine PySem.W.method_cls I.kIn c.ga (PySem.W.cls_bind I.kIn c.rd c.at_ ?_)
  exact wpAny_call (PySem.W.sm_get (s := { s with toks := s.toks + 1 }) I.kIn hp (PySem.W.handed_on rfl (h _ (I.tok _))))
theorem pe_smeth {pl : Sem Bool} (he : PE X o ta) (c : SMet X.K C mc m p g) (F : FnOk X.prog X.w X.K X.mg X.base CX k g fd ps sp) (hr : Room k X.A) (hb : Binds X.K fd ps ds) (hd : Vals dvs ds) (hx : Passes CX X E) (ha : PA X (e :: es) t)
    (hst : starEach (e :: es) X.env = (false, eval e X.env) :: starEach es X.env := by rfl) (hpl : (backTo pos (starEach es X.env)).any (·.1) = false := by rfl)
    (ht : eval (.Call (.Attribute o m apos) (e :: es) [] pos) X.env = (do
      let ov ← eval o X.env
      standAt apos.atName
      let (fv, fi) ← holding [ov] (getMethod ov m pl)
      callWith pos fv fi (backTo pos (starEach (e :: es) X.env)) (backToKw pos (keywordEach [] X.env))) := by rfl) :
    PE X (.Call (.Attribute o m apos) (e :: es) [] pos) (tSMeth C sp dvs E ta t) := by
  refine ⟨fun pins s σ H Q I h => ?_⟩
  refine PySem.W.methodCall_KW (pl := pl) (thn (he.run pins s σ H _ I h) fun u s1 ⟨x, H1, I1, rx, ex, q⟩ => ?_) ht
  subst ex
  obtain rfl : u = Value.ref C := rx
  refine getsm_ok I1 c fun s2 I2 => ?_
  refine PySem.W.callWith_K (first := []) (h₀ := X.base) I.ok.mod.kin c.kp (thn (ha.run pos pins s2 σ H1 _ I2 q) fun us s3 ⟨vs, H2, I3, r, q2⟩ => ⟨I3.kIn, ?_⟩) hst hpl
  exact run_fn F hr hb hd hx I3 r q2
/-- C.m(k = v, ..): keywords alone -/
def tSMethK (C : Addr) (m : Nat) (sp : Sp) (gV : List V → List V → List V) (E : XK) (ta : TE) (tk : TA) : TE := fun σ H Q => ta σ H fun x H1 => x = .ref C ∧ tk σ H1 fun zs H2 => zs.length = m ∧ sp (gV [] zs) H2 Q E
theorem pe_smethK {pl : Sem Bool} (he : PE X o ta) (c : SMet X.K C mc m p g) (F : FnOk X.prog X.w X.K X.mg X.base CX k g fd ps sp) (hr : Room k X.A) (hb : KBn X.K fd ps 0 ks gg gV) (hx : Passes CX X E) (hkw : PK X kws tk)
    (hall : (backToKw pos (keywordEach kws X.env)).all (·.1.isSome) = true := by rfl) (hks : (backToKw pos (keywordEach kws X.env)).filterMap (·.1) = ks := by rfl)
    (hpl : ((backTo pos (starEach [] X.env)).any (·.1) || (backToKw pos (keywordEach kws X.env)).any (·.1.isNone)) = false := by rfl)
    (ht : eval (.Call (.Attribute o m apos) [] kws pos) X.env = (do
      let ov ← eval o X.env
      standAt apos.atName
      let (fv, fi) ← holding [ov] (getMethod ov m pl)
      callWith pos fv fi (backTo pos (starEach [] X.env)) (backToKw pos (keywordEach kws X.env))) := by rfl) :
    PE X (.Call (.Attribute o m apos) [] kws pos) (tSMethK C ks.length sp gV E ta tk) := by
  refine ⟨fun pins s σ H Q I h => ?_⟩
  refine PySem.W.methodCall_KW (pl := pl) (thn (he.run pins s σ H _ I h) fun u s1 ⟨x, H1, I1, rx, ex, q⟩ => ?_) ht
  subst ex
  obtain rfl : u = Value.ref C := rx
  refine getsm_ok I1 c fun s2 I2 => ?_
  refine PySem.W.callWith_KW0 (h₀ := X.base) I.ok.mod.kin c.kp hall ?_ hpl
  refine thn (hkw.run pos pins s2 σ H1 _ I2 q) fun ws s3 ⟨zs, H2, I3, rz, l2, q2⟩ => ⟨I3.kIn, ?_⟩
  rw [hks]
  exact run_fnN (us := []) (vs := []) F hr hb hx I3 .nil rz rfl l2 q2
end
end UL
set_option Elab.async false
set_option linter.all false
set_option maxRecDepth 100000
set_option maxHeartbeats 4000000
namespace UL
open PySem PySem.Spec PyProof.Rows L2
/-! ### promises that are kept where no repr is under way: defs that say repr of a list -/
structure FnG (P : Program) (w : World) (K : PySem.W.Frag) (mg : Str → Option Value) (base : Heap) (k : Nat) (f : Addr) (fd : FuncData) (ps : List Str) (sp : Sp) : Prop where
  len : ∀ vs H Q E, sp vs H Q E → vs.length = ps.length
  run : ∀ (A : Around) (outer : List Env) (s : Shared) (H : Hp) (args : Args) (us : List Value) (vs : List V) (Q : VK) (E : XK), A.guards = some [] → Room k A → Env0 P w K mg base A outer s H → BindsTo s fd args (ps.zip us) →
    Vals vs us → sp vs H Q E → codeAny (model P w) A (.call (.ref f) args) (CR CX0 outer P w H s Q E) s
section
variable {P : Program} {w : World} {K : PySem.W.Frag} {mg : Str → Option Value} {base : Heap}
theorem FnG.ofOk {k : Nat} {f : Addr} {fd : FuncData} {ps : List Str} {sp : Sp} (F : FnOk P w K mg base CX0 k f fd ps sp) : FnG P w K mg base k f fd ps sp :=
  ⟨F.len, fun A outer s H args us vs Q E _ => F.run A outer s H args us vs Q E⟩
theorem FnG.mk' {x qual : Str} {st : Stmt} {f : Addr} {fd : FuncData} {N ps : List Str} {k : Nat} {sp : Sp} (F : Fun K x qual st f fd) (S : FnScope N ps (defScope st)) (len : ∀ vs H Q E, sp vs H Q E → vs.length = ps.length)
    (go : ∀ (cdv : Value) (A : Around) (outer : List Env) (s : Shared) (H : Hp) (vs : List V) (Q : VK) (E : XK), A.guards = some [] → Room k (A.deeper (envOfC qual (defScope st) s.heap.objs.size f cdv)) → sp vs H Q E →
      ∃ t, PSs (cxOf CX0 P w K mg base N qual (defScope st) f cdv A outer s H E).nox (defBody st) t ∧ t { nx := fun _ H' => Q .non H', rt := Q } (start N vs) H) : FnG P w K mg base (k + 1) f fd ps sp := by
  obtain ⟨oc, od, kV, doc, pm, an, cdv, ct, osl, rfl, lk, hcd⟩ := F.ex
  refine ⟨len, fun A outer s H args us vs Q E hg hr e0 hb r hsp => ?_⟩
  have hlen := len _ _ _ _ hsp
  have inS : K.In s.heap := e0.mod.kin.keeps fun b o e => (e0.bs b o e).1
  have limS : s.heap.NoLimit := e0.mod.nolimit.keeps fun b o e => (e0.bs b o e).1
  have kinds : ∀ y ∈ ps.zip us, (defScope st).names.lookup y.1 = some .local ∨ ((defScope st).names.lookup y.1 = some .cell ∧ ((cellsFrom (s.heap.objs.size + 1) (defScope st).names []).lookup y.1).isSome = true) := by
    rintro ⟨n, v⟩ hy
    exact (S.par n (List.of_mem_zip hy).1).imp id fun q => ⟨q, PySem.W.cellsFrom_some _ _ _ (.inl q)⟩
  refine codeAny_call_function hr.depth (inS _ _ lk) rfl S.co S.gen rfl (PySem.W.codeRec_of inS hcd) (hb _ _ _ _ ?_)
  refine wpAny_newFunctionEnv_cells S.kind kinds fun env henv s1 x => ?_
  subst henv
  refine ⟨limS.keeps x.toInCall.keep, codeAny_func ?_⟩
  obtain ⟨t, ht, hq⟩ := go cdv A outer s H vs Q E hg (hr.deeper _) hsp
  have I : Inv (cxOf CX0 P w K mg base N qual (defScope st) f cdv A outer s H E) [] (start N vs) H s1 := inv_start S hr.hd e0 hlen r x
  refine wpAny_mono (ht.nox.run [] s1 (start N vs) H _ I hq) (fun fl s' hs => ?_) fun e s' hs => hs
  cases fl with
  | ret u =>
    obtain ⟨v, σ', H', J, rv, q⟩ := hs
    exact ⟨v, H', J.os, J.bare, J.base, J.hok, rv, q⟩
  | next =>
    obtain ⟨σ', H', J, q⟩ := hs
    exact ⟨V.non, H', J.os, J.bare, J.base, J.hok, rfl, q⟩
  | brk => exact hs.elim fun _ z => z.elim fun _ y => y.2.elim
  | cont => exact hs.elim fun _ z => z.elim fun _ y => y.2.elim
end
section
variable {X : Cx} {k : Nat} {f : Addr} {fd : FuncData} {ps : List Str} {sp : Sp} {dvs : List V} {ds : List Value} {E : XK} {x : Str} {p pos : Pos} {e : Expr} {es : List Expr} {t : TA}
theorem pe_callG (hgd : X.A.guards = some []) (F : FnG X.prog X.w X.K X.mg X.base k f fd ps sp) (hr : Room k X.A) (hg : Gl X x) (hm : X.mg x = some (.ref f)) (hk : PySem.W.keepIn X.K (.ref f) = true) (hb : Binds X.K fd ps ds) (hd : Vals dvs ds)
    (hx : Passes CX0 X E) (ha : PA X (e :: es) t) (hdb : (x == ("__debug__" : Str)) = false := by decide) (he : starEach (e :: es) X.env = (false, eval e X.env) :: starEach es X.env := by rfl)
    (hpl : (backTo pos (starEach es X.env)).any (·.1) = false := by rfl) : PE X (.Call (.Name x p) (e :: es) [] pos) (tCall sp dvs E t) := by
  refine ⟨fun pins s σ H Q I h => wpAny_Call_Name_kw (ld_glob I hg hm (PySem.W.callWith_K (h₀ := X.base) I.ok.mod.kin hk (thn (ha.run pos pins s σ H _ I h) fun us s1 ⟨vs, H1, I1, r, q⟩ => ⟨I1.kIn, ?_⟩) he hpl) hdb)⟩
  have r2 : Vals (vs ++ dvs) (us ++ ds) := r.append hd
  have hl : (us ++ ds).length = ps.length := r2.length.symm.trans (F.len _ _ _ _ q)
  refine wpAny_call (codeAny_mono (F.run X.A X.stack s1 H1 ⟨us, []⟩ (us ++ ds) (vs ++ dvs) Q E hgd hr I1.env0 (hb s1 us I1.kIn hl) r2 q) fun rr s' hq => ?_)
  cases rr with
  | error er => exact hx pins σ H1 s1 er s' I1 hq
  | ok fl => cases fl <;> first | exact I1.after hq | exact False.elim hq
/-- repr of data -/
def rReprD (K : PySem.W.Frag) : List V → Hp → VK → Prop := fun xs H Q => ∃ (v : V) (d : PyData), xs = [v] ∧ Dp K H v d ∧ d.showable = true ∧ d.hasDict = false ∧ d.depth ≤ 40 ∧ d.shown.length ≤ sizeLine ∧ Q (.str d.shown) H
theorem call_reprD (hgd : X.A.guards = some []) (hu : X.A.units + 64 < cLine) : CallR X (.builtin "repr") (rReprD X.K) := by
  intro pins s σ H xs us Q I r h
  obtain ⟨v, d, rfl, hd, hs, hn, hdp, hz, q⟩ := h
  obtain ⟨u, rfl, ru⟩ := vals1 r
  obtain ⟨as, rd⟩ := Dp.reads I d v u hd ru
  have fin : ∀ h' t tk, (∀ b o, s.heap.get? b = some o → h'.get? b = some o) → EP X pins σ Q (.str d.shown t) { s with heap := h', toks := tk } := fun h' t tk kp => ⟨.str d.shown, H, I.kept kp, ⟨t, rfl⟩, q⟩
  have hsz := hz
  cases rd with
  | none =>
    simp only [PyData.shown] at fin
    exact PySem.P.repr_of_none (fin s.heap _ _ fun _ _ z => z)
  | bool b =>
    simp only [PyData.shown] at fin
    exact PySem.P.repr_of_bool (fin s.heap _ _ fun _ _ z => z)
  | int i t =>
    simp only [PyData.shown] at fin
    exact PySem.P.repr_of_int (by simpa [PyData.showable] using hs) (fin s.heap _ _ fun _ _ z => z)
  | str x t =>
    simp only [PyData.shown] at fin hsz
    exact PySem.P.repr_of_str (fin s.heap _ _ fun _ _ z => z) hsz
  | list h1 h2 h3 h4 => exact repr_of_reads' (.list h1 h2 h3 h4) hs (PyData.noDict_hsm hn) hgd (by omega) (fun _ _ z => z) fin hz
  | tuple h1 h2 h3 h4 => exact repr_of_reads' (.tuple h1 h2 h3 h4) hs (PyData.noDict_hsm hn) hgd (by omega) (fun _ _ z => z) fin hz
  | dict h1 h2 h3 h4 h5 => simp [PyData.hasDict] at hn
end
end UL
set_option Elab.async false
set_option linter.all false
set_option maxRecDepth 100000
set_option maxHeartbeats 4000000
namespace UL
open PySem PySem.Spec PyProof.Rows L2
/-! ### the law's own call, by a promise of the kind FnG -/
section
variable {P : Program} {w : World} {K : PySem.W.Frag} {mg mb : Str → Option Value} {k : Nat} {fa a : Addr} {fd : FuncData} {x : Str} {sp : Sp} {s₁ : Shared} {vs : List Value} {ns : List Int}
/-- from an abstract heap that tracks the script alone, if anything -/
theorem call_from {H : Hp} (KX : K.In s₁.heap) (hns : s₁.heap.Ns mainGlobals mg) (hb : s₁.heap.Ns builtinsNs mb) (hbb : ∀ x : Str, x ≠ "__name__" → mb x = bootBuiltins x) (hlim : s₁.heap.NoLimit) (hg : s₁.gens = #[])
    (ha : s₁.heap.get? a = some { cls := .type "list", data := .seq vs.toArray }) (hr : Room k callerA) (F : ∀ base : Heap, K.In base → base.Ns mainGlobals mg → FnG P w K mg base k fa fd [x] sp) (hbind : ∀ (s : Shared) (u : Value), BindsTo s fd ⟨[u], []⟩ [(x, u)])
    (hO : Only H) (hok : HOk P w H s₁.heap) (only : ∀ b, H b ≠ none → b = a) (out : H a ≠ none → K.lookup a = none) (hsp : sp [.ref a] H (fun v _ => v = .bl true) fun _ _ _ => False) :
    codeAny (model P w) callerA (.call (.ref fa) ⟨[.ref a], []⟩) (fun r s' => r = .ok (.ret (.bool true)) ∧ OldK s₁.heap s'.heap ∧ s'.os = s₁.os ∧ AllBare s'.gens) s₁ := by
  -- what the script's address bears is no dict and no part of the written text
  have hid : ∀ {b : Addr} {o : Obj}, s₁.heap.get? b = some o → (b = a → H a = none) → (hidT s₁.heap H).get? b = some o := fun {b o} e n => hidT_get e (by
    cases q : H b with
    | none => rfl
    | some u =>
      have z : b = a := only b (fun y => by rw [y] at q; cases q)
      rw [z, n z] at q
      cases q)
  have hns' : ∀ {b : Addr} {m : Str → Option Value}, s₁.heap.Ns b m → (hidT s₁.heap H).Ns b m := fun {b m} ⟨o, es, ep, e, d, r⟩ => ⟨o, es, ep, hid e (fun z => by
    subst z
    rw [ha] at e
    cases e
    cases d), d, r⟩
  have hK' : K.In (hidT s₁.heap H) := fun b o e => hid (KX b o e) (fun z => by
    cases q : H a with
    | none => rfl
    | some u =>
      have y := out (fun t => by rw [t] at q; cases q)
      rw [z, y] at e
      cases e)
  have hM : Mod K mg (hidT s₁.heap H) := ⟨hK', hns' hns, ⟨mb, hns' hb, hbb⟩, let ⟨mc, h1, h2⟩ := hlim; ⟨mc, hns' h1, h2⟩⟩
  have e0 : Env0 P w K mg (hidT s₁.heap H) callerA [] s₁ H := ⟨rfl, hM, fun b o e => of_hidT e, Nat.le_of_eq (hidT_size _ _), trivial, fun b z => (nomatch (show b ∈ ([] : List Addr) from z)), hok, .of_eq hg⟩
  refine codeAny_mono ((F _ hK' (hns' hns)).run callerA [] s₁ H ⟨[.ref a], []⟩ [.ref a] [.ref a] _ _ rfl hr e0 (hbind s₁ (.ref a)) (.cons rfl .nil) hsp) fun r s' h => ?_
  match r, h with
  | .ok (.ret u), ⟨v, H', os, bare, un, hok', r', q⟩ =>
    cases (show v = .bl true from q)
    cases (show u = Value.bool true from r')
    refine ⟨rfl, OldK.of_keep fun b o e => ?_, os, bare⟩
    rcases hO b with z | ⟨ob, xs, z⟩
    · exact un.keep b o e z (fun y => nomatch (show b ∈ ([] : List Addr) from y)) (fun y => nomatch (show b ∈ ([] : List Addr) from y))
    · obtain ⟨e1, _⟩ := hok b _ z
      obtain ⟨e2, _⟩ := hok' b _ (un.frzs b ob _ z)
      rw [e] at e1
      cases e1
      exact e2
theorem law_callG (KX : K.In s₁.heap) (hns : s₁.heap.Ns mainGlobals mg) (hb : s₁.heap.Ns builtinsNs mb) (hbb : ∀ x : Str, x ≠ "__name__" → mb x = bootBuiltins x) (hlim : s₁.heap.NoLimit) (hg : s₁.gens = #[])
    (ha : s₁.heap.get? a = some { cls := .type "list", data := .seq vs.toArray }) (hi : IntsAre vs ns) (hl : ns.length ≤ sizeLine) (hr : Room k callerA) (F : ∀ base : Heap, K.In base → base.Ns mainGlobals mg → FnG P w K mg base k fa fd [x] sp)
    (hbind : ∀ (s : Shared) (u : Value), BindsTo s fd ⟨[u], []⟩ [(x, u)]) (hsp : ∀ H : Hp, Only H → SqL K H a (ns.map V.int) → sp [.ref a] H (fun v _ => v = .bl true) fun _ _ _ => False) :
    codeAny (model P w) callerA (.call (.ref fa) ⟨[.ref a], []⟩) (fun r s' => r = .ok (.ret (.bool true)) ∧ OldK s₁.heap s'.heap ∧ s'.os = s₁.os ∧ AllBare s'.gens) s₁ := by
  have rv := vals_ints hi
  have lenV := hi.length
  cases hk : K.lookup a with
  | some o =>
    obtain rfl : _ = o := Option.some.inj (ha.symm.trans (KX a o hk))
    have hO : Only fun _ => none := fun _ => .inl rfl
    exact call_from (H := fun _ => none) KX hns hb hbb hlim hg ha hr F hbind hO (fun b u z => nomatch (show (none : Option HO) = some u from z)) (fun b z => absurd rfl z) (fun z => absurd rfl z)
      (hsp _ hO (.inr ⟨_, vs.toArray, _, hk, rfl, rfl, rfl, by rw [List.size_toArray, lenV]; exact hl, by simpa using rv⟩))
  | none =>
    let H0 : Hp := fun b => if b = a then some (.frz { cls := .type "list", data := .seq vs.toArray } (.lst (ns.map V.int))) else none
    have at_ : H0 a = some (.frz { cls := .type "list", data := .seq vs.toArray } (.lst (ns.map V.int))) := if_pos rfl
    have no_ : ∀ b, b ≠ a → H0 b = none := fun b z => if_neg z
    have hO : Only H0 := fun b => if z : b = a then .inr ⟨{ cls := .type "list", data := .seq vs.toArray }, ns.map V.int, z ▸ at_⟩ else .inl (no_ b z)
    refine call_from (H := H0) KX hns hb hbb hlim hg ha hr F hbind hO (fun b u z => ?_) (fun b z => Decidable.byContradiction fun y => z (no_ b y)) (fun _ => hk) (hsp _ hO (.inl (.inr ⟨_, at_⟩)))
    by_cases y : b = a
    · subst y
      rw [at_] at z
      cases z
      exact ⟨ha, by rw [List.length_map]; exact hl, vs, _, rv, ha⟩
    · rw [no_ b y] at z
      cases z
end
theorem walkG {l : PySem.W.OpenLaw} {n k : Nat} {q : Program} {loose : List Str} {XP : (Str → Option Value) → Heap → Prop} {YP : World → Heap → Prop} {d : DefRec} {K : Params → PySem.W.Frag} {sp : World → Sp} {x : Str}
    (hn : l.most = some n) (hn2 : n ≤ sizeLine) (hdf : d.params.defaults = []) (hr : Room k callerA) (hY : ∀ (w : World) (h : Heap), YP w h → (K w.params).In h)
    (F : ∀ (w : World) (mg : Str → Option Value) (fa : Addr) (h : Heap), (K w.params).In h → h.Ns mainGlobals mg → mg d.name = some (.ref fa) →
      ∃ fd : FuncData, (∀ (s : Shared) (u : Value), BindsTo s fd ⟨[u], []⟩ [(x, u)]) ∧ ∀ base : Heap, (K w.params).In base → base.Ns mainGlobals mg → FnG l.prog w (K w.params) mg base k fa fd [x] (sp w))
    (hsp : ∀ (w : World) (H : Hp) (a : Addr) (ns : List Int), ns.length ≤ n → Only H → SqL (K w.params) H a (ns.map V.int) → sp w [.ref a] H (fun v _ => v = .bl true) fun _ _ _ => False) :
    PySem.W.WalkO q loose XP YP l.row.toRowW d [] (fun f vs => PySem.call f vs) := by
  refine Att.attach_call hn hdf fun w s₀ s₁ mg mb fa o pm cd doc a vs ns G Y _ _ _ hmg hobj hints hlen hg => ?_
  have KX := hY w _ Y
  obtain ⟨fd, hb, hF⟩ := F w mg fa _ KX G.T.g hmg
  exact law_callG KX G.T.g G.T.b G.T.builtins G.T.nolimit hg hobj hints (Nat.le_trans hlen hn2) hr hF hb fun H hO hS => hsp w H a ns hlen hO hS
end UL
set_option Elab.async false
set_option linter.all false
set_option maxRecDepth 100000
set_option maxHeartbeats 4000000
namespace UL
open PySem PySem.Spec PyProof.Rows L2
/-! ### what a caller knows of a def, a method, a property, a class's maker: its promise, nothing else -/
section
variable (P : Program) (w : World) (K : PySem.W.Frag) (mg : Str → Option Value) (base : Heap)
/-- the module's def x keeps sp, at level k -/
def Cal (k : Nat) (x : Str) (sp : Sp) : Prop := ∃ f fd ps, FnOk P w K mg base CX0 k f fd ps sp ∧ PySem.W.keepIn K (.ref f) = true ∧ Binds K fd ps [] ∧ mg x = some (.ref f)
def CalG (k : Nat) (x : Str) (sp : Sp) : Prop := ∃ f fd ps, FnG P w K mg base k f fd ps sp ∧ PySem.W.keepIn K (.ref f) = true ∧ Binds K fd ps [] ∧ mg x = some (.ref f)
/-- the method m of the class at C -/
def CalM (k : Nat) (C : Addr) (m : Str) (sp : Sp) : Prop := ∃ f fd ps, FnOk P w K mg base CX0 k f fd ps sp ∧ Cls K C ∧ Meth K C m f ∧ Binds K fd ps []
/-- .. called with the keywords ks, no positional arguments but self -/
def CalMK (k : Nat) (C : Addr) (m : Str) (ks : List Str) (gV : List V → List V → List V) (sp : Sp) : Prop := ∃ f fd ps g, FnOk P w K mg base CX0 k f fd ps sp ∧ Cls K C ∧ Meth K C m f ∧ KBn K fd ps 1 ks g gV
/-- the property m of the class at C -/
def CalP (k : Nat) (C : Addr) (m : Str) (sp : Sp) : Prop := ∃ p f fd ps, FnOk P w K mg base CX0 k f fd ps sp ∧ Cls K C ∧ PropOf K C m p f ∧ Binds K fd ps []
/-- the class x, at C, made by its __init__, the defaults dvs behind what is written -/
def Mak (k : Nat) (x : Str) (C : Addr) (dvs : List V) (sp : Sp) : Prop := ∃ f fd ps ds, FnOk P w K mg base CX0 k f fd ps sp ∧ Mk K C f ∧ mg x = some (.ref C) ∧ Binds K fd ps ds ∧ Vals dvs ds
/-- .. with the keywords ks alone -/
def MakK (k : Nat) (x : Str) (C : Addr) (ks : List Str) (gV : List V → List V → List V) (sp : Sp) : Prop := ∃ f fd ps g, FnOk P w K mg base CX0 k f fd ps sp ∧ Mk K C f ∧ mg x = some (.ref C) ∧ KBn K fd ps 1 ks g gV
/-- the special method m of the class at C, asked by an operator or a built-in -/
def CalS (k : Nat) (C : Addr) (m : Str) (sp : Sp) : Prop := ∃ f, FnR P w K mg base CX0 k f sp ∧ PySem.W.findIn K (.ref C) m = some (some (.ref f)) ∧ PySem.W.isFn K (.ref f) = true
/-- the static method m of the class x at C -/
def CalT (k : Nat) (C : Addr) (m : Str) (sp : Sp) : Prop := ∃ p f fd ps mc, FnOk P w K mg base CX0 k f fd ps sp ∧ SMet K C mc m p f ∧ Binds K fd ps []
def CalTK (k : Nat) (C : Addr) (m : Str) (ks : List Str) (gV : List V → List V → List V) (sp : Sp) : Prop := ∃ p f fd ps mc g, FnOk P w K mg base CX0 k f fd ps sp ∧ SMet K C mc m p f ∧ KBn K fd ps 0 ks g gV
end
section
variable {X : Cx} {k j : Nat} {x m : Str} {C : Addr} {sp : Sp} {dvs : List V} {e o : Expr} {es : List Expr} {kws : List Keyword} {ks : List Str} {gV : List V → List V → List V} {t tk : TA} {ta : TE} {p pos apos : Pos}
theorem pe_c (c : Cal X.prog X.w X.K X.mg X.base k x sp) (hr : Room j X.A) (hk : k ≤ j) (hg : Gl X x) (ha : PA X (e :: es) t) (hdb : (x == ("__debug__" : Str)) = false := by decide)
    (he : starEach (e :: es) X.env = (false, eval e X.env) :: starEach es X.env := by rfl) (hpl : (backTo pos (starEach es X.env)).any (·.1) = false := by rfl) : PE X (.Call (.Name x p) (e :: es) [] pos) (tCall sp [] E0 t) := by
  obtain ⟨f, fd, ps, F, kp, b, g⟩ := c
  exact pe_call F (hr.mono hk) hg g kp b .nil pass0 ha hdb he hpl
theorem pe_cG (hgd : X.A.guards = some []) (c : CalG X.prog X.w X.K X.mg X.base k x sp) (hr : Room j X.A) (hk : k ≤ j) (hg : Gl X x) (ha : PA X (e :: es) t) (hdb : (x == ("__debug__" : Str)) = false := by decide)
    (he : starEach (e :: es) X.env = (false, eval e X.env) :: starEach es X.env := by rfl) (hpl : (backTo pos (starEach es X.env)).any (·.1) = false := by rfl) : PE X (.Call (.Name x p) (e :: es) [] pos) (tCall sp [] E0 t) := by
  obtain ⟨f, fd, ps, F, kp, b, g⟩ := c
  exact pe_callG hgd F (hr.mono hk) hg g kp b .nil pass0 ha hdb he hpl
theorem pe_m {pl : Sem Bool} (he : PE X o ta) (c : CalM X.prog X.w X.K X.mg X.base k C m sp) (hr : Room j X.A) (hk : k ≤ j) (ha : PA X (e :: es) t)
    (hst : starEach (e :: es) X.env = (false, eval e X.env) :: starEach es X.env := by rfl) (hpl : (backTo pos (starEach es X.env)).any (·.1) = false := by rfl)
    (ht : eval (.Call (.Attribute o m apos) (e :: es) [] pos) X.env = (do
      let ov ← eval o X.env
      standAt apos.atName
      let (fv, fi) ← holding [ov] (getMethod ov m pl)
      callWith pos fv fi (backTo pos (starEach (e :: es) X.env)) (backToKw pos (keywordEach [] X.env))) := by rfl) :
    PE X (.Call (.Attribute o m apos) (e :: es) [] pos) (tMeth C m sp [] E0 ta t) := by
  obtain ⟨f, fd, ps, F, cl, mt, b⟩ := c
  exact pe_meth he cl mt F (hr.mono hk) b .nil pass0 ha hst hpl ht
/-- o.m(k = v, ..) -/
def tMethK (C : Addr) (m : Str) (n : Nat) (gV : List V → List V → List V) (sp : Sp) (ta : TE) (tk : TA) : TE := fun σ H Q => ta σ H fun x H1 => ∃ a dx fs, x = .ref a ∧ H1 a = some (.ins C dx fs) ∧ fs.lookup m = none ∧ tk σ H1 fun zs H2 => zs.length = n ∧ sp (gV [x] zs) H2 Q E0
theorem pe_mK {pl : Sem Bool} (he : PE X o ta) (c : CalMK X.prog X.w X.K X.mg X.base k C m ks gV sp) (hr : Room j X.A) (hk : k ≤ j) (hkw : PK X kws tk)
    (hall : (backToKw pos (keywordEach kws X.env)).all (·.1.isSome) = true := by rfl) (hks : (backToKw pos (keywordEach kws X.env)).filterMap (·.1) = ks := by rfl)
    (hpl : ((backTo pos (starEach [] X.env)).any (·.1) || (backToKw pos (keywordEach kws X.env)).any (·.1.isNone)) = false := by rfl)
    (ht : eval (.Call (.Attribute o m apos) [] kws pos) X.env = (do
      let ov ← eval o X.env
      standAt apos.atName
      let (fv, fi) ← holding [ov] (getMethod ov m pl)
      callWith pos fv fi (backTo pos (starEach [] X.env)) (backToKw pos (keywordEach kws X.env))) := by rfl) :
    PE X (.Call (.Attribute o m apos) [] kws pos) (tMethK C m ks.length gV sp ta tk) := by
  obtain ⟨f, fd, ps, g, F, cl, mt, b⟩ := c
  refine ⟨fun pins s σ H Q I h => ?_⟩
  refine PySem.W.methodCall_KW (pl := pl) (thn (he.run pins s σ H _ I h) fun u s1 ⟨x, H1, I1, rx, a, dx, fs, ex, ea, l, q⟩ => ?_) ht
  subst ex
  obtain rfl : u = Value.ref a := rx
  refine getmeth_ok I1 ea cl mt l ?_
  refine PySem.W.callWith_KW0 (first := [.ref a]) (h₀ := X.base) I.ok.mod.kin mt.kp hall ?_ hpl
  refine thn (hkw.run pos pins s1 σ H1 _ I1 q) fun ws s3 ⟨zs, H2, I3, rz, l2, q2⟩ => ⟨I3.kIn, ?_⟩
  rw [hks]
  exact run_fnN (us := [.ref a]) (vs := [.ref a]) F (hr.mono hk) b pass0 I3 (.cons rfl .nil) rz rfl l2 q2
theorem pe_p (he : PE X o ta) (c : CalP X.prog X.w X.K X.mg X.base k C m sp) (hr : Room j X.A) (hk : k + 1 ≤ j) (hab : attributeBase o m X.env (eval o X.env) = eval o X.env) : PE X (.Attribute o m pos) (tProp C sp [] E0 ta) := by
  obtain ⟨q, f, fd, ps, F, cl, pr, b⟩ := c
  exact pe_prop he cl pr F (hr.mono hk) b .nil pass0 hab
theorem pe_n (c : Mak X.prog X.w X.K X.mg X.base k x C dvs sp) (hr : Room j X.A) (hk : k + 1 ≤ j) (hg : Gl X x) (ha : PA X (e :: es) t) (hdb : (x == ("__debug__" : Str)) = false := by decide)
    (he : starEach (e :: es) X.env = (false, eval e X.env) :: starEach es X.env := by rfl) (hpl : (backTo pos (starEach es X.env)).any (·.1) = false := by rfl) : PE X (.Call (.Name x p) (e :: es) [] pos) (tMake C sp dvs E0 t) := by
  obtain ⟨f, fd, ps, ds, F, M, g, b, v⟩ := c
  exact pe_make M F (hr.mono hk) hg g b v pass0 ha hdb he hpl
theorem pe_n0 (c : Mak X.prog X.w X.K X.mg X.base k x C dvs sp) (hr : Room j X.A) (hk : k + 1 ≤ j) (hg : Gl X x) (hdb : (x == ("__debug__" : Str)) = false := by decide) : PE X (.Call (.Name x p) [] [] pos) (tMake C sp dvs E0 tNil) := by
  obtain ⟨f, fd, ps, ds, F, M, g, b, v⟩ := c
  exact pe_make0 M F (hr.mono hk) hg g b v pass0 hdb
theorem pe_nK (c : MakK X.prog X.w X.K X.mg X.base k x C ks gV sp) (hr : Room j X.A) (hk : k + 1 ≤ j) (hg : Gl X x) (hkw : PK X kws tk)
    (hall : (backToKw pos (keywordEach kws X.env)).all (·.1.isSome) = true := by rfl) (hks : (backToKw pos (keywordEach kws X.env)).filterMap (·.1) = ks := by rfl) (hdb : (x == ("__debug__" : Str)) = false := by decide)
    (hpl : ((backTo pos (starEach [] X.env)).any (·.1) || (backToKw pos (keywordEach kws X.env)).any (·.1.isNone)) = false := by rfl) :
    PE X (.Call (.Name x p) [] kws pos) (tMakeK C 0 ks.length sp gV E0 tNil tk) := by
  obtain ⟨f, fd, ps, gg, F, M, g, b⟩ := c
  exact pe_makeK0 M F (hr.mono hk) hg g b pass0 hkw hall hks hdb hpl
theorem op_eqS (c : CalS X.prog X.w X.K X.mg X.base k C "__eq__" sp) (hr : Room j X.A) (hk : k ≤ j) : OpR X (compareOp .Eq) (rEqI X.K C sp E0) := by
  obtain ⟨f, F, h1, h2⟩ := c
  exact op_eqI h1 h2 F (hr.mono hk) pass0
theorem call_reprS (c : CalS X.prog X.w X.K X.mg X.base k C "__repr__" sp) (hr : Room j X.A) (hk : k + 1 ≤ j) : CallR X (.builtin "repr") (rShowI C sp E0) := by
  obtain ⟨f, F, h1, h2⟩ := c
  exact call_reprI h1 h2 F (hr.mono hk) pass0
theorem call_strS (c : CalS X.prog X.w X.K X.mg X.base k C "__str__" sp) (hr : Room j X.A) (hk : k + 2 ≤ j) : CallR X (.type "str") (rShowI C sp E0) := by
  obtain ⟨f, F, h1, h2⟩ := c
  exact call_strI h1 h2 F (hr.mono hk) pass0
theorem pe_t {pl : Sem Bool} (he : PE X o ta) (c : CalT X.prog X.w X.K X.mg X.base k C m sp) (hr : Room j X.A) (hk : k ≤ j) (ha : PA X (e :: es) t)
    (hst : starEach (e :: es) X.env = (false, eval e X.env) :: starEach es X.env := by rfl) (hpl : (backTo pos (starEach es X.env)).any (·.1) = false := by rfl)
    (ht : eval (.Call (.Attribute o m apos) (e :: es) [] pos) X.env = (do
      let ov ← eval o X.env
      standAt apos.atName
      let (fv, fi) ← holding [ov] (getMethod ov m pl)
      callWith pos fv fi (backTo pos (starEach (e :: es) X.env)) (backToKw pos (keywordEach [] X.env))) := by rfl) :
    PE X (.Call (.Attribute o m apos) (e :: es) [] pos) (tSMeth C sp [] E0 ta t) := by
  obtain ⟨q, f, fd, ps, mc, F, s, b⟩ := c
  exact pe_smeth he s F (hr.mono hk) b .nil pass0 ha hst hpl ht
theorem pe_tK {pl : Sem Bool} (he : PE X o ta) (c : CalTK X.prog X.w X.K X.mg X.base k C m ks gV sp) (hr : Room j X.A) (hk : k ≤ j) (hkw : PK X kws tk)
    (hall : (backToKw pos (keywordEach kws X.env)).all (·.1.isSome) = true := by rfl) (hks : (backToKw pos (keywordEach kws X.env)).filterMap (·.1) = ks := by rfl)
    (hpl : ((backTo pos (starEach [] X.env)).any (·.1) || (backToKw pos (keywordEach kws X.env)).any (·.1.isNone)) = false := by rfl)
    (ht : eval (.Call (.Attribute o m apos) [] kws pos) X.env = (do
      let ov ← eval o X.env
      standAt apos.atName
      let (fv, fi) ← holding [ov] (getMethod ov m pl)
      callWith pos fv fi (backTo pos (starEach [] X.env)) (backToKw pos (keywordEach kws X.env))) := by rfl) :
    PE X (.Call (.Attribute o m apos) [] kws pos) (tSMethK C ks.length sp gV E0 ta tk) := by
  obtain ⟨q, f, fd, ps, mc, g, F, s, b⟩ := c
  exact pe_smethK he s F (hr.mono hk) b pass0 hkw hall hks hpl ht
end
end UL
set_option Elab.async false
set_option linter.all false
set_option maxRecDepth 100000
set_option maxHeartbeats 4000000
namespace UL
open PySem L2
/-! ### small facts of numbers, texts, lists -/
theorem log_small {i : Int} (h : i.natAbs < 2 ^ 64) : i.natAbs.log2 < 1920 := by
  by_cases c : i.natAbs = 0
  · rw [c]
    decide
  · exact Nat.lt_of_lt_of_le ((Nat.log2_lt c).mpr h) (by decide)
theorem eqV_self_str (x : Str) : eqV (.str x) (.str x) = true := by simp [eqV]
theorem eqV_self_int (x : Int) : eqV (.int x) (.int x) = true := by simp [eqV]
theorem inV_mem {v : V} {xs : List V} (h : v ∈ xs) (e : eqV v v = true) : inV v xs = true := List.any_eq_true.mpr ⟨v, h, e⟩
theorem line_ge {n : Nat} (h : n ≤ 16000000) : n ≤ sizeLine := by
  rw [sizeLine_eq]
  omega
theorem line_gt {n : Nat} (h : n ≤ 16000000) : n < sizeLine := by
  rw [sizeLine_eq]
  omega
end UL
set_option Elab.async false
set_option linter.all false
set_option maxRecDepth 100000
set_option maxHeartbeats 4000000
namespace UL
open PySem L2
/-! ### data: shapes, equality -/
theorem shaped_of {d : PyData} (h : d.canLay0 = true) (g : d.depth ≤ 64) : SeqAt.shaped d = true := by
  show (d.canLay0 && decide (d.depth ≤ 64)) = true
  rw [h, decide_eq_true g]
  rfl
theorem lay_all : ∀ {ds : List PyData}, (∀ d ∈ ds, d.canLay0 = true) → PyData.canLayAll0 ds = true
  | [], _ => by simp [PyData.canLayAll0]
  | d :: ds, h => by simp [PyData.canLayAll0, h d List.mem_cons_self, lay_all fun e he => h e (List.mem_cons_of_mem _ he)]
theorem depth_all {k : Nat} : ∀ {ds : List PyData}, (∀ d ∈ ds, d.depth ≤ k) → PyData.depthAll ds ≤ k
  | [], _ => by simp [PyData.depthAll]
  | d :: ds, h => by
    simp only [PyData.depthAll]
    have h1 := h d List.mem_cons_self
    have h2 := depth_all (ds := ds) fun e he => h e (List.mem_cons_of_mem _ he)
    omega
theorem shaped_list {ds : List PyData} {k : Nat} (h : ∀ d ∈ ds, d.canLay0 = true) (g : ∀ d ∈ ds, d.depth ≤ k) (hk : k ≤ 60) : SeqAt.shaped (.list ds) = true :=
  shaped_of (by simpa only [PyData.canLay0] using lay_all h) (by have := depth_all g; simp only [PyData.depth]; omega)
theorem shaped_tuple {ds : List PyData} {k : Nat} (h : ∀ d ∈ ds, d.canLay0 = true) (g : ∀ d ∈ ds, d.depth ≤ k) (hk : k ≤ 60) : SeqAt.shaped (.tuple ds) = true :=
  shaped_of (by simpa only [PyData.canLay0] using lay_all h) (by have := depth_all g; simp only [PyData.depth]; omega)
/-- a pair of an int and a text, as data -/
def pairD (x : Int × Str) : PyData := .tuple [.int x.1, .str x.2]
theorem pairD_eqv (x y : Int × Str) : PyData.eqv (pairD x) (pairD y) = decide (x = y) := by
  obtain ⟨a, b⟩ := x
  obtain ⟨c, d⟩ := y
  have e : PyData.eqv (pairD (a, b)) (pairD (c, d)) = ((a == c) && ((b == d) && true)) := by simp only [pairD, PyData.eqv, PyData.eqvAll]
  rw [e]
  by_cases h1 : a = c <;> by_cases h2 : b = d <;> simp [h1, h2]
theorem pairD_depth (x : Int × Str) : (pairD x).depth ≤ 1 := by simp [pairD, PyData.depth, PyData.depthAll]
theorem pairD_lay {x : Int × Str} (h : (PyData.str x.2).canLay0 = true) : (pairD x).canLay0 = true := by
  simp only [pairD, PyData.canLay0, PyData.canLayAll0]
  simp only [PyData.canLay0] at h
  simp [h]
/-- a list of such pairs at l -/
def PairsAt (H : Hp) (l : Addr) (xs : List (Int × Str)) : Prop := ∃ ps : List Addr, H l = some (.lst (ps.map V.ref)) ∧ ps.length = xs.length ∧
  ∀ (j : Nat) (a : Addr) (x : Int × Str), ps[j]? = some a → xs[j]? = some x → H a = some (.tup [.int x.1, .str x.2])
theorem PairsAt.same {H H' : Hp} {l : Addr} {xs : List (Int × Str)} (h : PairsAt H l xs) (s : L2.Same H H') : PairsAt H' l xs := by
  obtain ⟨ps, h1, h2, h3⟩ := h
  exact ⟨ps, s _ _ h1, h2, fun j a x e1 e2 => s _ _ (h3 j a x e1 e2)⟩
theorem dpAll_at {K : PySem.W.Frag} {H : Hp} : ∀ {vs : List V} {ds : List PyData}, vs.length = ds.length → (∀ (j : Nat) v d, vs[j]? = some v → ds[j]? = some d → Dp K H v d) → DpAll K H vs ds
  | [], [], _, _ => .nil
  | v :: vs, d :: ds, hl, h => .cons (h 0 v d rfl rfl) (dpAll_at (by simpa using hl) fun j a b e1 e2 => h (j + 1) a b (by simpa using e1) (by simpa using e2))
theorem dp_pair {K : PySem.W.Frag} {H : Hp} {a : Addr} {x : Int × Str} (h : H a = some (.tup [.int x.1, .str x.2])) : Dp K H (.ref a) (pairD x) := .tup (SqT.of h) (.cons (.int _) (.cons (.str _) .nil))
theorem PairsAt.dp {K : PySem.W.Frag} {H : Hp} {l : Addr} {xs : List (Int × Str)} (h : PairsAt H l xs) : Dp K H (.ref l) (.list (xs.map pairD)) := by
  obtain ⟨ps, h1, h2, h3⟩ := h
  refine .lst (SqL.of h1) (dpAll_at (by rw [List.length_map, List.length_map, h2]) fun j v d e1 e2 => ?_)
  rw [List.getElem?_map] at e1 e2
  obtain ⟨a, ea, rfl⟩ := Option.map_eq_some_iff.mp e1
  obtain ⟨x, ex, rfl⟩ := Option.map_eq_some_iff.mp e2
  exact dp_pair (h3 j a x ea ex)
theorem any_pairs (xs : List (Int × Str)) (x : Int × Str) : ((xs.map pairD).any fun z => PyData.eqv z (pairD x)) = decide (x ∈ xs) := by
  rw [List.any_map]
  rw [Bool.eq_iff_iff, List.any_eq_true, decide_eq_true_iff]
  constructor
  · rintro ⟨y, hy, e⟩
    have e' : PyData.eqv (pairD y) (pairD x) = true := e
    rw [pairD_eqv] at e'
    rw [← of_decide_eq_true e']
    exact hy
  · intro h
    refine ⟨x, h, ?_⟩
    show PyData.eqv (pairD x) (pairD x) = true
    rw [pairD_eqv]
    exact decide_eq_true rfl
/-- ints as data -/
theorem dp_ints {K : PySem.W.Frag} {H : Hp} : ∀ ns : List Int, DpAll K H (ns.map V.int) (ns.map PyData.int)
  | [] => .nil
  | n :: ns => .cons (.int n) (dp_ints ns)
theorem dp_bls {K : PySem.W.Frag} {H : Hp} : ∀ bs : List Bool, DpAll K H (bs.map V.bl) (bs.map PyData.bool)
  | [] => .nil
  | n :: ns => .cons (.bl n) (dp_bls ns)
end UL
set_option Elab.async false
set_option linter.all false
set_option maxRecDepth 100000
set_option maxHeartbeats 4000000
namespace UL
open PySem PySem.Spec PyProof.Rows L2
/-! ### from the facts that the top has written to what a caller knows -/
section
variable {P : Program} {w : World} {K : PySem.W.Frag} {mg : Str → Option Value} {base : Heap}
/-- a def without defaults, called with the keywords ks behind n values -/
theorem Fun.kbn {x qual : Str} {st : Stmt} {f : Addr} {fd : FuncData} {ps : List Str} (F : Fun K x qual st f fd) (n : Nat) (ks : List Str) (g : {α : Type} → List α → List α → List α)
    (hrel : ∀ {vs zs : List V} {us ws : List Value}, Vals vs us → Vals zs ws → Vals (g vs zs) (g us ws))
    (h : ∀ (kV doc pm : Value) (an : Option Addr) (cdv ct : Value) (us ws : List Value), us.length = n → ws.length = ks.length → bindArgs (PySem.W.fnOf x qual (defArgs st) (defBody st) (defScope st) .none kV doc pm an cdv ct) ⟨us, ks.zip ws⟩ = pure (ps.zip (g us ws))) :
    KBn K fd ps n ks (fun us ws => g us ws) (fun vs zs => g vs zs) := by
  obtain ⟨oc, od, kV, doc, pm, an, cdv, ct, osl, rfl, lk, hcd⟩ := F.ex
  exact ⟨fun s us ws _ l1 l2 => .of_eq (h kV doc pm an cdv ct us ws l1 l2), fun r1 r2 => hrel r1 r2⟩
theorem vals_app {vs zs : List V} {us ws : List Value} (a : Vals vs us) (b : Vals zs ws) : Vals (vs ++ zs) (us ++ ws) := a.append b
theorem vals_rev {zs : List V} {ws : List Value} (b : Vals zs ws) : Vals zs.reverse ws.reverse := by
  induction b with
  | nil => exact .nil
  | cons r _ ih =>
    rw [List.reverse_cons, List.reverse_cons]
    exact ih.append (.cons r .nil)
theorem vals_apprev {vs zs : List V} {us ws : List Value} (a : Vals vs us) (b : Vals zs ws) : Vals (vs ++ zs.reverse) (us ++ ws.reverse) := a.append (vals_rev b)
/-- a built-in class and an own one -/
theorem kt_of {T : String} {C : Addr} (h1 : PySem.W.isClsIn K C = true) (h2 : PySem.W.typeIn K (.ref C) = some (.type "type")) (h3 : PySem.W.subIn K (.type T) (.ref C) = some false) :
    PySem.W.kitOne K (.type T) (.ref C) = some false ∧ PySem.W.notFirst K C (.type T) = true := by
  constructor
  · unfold PySem.W.kitOne PySem.W.kitCls
    rw [if_neg (by intro z; cases (show false = true from z))]
    dsimp only
    rw [if_pos (by rw [h2]; simp [show (PySem.W.clsIn K C).isSome = true from h1])]
    exact h3
  · unfold PySem.W.notFirst
    rw [h3]
    simp
end
end UL
set_option Elab.async false
set_option linter.all false
set_option maxRecDepth 100000
set_option maxHeartbeats 4000000
namespace PySem
open Sem (wp)
theorem UL_meets_enum1 {v : Value} {o : Obj} {H : Heap → Prop} (B : Begins v o H) :
    Meets (Builtin.«enumerate.__new__» ⟨[.type "enumerate", v], []⟩) (fun _ R s => H s.heap ∧
      R (.ok (.ret (.ref (s.heap.push o).objs.size))) { s with heap := (s.heap.push o).push { cls := .type "enumerate", data := .fields #[.none, .bool false, .ref s.heap.objs.size, rawInt 0, .none, .none] } }) :=
  .of_wp fun prog w A R s h => by
    obtain ⟨hp, g, d, tk, os⟩ := s; obtain ⟨h1, h⟩ := h
    have hsub := sub_enumerate
    have q1 : ∀ {A' : Around} {E : Value → Shared → Prop} {Q : Value → Shared → Prop}, Q (.ref hp.objs.size) ⟨hp.push o, g, d, tk, os⟩ → wpAny (model prog w) A' (pyIter v) Q E ⟨hp, g, d, tk, os⟩ :=
      fun q => B.iter prog w _ _ ⟨hp, g, d, tk, os⟩ _ h1 q
    wp_walk using q1
    refine wpAny_stack_any fun st => wpAny_pure ?_
    split
    · rename_i c _ _ _ _ _
      cases (c == Value.type "enumerate")
      · wp_walk using q1
        exact ⟨_, rfl, h⟩
      · wp_walk using q1
        exact ⟨_, rfl, h⟩
    · wp_walk using q1
      exact ⟨_, rfl, h⟩
theorem UL_enum_begins1 {prog : Program} {w : World} {A : Around} {E : Value → Shared → Prop} {s : Shared} {v : Value} {o : Obj} {H : Heap → Prop} {Q : Value → Shared → Prop} (B : Begins v o H) (h1 : H s.heap)
    (h : ∀ h', IsEnum h' (s.heap.objs.size + 1) s.heap.objs.size 0 .none → h'.get? s.heap.objs.size = some o → h'.objs.size = s.heap.objs.size + 2 →
      (∀ b o, s.heap.get? b = some o → h'.get? b = some o) → Q (.ref (s.heap.objs.size + 1)) { s with heap := h' }) :
    wpAny (model prog w) A (call (.type "enumerate") [v]) Q E s := by
  refine callType_new F.called_enumerate (by decide) (F.typeCall_enumerate_1 _) (F.newCall_enumerate_1 _) (fun obj => F.args_object_init_2 obj _) F.entry_enumerate_new
    (UL_meets_enum1 B) ⟨h1, ?_⟩
  have hz : (s.heap.push o).objs.size = s.heap.objs.size + 1 := Heap.size_push ..
  show _ ∧ _
  rw [hz]
  have he : IsEnum ((s.heap.push o).push { cls := .type "enumerate", data := .fields #[.none, .bool false, .ref s.heap.objs.size, rawInt 0, .none, .none] }) (s.heap.objs.size + 1) s.heap.objs.size 0 .none := by
    have := Heap.get?_push_size (s.heap.push o) (o := { cls := .type "enumerate", data := .fields #[.none, .bool false, .ref s.heap.objs.size, rawInt 0, .none, .none] }) rfl
    rw [hz] at this; exact this
  refine ⟨⟨_, he, rfl⟩, h _ he (Heap.get?_push_of_some _ (Heap.get?_push_size _ B.free)) (by rw [Heap.size_push, hz]) fun b o x => Heap.get?_push_of_some _ (Heap.get?_push_of_some _ x)⟩
end PySem
namespace UL
open PySem PySem.Spec PyProof.Rows L2
/-- the tuple at a, each item in a new pair -/
def Itet (K : PySem.W.Frag) (a : Addr) : It :=
  ⟨fun i H => ∃ (xs : List V) (x : V), SqT K H a xs ∧ xs[i]? = some x, fun i H v H' => ∃ T x, v = .ref T ∧ H T = none ∧ H' = upd H T (.tup [.int (i : Nat), x]) ∧ ∀ xs, SqT K H a xs → xs[i]? = some x, fun i H => ∃ xs : List V, SqT K H a xs ∧ xs.length = i⟩
theorem turn_enumT {P : Program} {w : World} {K : PySem.W.Frag} {elts : List Expr} {kk : Nat} {tpos : Pos} (a e it : Addr) :
    Turn P w K (.Tuple elts kk tpos) (Itet K a) [e, it] e (fun i h => (∃ old, IsEnum h e it ((i : Nat) : Int) old) ∧ h.IsTupleIter it a i) where
  mem := by simp
  obj := fun i h st b hb => by
    obtain ⟨⟨old, he⟩, ⟨o, ho, hc, hd⟩⟩ := st
    have e' : b = e ∨ b = it := by simpa using hb
    rcases e' with z | z
    · rw [z]; exact ⟨_, he, fun v q => nomatch q⟩
    · rw [z]; exact ⟨o, ho, fun v q => by rw [hd] at q; cases q⟩
  keep := fun i h h' st k => let ⟨⟨old, he⟩, hi⟩ := st; ⟨⟨old, k e (by simp) _ he⟩, hi.at fun o q => k it (by simp) o q⟩
  item := by
    intro X hP hw hK hc i pins s σ H E I hf st hg
    subst hP hw hK
    obtain ⟨⟨old, he⟩, hit⟩ := st
    obtain ⟨xs, x, hq, hx⟩ := hg
    obtain ⟨its, rv, p, hz⟩ := I.tuple hq
    obtain ⟨u, hu, ru⟩ := rv.get hx
    have p' : s.heap.IsTuple a its.toArray := p
    have hei : e ≠ it := fun z => by
      obtain ⟨o, ho, hc', _⟩ := hit
      rw [← z, he] at ho
      cases ho
      exact absurd (Value.type.inj hc') (by decide)
    have hai : a ≠ it := fun z => by
      obtain ⟨o, ho, hc', _⟩ := hit
      obtain ⟨o2, ho2, hc2, _⟩ := p'
      rw [z, ho] at ho2
      cases ho2
      rw [hc'] at hc2
      exact absurd (Value.type.inj hc2) (by decide)
    have hae : e ≠ a := fun z => by
      obtain ⟨o2, ho2, hc2, _⟩ := p'
      rw [← z, he] at ho2
      cases ho2
      exact absurd (Value.type.inj hc2) (by decide)
    have W := GoesN.ofWalksT (elts := elts) (k := kk) (pos := tpos) (WalksT.enumerateD (A := X.A) (Draws.tuple (prog := X.prog) (w := X.w) (A := X.A.in1) (I.ok.hd hc) it a hai its.toArray) e hei (by simp [hei, hae]) (by simp))
    have hi : i < its.toArray.size := by
      have := (List.getElem?_eq_some_iff.mp hu).1
      simpa using this
    refine W.goes i s _ E hi ⟨⟨old, he⟩, hit, p'⟩ fun v h' tk hY st' hk htk => ?_
    obtain ⟨T, vals, rfl, hT0, ⟨t, y, hy, rfl⟩, hT⟩ := hY
    obtain ⟨⟨old', he'⟩, hit', _⟩ := st'
    have ey : y = u := by
      have h1 : its[i]? = some y := by simpa using hy
      rw [hu] at h1
      exact (Option.some.inj h1).symm
    subst ey
    have new : ObjOk X.prog X.w (upd H T (.tup [.int (i : Nat), x])) h' T (.tup [.int (i : Nat), x]) :=
      ⟨by show 2 ≤ sizeLine; decide, [.int i t, y], .cons ⟨_, rfl⟩ (.cons ru .nil), hT⟩
    have hn : H T = none := I.hok.fresh hT0
    have I1 : Inv X pins σ (upd H T (.tup [.int (i : Nat), x])) { s with heap := h', toks := tk } := I.turnedNew (ch := [e, it]) (fun b ob hb q => hk b ob hb q) hf hT0 new
    refine ⟨.ref T, _, I1, rfl, ⟨T, x, rfl, hn, rfl, fun ys hy => by rw [I.tuple_inj hy hq]; exact hx⟩, ⟨⟨old', by simpa using he'⟩, hit'⟩, fun b hb => ?_⟩
    have nb : b ≠ T := fun z => by
      have e' : b = e ∨ b = it := by simpa using hb
      rcases e' with q | q
      · rw [← z, q] at hT0
        exact absurd (Heap.lt_size he) (Nat.not_lt.mpr hT0)
      · obtain ⟨o, ho, _⟩ := hit
        rw [← z, q] at hT0
        exact absurd (Heap.lt_size ho) (Nat.not_lt.mpr hT0)
    rw [upd_ne nb]
    exact (hf b hb).1
  done := by
    intro X hP hw hK hc i pins s σ H E I hf st hg
    subst hP hw hK
    obtain ⟨⟨old, he⟩, hit⟩ := st
    obtain ⟨xs, hq, hx⟩ := hg
    obtain ⟨its, rv, p, hz⟩ := I.tuple hq
    have p' : s.heap.IsTuple a its.toArray := p
    have hei : e ≠ it := fun z => by
      obtain ⟨o, ho, hc', _⟩ := hit
      rw [← z, he] at ho
      cases ho
      exact absurd (Value.type.inj hc') (by decide)
    have hai : a ≠ it := fun z => by
      obtain ⟨o, ho, hc', _⟩ := hit
      obtain ⟨o2, ho2, hc2, _⟩ := p'
      rw [z, ho] at ho2
      cases ho2
      rw [hc'] at hc2
      exact absurd (Value.type.inj hc2) (by decide)
    have hae : e ≠ a := fun z => by
      obtain ⟨o2, ho2, hc2, _⟩ := p'
      rw [← z, he] at ho2
      cases ho2
      exact absurd (Value.type.inj hc2) (by decide)
    have hn : i = its.toArray.size := by rw [List.size_toArray, ← rv.length]; exact hx.symm
    subst hn
    obtain ⟨f0, f1, f2, f3, f4, f5⟩ := hf it (by simp)
    exact wpAny_pyNext_enum_endD (Draws.tuple (prog := X.prog) (w := X.w) (A := X.A.in1) (I.ok.hd hc) it a hai its.toArray) he ⟨hit, p'⟩ fun h' eb => ⟨rfl, I.turned (t' := s.toks) (fun b o hb q => eb b o hb q) f0 f1 f3 f4 f5⟩
  self := fun A i s Q E st h => let ⟨⟨_, he⟩, _⟩ := st; wpAny_pyIter_enum he h
def iEnumT (K : PySem.W.Frag) (ta : TA) : TI := fun σ H R => ta σ H fun vs H1 => ∃ a xs, vs = [.ref a] ∧ ((SqL K H1 a xs ∧ R (Ite K a) H1) ∨ (SqT K H1 a xs ∧ R (Itet K a) H1))
/-- enumerate(x), x a list or a tuple -/
theorem pi_enumT {X : Cx} {e : Expr} {ta : TA} {p pos tpos : Pos} {elts : List Expr} {kk : Nat} (hg : Gl X "enumerate") (hm : X.mg "enumerate" = none) (ha : PA X [e] ta) (hs : starEach [e] X.env = [(false, eval e X.env)] := by rfl) :
    PI X (.Tuple elts kk tpos) (.Call (.Name "enumerate" p) [e] [] pos) (iEnumT X.K ta) := by
  refine ⟨fun pins s σ H R I h => ?_⟩
  refine Call_ (ld_blt I hg hm boot_enumerate (PyProof.Rows.callWith_type1 (thn (ha.run pos pins s σ H _ I h) fun us s1 ⟨vs, H1, I1, r1, q1⟩ => ?_) hs rfl))
  obtain ⟨a, xs, ex, q1⟩ := q1
  subst ex
  cases r1 with
  | cons r rr =>
    cases rr
    cases r
    have hfp : ∀ b ∈ [s1.heap.objs.size + 1, s1.heap.objs.size], s1.heap.objs.size ≤ b := fun b hb => by
      have e' : b = s1.heap.objs.size + 1 ∨ b = s1.heap.objs.size := by simpa using hb
      rcases e' with z | z
      · rw [z]; exact Nat.le_add_right _ _
      · rw [z]; exact Nat.le_refl _
    rcases q1 with ⟨hq, q⟩ | ⟨hq, q⟩
    · obtain ⟨its, rv, p', hz⟩ := I1.list hq
      refine call_enumerate_list p'.isList fun h' he hit hsz hk => wpAny_pyIter_enum he ?_
      have I2 : Inv X pins σ H1 { s1 with heap := h' } := I1.kept (t' := s1.toks) hk
      exact ⟨s1.heap.objs.size + 1, [s1.heap.objs.size + 1, s1.heap.objs.size], _, _, H1, rfl, I2, turn_enum a (s1.heap.objs.size + 1) s1.heap.objs.size, ⟨⟨.none, he⟩, hit, Nat.succ_ne_self _⟩, fun b hb => I1.fpOk (hfp b hb) (I1.hok.fresh (hfp b hb)), q⟩
    · obtain ⟨its, rv, p', hz⟩ := I1.tuple hq
      refine UL_enum_begins1 (begins_tuple a its.toArray) p' fun h' he hit hsz hk => wpAny_pyIter_enum he ?_
      have I2 : Inv X pins σ H1 { s1 with heap := h' } := I1.kept (t' := s1.toks) hk
      exact ⟨s1.heap.objs.size + 1, [s1.heap.objs.size + 1, s1.heap.objs.size], _, _, H1, rfl, I2, turn_enumT a (s1.heap.objs.size + 1) s1.heap.objs.size, ⟨⟨.none, he⟩, ⟨_, hit, rfl, rfl⟩⟩, fun b hb => I1.fpOk (hfp b hb) (I1.hok.fresh (hfp b hb)), q⟩
/-- the walk of such a loop: the pairs are new -/
theorem for_enumT {K : PySem.W.Frag} {a : Addr} {xs : List V} {g : TG} {tb : TS} {D : Ends} {σ : L2.St} {H : Hp} (Pv : Nat → L2.St → Hp → Prop) (h0 : Pv 0 σ H) (hl : ∀ i σ H, i ≤ xs.length → Pv i σ H → SqT K H a xs)
    (hs : ∀ i x σ H T, xs[i]? = some x → Pv i σ H → H T = none → g (.ref T) σ (upd H T (.tup [.int (i : Nat), x])) fun σ2 H2 => tb { D with nx := Pv (i + 1), ct := Pv (i + 1), bk := D.nx } σ2 H2) (hd : ∀ σ H, Pv xs.length σ H → D.nx σ H) :
    ∃ W : Nat → Nat → L2.St → Hp → Prop, (∃ m, W 0 m σ H) ∧ ∀ i m σ H, W i m σ H →
      ((Itet K a).stop i H ∧ D.nx σ H) ∨ ((Itet K a).go i H ∧ ∃ N : L2.St → Hp → Prop, (∀ σ' H', N σ' H' → ∃ m', m' < m ∧ W (i + 1) m' σ' H') ∧ ∀ x H', (Itet K a).yld i H x H' → g x σ H' fun σ2 H2 => tb { D with nx := N, ct := N, bk := D.nx } σ2 H2) := by
  refine ⟨fun i m σ H => m = xs.length - i ∧ i ≤ xs.length ∧ Pv i σ H, ⟨xs.length, by simp, Nat.zero_le _, h0⟩, ?_⟩
  rintro i m σ H ⟨rfl, hi, p⟩
  have q := hl i σ H hi p
  by_cases hlt : i < xs.length
  · refine .inr ⟨⟨xs, xs[i], q, by simp [hlt]⟩, Pv (i + 1), fun σ' H' p' => ⟨xs.length - (i + 1), by omega, rfl, hlt, p'⟩, fun v H' y => ?_⟩
    obtain ⟨T, x, rfl, hT, rfl, hy⟩ := y
    exact hs i x σ H T (hy xs q) p hT
  · have e : i = xs.length := by omega
    subst e
    exact .inl ⟨⟨xs, q, rfl⟩, hd σ H p⟩
/-- the same over a list -/
theorem for_enumL {K : PySem.W.Frag} {a : Addr} {xs : List V} {g : TG} {tb : TS} {D : Ends} {σ : L2.St} {H : Hp} (Pv : Nat → L2.St → Hp → Prop) (h0 : Pv 0 σ H) (hl : ∀ i σ H, i ≤ xs.length → Pv i σ H → SqL K H a xs)
    (hs : ∀ i x σ H T, xs[i]? = some x → Pv i σ H → H T = none → g (.ref T) σ (upd H T (.tup [.int (i : Nat), x])) fun σ2 H2 => tb { D with nx := Pv (i + 1), ct := Pv (i + 1), bk := D.nx } σ2 H2) (hd : ∀ σ H, Pv xs.length σ H → D.nx σ H) :
    ∃ W : Nat → Nat → L2.St → Hp → Prop, (∃ m, W 0 m σ H) ∧ ∀ i m σ H, W i m σ H →
      ((Ite K a).stop i H ∧ D.nx σ H) ∨ ((Ite K a).go i H ∧ ∃ N : L2.St → Hp → Prop, (∀ σ' H', N σ' H' → ∃ m', m' < m ∧ W (i + 1) m' σ' H') ∧ ∀ x H', (Ite K a).yld i H x H' → g x σ H' fun σ2 H2 => tb { D with nx := N, ct := N, bk := D.nx } σ2 H2) := by
  refine ⟨fun i m σ H => m = xs.length - i ∧ i ≤ xs.length ∧ Pv i σ H, ⟨xs.length, by simp, Nat.zero_le _, h0⟩, ?_⟩
  rintro i m σ H ⟨rfl, hi, p⟩
  have q := hl i σ H hi p
  by_cases hlt : i < xs.length
  · refine .inr ⟨⟨xs, xs[i], q, by simp [hlt]⟩, Pv (i + 1), fun σ' H' p' => ⟨xs.length - (i + 1), by omega, rfl, hlt, p'⟩, fun v H' y => ?_⟩
    obtain ⟨T, x, rfl, hT, rfl, hy⟩ := y
    exact hs i x σ H T (hy xs q) p hT
  · have e : i = xs.length := by omega
    subst e
    exact .inl ⟨⟨xs, q, Nat.le_refl _⟩, hd σ H p⟩
end UL
set_option Elab.async false
set_option linter.all false
set_option maxRecDepth 100000
set_option maxHeartbeats 4000000
namespace UL
open PySem PySem.Spec PyProof.Rows L2
open PySem.W (Looks Frag findIn clsIn InstAt)
/-! ### own + -/
section
variable {prog : Program} {w : World} {A : Around} {E : Value → Shared → Prop} {s : Shared} {K : Frag} {x C D f : Addr} {ox : Obj} {od : Option Obj}
/-- a class of its own that says nothing of the operator -/
theorem fillsNo {M : Model} {h : Heap} {nm : String} {cd : ClassData} (X : K.In h) (hc : clsIn K C = some cd) (hm : cd.mro = [.ref C, .type "object"]) (h1 : findIn K (.ref C) (PySem.dunder nm) = some none) (h2 : findIn K (.ref C) (dunderR nm) = some none)
    (o1 : findIn K (.type "object") (PySem.dunder nm) = some none) (o2 : findIn K (.type "object") (dunderR nm) = some none) : Looks M h (fillsNumberSlot (.ref C) nm) false := by
  intro A Q E s k q
  unfold fillsNumberSlot
  refine wpAny_bind ((PySem.W.looks_clsIn X hc).andThen (f := fun cd => pure cd.mro) .now A _ E s k ?_)
  rw [hm, List.anyM_cons]
  refine wpAny_bind ?_
  show wpAny M A (List.anyM _ [PySem.dunder nm, dunderR nm]) _ _ _
  rw [List.anyM_cons]
  refine wpAny_bind (wpAny_bind (PySem.W.looks_findIn X h1 A _ E s k ?_))
  dsimp only
  refine wpAny_pure ?_
  rw [if_neg Bool.false_ne_true, List.anyM_cons]
  refine wpAny_bind (wpAny_bind (PySem.W.looks_findIn X h2 A _ E s k ?_))
  dsimp only
  refine wpAny_pure ?_
  rw [if_neg Bool.false_ne_true]
  show wpAny M A (pure false) _ _ _
  refine wpAny_pure ?_
  rw [if_neg Bool.false_ne_true, List.anyM_cons]
  refine wpAny_bind ?_
  refine wpAny_bind (PySem.W.looks_findIn X o1 A _ E s k ?_)
  refine wpAny_bind (PySem.W.looks_findIn X o2 A _ E s k ?_)
  refine wpAny_pure ?_
  show wpAny M A (if (false : Bool) = true then _ else _) _ _ _
  rw [if_neg Bool.false_ne_true]
  exact wpAny_pure q
theorem fillsI_no {M : Model} {h : Heap} {nm : String} {add : Bool} {cd : ClassData} (X : K.In h) (hc : clsIn K C = some cd) (hm : cd.mro = [.ref C, .type "object"]) (h1 : findIn K (.ref C) (dunderI nm) = some none)
    (o1 : findIn K (.type "object") (dunderI nm) = some none) : Looks M h (fillsInplaceSlot (.ref C) nm add) false := by
  intro A Q E s k q
  unfold fillsInplaceSlot
  refine wpAny_bind ((PySem.W.looks_clsIn X hc).andThen (f := fun cd => pure cd.mro) .now A _ E s k ?_)
  rw [hm, List.anyM_cons]
  refine wpAny_bind (wpAny_bind (PySem.W.looks_findIn X h1 A _ E s k ?_))
  dsimp only
  refine wpAny_pure ?_
  rw [if_neg Bool.false_ne_true, List.anyM_cons]
  refine wpAny_bind (wpAny_bind (PySem.W.looks_findIn X o1 A _ E s k ?_))
  dsimp only
  refine wpAny_pure ?_
  rw [if_neg Bool.false_ne_true]
  exact wpAny_pure q
/-- what the right one must be: of the same class, or of one without the operator -/
structure OpCls (K : Frag) (C : Addr) (nm : String) : Prop where
  sf : PySem.W.selfFirst K C = true
  no : ∃ cd, clsIn K C = some cd ∧ cd.mro = [.ref C, .type "object"]
structure NoOp (K : Frag) (D : Addr) (nm : String) : Prop where
  no : ∃ cd, clsIn K D = some cd ∧ cd.mro = [.ref D, .type "object"]
  h1 : findIn K (.ref D) (PySem.dunder nm) = some none
  h2 : findIn K (.ref D) (dunderR nm) = some none
  o1 : findIn K (.type "object") (PySem.dunder nm) = some none
  o2 : findIn K (.type "object") (dunderR nm) = some none
theorem bin1_own {nm : String} {b : Value} {tb : Value} {Q : Option Value → Shared → Prop} (X : K.In s.heap) (I : InstAt s.heap x ox C od) (hb : Looks (model prog w) s.heap (typeOf b) tb) (hc : PySem.W.selfFirst K C = true)
    (hr : tb = .ref C ∨ ∃ D, tb = .ref D ∧ NoOp K D nm) (hs : findIn K (.ref C) (PySem.dunder nm) = some (some (.ref f))) (hf : PySem.W.isFn K (.ref f) = true)
    (h : wpAny (model prog w) A (call (.ref f) [.ref x, b]) (PySem.W.CmpBack fun v => Q (some v)) E s) : wpAny (model prog w) A (binaryOp1 nm (.ref x) b) Q E s := by
  obtain ⟨cd, rest, hcd, hm⟩ := PySem.W.ksp_first hc
  have one := PySem.W.ksp_try X I hs hf h
  have hfill := PySem.W.fills_K (M := model prog w) (nm := nm) X hcd hm hs
  have fin : ∀ {v' : Value} {s' : Shared}, Q (some v') s' → wpAny (model prog w) A (pure (some v')) Q E s' := fun q => wpAny_pure q
  unfold binaryOp1
  refine wpAny_bind (I.type.here (wpAny_bind (hb.here (wpAny_bind (hfill.here ?_)))))
  have tail : wpAny (model prog w) A (tryMethod (.ref x) (PySem.dunder nm) b) (fun r s' => ∃ v, r = some v ∧ Q (some v) s') E s := one
  by_cases e : tb = .ref C
  · subst e
    simp only [beq_self_eq_true, if_true]
    refine wpAny_bind (wpAny_pure ?_)
    simp only [Bool.and_false, Bool.false_eq_true, if_false, Bool.false_and]
    refine wpAny_bind (wpAny_pure ?_)
    simp only [Bool.false_eq_true, if_false]
    refine wpAny_bind (m := tryMethod (.ref x) _ b) (wpAny_mono tail (fun r s' ⟨v, hv, q⟩ => ?_) fun _ _ e => e)
    subst hv
    exact wpAny_pure q
  · rcases hr with e' | ⟨D, rfl, nd⟩
    · exact absurd e' e
    · have hne : (Value.ref C == Value.ref D) = false := Bool.eq_false_iff.mpr fun q => e (beq_iff_eq.mp q).symm
      obtain ⟨cd', hc', hm'⟩ := nd.no
      simp only [hne, Bool.false_eq_true, if_false]
      refine wpAny_bind ((fillsNo X hc' hm' nd.h1 nd.h2 nd.o1 nd.o2).here ?_)
      simp only [Bool.and_false, Bool.false_eq_true, if_false, Bool.false_and]
      refine wpAny_bind (wpAny_pure ?_)
      simp only [Bool.false_eq_true, if_false]
      refine wpAny_bind (m := tryMethod (.ref x) _ b) (wpAny_mono tail (fun r s' ⟨v, hv, q⟩ => ?_) fun _ _ e => e)
      subst hv
      exact wpAny_pure q
theorem du_add : PySem.dunder "add" = ("__add__" : Str) := by decide +kernel
theorem di_add : dunderI "add" = ("__iadd__" : Str) := by decide +kernel
theorem binop_own {b tb : Value} {Q : Value → Shared → Prop} (X : K.In s.heap) (I : InstAt s.heap x ox C od) (hb : Looks (model prog w) s.heap (typeOf b) tb) (hc : PySem.W.selfFirst K C = true)
    (hr : tb = .ref C ∨ ∃ D, tb = .ref D ∧ NoOp K D "add") (hs : findIn K (.ref C) "__add__" = some (some (.ref f))) (hf : PySem.W.isFn K (.ref f) = true)
    (h : wpAny (model prog w) A (call (.ref f) [.ref x, b]) (PySem.W.CmpBack Q) E s) : wpAny (model prog w) A (binaryOp .Add (.ref x) b) Q E s := by
  unfold binaryOp
  refine wpAny_holding (wpAny_bind (bin1_own (nm := "add") X I hb hc hr (by rw [du_add]; exact hs) hf (wpAny_mono h (fun v s' z => ?_) fun _ _ e => e)))
  cases v <;> first | exact z.elim | exact wpAny_pure z
theorem inop_own {b tb : Value} {Q : Value → Shared → Prop} (X : K.In s.heap) (I : InstAt s.heap x ox C od) (hb : Looks (model prog w) s.heap (typeOf b) tb) (hc : PySem.W.selfFirst K C = true) {cd : ClassData} (hcd : clsIn K C = some cd) (hm : cd.mro = [.ref C, .type "object"])
    (hi : findIn K (.ref C) "__iadd__" = some none) (oi : findIn K (.type "object") "__iadd__" = some none)
    (hr : tb = .ref C ∨ ∃ D, tb = .ref D ∧ NoOp K D "add") (hs : findIn K (.ref C) "__add__" = some (some (.ref f))) (hf : PySem.W.isFn K (.ref f) = true)
    (h : wpAny (model prog w) A (call (.ref f) [.ref x, b]) (PySem.W.CmpBack Q) E s) : wpAny (model prog w) A (inplaceOp .Add (.ref x) b) Q E s := by
  unfold inplaceOp
  refine wpAny_holding (wpAny_bind (I.type.here (wpAny_bind ((fillsI_no (nm := "add") X hcd hm (by rw [di_add]; exact hi) (by rw [di_add]; exact oi)).here ?_))))
  simp only [Bool.false_eq_true, if_false]
  refine wpAny_bind (bin1_own (nm := "add") X I hb hc hr (by rw [du_add]; exact hs) hf (wpAny_mono h (fun v s' z => ?_) fun _ _ e => e))
  cases v <;> first | exact z.elim | exact wpAny_pure z
end
/-! ### as rules -/
section
variable {X : Cx} {CX : CXT} {C g : Addr} {n : Nat} {sp : Sp} {E : XK}
/-- x + y by the def at g -/
def rOpO (K : PySem.W.Frag) (C : Addr) (nm : String) (sp : Sp) (E : XK) : R2 := fun x y H Q => ∃ (a dx : Addr) (fs : List (Str × V)) (t : Value), x = .ref a ∧ H a = some (.ins C dx fs) ∧ TyX K H y t ∧ (t = .ref C ∨ ∃ D, t = .ref D ∧ NoOp K D nm) ∧ sp [x, y] H Q E
theorem op_addO (hc : PySem.W.selfFirst X.K C = true) (hs : PySem.W.findIn X.K (.ref C) "__add__" = some (some (.ref g))) (hf : PySem.W.isFn X.K (.ref g) = true) (F : FnR X.prog X.w X.K X.mg X.base CX n g sp) (hr : Room n X.A) (hx : Passes CX X E) :
    OpR X (binaryOp .Add) (rOpO X.K C "add" sp E) := by
  intro pins s σ H x y v u Q I rx ry h
  obtain ⟨a, dx, fs, t, rfl, ha, ty, hn, q⟩ := h
  cases (show v = Value.ref a from rx)
  obtain ⟨mA, O, _⟩ := ins_get I.hok ha
  obtain ⟨od, J, _⟩ := O.look
  obtain ⟨Pk, Z, pk, _⟩ := kit_of I ry ty
  refine binop_own I.kIn J (Z.ty _ _ I.kIn pk) hc hn hs hf ?_
  refine wpAny_mono (wpAny_call (run_fnR (us := [.ref a, u]) (vs := [.ref a, y]) F hr hx I (.cons rfl (.cons ry .nil)) q)) (fun r s' z => ?_) fun _ _ e => e
  obtain ⟨z', H', I', rz, qz⟩ := z
  exact SlX.cmpback rz ⟨z', H', I', rz, qz⟩
theorem iop_addO (hc : PySem.W.selfFirst X.K C = true) (ho : ∃ cd, clsIn X.K C = some cd ∧ cd.mro = [.ref C, .type "object"]) (hi : findIn X.K (.ref C) "__iadd__" = some none) (oi : findIn X.K (.type "object") "__iadd__" = some none)
    (hs : PySem.W.findIn X.K (.ref C) "__add__" = some (some (.ref g))) (hf : PySem.W.isFn X.K (.ref g) = true) (F : FnR X.prog X.w X.K X.mg X.base CX n g sp) (hr : Room n X.A) (hx : Passes CX X E) :
    OpR X (inplaceOp .Add) (rOpO X.K C "add" sp E) := by
  intro pins s σ H x y v u Q I rx ry h
  obtain ⟨a, dx, fs, t, rfl, ha, ty, hn, q⟩ := h
  cases (show v = Value.ref a from rx)
  obtain ⟨cd, hcd, hm⟩ := ho
  obtain ⟨mA, O, _⟩ := ins_get I.hok ha
  obtain ⟨od, J, _⟩ := O.look
  obtain ⟨Pk, Z, pk, _⟩ := kit_of I ry ty
  refine inop_own I.kIn J (Z.ty _ _ I.kIn pk) hc hcd hm hi oi hn hs hf ?_
  refine wpAny_mono (wpAny_call (run_fnR (us := [.ref a, u]) (vs := [.ref a, y]) F hr hx I (.cons rfl (.cons ry .nil)) q)) (fun r s' z => ?_) fun _ _ e => e
  obtain ⟨z', H', I', rz, qz⟩ := z
  exact SlX.cmpback rz ⟨z', H', I', rz, qz⟩
/-- len(x) by the def at g -/
def rLenI (C : Addr) (sp : Sp) (E : XK) : List V → Hp → VK → Prop := fun xs H Q => ∃ (a dx : Addr) (fs : List (Str × V)), xs = [.ref a] ∧ H a = some (.ins C dx fs) ∧ sp [.ref a] H (fun z H' => ∃ i : Int, z = .int i ∧ 0 ≤ i ∧ i < 2 ^ 63 ∧ Q z H') E
theorem call_lenI (hs : PySem.W.findIn X.K (.ref C) "__len__" = some (some (.ref g))) (hf : PySem.W.isFn X.K (.ref g) = true) (F : FnR X.prog X.w X.K X.mg X.base CX n g sp) (hr : Room (n + 1) X.A) (hx : Passes CX X E) :
    CallR X (.builtin "len") (rLenI C sp E) := by
  intro pins s σ H xs us Q I r h
  obtain ⟨a, dx, fs, rfl, ha, q⟩ := h
  obtain ⟨u, rfl, ru⟩ := vals1 r
  cases (show u = Value.ref a from ru)
  obtain ⟨mA, O, _⟩ := ins_get I.hok ha
  obtain ⟨od, J, _⟩ := O.look
  obtain ⟨m, hF⟩ := I.fr
  refine PySem.W.len_K hF I.ok.mod.kin J hs hf (wpAny_mono (wpAny_call (SlX.run_at (us := [.ref a]) (ws := [.ref a]) F hr.in1 I.env0.in1 hx I (.cons rfl .nil) q)) (fun w s' z => ?_) fun _ _ e => e)
  obtain ⟨z', H', I', rz, i, ei, h0, h1, qz⟩ := z
  subst ei
  obtain ⟨t, rfl⟩ := (show ∃ t, w = Value.int i t from rz)
  exact ⟨⟨h0, h1⟩, .int i, H', I'.tok _, ⟨_, rfl⟩, qz⟩
end
end UL
set_option Elab.async false
set_option linter.all false
set_option maxRecDepth 100000
set_option maxHeartbeats 4000000
namespace UL
open PySem PySem.Spec PyProof.Rows L2
/-! ### an instance called with keywords -/
theorem callO_ofK {M : Model} {A : Around} {E : Value → Shared → Prop} {s : Shared} {a : Addr} {pos : Pos} {Q : Value → Shared → Prop} {args : List (Bool × Sem Value)} {keywords : List (Option Str × Sem Value)} (hplain : (args.any (·.1) || keywords.any (·.1.isNone)) = false)
    (h : wpAny M A (evalArgs (.ref a) true args keywords) (fun z s₁ => (∃ C ox od, PySem.W.InstAt s₁.heap a ox C od ∧ ox.data = .plain) ∧ wpAny M A (call (.ref a) ([] ++ z.pos) z.kw) Q E s₁) E s) : wpAny M A (callWith pos (.ref a) [] args keywords) Q E s := by
  unfold callWith
  refine wpAny_bind (wpAny_holding (wpAny_mono h (fun z s₁ h₁ => wpAny_bind (wpAny_standAt ?_)) fun _ _ y => y))
  obtain ⟨⟨C, ox, od, J, hd⟩, h₁⟩ := h₁
  have L := PySem.W.kco_keeper (M := M) J hd
  simp only [hplain]
  refine wpAny_bind (L.here ?_)
  have tail : ∀ {t : Sem Value}, wpAny M A t Q E s₁ → wpAny M A (t >>= fun r => holding [r] point >>= fun _ => pure r) Q E s₁ :=
    fun ht => wpAny_bind (wpAny_mono ht (fun r s₂ hr => wpAny_bind (wpAny_holding (wpAny_point (wpAny_pure hr)))) fun _ _ y => y)
  exact tail (wpAny_operateT h₁)
section
variable {X : Cx} {CX : CXT} {C g : Addr} {k : Nat} {fd : FuncData} {ps ks : List Str} {gg : List Value → List Value → List Value} {gV : List V → List V → List V} {sp : Sp} {E : XK} {fe : Expr} {kws : List Keyword} {pos : Pos} {tf : TE} {tk : TA}
def tCallOK (C : Addr) (n : Nat) (gV : List V → List V → List V) (sp : Sp) (E : XK) (tf : TE) (tk : TA) : TE := fun σ H Q => tf σ H fun y H1 => ∃ a, y = V.ref a ∧ tk σ H1 fun zs H2 => (∃ dx fs, H2 a = some (.ins C dx fs)) ∧ zs.length = n ∧ sp (gV [V.ref a] zs) H2 Q E
theorem pe_callOK (hf : PE X fe tf) (c : StX.CallO X.K C g) (F : FnOk X.prog X.w X.K X.mg X.base CX k g fd ps sp) (hb : KBn X.K fd ps 1 ks gg gV) (hr : Room k X.A) (hx : Passes CX X E) (hkw : PK X kws tk)
    (hall : (backToKw pos (keywordEach kws X.env)).all (·.1.isSome) = true := by rfl) (hks : (backToKw pos (keywordEach kws X.env)).filterMap (·.1) = ks := by rfl)
    (ht : eval (.Call fe [] kws pos) X.env = (do callWith pos (← eval fe X.env) [] (backTo pos (starEach [] X.env)) (backToKw pos (keywordEach kws X.env))) := by rfl)
    (hpl : ((backTo pos (starEach [] X.env)).any (·.1) || (backToKw pos (keywordEach kws X.env)).any (·.1.isNone)) = false := by rfl) : PE X (.Call fe [] kws pos) (tCallOK C ks.length gV sp E tf tk) := by
  refine ⟨fun pins s σ H Q I h => ?_⟩
  rw [ht]
  refine wpAny_bind (thn (hf.run pins s σ H _ I h) fun u s1 ⟨y, H1, I1, ry, a, ey, q⟩ => ?_)
  subst ey
  obtain rfl : u = Value.ref a := ry
  refine callO_ofK hpl (evalArgs_kw2_nil hall (thn (hkw.run pos pins s1 σ H1 _ I1 q) fun ws s2 ⟨zs, H2, I2, rz, ⟨dx, fs, hi⟩, l, q2⟩ => ?_))
  obtain ⟨ox, od, J, hd⟩ := StX.insC_at I2 (.inr ⟨dx, fs, hi⟩)
  refine ⟨⟨C, ox, od, J, hd⟩, wpAny_call (PySem.W.kco_code I2.kIn J hd c.at_ c.fn c.fi ?_)⟩
  rw [hks]
  have r1 : Vals [V.ref a] [Value.ref a] := .cons rfl .nil
  have r2 := hb.rel r1 rz
  refine codeAny_mono (F.run X.A X.stack s2 H2 ⟨[.ref a], ks.zip ws⟩ (gg [.ref a] ws) (gV [V.ref a] zs) Q E hr I2.env0 (hb.to s2 [.ref a] ws I2.kIn rfl (rz.length.symm.trans l)) r2 q2) fun r s' hq => ?_
  cases r with
  | error e => exact hx pins σ H2 s2 e s' I2 hq
  | ok fl =>
    cases fl with
    | ret u => exact I2.after hq
    | next => exact False.elim hq
    | brk => exact False.elim hq
    | cont => exact False.elim hq
end
end UL
set_option Elab.async false
set_option linter.all false
set_option maxRecDepth 100000
set_option maxHeartbeats 4000000
namespace GQ
open PySem PySem.SeqAt
open AutoSeq1 (wpAny_loadPart')
open MeetsSeq MeetsSeq2 MeetsSeq3 SeqRoads2
section
variable {prog : Program} {w : World} {A : Around} {R : Result → Shared → Prop} {E : Value → Shared → Prop} {s : Shared}
/-- two tuples of any lengths; the items' == may make objects -/
theorem tuple_eqB (l b : Addr) (items items2 : Array Value) (n n2 : Nat) (dd dd2 : Option Addr) (sl sl2 : Array (Option Value)) (e : Nat → Bool) (I : Shared → Prop)
    (turn : ∀ i (h1 : i < items.size) (h2 : i < items2.size) s, I s → wpAny (model prog w) A.in1 (eqBool items[i] items2[i]) (fun r s' => r = e i ∧ I s') (fun e s' => R (.error e) s') s)
    (fin : ∀ s, I s → R (.ok (.ret (.bool ((List.range (min items.size items2.size)).all e && items.size == items2.size)))) s) {s : Shared} (hl1 : s.heap.get? l = some { cls := .type "tuple", dict := dd, data := .seq items n, slots := sl }) (hb1 : s.heap.get? b = some { cls := .type "tuple", dict := dd2, data := .seq items2 n2, slots := sl2 }) (h : I s) :
    wpAny (model prog w) A.in1 (Builtin.«tuple.__eq__» ⟨[.ref l, .ref b], []⟩) (FinOf prog w A R) (fun e s' => R (.error e) s') s := by
  have f2 := AutoSeq1.sub_tuple_tuple
  have hZ : (items.toList.zip items2.toList).length = min items.size items2.size := by simp
  have h0 := h
  obtain ⟨hp, g, d, tk, os⟩ := s
  wp_walk using wpAny_loadPart' hl1, wpAny_loadPart' hb1, wpAny_forIn_list _ (fun rest b s' => b.1 = none ∧ I s' ∧ ∃ i, rest = (items.toList.zip items2.toList).drop i ∧
      (List.range (min items.size items2.size)).all e = ((List.range (min items.size items2.size)).drop i).all e) _
  case turn =>
    rintro ⟨y, x⟩ rest b s' ⟨hb', hI, i, hz, hR⟩
    have hlt : i < (items.toList.zip items2.toList).length := by
      rcases Nat.lt_or_ge i (items.toList.zip items2.toList).length with h' | h'
      · exact h'
      · rw [List.drop_of_length_le h'] at hz; cases hz
    have hm : i < min items.size items2.size := hZ ▸ hlt
    have h1 : i < items.size := Nat.lt_of_lt_of_le hm (Nat.min_le_left _ _)
    have h2 : i < items2.size := Nat.lt_of_lt_of_le hm (Nat.min_le_right _ _)
    rw [List.drop_eq_getElem_cons hlt] at hz
    injection hz with hyx hrest
    have hy : y = items[i] := by have := congrArg Prod.fst hyx; simpa using this
    have hx : x = items2[i] := by have := congrArg Prod.snd hyx; simpa using this
    subst hy hx
    have hd : (List.range (min items.size items2.size)).drop i = i :: (List.range (min items.size items2.size)).drop (i + 1) := by simp [List.drop_eq_getElem_cons, hm]
    rw [hd, List.all_cons] at hR
    refine wpAny_bind (wpAny_mono (turn i h1 h2 s' hI) (fun r s2 q2 => ?_) fun _ _ x => x)
    obtain ⟨hr, q2⟩ := q2
    subst hr
    cases hy : e i with
    | true =>
      rw [hy] at hR
      wp_walk
      exact ⟨rfl, q2, i + 1, hrest, by simpa using hR⟩
    | false =>
      rw [hy] at hR
      have := fin s2 q2
      rw [hR] at this
      wp_walk
      simpa using this
  case fin =>
    rintro ⟨b1, b2⟩ s' ⟨hb', hI, i, hz, hR⟩
    simp only at hb'
    subst hb'
    have hge : min items.size items2.size ≤ i := by
      rcases Nat.lt_or_ge i (items.toList.zip items2.toList).length with h' | h'
      · rw [List.drop_eq_getElem_cons h'] at hz; cases hz
      · exact hZ ▸ h'
    rw [List.drop_of_length_le (by simpa using hge)] at hR
    have := fin s' hI
    rw [hR] at this
    wp_walk
    simpa [Builtin.Tuple.tupleCompareSizes] using this
  case h =>
    exact ⟨rfl, h0, 0, rfl, by simp⟩
theorem rc_tupB {l b : Addr} {items items2 : Array Value} {Q : Value → Shared → Prop} (e : Nat → Bool) (hu : A.units < cLine) (I : Shared → Prop)
    (hl : s.heap.IsTuple l items) (hb : s.heap.IsTuple b items2)
    (turn : ∀ i (h1 : i < items.size) (h2 : i < items2.size) s, I s → wpAny (model prog w) A.in1 (eqBool items[i] items2[i]) (fun r s' => r = e i ∧ I s') E s)
    (fin : ∀ s, I s → Q (.bool ((List.range (min items.size items2.size)).all e && items.size == items2.size)) s) (h : I s) : wpAny (model prog w) A (richCompare .Eq (.ref l) (.ref b)) Q E s := by
  obtain ⟨⟨cls, dd, data, sl⟩, ho, hc, n, hd⟩ := id hl
  obtain ⟨⟨cls2, dd2, data2, sl2⟩, ho2, hc2, n2, hd2⟩ := id hb
  simp only at hc hd hc2 hd2
  subst hc hd hc2 hd2
  refine wpAny_richCompare_same_room (op := .Eq) ⟨_, ho, rfl⟩ ⟨_, ho2, rfl⟩ F.slot_tuple_eq (call_here F.slot_tuple_eq ⟨_, ho, rfl⟩ F.entry_tuple_eq (F.args_tuple_eq_2 _ _) ?_) hu
  exact tuple_eqB (R := wants (fun v s' => v ≠ .notImplemented ∧ Q v s') E) l b items items2 n n2 dd dd2 sl sl2 e I turn (fun s' q => ⟨(fun x => nomatch x), fin s' q⟩) ho ho2 h
end
end GQ
namespace UL
open PySem PySem.Spec PyProof.Rows L2
/-- how two values compare, by the abstract heap -/
abbrev Eqb := V → V → Bool → Hp → Prop
def MonB (D : Eqb) : Prop := ∀ x y r H H', Ext H H' → D x y r H → D x y r H'
def EqB (X : Cx) (n : Nat) (D : Eqb) : Prop :=
  ∀ (A : Around) (pins : List (Addr × Obj)) (s : Shared) (σ : L2.St) (H : Hp) (x y : V) (r : Bool) (u v : Value), Sub X n A → Inv X pins σ H s → RelV x u → RelV y v → D x y r H →
    wpAny (model X.prog X.w) A (eqBool u v) (fun r' s' => r' = r ∧ ∃ H', Inv X pins σ H' s' ∧ Ext H H') X.xe s
def RcB (X : Cx) (n : Nat) (D : Eqb) : Prop :=
  ∀ (A : Around) (pins : List (Addr × Obj)) (s : Shared) (σ : L2.St) (H : Hp) (x y : V) (r : Bool) (u v : Value), Sub X n A → Inv X pins σ H s → RelV x u → RelV y v → D x y r H →
    wpAny (model X.prog X.w) A (richCompare .Eq u v) (fun r' s' => r' = .bool r ∧ ∃ H', Inv X pins σ H' s' ∧ Ext H H') X.xe s
section
variable {X : Cx} {n m : Nat} {D : Eqb}
def DInsB (C : Addr) (R : Addr → Addr → Bool → Hp → Prop) : Eqb := fun x y r H => ∃ a b dx dy fs gs, x = .ref a ∧ y = .ref b ∧ H a = some (.ins C dx fs) ∧ H b = some (.ins C dy gs) ∧ R a b r H
def spEqB (R : Addr → Addr → Bool → Hp → Prop) : Sp := fun vs H Q _ => ∃ a b r, vs = [.ref a, .ref b] ∧ R a b r H ∧ ∀ H', Ext H H' → Q (.bl r) H'
theorem rcB_ins {CX : CXT} {C f : Addr} {R : Addr → Addr → Bool → Hp → Prop} {E : XK} (F : FnR X.prog X.w X.K X.mg X.base CX n f (spEqB R))
    (hs : PySem.W.findIn X.K (.ref C) "__eq__" = some (some (.ref f))) (hf : PySem.W.isFn X.K (.ref f) = true) (hx : Passes CX X E) : RcB X n (DInsB C R) := by
  intro A pins s σ H x y r u v sb I rx ry d
  obtain ⟨a, b, dx, dy, fs, gs, rfl, rfl, ha, hb', hr⟩ := d
  cases rx
  cases ry
  obtain ⟨mA, J, _⟩ := ins_get I.hok ha
  obtain ⟨mB, J', _⟩ := ins_get I.hok hb'
  obtain ⟨od, J, _⟩ := J.look
  obtain ⟨od', J', _⟩ := J'.look
  obtain ⟨m, hF⟩ := I.fr
  refine PySem.W.cmp_K (op := .Eq) (tb := .ref C) sb.room.units0 hF I.ok.mod.kin J J'.type (by simp [PySem.W.notFirst]) hs hf ?_
  have hsp : spEqB R [.ref a, .ref b] H (fun v H' => v = .bl r ∧ Ext H H') E := ⟨a, b, r, rfl, hr, fun H' e => ⟨rfl, e⟩⟩
  have e0 : Env0 X.prog X.w X.K X.mg X.base A X.stack s H := by
    have e := I.env0
    exact ⟨by rw [sb.fr]; exact e.frames, e.mod, e.bs, e.bsz, e.funs, e.frf, e.hok, e.bare⟩
  have r2 : Vals [V.ref a, V.ref b] [Value.ref a, Value.ref b] := .cons rfl (.cons rfl .nil)
  refine wpAny_call (codeAny_mono (F A X.stack s H [.ref a, .ref b] [.ref a, .ref b] _ E sb.room e0 r2 hsp) fun r' s' hq => ?_)
  cases r' with
  | error e => exact hx pins σ H s e s' I hq
  | ok fl =>
    cases fl with
    | ret w =>
      obtain ⟨z, H', I', rz, ez, ex⟩ := I.after hq
      subst ez
      cases rz
      exact ⟨rfl, H', I', ex⟩
    | next => exact False.elim hq
    | brk => exact False.elim hq
    | cont => exact False.elim hq
theorem RcB.eqB (h : RcB X n D) (hr : ∀ x y r H, D x y r H → ∃ a b, x = .ref a ∧ y = .ref b ∧ (a = b → r = true)) : EqB X n D := by
  intro A pins s σ H x y r u v sb I rx ry d
  obtain ⟨a, b, rfl, rfl, hs⟩ := hr _ _ _ _ d
  cases rx
  cases ry
  by_cases hab : a = b
  · rw [hs hab]
    subst hab
    exact SeqAt.EqAt.same (A := A) (s := s) (.ref a) X.prog X.w X.xe _ ⟨rfl, H, I, Ext.rfl'⟩
  · refine GQ.eqBool_refG hab (wpAny_mono (h A pins s σ H (.ref a) (.ref b) r _ _ sb I rfl rfl d) (fun r' s' q => ?_) fun _ _ x => x)
    obtain ⟨hr', q⟩ := q
    exact ⟨r, hr', rfl, q⟩
/-- two tuples: the i-th items compare as e says -/
def DTupB (K : PySem.W.Frag) (D : Eqb) : Eqb := fun x y r H => ∃ a b xs ys, ∃ e : Nat → Bool, x = .ref a ∧ y = .ref b ∧ SqT K H a xs ∧ SqT K H b ys ∧ (∀ (i : Nat) x y, xs[i]? = some x → ys[i]? = some y → D x y (e i) H) ∧
  r = ((List.range (min xs.length ys.length)).all e && xs.length == ys.length)
theorem rcB_tup (hD : MonB D) (h : EqB X n D) : RcB X (n + 1) (DTupB X.K D) := by
  intro A pins s σ H x y r u v sb I rx ry d
  obtain ⟨a, b, xs, ys, e, rfl, rfl, ha, hb, p, rfl⟩ := d
  cases rx
  cases ry
  obtain ⟨its, r, e1, z⟩ := I.tuple ha
  obtain ⟨its2, r2, e2, z2⟩ := I.tuple hb
  refine GQ.rc_tupB e sb.room.units0 (fun s' => LoopI X pins σ H s') e1 e2 (fun i h1 h2 s' l => ?_) (fun s' q => ⟨?_, q⟩) ⟨H, I, Ext.rfl'⟩
  · obtain ⟨H1, I1, x1⟩ := l
    have g1 : its[i]? = some its.toArray[i] := by
      have h1' : i < its.length := by simpa using h1
      rw [List.getElem?_eq_getElem h1'] <;> simp
    have g2 : its2[i]? = some its2.toArray[i] := by
      have h2' : i < its2.length := by simpa using h2
      rw [List.getElem?_eq_getElem h2'] <;> simp
    have k1 : i < xs.length := by rw [r.length]; simpa using h1
    have k2 : i < ys.length := by rw [r2.length]; simpa using h2
    obtain ⟨u, hu, ru⟩ := r.get (List.getElem?_eq_getElem k1)
    obtain ⟨v, hv, rv⟩ := r2.get (List.getElem?_eq_getElem k2)
    rw [g1] at hu
    rw [g2] at hv
    rw [Option.some.inj hu, Option.some.inj hv]
    refine wpAny_mono (h A.in1 pins s' σ H1 _ _ (e i) u v sb.in1 I1 ru rv (hD _ _ _ _ _ x1 (p i _ _ (List.getElem?_eq_getElem k1) (List.getElem?_eq_getElem k2)))) (fun r s2 q => ?_) fun _ _ x => x
    obtain ⟨hr, H2, I2, x2⟩ := q
    exact ⟨hr, H2, I2, x1.trans x2⟩
  · rw [List.size_toArray, List.size_toArray, ← r.length, ← r2.length]
theorem op_eqB (h : RcB X n D) (hr : Room n X.A) : OpR X (compareOp .Eq) (fun x y H Q => ∃ r, D x y r H ∧ ∀ H', Ext H H' → Q (.bl r) H') := by
  intro pins s σ H x y v u Q I rx ry hq
  obtain ⟨r, d, q⟩ := hq
  show wpAny (model X.prog X.w) X.A (richCompare .Eq v u) (EP X pins σ Q) X.xe s
  refine wpAny_mono (h X.A pins s σ H x y r v u ⟨hr, rfl⟩ I rx ry d) (fun r' s' z => ?_) fun _ _ x => x
  obtain ⟨hr', H', I', e⟩ := z
  subst hr'
  exact ⟨.bl r, H', I', rfl, q H' e⟩
end
end UL
set_option Elab.async false
set_option linter.all false
set_option maxRecDepth 100000
set_option maxHeartbeats 4000000
namespace UL
open PySem PySem.Spec PyProof.Rows L2
section
variable (P : Program) (w : World) (K : PySem.W.Frag) (mg : Str → Option Value) (base : Heap)
/-- the class x, at C, made by a promise of positional values -/
def MakR (k : Nat) (x : Str) (C : Addr) (sp : Sp) : Prop := ∃ f, FnR P w K mg base CX0 k f sp ∧ Mk K C f ∧ mg x = some (.ref C)
/-- an instance of the class at C called -/
def CalO (k : Nat) (C : Addr) (sp : Sp) : Prop := ∃ g, FnR P w K mg base CX0 k g sp ∧ StX.CallO K C g
def CalOK (k : Nat) (C : Addr) (ks : List Str) (gV : List V → List V → List V) (sp : Sp) : Prop := ∃ g fd ps gg, FnOk P w K mg base CX0 k g fd ps sp ∧ StX.CallO K C g ∧ KBn K fd ps 1 ks gg gV
end
section
variable {X : Cx} {k j : Nat} {x : Str} {C : Addr} {sp : Sp} {e fe : Expr} {es : List Expr} {kws : List Keyword} {ks : List Str} {gV : List V → List V → List V} {t tk : TA} {te tf : TE} {p pos sp_ : Pos}
theorem pe_nR (c : MakR X.prog X.w X.K X.mg X.base k x C sp) (hr : Room j X.A) (hk : k + 1 ≤ j) (hg : Gl X x) (ha : PA X (e :: es) t) (hdb : (x == ("__debug__" : Str)) = false := by decide)
    (he : starEach (e :: es) X.env = (false, eval e X.env) :: starEach es X.env := by rfl) (hpl : (backTo pos (starEach es X.env)).any (·.1) = false := by rfl) : PE X (.Call (.Name x p) (e :: es) [] pos) (StX.tMakeR C sp E0 t) := by
  obtain ⟨f, F, M, g⟩ := c
  exact StX.pe_makeR M F (hr.mono hk) hg g pass0 ha hdb he hpl
theorem pe_nR0 (c : MakR X.prog X.w X.K X.mg X.base k x C sp) (hr : Room j X.A) (hk : k + 1 ≤ j) (hg : Gl X x) (hdb : (x == ("__debug__" : Str)) = false := by decide) : PE X (.Call (.Name x p) [] [] pos) (StX.tMakeR C sp E0 tNil) := by
  obtain ⟨f, F, M, g⟩ := c
  refine ⟨fun pins s σ H Q I h => ?_⟩
  refine wpAny_Call_Name_kw (ld_glob I hg g ?_ hdb)
  exact PySem.W.callWith_K0 I.kIn M.kp (StX.run_makeR (us := []) M F (hr.mono hk) pass0 I .nil h)
/-- C(*y) -/
def tMakeS (K : PySem.W.Frag) (C : Addr) (sp : Sp) (E : XK) (te : TE) : TE := fun σ H Q => te σ H fun y H1 => ∃ a xs, y = V.ref a ∧ (SqT K H1 a xs ∨ SqL K H1 a xs) ∧ ∀ x dx, H1 x = none → H1 dx = none → dx ≠ x →
  sp (V.ref x :: xs) (upd (upd H1 dx (.own x)) x (.ins C dx [])) (fun v H2 => v = .non ∧ Q (.ref x) H2) E
theorem pe_nRS (c : MakR X.prog X.w X.K X.mg X.base k x C sp) (hr : Room j X.A) (hk : k + 1 ≤ j) (hg : Gl X x) (he : PE X e te) (hd : (x == ("__debug__" : Str)) = false := by decide)
    (hst : starEach [.Starred e sp_] X.env = [(true, eval e X.env)] := by rfl) : PE X (.Call (.Name x p) [.Starred e sp_] [] pos) (tMakeS X.K C sp E0 te) := by
  obtain ⟨f, F, M, g⟩ := c
  refine ⟨fun pins s σ H Q I h => ?_⟩
  refine wpAny_Call_Name_kw (ld_glob I hg g ?_ hd)
  refine PySem.W.callWith_S (h₀ := X.base) I.ok.mod.kin M.kp (thn (he.run pins s σ H _ I h) fun v s1 ⟨y, H1, I1, ry, a, xs, ey, hxs, q⟩ => ?_) hst
  subst ey
  obtain rfl : v = Value.ref a := ry
  exact StX.star_any I1 hxs fun us s2 I2 rv => ⟨I2.kIn, StX.run_makeR M F (hr.mono hk) pass0 I2 rv q⟩
theorem pe_o (hf : PE X fe tf) (c : CalO X.prog X.w X.K X.mg X.base k C sp) (hr : Room j X.A) (hk : k ≤ j) (ha : PA X (e :: es) t)
    (ht : eval (.Call fe (e :: es) [] pos) X.env = (do callWith pos (← eval fe X.env) [] (backTo pos (starEach (e :: es) X.env)) (backToKw pos (keywordEach [] X.env))) := by rfl)
    (he : starEach (e :: es) X.env = (false, eval e X.env) :: starEach es X.env := by rfl) (hpl : (backTo pos (starEach es X.env)).any (·.1) = false := by rfl) : PE X (.Call fe (e :: es) [] pos) (StX.tCallO X C sp E0 tf t) := by
  obtain ⟨g, F, c⟩ := c
  exact StX.pe_callO hf c F (hr.mono hk) pass0 ha ht he hpl
theorem pe_oK (hf : PE X fe tf) (c : CalOK X.prog X.w X.K X.mg X.base k C ks gV sp) (hr : Room j X.A) (hk : k ≤ j) (hkw : PK X kws tk)
    (hall : (backToKw pos (keywordEach kws X.env)).all (·.1.isSome) = true := by rfl) (hks : (backToKw pos (keywordEach kws X.env)).filterMap (·.1) = ks := by rfl)
    (ht : eval (.Call fe [] kws pos) X.env = (do callWith pos (← eval fe X.env) [] (backTo pos (starEach [] X.env)) (backToKw pos (keywordEach kws X.env))) := by rfl)
    (hpl : ((backTo pos (starEach [] X.env)).any (·.1) || (backToKw pos (keywordEach kws X.env)).any (·.1.isNone)) = false := by rfl) : PE X (.Call fe [] kws pos) (tCallOK C ks.length gV sp E0 tf tk) := by
  obtain ⟨g, fd, ps, gg, F, c, b⟩ := c
  exact pe_callOK hf c F b (hr.mono hk) pass0 hkw hall hks ht hpl
theorem op_addS (c : CalS X.prog X.w X.K X.mg X.base k C "__add__" sp) (hc : PySem.W.selfFirst X.K C = true) (hr : Room j X.A) (hk : k ≤ j) : OpR X (binaryOp .Add) (rOpO X.K C "add" sp E0) := by
  obtain ⟨f, F, h1, h2⟩ := c
  exact op_addO hc h1 h2 F (hr.mono hk) pass0
theorem iop_addS (c : CalS X.prog X.w X.K X.mg X.base k C "__add__" sp) (hc : PySem.W.selfFirst X.K C = true) (ho : ∃ cd, PySem.W.clsIn X.K C = some cd ∧ cd.mro = [.ref C, .type "object"]) (hi : PySem.W.findIn X.K (.ref C) "__iadd__" = some none)
    (oi : PySem.W.findIn X.K (.type "object") "__iadd__" = some none) (hr : Room j X.A) (hk : k ≤ j) : OpR X (inplaceOp .Add) (rOpO X.K C "add" sp E0) := by
  obtain ⟨f, F, h1, h2⟩ := c
  exact iop_addO hc ho hi oi h1 h2 F (hr.mono hk) pass0
theorem call_lenS (c : CalS X.prog X.w X.K X.mg X.base k C "__len__" sp) (hr : Room j X.A) (hk : k + 1 ≤ j) : CallR X (.builtin "len") (rLenI C sp E0) := by
  obtain ⟨f, F, h1, h2⟩ := c
  exact call_lenI h1 h2 F (hr.mono hk) pass0
end
end UL
set_option Elab.async false
set_option linter.all false
set_option maxRecDepth 100000
set_option maxHeartbeats 4000000
namespace UL
open PySem L2
theorem join_len (a : Str) (ys : List Str) : (Txt.join a ys).length ≤ (ys.map (·.length)).sum + ys.length * a.length := by
  cases ys with
  | nil => exact Nat.zero_le _
  | cons y r =>
    show (Array.size _) ≤ _
    show (r.foldl (fun acc p => acc ++ a.cps ++ p.cps) y.cps).size ≤ _
    rw [PySem.size_gluedFold]
    simp only [List.map_cons, List.sum_cons, List.length_cons, Nat.add_mul]
    show y.length + _ + _ ≤ _
    omega
theorem listText_le (ts : List Str) : (listText ts).length ≤ (ts.map fun t => t.length + 2).sum + 2 := by
  cases ts with
  | nil => decide +kernel
  | cons t r =>
    have e : (listText (t :: r)).length = (textFrom 1 (("[" : Str) ++ (if (0 : Nat) > 0 then ", " else "" : String) ++ t) r).length + 1 := by
      show (textFrom 0 "[" (t :: r) ++ ("]" : Str)).length = _
      rw [Str.length_append]
      rfl
    rw [e, textFrom_length_pos _ _ _ (Nat.succ_pos 0)]
    have h1 : (("[" : Str) ++ ((if (0 : Nat) > 0 then ", " else "" : String) : Str) ++ t).length = 1 + t.length := by
      rw [Str.length_append, Str.length_append]
      rfl
    rw [h1]
    show 1 + t.length + (r.map fun t => t.length + 2).sum + 1 ≤ _
    simp only [List.map_cons, List.sum_cons]
    omega
theorem sum_le {α : Type} (f : α → Nat) (k : Nat) : ∀ l : List α, (∀ x ∈ l, f x ≤ k) → (l.map f).sum ≤ l.length * k
  | [], _ => by simp
  | x :: r, h => by
    have h1 := h x List.mem_cons_self
    have h2 := sum_le f k r fun y hy => h y (List.mem_cons_of_mem _ hy)
    simp only [List.map_cons, List.sum_cons, List.length_cons, Nat.add_mul]
    omega
/-! ### rows of bits -/
/-- a bit, None for an unknown one -/
abbrev Bt := Option Bool
def bV : Bt → V
  | none => .non
  | some false => .int 0
  | some true => .int 1
def bD : Bt → PyData
  | none => .none
  | some false => .int 0
  | some true => .int 1
theorem bD_dp {K : PySem.W.Frag} {H : Hp} (b : Bt) : Dp K H (bV b) (bD b) := by
  rcases b with _ | _ | _
  · exact .non
  · exact .int 0
  · exact .int 1
theorem bDs_dp {K : PySem.W.Frag} {H : Hp} : ∀ bs : List Bt, DpAll K H (bs.map bV) (bs.map bD)
  | [] => .nil
  | b :: bs => .cons (bD_dp b) (bDs_dp bs)
theorem shownAll_map : ∀ ds : List PyData, PyData.shownAll ds = ds.map PyData.shown
  | [] => by simp [PyData.shownAll]
  | d :: ds => by simp [PyData.shownAll, shownAll_map ds]
theorem bits_data (bs : List Bt) (h : bs.length ≤ 200) : (PyData.list (bs.map bD)).showable = true ∧ (PyData.list (bs.map bD)).hasDict = false ∧ (PyData.list (bs.map bD)).depth ≤ 40 ∧ (PyData.list (bs.map bD)).shown.length ≤ 4000 := by
  have h1 : ∀ bs : List Bt, PyData.showableAll (bs.map bD) = true := by
    intro bs
    induction bs with
    | nil => simp [PyData.showableAll]
    | cons b bs ih =>
      have : (bD b).showable = true := by rcases b with _ | _ | _ <;> decide +kernel
      simp [PyData.showableAll, ih, this]
  have h2 : ∀ bs : List Bt, PyData.hasDictAll (bs.map bD) = false := by
    intro bs
    induction bs with
    | nil => simp [PyData.hasDictAll]
    | cons b bs ih =>
      have : (bD b).hasDict = false := by rcases b with _ | _ | _ <;> decide +kernel
      simp [PyData.hasDictAll, ih, this]
  refine ⟨by simpa [PyData.showable] using h1 bs, by simpa [PyData.hasDict] using h2 bs, ?_, ?_⟩
  · have := depth_all (k := 0) (ds := bs.map bD) fun d hd => by
      obtain ⟨b, _, rfl⟩ := List.mem_map.mp hd
      rcases b with _ | _ | _ <;> simp [bD, PyData.depth]
    simp only [PyData.depth]
    omega
  · have e : (PyData.list (bs.map bD)).shown = listText (bs.map fun b => (bD b).shown) := by
      simp only [PyData.shown, shownAll_map, List.map_map]
      rfl
    rw [e]
    have h3 := listText_le (bs.map fun b => (bD b).shown)
    have h4 := sum_le (fun t : Str => t.length + 2) 6 (bs.map fun b => (bD b).shown) fun t ht => by
      obtain ⟨b, _, rfl⟩ := List.mem_map.mp ht
      rcases b with _ | _ | _ <;> decide +kernel
    rw [List.length_map] at h4
    omega
end UL
set_option Elab.async false
set_option linter.all false
set_option maxRecDepth 100000
set_option maxHeartbeats 4000000
namespace UL
open PySem PySem.Spec PyProof.Rows L2
def WalkE (J : It) (g : TG) (tb : TS) (D : Ends) (σ : L2.St) (H : Hp) : Prop := ∃ W : Nat → Nat → L2.St → Hp → Prop, (∃ m, W 0 m σ H) ∧ ∀ i m σ H, W i m σ H →
      (J.stop i H ∧ D.nx σ H) ∨ (J.go i H ∧ ∃ N : L2.St → Hp → Prop, (∀ σ' H', N σ' H' → ∃ m', m' < m ∧ W (i + 1) m' σ' H') ∧ ∀ x H', J.yld i H x H' → g x σ H' fun σ2 H2 => tb { D with nx := N, ct := N, bk := D.nx } σ2 H2)
/-- a walk over enumerate of a list or a tuple -/
theorem for_enumB {K : PySem.W.Frag} {a : Addr} {xs : List V} {g : TG} {tb : TS} {D : Ends} {σ : L2.St} {H : Hp} (Pv : Nat → L2.St → Hp → Prop) (h0 : Pv 0 σ H) (hl : (∀ i σ H, Pv i σ H → SqL K H a xs) ∨ ∀ i σ H, Pv i σ H → SqT K H a xs)
    (hs : ∀ i x σ H T, xs[i]? = some x → Pv i σ H → H T = none → g (.ref T) σ (upd H T (.tup [.int (i : Nat), x])) fun σ2 H2 => tb { D with nx := Pv (i + 1), ct := Pv (i + 1), bk := D.nx } σ2 H2) (hd : ∀ σ H, Pv xs.length σ H → D.nx σ H) :
    (SqL K H a xs ∧ WalkE (Ite K a) g tb D σ H) ∨ (SqT K H a xs ∧ WalkE (Itet K a) g tb D σ H) := by
  rcases hl with hl | hl
  · exact .inl ⟨hl 0 σ H h0, for_enumL Pv h0 (fun i σ H _ p => hl i σ H p) hs hd⟩
  · exact .inr ⟨hl 0 σ H h0, for_enumT Pv h0 (fun i σ H _ p => hl i σ H p) hs hd⟩
end UL
set_option Elab.async false
set_option linter.all false
set_option maxRecDepth 100000
set_option maxHeartbeats 4000000
namespace UL
open PySem PySem.Spec PyProof.Rows L2
section
variable {X : Cx} {k j : Nat} {m : Str} {C : Addr} {sp : Sp} {o : Expr} {ta : TE} {pos apos : Pos}
theorem pe_m0 {pl : Sem Bool} (he : PE X o ta) (c : CalM X.prog X.w X.K X.mg X.base k C m sp) (hr : Room j X.A) (hk : k ≤ j)
    (ht : eval (.Call (.Attribute o m apos) [] [] pos) X.env = (do
      let ov ← eval o X.env
      standAt apos.atName
      let (f, first) ← holding [ov] (getMethod ov m pl)
      callWith pos f first (backTo pos (starEach [] X.env)) (backToKw pos (keywordEach [] X.env))) := by rfl) :
    PE X (.Call (.Attribute o m apos) [] [] pos) (tMeth C m sp [] E0 ta tNil) := by
  obtain ⟨f, fd, ps, F, cl, mt, b⟩ := c
  exact pe_meth0 he cl mt F (hr.mono hk) b .nil pass0 ht
end
/-! ### rows of a word and a number, as data -/
theorem eqv_list (ds es : List PyData) : PyData.eqv (.list ds) (.list es) = PyData.eqvAll ds es := by simp only [PyData.eqv]
end UL
set_option Elab.async false
set_option linter.all false
set_option maxRecDepth 100000
set_option maxHeartbeats 4000000
namespace HT
open PySem PySem.Spec PyProof.Rows
theorem rev_pick (xs : Array Value) : ((List.range xs.size).filterMap fun (m : Nat) => xs[(((xs.size : Int) - 1) + (m : Int) * (-1)).toNat]?) = xs.toList.reverse := by
  refine List.ext_getElem? fun i => ?_
  have e : ((List.range xs.size).filterMap fun (m : Nat) => xs[(((xs.size : Int) - 1) + (m : Int) * (-1)).toNat]?) = (List.range xs.size).pmap (fun m (h : m < xs.size) => xs[xs.size - 1 - m]) (fun m hm => List.mem_range.mp hm) := by
    have : ∀ (l : List Nat) (hl : ∀ m ∈ l, m < xs.size), (l.filterMap fun (m : Nat) => xs[(((xs.size : Int) - 1) + (m : Int) * (-1)).toNat]?) = l.pmap (fun m (h : m < xs.size) => xs[xs.size - 1 - m]) hl := by
      intro l
      induction l with
      | nil => intro _; rfl
      | cons m l ih =>
        intro hl
        have hm := hl m List.mem_cons_self
        have e1 : (((xs.size : Int) - 1) + (m : Int) * (-1)).toNat = xs.size - 1 - m := by omega
        rw [List.filterMap_cons, e1, Array.getElem?_eq_getElem (by omega)]
        simp only [List.pmap_cons]
        rw [ih fun k hk => hl k (List.mem_cons_of_mem _ hk)]
    exact this _ _
  rw [e]
  by_cases c : i < xs.size
  · rw [List.getElem?_reverse (by simpa using c)]
    simp [c]
  · rw [List.getElem?_eq_none (by simp; omega), List.getElem?_eq_none (by simp; omega)]
section
variable {prog : Program} {w : World} {A : Around} {E : Value → Shared → Prop} {s : Shared}
theorem sliceApplied_rev {sl : Addr} {vl vu vs : Value} {n : Nat} {Q : Int × Int × Nat → Shared → Prop} (hs : s.heap.IsSliceOf sl vl vu vs) (pl : IsPart vl none) (pu : IsPart vu none) (ps : IsPart vs (some (-1)))
    (h : Q (((n : Int) - 1), -1, n) s) : wpAny (model prog w) A (Builtin.Slice.sliceApplied (.ref sl) (pure (n : Int))) Q E s := by
  obtain ⟨os, hos, hcs, hds⟩ := id hs
  unfold Builtin.Slice.sliceApplied Builtin.Slice.sliceFields
  refine wpAny_bind (wpAny_bind (wpAny_field hos hds (x := vl) rfl (wpAny_bind (wpAny_field hos hds (x := vu) rfl (wpAny_bind (wpAny_field hos hds (x := vs) rfl (wpAny_pure ?_)))))))
  refine wpAny_bind (slicePart_ ps ?_)
  show wpAny _ _ (if ((-1 : Int) == 0) = true then _ else _) _ _ s
  rw [if_neg (by decide)]
  refine wpAny_bind (slicePart_ pl (wpAny_bind (slicePart_ pu (wpAny_bind (wpAny_pure ?_)))))
  have e1 : Builtin.Slice.sliceAdjust none none (-1) (n : Int) = ((n : Int) - 1, -1) := rfl
  have e2 : Builtin.Slice.slicePlaces ((n : Int) - 1) (-1) (-1) = n := by
    unfold Builtin.Slice.slicePlaces
    rw [if_neg (by decide)]
    by_cases c : (n : Int) - 1 > -1
    · rw [if_pos c]
      show ((((n : Int) - 1) - (-1) - 1) / 1 + 1).toNat = n
      rw [Int.ediv_one]
      omega
    · rw [if_neg c]
      omega
  show wpAny _ _ (match Builtin.Slice.sliceAdjust none none (-1) (n : Int) with | (lo, hi) => pure (lo, (-1 : Int), Builtin.Slice.slicePlaces lo hi (-1))) _ _ s
  rw [e1]
  show wpAny _ _ (pure (((n : Int) - 1), (-1 : Int), Builtin.Slice.slicePlaces ((n : Int) - 1) (-1) (-1))) _ _ s
  rw [e2]
  exact wpAny_pure h
theorem getItem_tuple_rev {t sl : Addr} {items : Array Value} {vl vu vs : Value} {Q : Value → Shared → Prop} (ht : IsTup s.heap t items) (hs : s.heap.IsSliceOf sl vl vu vs) (pl : IsPart vl none) (pu : IsPart vu none) (ps : IsPart vs (some (-1)))
    (h : Q (.ref s.heap.objs.size) { s with heap := s.heap.push { cls := .type "tuple", data := .seq items.toList.reverse.toArray } })
    (hsz : items.size ≤ sizeLine) : wpAny (model prog w) A (getItem (.ref t) (.ref sl)) Q E s := by
  have htake : sizeOk (.seq items.toList.reverse.toArray) := by
    show items.toList.reverse.toArray.size ≤ sizeLine
    rw [List.size_toArray, List.length_reverse, Array.length_toList]
    exact hsz
  obtain ⟨os, hos, hcs, hds⟩ := id hs
  have hTs : s.TypeIs (.ref sl) "slice" := ⟨os, hos, hcs⟩
  unfold getItem
  try with_reducible refine wpAny_holding ?_
  first | refine wpAny_bind (wpAny_pure ?_) | skip
  refine wpAny_bind (wpAny_sequenceKey ht.typeIs (by decide) ?_)
  refine wpAny_bind (wpAny_callSpecial?_slot (name := Str.ofString "__getitem__") ht.typeIs PyProof.Rows.slot_tuple_getitem
    (wpAny_call_entry PyProof.Rows.slot_tuple_getitem ht.typeIs entry_tuple_getitem ?_ (args_tuple_getitem _ _)))
  show wpAny _ _ (Builtin.Tuple.tupleItemsOf (.ref t) >>= _) _ _ s
  refine wpAny_bind (tupleItemsOf_ ht ?_)
  refine wpAny_bind (wpAny_typeOf hTs ?_)
  rw [if_pos (by decide)]
  refine wpAny_bind (sliceApplied_rev hs pl pu ps ?_)
  have hno : ¬ ((((items.size : Int) - 1) == 0 && (-1 : Int) == 1 && items.size == items.size) = true) := by simp
  show wpAny _ _ (if (((items.size : Int) - 1) == 0 && (-1 : Int) == 1 && items.size == items.size) = true then _ else _) _ _ s
  rw [if_neg hno, rev_pick]
  first
    | exact wpAny_bind (m := Builtin.Tuple.tupleExact _) (wpAny_newObj_type (wpAny_pure ⟨_, rfl, wpAny_pure h⟩) htake)
    | exact wpAny_bind (m := Builtin.Tuple.tupleExact _) (wpAny_newObj_type (wpAny_bind (wpAny_pure (wpAny_pure ⟨_, rfl, wpAny_pure h⟩))) htake)
    | exact wpAny_bind (wpAny_bind (m := Builtin.Tuple.tupleExact _) (wpAny_newObj_type (wpAny_pure (wpAny_pure ⟨_, rfl, wpAny_pure h⟩)) htake))
    | exact wpAny_bind (wpAny_bind (m := Builtin.Tuple.tupleExact _) (wpAny_newObj_type (wpAny_pure ⟨_, rfl, wpAny_pure h⟩) htake))
end
end HT
namespace UL
open PySem PySem.Spec PyProof.Rows L2
section
variable {X : Cx}
/-- t[::-1], t a tuple -/
def tRevT (K : PySem.W.Frag) (te : TE) : TE := fun σ H Q => te σ H fun x H1 => ∃ a xs, x = .ref a ∧ SqT K H1 a xs ∧ ∀ p, H1 p = none → Q (.ref p) (upd H1 p (.tup xs.reverse))
theorem pe_revT {e : Expr} {te : TE} {k : Nat} {p1 p2 p3 pos : Pos} (he : PE X e te) : PE X (.Subscript e (.Slice none none (some (.UnaryOp .USub (.Constant (.int 1) k p1) p2)) p3) pos) (tRevT X.K te) := by
  refine ⟨fun pins s σ H Q I h => ?_⟩
  refine Subscript_ (thn (he.run pins s σ H _ I h) fun v s1 ⟨x, H1, I1, r1, q1⟩ => ?_)
  obtain ⟨a, xs, ex, hx, q⟩ := q1
  subst ex
  cases r1
  have hst : PO X (some (.UnaryOp .USub (.Constant (.int 1) k p1) p2)) (tPart (tUn (rU fun i => .int (-i)) (tC (.int 1)))) := po_some (pe_un un_neg pe_int)
  refine wpAny_Slice (thn (po_none.run pins s1 σ H1 (fun o H2 => o = none ∧ H2 = H1) I1 ⟨rfl, rfl⟩) fun vl s2 ⟨l, H2, I2, pl, el, e2⟩ => ?_)
  subst el e2
  refine thn (po_none.run pins s2 σ H2 (fun o H3 => o = none ∧ H3 = H2) I2 ⟨rfl, rfl⟩) fun vu s3 ⟨u, H3, I3, pu, eu, e3⟩ => ?_
  subst eu e3
  refine thn (hst.run pins s3 σ H3 (fun o H4 => o = some (-1) ∧ H4 = H3) I3 ⟨1, rfl, -1, rfl, rfl, rfl⟩) fun vs s4 ⟨o, H4, I4, ps, eo, e4⟩ => ?_
  subst eo e4
  have I5 : Inv X pins σ H4 { s4 with heap := s4.heap.push { cls := .type "slice", data := .fields #[vl, vu, vs] } } := I4.kept (t' := s4.toks) fun b ob q => Heap.get?_push_of_some _ q
  obtain ⟨its, r, ht, hz⟩ := I5.tuple hx
  have hlen := r.length
  show wpAny (model X.prog X.w) X.A (subscriptTail e (.Slice none none (some (.UnaryOp .USub (.Constant (.int 1) k p1) p2)) p3) (.ref a) (.ref s4.heap.objs.size)) (EP X pins σ Q) X.xe { s4 with heap := s4.heap.push { cls := .type "slice", data := .fields #[vl, vu, vs] } }
  refine tail_any (ops := [.ref a, .ref s4.heap.objs.size]) ht.typeIs (PyProof.Rows.slot_tuple_getitem.lookup) ?_ (by with_unfolding_all rfl)
  refine HT.getItem_tuple_rev ht (Heap.IsSliceOf.new _ vl vu vs) pl pu ps ?_ (by rw [List.size_toArray]; omega)
  refine ⟨.ref _, _, I5.laid (t' := s4.toks) (o := .tup xs.reverse) (fun b ob q => Heap.get?_push_of_some _ q) (Nat.le_refl _) ?_, rfl, q _ (I5.hok.fresh (Nat.le_refl _))⟩
  exact ⟨by show xs.reverse.length ≤ sizeLine; rw [List.length_reverse]; exact hz, _, r.reverse, ⟨_, Heap.get?_push_size _ rfl, rfl, _, rfl⟩⟩
end
end UL
set_option Elab.async false
set_option linter.all false
set_option maxRecDepth 100000
set_option maxHeartbeats 4000000
namespace UL
open PySem L2
/-! ### unlike rows have unlike texts -/
def tok : Bt → List Nat
  | none => [78, 111, 110, 101]
  | some false => [48]
  | some true => [49]
def encT : List Bt → List Nat
  | [] => [93]
  | x :: xs => 44 :: 32 :: (tok x ++ encT xs)
def enc : List Bt → List Nat
  | [] => [91, 93]
  | x :: xs => 91 :: (tok x ++ encT xs)
theorem encT_inj : ∀ {xs ys : List Bt}, encT xs = encT ys → xs = ys
  | [], [], _ => rfl
  | [], y :: ys, h => by simp [encT] at h
  | x :: xs, [], h => by simp [encT] at h
  | x :: xs, y :: ys, h => by
    have h' : tok x ++ encT xs = tok y ++ encT ys := by
      simp only [encT, List.cons.injEq, true_and] at h
      exact h
    have e : x = y ∧ encT xs = encT ys := by
      rcases x with _ | _ | _ <;> rcases y with _ | _ | _ <;> simp [tok] at h' <;> exact ⟨rfl, h'⟩
    rw [e.1, encT_inj e.2]
theorem enc_inj {xs ys : List Bt} (h : enc xs = enc ys) : xs = ys := by
  cases xs with
  | nil =>
    cases ys with
    | nil => rfl
    | cons y ys =>
      rcases y with _ | _ | _ <;> simp [enc, tok] at h
  | cons x xs =>
    cases ys with
    | nil => rcases x with _ | _ | _ <;> simp [enc, tok] at h
    | cons y ys =>
      apply encT_inj
      simp only [enc, List.cons.injEq, true_and] at h
      simp only [encT, h]
theorem tok_shown (x : Bt) : ((bD x).shown).cps.toList = tok x := by rcases x with _ | _ | _ <;> decide +kernel
theorem cps_app (a b : Str) : (a ++ b).cps.toList = a.cps.toList ++ b.cps.toList := by
  show (a.cps ++ b.cps).toList = _
  simp
theorem text_tail : ∀ (xs : List Bt) (k : Nat) (acc : Str), 0 < k → (textFrom k acc (xs.map fun b => (bD b).shown) ++ ("]" : Str)).cps.toList = acc.cps.toList ++ encT xs
  | [], k, acc, _ => by
    show (acc ++ ("]" : Str)).cps.toList = _
    rw [cps_app]
    rfl
  | x :: xs, k, acc, h => by
    show (textFrom (k + 1) (acc ++ ((if k > 0 then ", " else "" : String) : Str) ++ (bD x).shown) (xs.map fun b => (bD b).shown) ++ ("]" : Str)).cps.toList = _
    rw [text_tail xs (k + 1) _ (Nat.succ_pos k), if_pos h, cps_app, cps_app, tok_shown, List.append_assoc, List.append_assoc]
    rfl
theorem text_enc (xs : List Bt) : (listText (xs.map fun b => (bD b).shown)).cps.toList = enc xs := by
  cases xs with
  | nil => decide +kernel
  | cons x xs =>
    show (textFrom 1 (("[" : Str) ++ ((if (0 : Nat) > 0 then ", " else "" : String) : Str) ++ (bD x).shown) (xs.map fun b => (bD b).shown) ++ ("]" : Str)).cps.toList = _
    rw [text_tail xs 1 _ (by decide), cps_app, cps_app, tok_shown]
    rfl
theorem shown_bits (xs : List Bt) : (PyData.list (xs.map bD)).shown = listText (xs.map fun b => (bD b).shown) := by
  simp only [PyData.shown, shownAll_map, List.map_map]
  rfl
theorem shown_inj {xs ys : List Bt} : decide (V.str (PyData.list (xs.map bD)).shown = V.str (PyData.list (ys.map bD)).shown) = decide (xs = ys) := by
  by_cases h : xs = ys
  · subst h
    rw [decide_eq_true rfl, decide_eq_true rfl]
  · rw [decide_eq_false h]
    refine decide_eq_false fun e => h (enc_inj ?_)
    have e1 := V.str.inj e
    rw [shown_bits, shown_bits] at e1
    rw [← text_enc, ← text_enc, e1]
end UL
set_option Elab.async false
set_option linter.all false
set_option maxRecDepth 100000
set_option maxHeartbeats 4000000
namespace UL
open PySem PySem.Spec PyProof.Rows L2
section
variable {X : Cx}
/-- o[a:b] = v, o and v two tracked lists -/
def gSlset (to ta tb : TE) : TG := fun v σ H Q => to σ H fun o H1 => tPart ta σ H1 fun oa H2 => tPart tb σ H2 fun ob H3 => ∃ (l q : Addr) (xs ys : List V) (a b : Int), o = .ref l ∧ oa = some a ∧ ob = some b ∧ v = .ref q ∧ H3 l = some (.lst xs) ∧ H3 q = some (.lst ys) ∧ l ≠ q ∧
  0 ≤ a ∧ a ≤ b ∧ b ≤ xs.length ∧ xs.length + ys.length ≤ sizeLine ∧ Q σ (upd H3 l (.lst (xs.take a.toNat ++ ys ++ xs.drop b.toNat)))
theorem pg_slset {o a b : Expr} {to ta tb : TE} {p2 pos : Pos} (ho : PE X o to) (ha : PE X a ta) (hb : PE X b tb)
    (he : ∀ v, assign (.Subscript o (.Slice (some a) (some b) none p2) pos) X.env v = (do
      let ov ← holding [v] (eval o X.env)
      let iv ← holding [v, ov] (eval (.Slice (some a) (some b) none p2) X.env)
      standAt pos
      holding [v, ov, iv] (setItem ov iv v)
      release [iv, v, ov] []) := by intro _; rfl) : PG X (.Subscript o (.Slice (some a) (some b) none p2) pos) (gSlset to ta tb) := by
  refine ⟨fun pins s σ H v u Q I r h => ?_⟩
  rw [he]
  refine wpAny_bind (wpAny_holding (thn (ho.run pins s σ H _ I h) fun ov s1 ⟨x, H1, I1, r1, q1⟩ => ?_))
  refine wpAny_bind (wpAny_holding (wpAny_Slice (thn ((po_some ha).run pins s1 σ H1 _ I1 q1) fun vl s2 ⟨lo, H2, I2, pl, q2⟩ => thn ((po_some hb).run pins s2 σ H2 _ I2 q2) fun vu s3 ⟨hi, H3, I3, pu, q3⟩ => ?_)))
  rw [evalPart_none]
  refine wpAny_pure ?_
  obtain ⟨l, q, xs, ys, a', b', rfl, rfl, rfl, rfl, e1, e2, ne, g1, g2, g3, g4, k⟩ := q3
  have I4 : Inv X pins σ H3 { s3 with heap := s3.heap.push { cls := .type "slice", data := .fields #[vl, vu, .none] } } := I3.kept (t' := s3.toks) fun b ob q => Heap.get?_push_of_some _ q
  cases (show ov = Value.ref l from r1)
  cases (show u = Value.ref q from r)
  refine wpAny_bind (wpAny_standAt (wpAny_bind (wpAny_holding ?_)))
  refine set_slice (X := X) (pins := pins) (σ := σ) (a := a') (c := b') I4 e1 e2 ne (Heap.IsSliceOf.new ..) ?_ ?_ g1 g2 g3 g4 fun s5 I5 => wpAny_release ⟨σ, _, I5, k⟩
  · cases pl
    exact ⟨_, rfl⟩
  · cases pu
    exact ⟨_, rfl⟩
end
end UL
set_option Elab.async false
set_option linter.all false
set_option maxRecDepth 100000
set_option maxHeartbeats 4000000
namespace UL
open PySem L2
theorem Same.look {H H' : Hp} {a : Addr} {o : HO} (s : L2.Same H H') (h : H a = some o) : H' a = some o := s _ _ h
theorem new_look {H : Hp} {p a : Addr} {o o' : HO} (hp : H p = none) (h : H a = some o) : upd H p o' a = some o := by rw [upd_ne (ne_of_none h hp)]; exact h
theorem Stay.lookT {H H' : Hp} {p a : Addr} {xs : List V} (s : Stay p H H') (hp : Pot H p) (h : H a = some (.tup xs)) : H' a = some (.tup xs) := by
  obtain ⟨x, y, e, _⟩ := hp
  exact s _ _ (ne_of h e (by intro z; cases z)) h
theorem Stay.lookI {H H' : Hp} {p a C dx : Addr} {fs : List (Str × V)} (s : Stay p H H') (hp : Pot H p) (h : H a = some (.ins C dx fs)) : H' a = some (.ins C dx fs) := by
  obtain ⟨x, y, e, _⟩ := hp
  exact s _ _ (ne_of h e (by intro z; cases z)) h
theorem iteFo' {c : Bool} {A B : Prop} (hc : c = false) (h : B) : if c = true then A else B := by rw [if_neg (by rw [hc]; exact Bool.false_ne_true)]; exact h
theorem iteTo' {c : Bool} {A B : Prop} (hc : c = true) (h : A) : if c = true then A else B := by rw [if_pos hc]; exact h
theorem over_look {H : Hp} {x p : Addr} {o u : HO} (n : p ≠ x) (h : H p = some u) : upd H x o p = some u := by rw [upd_ne n]; exact h
theorem ne_new {H : Hp} {a b : Addr} {o : HO} (hb : H b = none) (ha : H a = some o) : b ≠ a := fun e => by rw [e, ha] at hb; cases hb
theorem up_none {H : Hp} {x p : Addr} {o : HO} (h : upd H x o p = none) : H p = none := by
  by_cases e : p = x
  · rw [e, upd_same] at h
    cases h
  · rw [upd_ne e] at h
    exact h
theorem Same.none {H H' : Hp} {p : Addr} (s : L2.Same H H') (h : H' p = none) : H p = none := by
  cases e : H p with
  | none => rfl
  | some o =>
    rw [s _ _ e] at h
    cases h
theorem Stay.same {H H' : Hp} {p : Addr} (s : Stay p H H') (h : H p = none) : L2.Same H H' := fun b o e => s b o (ne_of_none e h) e
/-- both ways of a conditional expression hand on one value -/
theorem ite_val {c : Bool} {ta tb : TE} {σ : L2.St} {H : Hp} {Q : VK} (v : V) (ha : c = true → ∀ Q : VK, Q v H → ta σ H Q) (hb : c = false → ∀ Q : VK, Q v H → tb σ H Q) (h : Q v H) : if c = true then ta σ H Q else tb σ H Q := by
  cases c with
  | true => rw [if_pos rfl]; exact ha rfl Q h
  | false => rw [if_neg Bool.false_ne_true]; exact hb rfl Q h
theorem ite_and {c : Bool} {t : TT} {σ : L2.St} {H : Hp} {Q : Bool → Hp → Prop} (b : Bool) (ha : c = true → ∀ Q : Bool → Hp → Prop, Q b H → t σ H Q) (hb : c = false → b = false) (h : Q b H) : if c = true then t σ H Q else Q false H := by
  cases c with
  | true => rw [if_pos rfl]; exact ha rfl Q h
  | false => rw [if_neg Bool.false_ne_true, ← hb rfl]; exact h
theorem ite_or {c : Bool} {t : TT} {σ : L2.St} {H : Hp} {Q : Bool → Hp → Prop} (b : Bool) (ha : c = false → ∀ Q : Bool → Hp → Prop, Q b H → t σ H Q) (hb : c = true → b = true) (h : Q b H) : if c = true then Q true H else t σ H Q := by
  cases c with
  | false => rw [if_neg Bool.false_ne_true]; exact ha rfl Q h
  | true => rw [if_pos rfl, ← hb rfl]; exact h
/-- both ways of an if go on from one place -/
theorem ite_st {c : Bool} {ta tb : TS} {D : Ends} {σ : L2.St} {H : Hp} (σ' : L2.St) (H' : Hp) (ha : c = true → ∀ D : Ends, D.nx σ' H' → ta D σ H) (hb : c = false → ∀ D : Ends, D.nx σ' H' → tb D σ H) (h : D.nx σ' H') : if c = true then ta D σ H else tb D σ H := by
  cases c with
  | true => rw [if_pos rfl]; exact ha rfl D h
  | false => rw [if_neg Bool.false_ne_true]; exact hb rfl D h
end UL
set_option Elab.async false
set_option linter.all false
set_option maxRecDepth 100000
set_option maxHeartbeats 4000000
namespace UL
open PySem PySem.Spec PyProof.Rows L2 StX
/-! ### classes made: with keywords behind what is written, with stars, by keywords where the rest is a star -/
section
variable (P : Program) (w : World) (K : PySem.W.Frag) (mg : Str → Option Value) (base : Heap)
/-- n values, then the keywords ks -/
def MakN (k : Nat) (x : Str) (C : Addr) (n : Nat) (ks : List Str) (gV : List V → List V → List V) (sp : Sp) : Prop := ∃ f fd ps g, FnOk P w K mg base CX0 k f fd ps sp ∧ Mk K C f ∧ mg x = some (.ref C) ∧ KBn K fd ps (n + 1) ks g gV
/-- a def run with one value and the keywords ks -/
def FnKw (k : Nat) (f : Addr) (ks : List Str) (sp : Sp) : Prop := ∀ (A : Around) (outer : List Env) (s : Shared) (H : Hp) (u : Value) (v : V) (ws : List Value) (zs : List V) (Q : VK), Room k A → Env0 P w K mg base A outer s H → RelV v u → Vals zs ws → zs.length = ks.length →
  sp (v :: zs) H Q E0 → codeAny (model P w) A (.call (.ref f) ⟨[u], ks.zip ws⟩) (CR CX0 outer P w H s Q E0) s
def MakW (k : Nat) (x : Str) (C : Addr) (ks : List Str) (sp : Sp) : Prop := ∃ f, FnKw P w K mg base k f ks sp ∧ Mk K C f ∧ mg x = some (.ref C)
end
section
variable {X : Cx} {k j n : Nat} {x : Str} {C : Addr} {sp : Sp} {e : Expr} {es : List Expr} {kws : List Keyword} {ks : List Str} {gV : List V → List V → List V} {t tk : TA} {p pos : Pos}
theorem pe_nN (c : MakN X.prog X.w X.K X.mg X.base k x C n ks gV sp) (hr : Room j X.A) (hk : k + 1 ≤ j) (hg : Gl X x) (ha : PA X (e :: es) t) (hkw : PK X kws tk)
    (h1 : (backToKw pos (keywordEach kws X.env)).all (·.1.isSome) = true := by rfl) (h2 : (backToKw pos (keywordEach kws X.env)).filterMap (·.1) = ks := by rfl) (h3 : (x == ("__debug__" : Str)) = false := by decide)
    (h4 : starEach (e :: es) X.env = (false, eval e X.env) :: starEach es X.env := by rfl)
    (h5 : ((backTo pos (starEach (e :: es) X.env)).any (·.1) || (backToKw pos (keywordEach kws X.env)).any (·.1.isNone)) = false := by rfl) :
    PE X (.Call (.Name x p) (e :: es) kws pos) (tMakeN C n ks.length sp gV E0 t tk) := by
  obtain ⟨f, fd, ps, g, F, M, m, b⟩ := c
  exact pe_makeN M F (hr.mono hk) hg m b pass0 ha hkw h1 h2 h3 h4 h5
/-- C(e, .., *y) -/
theorem pe_nR2 (c : MakR X.prog X.w X.K X.mg X.base k x C sp) (hr : Room j X.A) (hk : k + 1 ≤ j) (hg : Gl X x) (ha : PA X (e :: es) t) (h3 : (x == ("__debug__" : Str)) = false := by decide)
    (h4 : starEach (e :: es) X.env = (false, eval e X.env) :: starEach es X.env := by rfl) (h5 : (backTo pos (starEach es X.env)).any (·.1) = true := by rfl) : PE X (.Call (.Name x p) (e :: es) [] pos) (StX.tMakeR C sp E0 t) := by
  obtain ⟨f, F, M, m⟩ := c
  refine ⟨fun pins s σ H Q I h => wpAny_Call_Name_kw (ld_glob I hg m ?_ h3)⟩
  exact PySem.W.callWith_S2 (h₀ := X.base) I.ok.mod.kin M.kp (thn (ha.run pos pins s σ H _ I h) fun us s1 ⟨vs, H1, J, rv, q⟩ => ⟨J.kIn, StX.run_makeR M F (hr.mono hk) pass0 J rv q⟩) h4 h5
/-- C(k = v, ..), the class's rest a star -/
def tMakeW (C : Addr) (m : Nat) (sp : Sp) (tk : TA) : TE := fun σ H Q => tk σ H fun zs H1 => zs.length = m ∧ ∀ x dx, H1 x = none → H1 dx = none → dx ≠ x → sp (V.ref x :: zs) (upd (upd H1 dx (.own x)) x (.ins C dx [])) (fun v H2 => v = .non ∧ Q (.ref x) H2) E0
theorem pe_nW (c : MakW X.prog X.w X.K X.mg X.base k x C ks sp) (hr : Room j X.A) (hk : k + 1 ≤ j) (hg : Gl X x) (hkw : PK X kws tk)
    (h1 : (backToKw pos (keywordEach kws X.env)).all (·.1.isSome) = true := by rfl) (h2 : (backToKw pos (keywordEach kws X.env)).filterMap (·.1) = ks := by rfl) (h3 : (x == ("__debug__" : Str)) = false := by decide)
    (h5 : ((backTo pos (starEach [] X.env)).any (·.1) || (backToKw pos (keywordEach kws X.env)).any (·.1.isNone)) = false := by rfl) : PE X (.Call (.Name x p) [] kws pos) (tMakeW C ks.length sp tk) := by
  obtain ⟨f, F, M, m⟩ := c
  refine ⟨fun pins s σ H Q I h => wpAny_Call_Name_kw (ld_glob I hg m (PySem.W.callWith_KW0 (h₀ := X.base) I.ok.mod.kin M.kp h1 (thn (hkw.run pos pins s σ H _ I h) fun ws s1 ⟨zs, H1, J, rz, l2, q⟩ => ⟨J.kIn, ?_⟩) h5) h3)⟩
  rw [h2]
  have hq := q (s1.heap.objs.size + 1) s1.heap.objs.size (J.hok.fresh (Nat.le_succ _)) (J.hok.fresh (Nat.le_refl _)) (Nat.ne_of_lt (Nat.lt_succ_self _))
  have J2 := Inv.made (C := C) J
  have hr' := hr.mono hk
  refine wpAny_call (make_map (f := f) J.kIn M.makes M.init (beq_iff_eq.mp M.fn) (codeAny_mono (F _ X.stack _ _ (Value.ref (s1.heap.objs.size + 1)) (V.ref (s1.heap.objs.size + 1)) ws zs _ (hr'.make C [] (ks.zip ws)) (J2.env0.make C [] (ks.zip ws)) rfl rz l2 hq) fun r s' hz => ?_))
  cases r with
  | error e => exact pass0 pins σ _ _ e s' J2 hz
  | ok fl =>
    cases fl with
    | ret u =>
      obtain ⟨v, H', J3, rv, ev, qz⟩ := J2.after hz
      subst ev
      exact ⟨rv, ⟨V.ref (s1.heap.objs.size + 1), H', J3, rfl, qz⟩⟩
    | next => exact hz.elim
    | brk => exact hz.elim
    | cont => exact hz.elim
end
/-- def f(self, a, .., *v) called by self and the keywords of a, ..: v is an empty tuple -/
theorem fnKw_star {P : Program} {w : World} {K : PySem.W.Frag} {mg : Str → Option Value} {base : Heap} {k : Nat} {f : Addr} {name qual : Str} {params : Arguments} {body : List Stmt} {scope : Scope} {dV kV doc pm cdv ct oc : Value} {an od : Option Addr}
    {osl : Array (Option Value)} {N ps ks : List Str} {p0 pv : Str} {sp : Sp} (lk : K.lookup f = some ⟨oc, od, .func (PySem.W.fnOf name qual params body scope dV kV doc pm an cdv ct), osl⟩) (hcd : PySem.W.codeIn K cdv qual = true) (S : FnScope N (p0 :: (ks ++ [pv])) scope)
    (hb : ∀ (u : Value) (ws : List Value), ws.length = ks.length → bindArgs (PySem.W.fnOf name qual params body scope dV kV doc pm an cdv ct) ⟨[u], ks.zip ws⟩ = (newTuple [] >>= fun t => pure ((p0, u) :: (ks.zip ws ++ [(pv, t)]))))
    (hbody : ∀ (A : Around) (outer : List Env) (s : Shared) (H : Hp) (vs : List V) (Q : VK) (E : XK), Room k (A.deeper (envOfC qual scope s.heap.objs.size f cdv)) → sp vs H Q E →
      ∃ t, PSs (cxOf CX0 P w K mg base N qual scope f cdv A outer s H E) body t ∧ t { nx := fun _ H' => Q .non H', rt := Q } (start N vs) H) :
    FnKw P w K mg base (k + 1) f ks (fun vs H Q E => vs.length = ks.length + 1 ∧ ∀ p, H p = Option.none → sp (vs ++ [V.ref p]) (upd H p (.tup [])) Q E) := by
  intro A outer s H u v ws zs Q hr e0 ru rz hl h
  have fr : H s.heap.objs.size = Option.none := e0.hok.fresh (Nat.le_refl _)
  refine run_bnd lk hcd S hr e0 (G := fun xs H2 => ∃ p, H p = Option.none ∧ xs = v :: (zs ++ [V.ref p]) ∧ H2 = upd H p (.tup [])) (fun A' Ex Q' z => ?_) fun s2 H2 xs ⟨p, hp, e1, e2⟩ hr' => ?_
  · rw [hb u ws (rz.length.symm.trans hl)]
    refine wpAny_bind (wpAny_newTuple (wpAny_pure ?_) (Nat.zero_le _))
    have new : ObjOk P w (upd H s.heap.objs.size (.tup [])) (s.heap.push ({ cls := .type "tuple", data := .seq (#[] : Array Value) } : Obj)) s.heap.objs.size (.tup []) := ⟨Nat.zero_le _, [], .nil, ⟨_, Heap.get?_push_size _ rfl, rfl, _, rfl⟩⟩
    have lai := un_laid (fs := frs outer) (s := s) (o := ({ cls := .type "tuple", data := .seq (#[] : Array Value) } : Obj)) (u := .tup []) fr
    have y := z _ _ (v :: (zs ++ [V.ref s.heap.objs.size])) (u :: (ws ++ [Value.ref s.heap.objs.size])) (env0_laid e0 new) lai rfl (fun e s' z => (show False from z).elim)
      (.cons ru (rz.append (.cons rfl .nil))) (by simp [hl]) ⟨_, fr, rfl, rfl⟩
    have ez : (p0 :: (ks ++ [pv])).zip (u :: (ws ++ [Value.ref s.heap.objs.size])) = (p0, u) :: (ks.zip ws ++ [(pv, Value.ref s.heap.objs.size)]) := by
      rw [List.zip_cons_cons, List.zip_append (hl.symm.trans rz.length)]
      rfl
    rw [ez] at y
    exact y
  · subst e1 e2
    exact hbody A outer s2 _ _ Q E0 hr' (h.2 p hp)
end UL
set_option Elab.async false
set_option linter.all false
set_option maxRecDepth 100000
set_option maxHeartbeats 4000000
namespace UL
open PySem PySem.Spec PyProof.Rows L2
open PySem.W (Looks Frag findIn clsIn InstAt)
/-! ### own operators beside a built-in type, own orders -/
/-- the class at C beside the built-in type T -/
structure OwnT (K : Frag) (C : Addr) (T nm : String) : Prop where
  sf : PySem.W.selfFirst K C = true
  r : ∃ rc, findIn K (.ref C) (dunderR nm) = some rc ∧ (rc = none ∨ ∃ g : Addr, rc = some (.ref g))
  t1 : ∃ fo, findIn K (.type T) (PySem.dunder nm) = some fo
  t2 : ∃ ro, findIn K (.type T) (dunderR nm) = some ro
  su : PySem.W.subIn K (.type T) (.ref C) = some false
theorem dr_add : dunderR "add" = ("__radd__" : Str) := by decide +kernel
theorem du_mul : PySem.dunder "mul" = ("__mul__" : Str) := by decide +kernel
section
variable {X : Cx} {CX : CXT} {C g : Addr} {n : Nat} {sp : Sp} {E : XK} {T : String}
/-- x op y by the def at g, x an instance, y of the built-in type T -/
def rOpT (C : Addr) (T : String) (sp : Sp) (E : XK) : R2 := fun x y H Q => ∃ (a dx : Addr) (fs : List (Str × V)), x = .ref a ∧ H a = some (.ins C dx fs) ∧ (∀ u, RelV y u → typeOf u = pure (.type T)) ∧ sp [x, y] H Q E
theorem op_ownT {op : Operator} (o : OwnT X.K C T op.info.2) (hs : findIn X.K (.ref C) (PySem.dunder op.info.2) = some (some (.ref g))) (hf : PySem.W.isFn X.K (.ref g) = true) (F : FnR X.prog X.w X.K X.mg X.base CX n g sp) (hr : Room n X.A) (hx : Passes CX X E) :
    OpR X (binaryOp op) (rOpT C T sp E) := by
  intro pins s σ H x y v u Q I rx ry h
  obtain ⟨a, dx, fs, rfl, ha, ty, q⟩ := h
  cases (show v = Value.ref a from rx)
  obtain ⟨mA, O, _⟩ := ins_get I.hok ha
  obtain ⟨od, J, _⟩ := O.look
  obtain ⟨m, hF⟩ := I.fr
  obtain ⟨rc, r1, r2⟩ := o.r
  obtain ⟨fo, t1⟩ := o.t1
  obtain ⟨ro, t2⟩ := o.t2
  refine PySem.W.ksp_binT hF I.ok.mod.kin J (ty u ry) o.sf hs hf r1 r2 t1 t2 o.su ?_
  refine wpAny_mono (wpAny_call (run_fnR (us := [.ref a, u]) (vs := [.ref a, y]) F hr hx I (.cons rfl (.cons ry .nil)) q)) (fun r s' z => ?_) fun _ _ e => e
  obtain ⟨z', H', I', rz, qz⟩ := z
  exact SlX.cmpback rz ⟨z', H', I', rz, qz⟩
/-- x + y by the reflected def at g, y an instance, x of the built-in type T, which doesn't add by number -/
def rOpTR (C : Addr) (T : String) (sp : Sp) (E : XK) : R2 := fun x y H Q => ∃ (a dx : Addr) (fs : List (Str × V)), y = .ref a ∧ H a = some (.ins C dx fs) ∧ (∀ u, RelV x u → typeOf u = pure (.type T)) ∧ sp [y, x] H Q E
theorem op_raddT {fa : Addr} {fo ro : Option Value} (sf : PySem.W.selfFirst X.K C = true) (ha' : findIn X.K (.ref C) "__add__" = some (some (.ref fa))) (t1 : findIn X.K (.type T) (PySem.dunder "add") = some fo) (t2 : findIn X.K (.type T) (dunderR "add") = some ro)
    (t3 : ((fo.isSome && !isSeqSlot fo) || (ro.isSome && !isSeqSlot ro)) = false) (hs : findIn X.K (.ref C) "__radd__" = some (some (.ref g))) (hf : PySem.W.isFn X.K (.ref g) = true) (F : FnR X.prog X.w X.K X.mg X.base CX n g sp) (hr : Room n X.A) (hx : Passes CX X E) :
    OpR X (binaryOp .Add) (rOpTR C T sp E) := by
  intro pins s σ H y x u v Q I ry rx h
  obtain ⟨a, dx, fs, rfl, ha, ty, q⟩ := h
  cases (show v = Value.ref a from rx)
  obtain ⟨mA, O, _⟩ := ins_get I.hok ha
  obtain ⟨od, J, _⟩ := O.look
  have KX := I.kIn
  obtain ⟨cd, rest, hcd, hm⟩ := PySem.W.ksp_first sf
  have fl := PySem.W.ksp_fillsT (M := model X.prog X.w) (nm := "add") KX t1 t2
  rw [t3] at fl
  have fr := PySem.W.fills_K (M := model X.prog X.w) (nm := "add") KX hcd hm (by rw [du_add]; exact ha')
  have one : wpAny (model X.prog X.w) X.A (tryMethod (.ref a) (dunderR "add") u) (fun r s' => ∃ z, r = some z ∧ EP X pins σ Q z s') X.xe s := by
    rw [dr_add]
    refine PySem.W.ksp_try KX J hs hf (wpAny_mono (wpAny_call (run_fnR (us := [.ref a, u]) (vs := [.ref a, y]) F hr hx I (.cons rfl (.cons ry .nil)) q)) (fun r s' z => ?_) fun _ _ e => e)
    obtain ⟨z', H', I', rz, qz⟩ := z
    exact SlX.cmpback rz ⟨z', H', I', rz, qz⟩
  have ne : (Value.type T == Value.ref C) = false := Bool.eq_false_iff.mpr fun q => by cases beq_iff_eq.mp q
  have lt : Looks (model X.prog X.w) s.heap (typeOf u) (.type T) := Looks.of_pure (ty u ry)
  unfold binaryOp
  refine wpAny_holding (wpAny_bind ?_)
  show wpAny _ _ (binaryOp1 "add" u (.ref a)) _ _ _
  unfold binaryOp1
  refine wpAny_bind (lt.here (wpAny_bind (J.type.here (wpAny_bind (fl.here ?_)))))
  simp only [ne, Bool.false_eq_true, if_false, Bool.false_and]
  refine wpAny_bind (fr.here ?_)
  refine wpAny_bind (wpAny_pure ?_)
  simp only [Bool.false_eq_true, if_false, Bool.not_false, Bool.and_true, if_true]
  refine wpAny_bind (wpAny_mono one (fun r s' ⟨z, e, qz⟩ => ?_) fun _ _ e => e)
  subst e
  dsimp only
  refine wpAny_bind (wpAny_rule ?_)
  exact wpAny_pure (wpAny_pure qz)
/-- x < y and the like by the def at g -/
def rCmpI (K : Frag) (C : Addr) (sp : Sp) (E : XK) : R2 := rEqI K C sp E
theorem op_cmpI {op : CmpOp} (hop : ∀ u v : Value, compareOp op u v = richCompare op u v) (hs : findIn X.K (.ref C) (cmpInfo op).2.1 = some (some (.ref g))) (hf : PySem.W.isFn X.K (.ref g) = true) (F : FnR X.prog X.w X.K X.mg X.base CX n g sp) (hr : Room n X.A) (hx : Passes CX X E) :
    OpR X (compareOp op) (rEqI X.K C sp E) := by
  intro pins s σ H x y v u Q I rx ry h
  obtain ⟨a, dx, fs, t, rfl, ha, ty, hn, q⟩ := h
  cases (show v = Value.ref a from rx)
  obtain ⟨mA, O, _⟩ := ins_get I.hok ha
  obtain ⟨od, J, _⟩ := O.look
  obtain ⟨m, hF⟩ := I.fr
  obtain ⟨Pk, Z, pk, _⟩ := kit_of I ry ty
  rw [hop]
  refine PySem.W.cmp_K (op := op) hr.units0 hF I.ok.mod.kin J (Z.ty _ _ I.kIn pk) hn hs hf ?_
  refine wpAny_mono (wpAny_call (run_fnR (us := [.ref a, u]) (vs := [.ref a, y]) F hr hx I (.cons rfl (.cons ry .nil)) q)) (fun r s' z => ?_) fun _ _ e => e
  obtain ⟨z', H', I', rz, qz⟩ := z
  exact SlX.cmpback rz ⟨z', H', I', rz, qz⟩
end
section
variable {X : Cx} {C : Addr} {k j : Nat} {sp : Sp} {T : String}
theorem op_ltS (c : CalS X.prog X.w X.K X.mg X.base k C "__lt__" sp) (hr : Room j X.A) (hk : k ≤ j) : OpR X (compareOp .Lt) (rEqI X.K C sp E0) := by
  obtain ⟨f, F, h1, h2⟩ := c
  exact op_cmpI (fun _ _ => rfl) h1 h2 F (hr.mono hk) pass0
theorem op_leS (c : CalS X.prog X.w X.K X.mg X.base k C "__le__" sp) (hr : Room j X.A) (hk : k ≤ j) : OpR X (compareOp .LtE) (rEqI X.K C sp E0) := by
  obtain ⟨f, F, h1, h2⟩ := c
  exact op_cmpI (fun _ _ => rfl) h1 h2 F (hr.mono hk) pass0
theorem op_gtS (c : CalS X.prog X.w X.K X.mg X.base k C "__gt__" sp) (hr : Room j X.A) (hk : k ≤ j) : OpR X (compareOp .Gt) (rEqI X.K C sp E0) := by
  obtain ⟨f, F, h1, h2⟩ := c
  exact op_cmpI (fun _ _ => rfl) h1 h2 F (hr.mono hk) pass0
theorem op_geS (c : CalS X.prog X.w X.K X.mg X.base k C "__ge__" sp) (hr : Room j X.A) (hk : k ≤ j) : OpR X (compareOp .GtE) (rEqI X.K C sp E0) := by
  obtain ⟨f, F, h1, h2⟩ := c
  exact op_cmpI (fun _ _ => rfl) h1 h2 F (hr.mono hk) pass0
theorem op_addST (c : CalS X.prog X.w X.K X.mg X.base k C "__add__" sp) (o : OwnT X.K C T "add") (hr : Room j X.A) (hk : k ≤ j) : OpR X (binaryOp .Add) (rOpT C T sp E0) := by
  obtain ⟨f, F, h1, h2⟩ := c
  exact op_ownT (op := .Add) o (by show findIn X.K (.ref C) (PySem.dunder "add") = _; rw [du_add]; exact h1) h2 F (hr.mono hk) pass0
theorem op_mulST (c : CalS X.prog X.w X.K X.mg X.base k C "__mul__" sp) (o : OwnT X.K C T "mul") (hr : Room j X.A) (hk : k ≤ j) : OpR X (binaryOp .Mult) (rOpT C T sp E0) := by
  obtain ⟨f, F, h1, h2⟩ := c
  exact op_ownT (op := .Mult) o (by show findIn X.K (.ref C) (PySem.dunder "mul") = _; rw [du_mul]; exact h1) h2 F (hr.mono hk) pass0
/-- what is asked where the instance stands on the right of + -/
structure RadT (K : Frag) (C : Addr) (T : String) : Prop where
  sf : PySem.W.selfFirst K C = true
  ad : ∃ fa : Addr, findIn K (.ref C) "__add__" = some (some (.ref fa))
  t : ∃ fo ro, findIn K (.type T) (PySem.dunder "add") = some fo ∧ findIn K (.type T) (dunderR "add") = some ro ∧ ((fo.isSome && !isSeqSlot fo) || (ro.isSome && !isSeqSlot ro)) = false
theorem op_raddS (c : CalS X.prog X.w X.K X.mg X.base k C "__radd__" sp) (o : RadT X.K C T) (hr : Room j X.A) (hk : k ≤ j) : OpR X (binaryOp .Add) (rOpTR C T sp E0) := by
  obtain ⟨f, F, h1, h2⟩ := c
  obtain ⟨fa, ha⟩ := o.ad
  obtain ⟨fo, ro, t1, t2, t3⟩ := o.t
  exact op_raddT o.sf ha t1 t2 t3 h1 h2 F (hr.mono hk) pass0
theorem ty_str {x : Str} : ∀ u, RelV (.str x) u → typeOf u = pure (.type "str") := fun u ⟨t, e⟩ => by subst e; rfl
end
end UL
set_option Elab.async false
set_option linter.all false
set_option maxRecDepth 100000
set_option maxHeartbeats 4000000
namespace GQ
open PySem PySem.SeqAt
open AutoSeq1 (wpAny_loadPart')
open MeetsSeq MeetsSeq2 MeetsSeq3 SeqRoads2
open Ob (RcOp lexAt lexAt_zero lexAt_succ)
/-! ### the four orders of lists: the first place that differs decides -/
/-- two lists lie there -/
def TwoL (s : Shared) (l b : Addr) (xs ys : Array Value) (n m : Nat) (d1 d2 : Option Addr) (sl sm : Array (Option Value)) : Prop :=
  s.heap.get? l = some { cls := .type "list", dict := d1, data := .seq xs n, slots := sl } ∧ s.heap.get? b = some { cls := .type "list", dict := d2, data := .seq ys m, slots := sm }
theorem lt_from (l b : Addr) (xs ys : Array Value) (n m : Nat) (d1 d2 : Option Addr) (sl sm : Array (Option Value)) (e r : Nat → Bool) (k : Nat) : ∀ i : Nat, min xs.size ys.size - i = k →
    Meets (Builtin.«list.__eq__.loop» ⟨[.ref l, .ref b, rawInt i, rawInt 0], []⟩) (fun A R s => TwoL s l b xs ys n m d1 d2 sl sm ∧
      (∀ j (h1 : j < xs.size) (h2 : j < ys.size), EqAt A.in1 s xs[j] ys[j] (e j)) ∧ (∀ j (h1 : j < xs.size) (h2 : j < ys.size), e j = false → RcOp .Lt A.in1 s xs[j] ys[j] (r j)) ∧
      R (.ok (.ret (.bool (lexAt e r (decide (xs.size < ys.size)) i k)))) s) := by
  induction k with
  | zero =>
    intro i hk prog w A R s ⟨⟨hl, hb⟩, he, hr, hR⟩
    obtain ⟨hp, g, d, tk, os⟩ := s
    rw [lexAt_zero] at hR
    wp_walk using wpAny_loadPart' hl, wpAny_loadPart' hb
    by_cases c : xs.size ≤ i
    · rw [show xs[((i : Nat) : Int).toNat]? = none by simp; omega]
      wp_walk using wpAny_loadPart' hl, wpAny_loadPart' hb
      exact hR
    · rw [show xs[((i : Nat) : Int).toNat]? = some (xs[i]'(by omega)) by simp, show ys[((i : Nat) : Int).toNat]? = none by simp; omega]
      wp_walk using wpAny_loadPart' hl, wpAny_loadPart' hb
      exact hR
  | succ k ih =>
    intro i hk prog w A R s ⟨⟨hl, hb⟩, he, hr, hR⟩
    obtain ⟨hp, g, d, tk, os⟩ := s
    have p1 : i < xs.size := by omega
    have p2 : i < ys.size := by omega
    have q1 : xs[((i : Nat) : Int).toNat]? = some xs[i] := by simp [p1]
    have q2 : ys[((i : Nat) : Int).toNat]? = some ys[i] := by simp [p2]
    rw [lexAt_succ] at hR
    wp_walk using wpAny_loadPart' hl, wpAny_loadPart' hb
    rw [q1, q2]
    refine wpAny_bind (he i p1 p2 prog w _ _ ?_)
    cases c : e i with
    | true =>
      rw [if_pos c] at hR
      wp_walk
      rw [show ((i : Int) + 1) = ((i + 1 : Nat) : Int) by push_cast; rfl]
      refine ⟨plainId_quiet plain_eq_loop _, codeAny_builtin entry_eq_loop ?_⟩
      rw [Around.under_plainId plain_eq_loop _]
      exact ih (i + 1) (by omega) prog w A R _ ⟨⟨hl, hb⟩, he, hr, hR⟩
    | false =>
      rw [if_neg (by rw [c]; exact Bool.false_ne_true)] at hR
      wp_walk using wpAny_loadPart' hl, wpAny_loadPart' hb
      rw [q1, q2]
      repeat (first | refine hr i p1 p2 c prog w _ _ ?_ | wp_step)
      wp_walk
      exact hR
theorem lists_lt {A : Around} {s : Shared} {l b : Addr} {xs ys : Array Value} {e r : Nat → Bool} (hl : s.heap.IsList l xs) (hb : s.heap.IsList b ys) (hu : A.units < cLine) (he : ∀ j (h1 : j < xs.size) (h2 : j < ys.size), EqAt A.in1 s xs[j] ys[j] (e j))
    (hr : ∀ j (h1 : j < xs.size) (h2 : j < ys.size), e j = false → RcOp .Lt A.in1 s xs[j] ys[j] (r j)) : RcOp .Lt A s (.ref l) (.ref b) (lexAt e r (decide (xs.size < ys.size)) 0 (min xs.size ys.size)) := fun prog w E Q hq => by
  obtain ⟨⟨c1, d1, w1, sl⟩, ho, z1, n, v1⟩ := id hl
  obtain ⟨⟨c2, d2, w2, sm⟩, hp, z2, m, v2⟩ := id hb
  simp only at z1 v1 z2 v2
  subst z1 v1 z2 v2
  have go : Meets (Builtin.«list.__lt__» ⟨[.ref l, .ref b], []⟩) (fun A R s => TwoL s l b xs ys n m d1 d2 sl sm ∧
      (∀ j (h1 : j < xs.size) (h2 : j < ys.size), EqAt A.in1 s xs[j] ys[j] (e j)) ∧ (∀ j (h1 : j < xs.size) (h2 : j < ys.size), e j = false → RcOp .Lt A.in1 s xs[j] ys[j] (r j)) ∧
      R (.ok (.ret (.bool (lexAt e r (decide (xs.size < ys.size)) 0 (min xs.size ys.size))))) s) := by
    intro prog w A R s ⟨⟨hl, hb⟩, he, hr, hR⟩
    obtain ⟨hp, g, d, tk, os⟩ := s
    have f3 := AutoSeq1.sub_list_list
    wp_walk using wpAny_loadPart' hl, wpAny_loadPart' hb
    refine ⟨plainId_quiet plain_eq_loop _, codeAny_builtin entry_eq_loop ?_⟩
    rw [Around.under_plainId plain_eq_loop _]
    exact lt_from l b xs ys n m d1 d2 sl sm e r _ 0 (by simp) prog w A R _ ⟨⟨hl, hb⟩, he, hr, hR⟩
  exact richCompare_meets_room (op := .Lt) ⟨_, ho, rfl⟩ ⟨_, hp, rfl⟩ F.slot_list_lt F.entry_list_lt (F.args_list_lt_2 _ _) go ⟨⟨ho, hp⟩, he, hr, (fun x => nomatch x), hq⟩ hu
theorem le_from (l b : Addr) (xs ys : Array Value) (n m : Nat) (d1 d2 : Option Addr) (sl sm : Array (Option Value)) (e r : Nat → Bool) (k : Nat) : ∀ i : Nat, min xs.size ys.size - i = k →
    Meets (Builtin.«list.__eq__.loop» ⟨[.ref l, .ref b, rawInt i, rawInt 1], []⟩) (fun A R s => TwoL s l b xs ys n m d1 d2 sl sm ∧
      (∀ j (h1 : j < xs.size) (h2 : j < ys.size), EqAt A.in1 s xs[j] ys[j] (e j)) ∧ (∀ j (h1 : j < xs.size) (h2 : j < ys.size), e j = false → RcOp .LtE A.in1 s xs[j] ys[j] (r j)) ∧
      R (.ok (.ret (.bool (lexAt e r (decide (xs.size ≤ ys.size)) i k)))) s) := by
  induction k with
  | zero =>
    intro i hk prog w A R s ⟨⟨hl, hb⟩, he, hr, hR⟩
    obtain ⟨hp, g, d, tk, os⟩ := s
    rw [lexAt_zero] at hR
    wp_walk using wpAny_loadPart' hl, wpAny_loadPart' hb
    by_cases c : xs.size ≤ i
    · rw [show xs[((i : Nat) : Int).toNat]? = none by simp; omega]
      wp_walk using wpAny_loadPart' hl, wpAny_loadPart' hb
      exact hR
    · rw [show xs[((i : Nat) : Int).toNat]? = some (xs[i]'(by omega)) by simp, show ys[((i : Nat) : Int).toNat]? = none by simp; omega]
      wp_walk using wpAny_loadPart' hl, wpAny_loadPart' hb
      exact hR
  | succ k ih =>
    intro i hk prog w A R s ⟨⟨hl, hb⟩, he, hr, hR⟩
    obtain ⟨hp, g, d, tk, os⟩ := s
    have p1 : i < xs.size := by omega
    have p2 : i < ys.size := by omega
    have q1 : xs[((i : Nat) : Int).toNat]? = some xs[i] := by simp [p1]
    have q2 : ys[((i : Nat) : Int).toNat]? = some ys[i] := by simp [p2]
    rw [lexAt_succ] at hR
    wp_walk using wpAny_loadPart' hl, wpAny_loadPart' hb
    rw [q1, q2]
    refine wpAny_bind (he i p1 p2 prog w _ _ ?_)
    cases c : e i with
    | true =>
      rw [if_pos c] at hR
      wp_walk
      rw [show ((i : Int) + 1) = ((i + 1 : Nat) : Int) by push_cast; rfl]
      refine ⟨plainId_quiet plain_eq_loop _, codeAny_builtin entry_eq_loop ?_⟩
      rw [Around.under_plainId plain_eq_loop _]
      exact ih (i + 1) (by omega) prog w A R _ ⟨⟨hl, hb⟩, he, hr, hR⟩
    | false =>
      rw [if_neg (by rw [c]; exact Bool.false_ne_true)] at hR
      wp_walk using wpAny_loadPart' hl, wpAny_loadPart' hb
      rw [q1, q2]
      repeat (first | refine hr i p1 p2 c prog w _ _ ?_ | wp_step)
      wp_walk
      exact hR
theorem lists_le {A : Around} {s : Shared} {l b : Addr} {xs ys : Array Value} {e r : Nat → Bool} (hl : s.heap.IsList l xs) (hb : s.heap.IsList b ys) (hu : A.units < cLine) (he : ∀ j (h1 : j < xs.size) (h2 : j < ys.size), EqAt A.in1 s xs[j] ys[j] (e j))
    (hr : ∀ j (h1 : j < xs.size) (h2 : j < ys.size), e j = false → RcOp .LtE A.in1 s xs[j] ys[j] (r j)) : RcOp .LtE A s (.ref l) (.ref b) (lexAt e r (decide (xs.size ≤ ys.size)) 0 (min xs.size ys.size)) := fun prog w E Q hq => by
  obtain ⟨⟨c1, d1, w1, sl⟩, ho, z1, n, v1⟩ := id hl
  obtain ⟨⟨c2, d2, w2, sm⟩, hp, z2, m, v2⟩ := id hb
  simp only at z1 v1 z2 v2
  subst z1 v1 z2 v2
  have go : Meets (Builtin.«list.__le__» ⟨[.ref l, .ref b], []⟩) (fun A R s => TwoL s l b xs ys n m d1 d2 sl sm ∧
      (∀ j (h1 : j < xs.size) (h2 : j < ys.size), EqAt A.in1 s xs[j] ys[j] (e j)) ∧ (∀ j (h1 : j < xs.size) (h2 : j < ys.size), e j = false → RcOp .LtE A.in1 s xs[j] ys[j] (r j)) ∧
      R (.ok (.ret (.bool (lexAt e r (decide (xs.size ≤ ys.size)) 0 (min xs.size ys.size))))) s) := by
    intro prog w A R s ⟨⟨hl, hb⟩, he, hr, hR⟩
    obtain ⟨hp, g, d, tk, os⟩ := s
    have f3 := AutoSeq1.sub_list_list
    wp_walk using wpAny_loadPart' hl, wpAny_loadPart' hb
    refine ⟨plainId_quiet plain_eq_loop _, codeAny_builtin entry_eq_loop ?_⟩
    rw [Around.under_plainId plain_eq_loop _]
    exact le_from l b xs ys n m d1 d2 sl sm e r _ 0 (by simp) prog w A R _ ⟨⟨hl, hb⟩, he, hr, hR⟩
  exact richCompare_meets_room (op := .LtE) ⟨_, ho, rfl⟩ ⟨_, hp, rfl⟩ F.slot_list_le F.entry_list_le (F.args_list_le_2 _ _) go ⟨⟨ho, hp⟩, he, hr, (fun x => nomatch x), hq⟩ hu
theorem gt_from (l b : Addr) (xs ys : Array Value) (n m : Nat) (d1 d2 : Option Addr) (sl sm : Array (Option Value)) (e r : Nat → Bool) (k : Nat) : ∀ i : Nat, min xs.size ys.size - i = k →
    Meets (Builtin.«list.__eq__.loop» ⟨[.ref l, .ref b, rawInt i, rawInt 4], []⟩) (fun A R s => TwoL s l b xs ys n m d1 d2 sl sm ∧
      (∀ j (h1 : j < xs.size) (h2 : j < ys.size), EqAt A.in1 s xs[j] ys[j] (e j)) ∧ (∀ j (h1 : j < xs.size) (h2 : j < ys.size), e j = false → RcOp .Gt A.in1 s xs[j] ys[j] (r j)) ∧
      R (.ok (.ret (.bool (lexAt e r (decide (ys.size < xs.size)) i k)))) s) := by
  induction k with
  | zero =>
    intro i hk prog w A R s ⟨⟨hl, hb⟩, he, hr, hR⟩
    obtain ⟨hp, g, d, tk, os⟩ := s
    rw [lexAt_zero] at hR
    wp_walk using wpAny_loadPart' hl, wpAny_loadPart' hb
    by_cases c : xs.size ≤ i
    · rw [show xs[((i : Nat) : Int).toNat]? = none by simp; omega]
      wp_walk using wpAny_loadPart' hl, wpAny_loadPart' hb
      exact hR
    · rw [show xs[((i : Nat) : Int).toNat]? = some (xs[i]'(by omega)) by simp, show ys[((i : Nat) : Int).toNat]? = none by simp; omega]
      wp_walk using wpAny_loadPart' hl, wpAny_loadPart' hb
      exact hR
  | succ k ih =>
    intro i hk prog w A R s ⟨⟨hl, hb⟩, he, hr, hR⟩
    obtain ⟨hp, g, d, tk, os⟩ := s
    have p1 : i < xs.size := by omega
    have p2 : i < ys.size := by omega
    have q1 : xs[((i : Nat) : Int).toNat]? = some xs[i] := by simp [p1]
    have q2 : ys[((i : Nat) : Int).toNat]? = some ys[i] := by simp [p2]
    rw [lexAt_succ] at hR
    wp_walk using wpAny_loadPart' hl, wpAny_loadPart' hb
    rw [q1, q2]
    refine wpAny_bind (he i p1 p2 prog w _ _ ?_)
    cases c : e i with
    | true =>
      rw [if_pos c] at hR
      wp_walk
      rw [show ((i : Int) + 1) = ((i + 1 : Nat) : Int) by push_cast; rfl]
      refine ⟨plainId_quiet plain_eq_loop _, codeAny_builtin entry_eq_loop ?_⟩
      rw [Around.under_plainId plain_eq_loop _]
      exact ih (i + 1) (by omega) prog w A R _ ⟨⟨hl, hb⟩, he, hr, hR⟩
    | false =>
      rw [if_neg (by rw [c]; exact Bool.false_ne_true)] at hR
      wp_walk using wpAny_loadPart' hl, wpAny_loadPart' hb
      rw [q1, q2]
      repeat (first | refine hr i p1 p2 c prog w _ _ ?_ | wp_step)
      wp_walk
      exact hR
theorem lists_gt {A : Around} {s : Shared} {l b : Addr} {xs ys : Array Value} {e r : Nat → Bool} (hl : s.heap.IsList l xs) (hb : s.heap.IsList b ys) (hu : A.units < cLine) (he : ∀ j (h1 : j < xs.size) (h2 : j < ys.size), EqAt A.in1 s xs[j] ys[j] (e j))
    (hr : ∀ j (h1 : j < xs.size) (h2 : j < ys.size), e j = false → RcOp .Gt A.in1 s xs[j] ys[j] (r j)) : RcOp .Gt A s (.ref l) (.ref b) (lexAt e r (decide (ys.size < xs.size)) 0 (min xs.size ys.size)) := fun prog w E Q hq => by
  obtain ⟨⟨c1, d1, w1, sl⟩, ho, z1, n, v1⟩ := id hl
  obtain ⟨⟨c2, d2, w2, sm⟩, hp, z2, m, v2⟩ := id hb
  simp only at z1 v1 z2 v2
  subst z1 v1 z2 v2
  have go : Meets (Builtin.«list.__gt__» ⟨[.ref l, .ref b], []⟩) (fun A R s => TwoL s l b xs ys n m d1 d2 sl sm ∧
      (∀ j (h1 : j < xs.size) (h2 : j < ys.size), EqAt A.in1 s xs[j] ys[j] (e j)) ∧ (∀ j (h1 : j < xs.size) (h2 : j < ys.size), e j = false → RcOp .Gt A.in1 s xs[j] ys[j] (r j)) ∧
      R (.ok (.ret (.bool (lexAt e r (decide (ys.size < xs.size)) 0 (min xs.size ys.size))))) s) := by
    intro prog w A R s ⟨⟨hl, hb⟩, he, hr, hR⟩
    obtain ⟨hp, g, d, tk, os⟩ := s
    have f3 := AutoSeq1.sub_list_list
    wp_walk using wpAny_loadPart' hl, wpAny_loadPart' hb
    refine ⟨plainId_quiet plain_eq_loop _, codeAny_builtin entry_eq_loop ?_⟩
    rw [Around.under_plainId plain_eq_loop _]
    exact gt_from l b xs ys n m d1 d2 sl sm e r _ 0 (by simp) prog w A R _ ⟨⟨hl, hb⟩, he, hr, hR⟩
  exact richCompare_meets_room (op := .Gt) ⟨_, ho, rfl⟩ ⟨_, hp, rfl⟩ F.slot_list_gt F.entry_list_gt (F.args_list_gt_2 _ _) go ⟨⟨ho, hp⟩, he, hr, (fun x => nomatch x), hq⟩ hu
theorem ge_from (l b : Addr) (xs ys : Array Value) (n m : Nat) (d1 d2 : Option Addr) (sl sm : Array (Option Value)) (e r : Nat → Bool) (k : Nat) : ∀ i : Nat, min xs.size ys.size - i = k →
    Meets (Builtin.«list.__eq__.loop» ⟨[.ref l, .ref b, rawInt i, rawInt 5], []⟩) (fun A R s => TwoL s l b xs ys n m d1 d2 sl sm ∧
      (∀ j (h1 : j < xs.size) (h2 : j < ys.size), EqAt A.in1 s xs[j] ys[j] (e j)) ∧ (∀ j (h1 : j < xs.size) (h2 : j < ys.size), e j = false → RcOp .GtE A.in1 s xs[j] ys[j] (r j)) ∧
      R (.ok (.ret (.bool (lexAt e r (decide (ys.size ≤ xs.size)) i k)))) s) := by
  induction k with
  | zero =>
    intro i hk prog w A R s ⟨⟨hl, hb⟩, he, hr, hR⟩
    obtain ⟨hp, g, d, tk, os⟩ := s
    rw [lexAt_zero] at hR
    wp_walk using wpAny_loadPart' hl, wpAny_loadPart' hb
    by_cases c : xs.size ≤ i
    · rw [show xs[((i : Nat) : Int).toNat]? = none by simp; omega]
      wp_walk using wpAny_loadPart' hl, wpAny_loadPart' hb
      exact hR
    · rw [show xs[((i : Nat) : Int).toNat]? = some (xs[i]'(by omega)) by simp, show ys[((i : Nat) : Int).toNat]? = none by simp; omega]
      wp_walk using wpAny_loadPart' hl, wpAny_loadPart' hb
      exact hR
  | succ k ih =>
    intro i hk prog w A R s ⟨⟨hl, hb⟩, he, hr, hR⟩
    obtain ⟨hp, g, d, tk, os⟩ := s
    have p1 : i < xs.size := by omega
    have p2 : i < ys.size := by omega
    have q1 : xs[((i : Nat) : Int).toNat]? = some xs[i] := by simp [p1]
    have q2 : ys[((i : Nat) : Int).toNat]? = some ys[i] := by simp [p2]
    rw [lexAt_succ] at hR
    wp_walk using wpAny_loadPart' hl, wpAny_loadPart' hb
    rw [q1, q2]
    refine wpAny_bind (he i p1 p2 prog w _ _ ?_)
    cases c : e i with
    | true =>
      rw [if_pos c] at hR
      wp_walk
      rw [show ((i : Int) + 1) = ((i + 1 : Nat) : Int) by push_cast; rfl]
      refine ⟨plainId_quiet plain_eq_loop _, codeAny_builtin entry_eq_loop ?_⟩
      rw [Around.under_plainId plain_eq_loop _]
      exact ih (i + 1) (by omega) prog w A R _ ⟨⟨hl, hb⟩, he, hr, hR⟩
    | false =>
      rw [if_neg (by rw [c]; exact Bool.false_ne_true)] at hR
      wp_walk using wpAny_loadPart' hl, wpAny_loadPart' hb
      rw [q1, q2]
      repeat (first | refine hr i p1 p2 c prog w _ _ ?_ | wp_step)
      wp_walk
      exact hR
theorem lists_ge {A : Around} {s : Shared} {l b : Addr} {xs ys : Array Value} {e r : Nat → Bool} (hl : s.heap.IsList l xs) (hb : s.heap.IsList b ys) (hu : A.units < cLine) (he : ∀ j (h1 : j < xs.size) (h2 : j < ys.size), EqAt A.in1 s xs[j] ys[j] (e j))
    (hr : ∀ j (h1 : j < xs.size) (h2 : j < ys.size), e j = false → RcOp .GtE A.in1 s xs[j] ys[j] (r j)) : RcOp .GtE A s (.ref l) (.ref b) (lexAt e r (decide (ys.size ≤ xs.size)) 0 (min xs.size ys.size)) := fun prog w E Q hq => by
  obtain ⟨⟨c1, d1, w1, sl⟩, ho, z1, n, v1⟩ := id hl
  obtain ⟨⟨c2, d2, w2, sm⟩, hp, z2, m, v2⟩ := id hb
  simp only at z1 v1 z2 v2
  subst z1 v1 z2 v2
  have go : Meets (Builtin.«list.__ge__» ⟨[.ref l, .ref b], []⟩) (fun A R s => TwoL s l b xs ys n m d1 d2 sl sm ∧
      (∀ j (h1 : j < xs.size) (h2 : j < ys.size), EqAt A.in1 s xs[j] ys[j] (e j)) ∧ (∀ j (h1 : j < xs.size) (h2 : j < ys.size), e j = false → RcOp .GtE A.in1 s xs[j] ys[j] (r j)) ∧
      R (.ok (.ret (.bool (lexAt e r (decide (ys.size ≤ xs.size)) 0 (min xs.size ys.size))))) s) := by
    intro prog w A R s ⟨⟨hl, hb⟩, he, hr, hR⟩
    obtain ⟨hp, g, d, tk, os⟩ := s
    have f3 := AutoSeq1.sub_list_list
    wp_walk using wpAny_loadPart' hl, wpAny_loadPart' hb
    refine ⟨plainId_quiet plain_eq_loop _, codeAny_builtin entry_eq_loop ?_⟩
    rw [Around.under_plainId plain_eq_loop _]
    exact ge_from l b xs ys n m d1 d2 sl sm e r _ 0 (by simp) prog w A R _ ⟨⟨hl, hb⟩, he, hr, hR⟩
  exact richCompare_meets_room (op := .GtE) ⟨_, ho, rfl⟩ ⟨_, hp, rfl⟩ F.slot_list_ge F.entry_list_ge (F.args_list_ge_2 _ _) go ⟨⟨ho, hp⟩, he, hr, (fun x => nomatch x), hq⟩ hu
end GQ
set_option Elab.async false
set_option linter.all false
set_option maxRecDepth 100000
set_option maxHeartbeats 4000000
namespace UL
open PySem PySem.Spec PyProof.Rows L2 PySem.SeqAt
open Ob (RcOp lexAt lexAt_zero lexAt_succ)
/-! ### the orders of nested lists and tuples of whole numbers -/
def opI : CmpOp → Int → Int → Bool
  | .Lt, a, b => decide (a < b)
  | .LtE, a, b => decide (a ≤ b)
  | .Gt, a, b => decide (b < a)
  | .GtE, a, b => decide (b ≤ a)
  | _, _, _ => false
def opN : CmpOp → Nat → Nat → Bool
  | .Lt, a, b => decide (a < b)
  | .LtE, a, b => decide (a ≤ b)
  | .Gt, a, b => decide (b < a)
  | .GtE, a, b => decide (b ≤ a)
  | _, _, _ => false
mutual
def ordV (o : CmpOp) : PyData → PyData → Bool
  | .int a, .int b => opI o a b
  | .list xs, .list ys => ordL o (opN o xs.length ys.length) xs ys
  | .tuple xs, .tuple ys => ordL o (opN o xs.length ys.length) xs ys
  | _, _ => false
def ordL (o : CmpOp) (z : Bool) : List PyData → List PyData → Bool
  | x :: xs, y :: ys => if PyData.eqv x y = true then ordL o z xs ys else ordV o x y
  | [], _ => z
  | _ :: _, [] => z
end
mutual
/-- they can be ordered: whole numbers where they first differ -/
def ordOk : PyData → PyData → Bool
  | .int _, .int _ => true
  | .list xs, .list ys => ordOkL xs ys
  | .tuple xs, .tuple ys => ordOkL xs ys
  | _, _ => false
def ordOkL : List PyData → List PyData → Bool
  | x :: xs, y :: ys => (PyData.eqv x y || ordOk x y) && ordOkL xs ys
  | [], _ => true
  | _ :: _, [] => true
end
inductive IsOrd : CmpOp → Prop
  | lt : IsOrd .Lt
  | le : IsOrd .LtE
  | gt : IsOrd .Gt
  | ge : IsOrd .GtE
theorem rc_int {o : CmpOp} (ho : IsOrd o) {A : Around} {s : Shared} (a b : Int) (t u : Tok) : RcOp o A s (.int a t) (.int b u) (opI o a b) := by
  cases ho
  · exact RcOp.lt_int a b t u
  · exact RcOp.le_int a b t u
  · exact RcOp.gt_int a b t u
  · exact RcOp.ge_int a b t u
theorem rc_lists {o : CmpOp} (ho : IsOrd o) {A : Around} {s : Shared} {l b : Addr} {xs ys : Array Value} {e r : Nat → Bool} (hl : s.heap.IsList l xs) (hb : s.heap.IsList b ys) (hu : A.units < cLine) (he : ∀ j (h1 : j < xs.size) (h2 : j < ys.size), EqAt A.in1 s xs[j] ys[j] (e j))
    (hr : ∀ j (h1 : j < xs.size) (h2 : j < ys.size), e j = false → RcOp o A.in1 s xs[j] ys[j] (r j)) : RcOp o A s (.ref l) (.ref b) (lexAt e r (opN o xs.size ys.size) 0 (min xs.size ys.size)) := by
  cases ho
  · exact GQ.lists_lt hl hb hu he hr
  · exact GQ.lists_le hl hb hu he hr
  · exact GQ.lists_gt hl hb hu he hr
  · exact GQ.lists_ge hl hb hu he hr
theorem rc_tups {o : CmpOp} (ho : IsOrd o) {A : Around} {s : Shared} {l b : Addr} {xs ys : Array Value} {e r : Nat → Bool} (hl : s.heap.IsTuple l xs) (hb : s.heap.IsTuple b ys) (hu : A.units < cLine) (he : ∀ j (h1 : j < xs.size) (h2 : j < ys.size), EqAt A.in1 s xs[j] ys[j] (e j))
    (hr : ∀ j (h1 : j < xs.size) (h2 : j < ys.size), e j = false → RcOp o A.in1 s xs[j] ys[j] (r j)) : RcOp o A s (.ref l) (.ref b) (lexAt e r (opN o xs.size ys.size) 0 (min xs.size ys.size)) := by
  cases ho
  · exact RcOp.tuples_lt hl hb hu he hr
  · exact RcOp.tuples_le hl hb hu he hr
  · exact RcOp.tuples_gt hl hb hu he hr
  · exact RcOp.tuples_ge hl hb hu he hr
theorem lex_ordL {o : CmpOp} {z : Bool} {e r : Nat → Bool} : ∀ (xs ys : List PyData) (i : Nat), (∀ j, e (i + j) = pairEq xs ys j) → (∀ j, j < min xs.length ys.length → r (i + j) = ordV o (xs.getD j .none) (ys.getD j .none)) →
    lexAt e r z i (min xs.length ys.length) = ordL o z xs ys
  | [], ys, i, _, _ => by
    rw [show min ([] : List PyData).length ys.length = 0 by simp, lexAt_zero]
    cases ys <;> simp [ordL]
  | x :: xs, [], i, _, _ => by
    rw [show min (x :: xs).length ([] : List PyData).length = 0 by simp, lexAt_zero]
    simp [ordL]
  | x :: xs, y :: ys, i, he, hr => by
    rw [show min (x :: xs).length (y :: ys).length = min xs.length ys.length + 1 by simp only [List.length_cons]; omega, lexAt_succ]
    have e0 := he 0
    have r0 := hr 0 (by simp only [List.length_cons]; omega)
    rw [Nat.add_zero] at e0 r0
    rw [e0, r0, lex_ordL xs ys (i + 1) (fun j => by rw [show i + 1 + j = i + (j + 1) by omega, he (j + 1)]; rfl) (fun j hj => by
      rw [show i + 1 + j = i + (j + 1) by omega, hr (j + 1) (by simp only [List.length_cons]; omega)]; rfl)]
    rw [ordL]
    rfl
theorem ra_len {h : Heap} : ∀ {vs : List Value} {ds : List PyData} {as : List Addr}, ReadsAll h vs ds as → vs.length = ds.length
  | _, _, _, .nil => rfl
  | _, _, _, .cons _ t => congrArg (· + 1) (ra_len t)
mutual
theorem rc_data {o : CmpOp} (ho : IsOrd o) : ∀ (d e : PyData) (A : Around) (s : Shared) (u v : Value) (as bs : List Addr), Reads s.heap u d as → Reads s.heap v e bs → ordOk d e = true → d.canLay0 = true → e.canLay0 = true → A.units + d.depth < cLine →
    RcOp o A s u v (ordV o d e)
  | .int a, e, A, s, _, _, _, _, r1, r2, h, _, _, hu => by
    cases e <;> simp only [ordOk, Bool.false_eq_true] at h
    cases r1
    cases r2
    rw [ordV]
    exact rc_int ho _ _ _ _
  | .list xs, e, A, s, _, _, _, _, r1, r2, h, l1, l2, hu => by
    cases e <;> simp only [ordOk, Bool.false_eq_true] at h
    rename_i ys
    have m1 : PyData.canLayAll0 xs = true := by simpa [PyData.canLay0] using l1
    have m2 : PyData.canLayAll0 ys = true := by simpa [PyData.canLay0] using l2
    have hd : (PyData.list xs).depth = PyData.depthAll xs + 1 := by simp [PyData.depth]
    cases r1 with
    | list p1 p2 p3 p4 =>
      rename_i oa vs na aa
      cases r2 with
      | list q1 q2 q3 q4 =>
        rename_i ob ws nb bb
        have n1 : vs.size = xs.length := by rw [← Array.length_toList]; exact ra_len p4
        have n2 : ws.size = ys.length := by rw [← Array.length_toList]; exact ra_len q4
        have step := rc_lists ho (A := A) (s := s) (e := pairEq xs ys) (r := fun j => ordV o (xs.getD j .none) (ys.getD j .none)) ⟨_, p1, p2, _, p3⟩ ⟨_, q1, q2, _, q3⟩ (by omega) (fun j h1 h2 => by
          have k := eqAt_readsAll xs ys A.in1 s _ _ _ _ p4 q4 m1 m2 (by have : A.in1.units = A.units + 1 := rfl; omega) j (by simpa using h1) (by simpa using h2)
          simpa using k) (fun j h1 h2 hj => by
          have k := rc_dataAll ho xs ys A.in1 s _ _ _ _ p4 q4 h m1 m2 (by have : A.in1.units = A.units + 1 := rfl; omega) j (by simpa using h1) (by simpa using h2) hj
          simpa using k)
        rw [n1, n2, lex_ordL xs ys 0 (fun j => by rw [Nat.zero_add]) (fun j _ => by rw [Nat.zero_add])] at step
        rw [ordV]
        exact step
  | .tuple xs, e, A, s, _, _, _, _, r1, r2, h, l1, l2, hu => by
    cases e <;> simp only [ordOk, Bool.false_eq_true] at h
    rename_i ys
    have m1 : PyData.canLayAll0 xs = true := by simpa [PyData.canLay0] using l1
    have m2 : PyData.canLayAll0 ys = true := by simpa [PyData.canLay0] using l2
    have hd : (PyData.tuple xs).depth = PyData.depthAll xs + 1 := by simp [PyData.depth]
    cases r1 with
    | tuple p1 p2 p3 p4 =>
      rename_i aa oa vs na
      cases r2 with
      | tuple q1 q2 q3 q4 =>
        rename_i bb ob ws nb
        have n1 : vs.size = xs.length := by rw [← Array.length_toList]; exact ra_len p4
        have n2 : ws.size = ys.length := by rw [← Array.length_toList]; exact ra_len q4
        have step := rc_tups ho (A := A) (s := s) (e := pairEq xs ys) (r := fun j => ordV o (xs.getD j .none) (ys.getD j .none)) ⟨_, p1, p2, _, p3⟩ ⟨_, q1, q2, _, q3⟩ (by omega) (fun j h1 h2 => by
          have k := eqAt_readsAll xs ys A.in1 s _ _ _ _ p4 q4 m1 m2 (by have : A.in1.units = A.units + 1 := rfl; omega) j (by simpa using h1) (by simpa using h2)
          simpa using k) (fun j h1 h2 hj => by
          have k := rc_dataAll ho xs ys A.in1 s _ _ _ _ p4 q4 h m1 m2 (by have : A.in1.units = A.units + 1 := rfl; omega) j (by simpa using h1) (by simpa using h2) hj
          simpa using k)
        rw [n1, n2, lex_ordL xs ys 0 (fun j => by rw [Nat.zero_add]) (fun j _ => by rw [Nat.zero_add])] at step
        rw [ordV]
        exact step
  | .none, _, _, _, _, _, _, _, _, _, h, _, _, _ => by simp [ordOk] at h
  | .bool _, _, _, _, _, _, _, _, _, _, h, _, _, _ => by simp [ordOk] at h
  | .str _, _, _, _, _, _, _, _, _, _, h, _, _, _ => by simp [ordOk] at h
  | .dict _, _, _, _, _, _, _, _, _, _, h, _, _, _ => by simp [ordOk] at h
theorem rc_dataAll {o : CmpOp} (ho : IsOrd o) : ∀ (xs ys : List PyData) (A : Around) (s : Shared) (us vs : List Value) (as bs : List Addr), ReadsAll s.heap us xs as → ReadsAll s.heap vs ys bs → ordOkL xs ys = true → PyData.canLayAll0 xs = true → PyData.canLayAll0 ys = true →
    A.units + PyData.depthAll xs < cLine → ∀ j (h1 : j < us.length) (h2 : j < vs.length), pairEq xs ys j = false → RcOp o A s us[j] vs[j] (ordV o (xs.getD j .none) (ys.getD j .none))
  | [], _, _, _, _, _, _, _, ra, _, _, _, _, _, j, h1, _, _ => by cases ra; exact absurd h1 (Nat.not_lt_zero _)
  | _ :: _, [], _, _, _, _, _, _, _, rb, _, _, _, _, j, _, h2, _ => by cases rb; exact absurd h2 (Nat.not_lt_zero _)
  | x :: xs, y :: ys, A, s, _, _, _, _, ra, rb, h, m1, m2, hu, j, h1, h2, hj => by
    have a1 : x.canLay0 = true ∧ PyData.canLayAll0 xs = true := by simpa [PyData.canLayAll0] using m1
    have a2 : y.canLay0 = true ∧ PyData.canLayAll0 ys = true := by simpa [PyData.canLayAll0] using m2
    have hh : (PyData.eqv x y = true ∨ ordOk x y = true) ∧ ordOkL xs ys = true := by simpa [ordOkL] using h
    have hd : x.depth ≤ PyData.depthAll (x :: xs) ∧ PyData.depthAll xs ≤ PyData.depthAll (x :: xs) := by
      simp only [PyData.depthAll]
      omega
    cases ra with
    | cons ra1 ra2 =>
      cases rb with
      | cons rb1 rb2 =>
        cases j with
        | zero =>
          have hj' : PyData.eqv x y = false := hj
          have ok : ordOk x y = true := by
            rcases hh.1 with z | z
            · rw [hj'] at z
              cases z
            · exact z
          exact rc_data ho x y A s _ _ _ _ ra1 rb1 ok a1.1 a2.1 (by omega)
        | succ j => exact rc_dataAll ho xs ys A s _ _ _ _ ra2 rb2 hh.2 a1.2 a2.2 (by omega) j (Nat.lt_of_succ_lt_succ h1) (Nat.lt_of_succ_lt_succ h2) hj
end
/-- x op y of data that can be ordered -/
def rOrdD (K : PySem.W.Frag) (o : CmpOp) : R2 := fun x y H Q => ∃ d e, Dp K H x d ∧ Dp K H y e ∧ ordOk d e = true ∧ d.canLay0 = true ∧ e.canLay0 = true ∧ d.depth ≤ 60 ∧ Q (.bl (ordV o d e)) H
section
variable {X : Cx}
theorem op_ordD {o : CmpOp} (ho : IsOrd o) (hu : X.A.units + 64 < cLine) : OpR X (compareOp o) (rOrdD X.K o) := by
  intro pins s σ H x y v u Q I rx ry h
  obtain ⟨d, e, hd, he, ok, l1, l2, dp, q⟩ := h
  obtain ⟨as, r1⟩ := Dp.reads I d x v hd rx
  obtain ⟨bs, r2⟩ := Dp.reads I e y u he ry
  have go := rc_data ho d e X.A s v u as bs r1 r2 ok l1 l2 (by omega) X.prog X.w X.xe _ (show EP X pins σ Q (.bool (ordV o d e)) s from ⟨.bl _, H, I, rfl, q⟩)
  cases ho <;> exact go
end
end UL
set_option Elab.async false
set_option linter.all false
set_option maxRecDepth 100000
set_option maxHeartbeats 4000000
namespace UL
open PySem PySem.Spec PyProof.Rows L2
/-! ### comprehensions whose elements leave the heap's objects alone (but a pot) -/
section
variable {J : It} {n : Nat} {G : Hp → Prop} {Y : Nat → Hp → V → Hp → Prop} {g : TG} {tt : TT} {te : TE} {vs : List Nat} {σ : L2.St} {H1 : Hp} {D : Addr} {Qd : Hp → Prop}
/-- what lc_it says -/
def LcW (J : It) (g : TG) (tt : TT) (te : TE) (vs : List Nat) (σ : L2.St) (H1 : Hp) (D : Addr) (Qd : Hp → Prop) : Prop :=
    ∃ W : Nat → Nat → Hp → Prop, (∃ m, W 0 m (upd H1 D (.lst []))) ∧ ∀ i m H, W i m H →
      (J.stop i H ∧ Qd H) ∨ (J.go i H ∧ ∃ Nx : Hp → Prop, (∀ H', Nx H' → ∃ m', m' < m ∧ W (i + 1) m' H') ∧ ∀ x H', J.yld i H x H' → g x (wipe σ vs) H' fun σ2 H2 => wipe σ2 vs = wipe σ vs ∧ tt σ2 H2 fun b H3 =>
        if b = true then te σ2 H3 fun y H4 => ∃ acc, H4 D = some (.lst acc) ∧ acc.length < sizeLine ∧ Nx (upd H4 D (.lst (acc ++ [y]))) else Nx H3)
/-- the i-th element is f i -/
theorem lc_same (w : Walk J n G Y) (hD : H1 D = none) (f : Nat → V) (hn : n ≤ 16000000) (hG : ∀ H, L2.Same H1 H → G H)
    (hs : ∀ i x H H', i < n → L2.Same H1 H → Y i H x H' → ∀ R : V → Hp → Prop, (∀ H4, L2.Same H H4 → R (f i) H4) → g x (wipe σ vs) H' fun σ2 H2 => wipe σ2 vs = wipe σ vs ∧ te σ2 H2 R)
    (hd : ∀ H, L2.Same H1 H → H D = some (.lst ((List.range n).map f)) → Qd H) : LcW J g tYes te vs σ H1 D Qd := by
  refine lc_it w (fun i H => H D = some (.lst ((List.range i).map f)) ∧ L2.Same H1 H) ⟨upd_same, same_new hD⟩ (fun i H _ p => hG H p.2) (fun i x H H' hi p y => ?_) fun H p => hd H p.2 p.1
  refine hs i x H H' hi p.2 y _ fun H4 s4 => ?_
  refine ⟨_, s4 _ _ p.1, line_gt (by rw [List.length_map, List.length_range]; omega), ?_, ?_⟩
  · rw [List.range_succ, List.map_append]
    exact upd_same
  · intro b o e
    rw [upd_ne (ne_of_none e hD)]
    exact s4 _ _ (p.2 _ _ e)
/-- some of them are kept -/
theorem lc_filt (w : Walk J n G Y) (hD : H1 D = none) (b : Nat → Bool) (f : Nat → V) (hn : n ≤ 16000000) (hG : ∀ H, L2.Same H1 H → G H)
    (hs : ∀ i x H H', i < n → L2.Same H1 H → Y i H x H' → ∀ (R : V → Hp → Prop) (Z : Hp → Prop), (b i = true → ∀ H4, L2.Same H H4 → R (f i) H4) → (b i = false → ∀ H4, L2.Same H H4 → Z H4) → g x (wipe σ vs) H' fun σ2 H2 => wipe σ2 vs = wipe σ vs ∧ tt σ2 H2 fun c H3 => if c = true then te σ2 H3 R else Z H3)
    (hd : ∀ H, L2.Same H1 H → H D = some (.lst (((List.range n).filter b).map f)) → Qd H) : LcW J g tt te vs σ H1 D Qd := by
  refine lc_it w (fun i H => H D = some (.lst (((List.range i).filter b).map f)) ∧ L2.Same H1 H) ⟨upd_same, same_new hD⟩ (fun i H _ p => hG H p.2) (fun i x H H' hi p y => ?_) fun H p => hd H p.2 p.1
  refine hs i x H H' hi p.2 y _ _ (fun c H4 s4 => ?_) fun c H4 s4 => ?_
  · refine ⟨_, s4 _ _ p.1, line_gt (by rw [List.length_map]; have := List.length_filter_le b (List.range i); rw [List.length_range] at this; omega), ?_, ?_⟩
    · rw [List.range_succ, List.filter_append, List.map_append, List.filter_cons_of_pos c]
      exact upd_same
    · intro b o e
      rw [upd_ne (ne_of_none e hD)]
      exact s4 _ _ (p.2 _ _ e)
  · refine ⟨?_, p.2.trans s4⟩
    rw [List.range_succ, List.filter_append, List.map_append, List.filter_cons_of_neg (by rw [c]; exact Bool.false_ne_true)]
    simp only [List.filter_nil, List.map_nil, List.append_nil]
    exact s4 _ _ p.1
/-- all but lists stay -/
def Keep (H H' : Hp) : Prop := ∀ b o, H b = some o → (∀ xs, o ≠ .lst xs) → H' b = some o
theorem Keep.refl (H : Hp) : Keep H H := fun _ _ h _ => h
theorem Keep.trans {H H1 H2 : Hp} (a : Keep H H1) (b : Keep H1 H2) : Keep H H2 := fun c o h n => b c o (a c o h n) n
theorem Same.keep {H H' : Hp} (s : L2.Same H H') : Keep H H' := fun b o h _ => s b o h
theorem Stay.keep {H H' : Hp} {p : Addr} (s : Stay p H H') (hp : Pot H p) : Keep H H' := fun b o h n => by
  obtain ⟨x, y, e, _⟩ := hp
  exact s b o (fun z => n _ (Option.some.inj (h.symm.trans (by rw [z]; exact e)))) h
theorem Keep.ins {H H' : Hp} {a C dx : Addr} {fs : List (Str × V)} (k : Keep H H') (h : H a = some (.ins C dx fs)) : H' a = some (.ins C dx fs) := k _ _ h fun xs z => by cases z
theorem Keep.tup {H H' : Hp} {a : Addr} {xs : List V} (k : Keep H H') (h : H a = some (.tup xs)) : H' a = some (.tup xs) := k _ _ h fun xs z => by cases z
/-- the elements tell R; a pot may change -/
theorem lc_stay (w : Walk J n G Y) {p : Addr} (hD : H1 D = none) (hp : Pot H1 p) (R : Nat → V → Hp → Prop)
    (mono : ∀ i v H H', R i v H → (∃ xs, H D = some (.lst xs)) → Pot H p → (∀ b o, b ≠ p → b ≠ D → H b = some o → H' b = some o) → R i v H') (hn : n ≤ 16000000) (hG : ∀ H, Stay p H1 H → Pot H p → G H)
    (hs : ∀ i x H H', i < n → Stay p H1 H → Pot H p → Y i H x H' → ∀ Z : V → Hp → Prop, (∀ y H4, R i y H4 → Stay p H H4 → Pot H4 p → Z y H4) → g x (wipe σ vs) H' fun σ2 H2 => wipe σ2 vs = wipe σ vs ∧ te σ2 H2 Z)
    (hd : ∀ H ys, ys.length = n → (∀ i y, ys[i]? = some y → R i y H) → Stay p H1 H → Pot H p → H D = some (.lst ys) → Qd H) : LcW J g tYes te vs σ H1 D Qd := by
  obtain ⟨a0, b0, e0, _⟩ := id hp
  have np : D ≠ p := (ne_of_none e0 hD).symm
  refine lc_it w (fun i H => ∃ ys : List V, ys.length = i ∧ (∀ j y, ys[j]? = some y → R j y H) ∧ H D = some (.lst ys) ∧ Stay p H1 H ∧ Pot H p) ⟨[], rfl, fun j y z => by simp at z, upd_same, Same.stay (same_new hD) p, hp.same (same_new hD)⟩
    (fun i H _ ⟨_, _, _, _, s, q⟩ => hG H s q) (fun i x H H' hi ⟨ys, l, r, d, s, q⟩ y => ?_) fun H ⟨ys, l, r, d, s, q⟩ => hd H ys l r s q d
  refine hs i x H H' hi s q y _ fun y H4 ry s4 q4 => ?_
  have d4 : H4 D = some (.lst ys) := s4 _ _ np d
  have mv : ∀ (b : Addr) (o : HO), b ≠ p → b ≠ D → H4 b = some o → upd H4 D (.lst (ys ++ [y])) b = some o := fun b o _ n e => by rw [upd_ne n]; exact e
  refine ⟨ys, d4, line_gt (by omega), ys ++ [y], by rw [List.length_append, l]; rfl, fun j z hz => ?_, upd_same, ?_, ?_⟩
  · rw [List.getElem?_append] at hz
    split at hz
    · exact mono j z H4 _ (mono j z H H4 (r j z hz) ⟨_, d⟩ q fun b o n1 _ e => s4 b o n1 e) ⟨_, d4⟩ q4 mv
    · have e : j = i ∧ y = z := by
        have hl : j - ys.length < 1 := by
          have := (List.getElem?_eq_some_iff.mp hz).1
          simpa using this
        have : j - ys.length = 0 := by omega
        rw [this] at hz
        simp at hz
        exact ⟨by omega, hz⟩
      obtain ⟨rfl, rfl⟩ := e
      exact mono _ _ H4 _ ry ⟨_, d4⟩ q4 mv
  · intro b o n e
    rw [upd_ne (ne_of_none e hD)]
    exact s4 _ _ n (s _ _ n e)
  · obtain ⟨a4, b4, e4, r4⟩ := q4
    exact ⟨a4, b4, by rw [upd_ne np.symm]; exact e4, r4⟩
/-- .. where R speaks of no lists -/
theorem lc_keep (w : Walk J n G Y) {p : Addr} (hD : H1 D = none) (hp : Pot H1 p) (R : Nat → V → Hp → Prop) (mono : ∀ i v H H', R i v H → Keep H H' → R i v H') (hn : n ≤ 16000000) (hG : ∀ H, Stay p H1 H → Pot H p → G H)
    (hs : ∀ i x H H', i < n → Stay p H1 H → Pot H p → Y i H x H' → ∀ Z : V → Hp → Prop, (∀ y H4, R i y H4 → Stay p H H4 → Pot H4 p → Z y H4) → g x (wipe σ vs) H' fun σ2 H2 => wipe σ2 vs = wipe σ vs ∧ te σ2 H2 Z)
    (hd : ∀ H ys, ys.length = n → (∀ i y, ys[i]? = some y → R i y H) → Stay p H1 H → Pot H p → H D = some (.lst ys) → Qd H) : LcW J g tYes te vs σ H1 D Qd :=
  lc_stay w hD hp R (fun i v H H' r ⟨xs, d⟩ ⟨a, b, e, _⟩ k => mono i v H H' r fun c o h n => k c o (fun z => n _ (Option.some.inj (h.symm.trans ((congrArg H z).trans e)))) (fun z => n _ (Option.some.inj (h.symm.trans ((congrArg H z).trans d)))) h) hn hG hs hd
end
/-- row by row -/
def Each {α : Type} (R : V → α → Prop) (vs : List V) (ds : List α) : Prop := vs.length = ds.length ∧ ∀ (i : Nat) v d, vs[i]? = some v → ds[i]? = some d → R v d
section
variable {α : Type} {R R' : V → α → Prop}
theorem Each.nil : Each R [] [] := ⟨rfl, fun i v d h => by simp at h⟩
theorem Each.imp {vs : List V} {ds : List α} (e : Each R vs ds) (h : ∀ v d, R v d → R' v d) : Each R' vs ds := ⟨e.1, fun i v d h1 h2 => h v d (e.2 i v d h1 h2)⟩
theorem Each.cons {v : V} {d : α} {vs : List V} {ds : List α} (h : R v d) (e : Each R vs ds) : Each R (v :: vs) (d :: ds) := ⟨by rw [List.length_cons, List.length_cons, e.1], fun i x y h1 h2 => by
  cases i with
  | zero =>
    simp at h1 h2
    rw [← h1, ← h2]
    exact h
  | succ i => exact e.2 i x y (by simpa using h1) (by simpa using h2)⟩
theorem Each.app {vs us : List V} {ds es : List α} (a : Each R vs ds) (b : Each R us es) : Each R (vs ++ us) (ds ++ es) := by
  induction vs generalizing ds with
  | nil =>
    cases ds with
    | nil => exact b
    | cons d ds => exact absurd a.1 (by simp)
  | cons v vs ih =>
    cases ds with
    | nil => exact absurd a.1 (by simp)
    | cons d ds => exact Each.cons (a.2 0 v d rfl rfl) (ih ⟨by have := a.1; simpa using this, fun i x y h1 h2 => a.2 (i + 1) x y (by simpa using h1) (by simpa using h2)⟩)
theorem Each.one {v : V} {d : α} (h : R v d) : Each R [v] [d] := Each.cons h Each.nil
theorem Each.at {vs : List V} {ds : List α} (e : Each R vs ds) {i : Nat} {v : V} (h : vs[i]? = some v) : ∃ d, ds[i]? = some d ∧ R v d := by
  have hl := (List.getElem?_eq_some_iff.mp h).1
  have hl2 : i < ds.length := by rw [← e.1]; exact hl
  exact ⟨ds[i], List.getElem?_eq_getElem hl2, e.2 i v _ h (List.getElem?_eq_getElem hl2)⟩
theorem Each.atD {vs : List V} {ds : List α} (e : Each R vs ds) {i : Nat} {d : α} (h : ds[i]? = some d) : ∃ v, vs[i]? = some v ∧ R v d := by
  have hl := (List.getElem?_eq_some_iff.mp h).1
  have hl2 : i < vs.length := by rw [e.1]; exact hl
  exact ⟨vs[i], List.getElem?_eq_getElem hl2, e.2 i _ d (List.getElem?_eq_getElem hl2) h⟩
theorem Each.of_map {β : Type} {f : β → V} {g : β → α} {l : List β} (h : ∀ x ∈ l, R (f x) (g x)) : Each R (l.map f) (l.map g) := ⟨by simp, fun i v d h1 h2 => by
  rw [List.getElem?_map] at h1 h2
  obtain ⟨x, e1, rfl⟩ := Option.map_eq_some_iff.mp h1
  obtain ⟨y, e2, rfl⟩ := Option.map_eq_some_iff.mp h2
  rw [e1] at e2
  cases e2
  exact h x (List.mem_of_getElem? e1)⟩
end
/-- a row written by its places -/
theorem range_map {α : Type} {f : Nat → α} {l : List α} (h : ∀ i (hi : i < l.length), f i = l[i]) : (List.range l.length).map f = l := by
  refine List.ext_getElem (by simp) fun i h1 h2 => ?_
  rw [List.getElem_map, List.getElem_range]
  exact h i h2
end UL
set_option Elab.async false
set_option linter.all false
set_option maxRecDepth 100000
set_option maxHeartbeats 4000000
namespace UL
open PySem PySem.Spec PyProof.Rows L2
section
variable {J : It} {n : Nat} {G : Hp → Prop} {Y : Nat → Hp → V → Hp → Prop} {g : TG} {tb : TS} {σ : L2.St} {H1 : Hp} {D : Ends}
/-- a for whose turns leave all objects alone: P by the turn and the slots -/
theorem fr_same (w : Walk J n G Y) (P : Nat → L2.St → Prop) (h0 : P 0 σ) (hG : ∀ H, L2.Same H1 H → G H)
    (hs : ∀ i x σ H H', i < n → L2.Same H1 H → P i σ → Y i H x H' → ∀ Z : L2.St → Hp → Prop, (∀ σ2 H2, P (i + 1) σ2 → L2.Same H H2 → Z σ2 H2) → g x σ H' fun σ2 H2 => tb { D with nx := Z, ct := Z, bk := D.nx } σ2 H2)
    (hd : ∀ σ H, P n σ → L2.Same H1 H → D.nx σ H) : WalkE J g tb D σ H1 :=
  for_it w (fun i σ H => P i σ ∧ L2.Same H1 H) ⟨h0, L2.Same.refl _⟩ (fun i σ H _ p => hG H p.2) (fun i x σ H H' hi p y => hs i x σ H H' hi p.2 p.1 y _ fun σ2 H2 p2 s2 => ⟨p2, p.2.trans s2⟩) fun σ H p => hd σ H p.1 p.2
/-- .. but a pot: P by the turn, the slots and the heap -/
theorem fr_stay (w : Walk J n G Y) {p : Addr} (hp : Pot H1 p) (P : Nat → L2.St → Hp → Prop) (h0 : P 0 σ H1) (hG : ∀ H, Stay p H1 H → Pot H p → G H)
    (hs : ∀ i x σ H H', i < n → Stay p H1 H → Pot H p → P i σ H → Y i H x H' → ∀ Z : L2.St → Hp → Prop, (∀ σ2 H2, P (i + 1) σ2 H2 → Stay p H H2 → Pot H2 p → Z σ2 H2) → g x σ H' fun σ2 H2 => tb { D with nx := Z, ct := Z, bk := D.nx } σ2 H2)
    (hd : ∀ σ H, P n σ H → Stay p H1 H → Pot H p → D.nx σ H) : WalkE J g tb D σ H1 :=
  for_it w (fun i σ H => P i σ H ∧ Stay p H1 H ∧ Pot H p) ⟨h0, Stay.refl _ _, hp⟩ (fun i σ H _ q => hG H q.2.1 q.2.2) (fun i x σ H H' hi q y => hs i x σ H H' hi q.2.1 q.2.2 q.1 y _ fun σ2 H2 p2 s2 q2 => ⟨p2, q.2.1.trans s2, q2⟩) fun σ H q => hd σ H q.1 q.2.1 q.2.2
end
theorem over_look2 {H : Hp} {x p : Addr} {o o' u : HO} (h : H p = some u) (hx : H x = some o') (n : u ≠ o') : upd H x o p = some u := by rw [upd_ne (ne_of h hx n)]; exact h
theorem kit_own {K : PySem.W.Frag} {C : Addr} : PySem.W.kitOne K (.ref C) (.ref C) = some true := by simp [PySem.W.kitOne]
/-! ### parts of rows -/
theorem cut_to (xs : List V) (i : Nat) : cutV xs none (some (i : Int)) = xs.take i := by
  unfold cutV
  rw [HT.sIx_nat, HT.sIx_none, List.drop_zero, Nat.sub_zero]
  rcases Nat.le_total i xs.length with h | h
  · rw [Nat.min_eq_left h]
  · rw [Nat.min_eq_right h, List.take_of_length_le (Nat.le_refl _), List.take_of_length_le h]
theorem cut_from (xs : List V) (i : Nat) : cutV xs (some (i : Int)) none = xs.drop i := by
  unfold cutV
  rw [HT.sIx_nat, HT.sIx_none]
  rcases Nat.le_total i xs.length with h | h
  · rw [Nat.min_eq_left h]
    exact List.take_of_length_le (by simp)
  · rw [Nat.min_eq_right h, List.drop_of_length_le (Nat.le_refl _), List.drop_of_length_le h, List.take_nil]
theorem range_getD {l : List V} {d : V} : (List.range l.length).map (fun i => l.getD i d) = l := range_map fun i h => by simp [h]
theorem flat_strs (xs : List Str) : (xs.map V.str).all flatV = true := by simp [flatV]
theorem flat_ints (xs : List Int) : (xs.map V.int).all flatV = true := by simp [flatV]
theorem in_strs (x : Str) (xs : List Str) : inV (.str x) (xs.map V.str) = decide (x ∈ xs) := by
  unfold inV
  rw [Bool.eq_iff_iff, List.any_eq_true, decide_eq_true_iff]
  constructor
  · rintro ⟨v, hv, e⟩
    obtain ⟨y, hy, rfl⟩ := List.mem_map.mp hv
    have : x = y ∨ y = x := by
      simp [eqV] at e
      first | exact .inl e | exact .inr e
    rcases this with rfl | rfl <;> exact hy
  · intro h
    exact ⟨.str x, List.mem_map.mpr ⟨x, h, rfl⟩, eqV_self_str x⟩
theorem not_ahead {α : Type} : ∀ {l : List α} {i : Nat} {x : α}, l.Nodup → l[i]? = some x → x ∉ l.take i
  | [], i, x, _, h => by simp at h
  | y :: l, 0, x, _, _ => by simp
  | y :: l, i + 1, x, nd, h => by
    rw [List.nodup_cons] at nd
    have h' : l[i]? = some x := by simpa using h
    intro hm
    rw [List.take_succ_cons, List.mem_cons] at hm
    rcases hm with rfl | hm
    · exact nd.1 (List.mem_of_getElem? h')
    · exact not_ahead nd.2 h' hm
/-- t + u of tuples, any -/
def rCatS : R2 := fun x y H Q => ∃ a b xs ys, x = .ref a ∧ y = .ref b ∧ H a = some (.tup xs) ∧ H b = some (.tup ys) ∧ xs.length + ys.length ≤ sizeLine ∧ ∀ p H', L2.Same H H' → H' p = some (.tup (xs ++ ys)) → Q (.ref p) H'
theorem op_catS {X : Cx} : OpR X (binaryOp .Add) rCatS := by
  intro pins s σ H x y v u Q I rx ry h
  obtain ⟨a, b, xs, ys, rfl, rfl, ha, hb, hz, q⟩ := h
  refine op_catA pins s σ H _ _ v u Q I rx ry ⟨a, b, xs, ys, rfl, rfl, SqT.of ha, SqT.of hb, hz, fun e => ?_, fun _ e => ?_, fun _ _ p hp => ?_⟩
  · refine q b H (L2.Same.refl _) ?_
    rw [e]
    exact hb
  · refine q a H (L2.Same.refl _) ?_
    rw [e, List.append_nil]
    exact ha
  · exact q p _ (same_new hp) upd_same
theorem walk_enumT {K : PySem.W.Frag} {a : Addr} {xs : List V} : Walk (Itet K a) xs.length (fun H => SqT K H a xs) (YPair (fun i => some (.int (i : Nat))) (fun i => xs[i]?)) := by
  refine ⟨fun i _ hi q => ⟨xs, xs[i], q, by simp [hi]⟩, fun _ q => ⟨xs, q, rfl⟩, fun i H v H' _ q y => ?_⟩
  obtain ⟨T, x, h1, h2, h3, h4⟩ := y
  exact ⟨T, .int (i : Nat), x, h1, h2, h3, rfl, h4 xs q⟩
/-- a thing that comes once at most stands once at most -/
theorem once_ahead {l : List Str} {x : Str} (h : l.count x ≤ 1) {i : Nat} (hi : l[i]? = some x) : x ∉ l.take i := by
  intro hm
  have e : l = l.take i ++ l.drop i := (List.take_append_drop i l).symm
  have h2 : x ∈ l.drop i := by
    refine List.mem_of_getElem? (i := 0) ?_
    rw [List.getElem?_drop, Nat.add_zero]
    exact hi
  have h3 := List.count_pos_iff.mpr hm
  have h4 := List.count_pos_iff.mpr h2
  rw [e, List.count_append] at h
  omega
theorem mem_take_succ {l : List Str} {x y : Str} {i : Nat} (hi : l[i]? = some y) : x ∈ l.take (i + 1) ↔ x ∈ l.take i ∨ x = y := by
  have hl := (List.getElem?_eq_some_iff.mp hi)
  obtain ⟨h1, h2⟩ := hl
  rw [List.take_succ_eq_append_getElem h1, List.mem_append, List.mem_singleton, h2]
/-! ### what is read within a comprehension speaks of the same fragment -/
theorem pe_conv {X : Cx} {e : Expr} {t t' : TE} (h : PE X e t) (q : t = t') : PE X e t' := q ▸ h
theorem pts_conv {X : Cx} {es : List Expr} {t t' : TT} (h : PTs X es t) (q : t = t') : PTs X es t' := q ▸ h
theorem blk_K {X : Cx} {s : Shared} {H : Hp} {scope : Scope} {env : Env} {fp : List Addr} : (X.blk s H scope env fp).K = X.K := rfl
theorem nox_K {X : Cx} : X.nox.K = X.K := rfl
theorem cxOf_K {CX : CXT} {P : Program} {w : World} {K : PySem.W.Frag} {mg : Str → Option Value} {base : Heap} {N : List Str} {qual : Str} {scope : Scope} {f : Addr} {cdv : Value} {A : Around} {outer : List Env} {s : Shared} {H : Hp} {E : XK} : (cxOf CX P w K mg base N qual scope f cdv A outer s H E).K = K := rfl
/-- where a text stands first -/
theorem idx_strs {al : List Str} {l : Str} (h : l ∈ al) : (al.map V.str)[al.idxOf l]? = some (.str l) ∧ eqV (.str l) (.str l) = true ∧ ∀ (m : Nat) (z : V), m < al.idxOf l → (al.map V.str)[m]? = some z → eqV z (.str l) = false := by
  have hl := List.idxOf_lt_length_iff.mpr h
  refine ⟨by rw [List.getElem?_map, List.getElem?_eq_getElem hl, List.getElem_idxOf hl]; rfl, eqV_self_str l, fun m z hm hz => ?_⟩
  rw [List.getElem?_map] at hz
  obtain ⟨y, hy, rfl⟩ := Option.map_eq_some_iff.mp hz
  have ne : y ≠ l := by
    intro e
    have := List.not_of_lt_findIdx (p := (· == l)) (xs := al) hm
    obtain ⟨h1, h2⟩ := List.getElem?_eq_some_iff.mp hy
    simp only [h2, e] at this
    simp at this
  simp only [eqV]
  simpa using ne
theorem ty_lst {K : PySem.W.Frag} {H : Hp} {p : Addr} {xs : List V} (h : H p = some (.lst xs)) : tyV K "list" (.ref p) H := .inl ⟨rfl, xs, SqL.of h⟩
theorem Stay.seqL {K : PySem.W.Frag} {p l : Addr} {H H' : Hp} {xs : List V} (s : Stay p H H') (n : l ≠ p) (h : SqL K H l xs) : SqL K H' l xs := by
  rcases h with (h | ⟨o, h⟩) | h
  · exact .inl (.inl (s _ _ n h))
  · exact .inl (.inr ⟨o, s _ _ n h⟩)
  · exact .inr h
theorem Stay.lookN {H H' : Hp} {p a : Addr} {o : HO} (s : Stay p H H') (n : a ≠ p) (h : H a = some o) : H' a = some o := s _ _ n h
theorem ne_pot {H : Hp} {b p : Addr} (hb : H b = none) (hp : Pot H p) : b ≠ p := by
  obtain ⟨x, y, e, _⟩ := hp
  exact ne_new hb e
/-- one of a written row -/
theorem at_ints {ns : List Int} {i : Nat} {v : V} (h : (ns.map V.int)[i]? = some v) : ∃ n ∈ ns, v = .int n := by
  rw [List.getElem?_map] at h
  obtain ⟨n, h1, h2⟩ := Option.map_eq_some_iff.mp h
  exact ⟨n, List.mem_of_getElem? h1, h2.symm⟩
theorem at_strs {ns : List Str} {i : Nat} {v : V} (h : (ns.map V.str)[i]? = some v) : ∃ n ∈ ns, v = .str n := by
  rw [List.getElem?_map] at h
  obtain ⟨n, h1, h2⟩ := Option.map_eq_some_iff.mp h
  exact ⟨n, List.mem_of_getElem? h1, h2.symm⟩
/-- a written row of texts, found in the heap -/
theorem strs_of {ys : List V} {R : Str → Prop} (h : ∀ (i : Nat) y, ys[i]? = some y → ∃ x, R x ∧ y = .str x) : ∃ zs : List Str, ys = zs.map V.str ∧ ∀ z ∈ zs, R z := by
  induction ys with
  | nil => exact ⟨[], rfl, fun z h => by cases h⟩
  | cons y ys ih =>
    obtain ⟨x, rx, rfl⟩ := h 0 y rfl
    obtain ⟨zs, e, hz⟩ := ih fun i z hz => h (i + 1) z (by simpa using hz)
    exact ⟨x :: zs, by rw [e]; rfl, fun z hz' => by
      rcases List.mem_cons.mp hz' with rfl | hz'
      · exact rx
      · exact hz z hz'⟩
theorem Stay.over {H H' : Hp} {p D : Addr} {o : HO} (s : Stay p H H') (hD : H D = none) : Stay p H (upd H' D o) := fun b u n e => by rw [upd_ne (ne_of_none e hD)]; exact s b u n e
theorem Pot.over {H : Hp} {p D : Addr} {o : HO} (h : Pot H p) (n : D ≠ p) : Pot (upd H D o) p := by
  obtain ⟨a, b, e, r⟩ := h
  exact ⟨a, b, by rw [upd_ne n.symm]; exact e, r⟩
/-- a statement that the walk leaves alone -/
@[irreducible] def Hold (P : Prop) : Prop := P
theorem Hold.mk {P : Prop} (h : P) : Hold P := by unfold Hold; exact h
theorem Hold.out {P : Prop} (h : Hold P) : P := by unfold Hold at h; exact h
theorem range_filt {l : List Str} {d : Str} (b : Str → Bool) (f : Str → V) {n : Nat} (hn : n = l.length) : ((List.range n).filter fun u => b (l.getD u d)).map (fun u => f (l.getD u d)) = (l.filter b).map f := by
  subst hn
  have e : (List.range l.length).map (fun u => l.getD u d) = l := range_map fun i h => by simp [h]
  have h := List.filter_map (p := b) (f := fun u => l.getD u d) (l := List.range l.length)
  rw [e] at h
  rw [h, List.map_map]
  rfl
/-- a datum for each of a row -/
theorem each_choose {α : Type} : ∀ {ys : List V} {R : Nat → V → α → Prop}, (∀ (i : Nat) y, ys[i]? = some y → ∃ k, R i y k) → ∃ ks : List α, ks.length = ys.length ∧ ∀ (i : Nat) y k, ys[i]? = some y → ks[i]? = some k → R i y k
  | [], R, h => ⟨[], rfl, fun i y k e => by simp at e⟩
  | y :: ys, R, h => by
    obtain ⟨k, hk⟩ := h 0 y rfl
    obtain ⟨ks, l, h2⟩ := each_choose (ys := ys) (R := fun i => R (i + 1)) fun i z e => h (i + 1) z (by simpa using e)
    refine ⟨k :: ks, by simp [l], fun i z q e1 e2 => ?_⟩
    cases i with
    | zero =>
      simp at e1 e2
      subst e1 e2
      exact hk
    | succ i => exact h2 i z q (by simpa using e1) (by simpa using e2)
theorem Stay.none {H H' : Hp} {p D : Addr} (s : Stay p H H') (hp : Pot H' p) (h : H' D = none) : H D = none := by
  cases e : H D with
  | none => rfl
  | some o =>
    by_cases c : D = p
    · obtain ⟨a, b, e', _⟩ := hp
      rw [c, e'] at h
      cases h
    · rw [s _ _ c e] at h
      cases h
theorem at_strs' {ns : List Str} {i : Nat} {v : V} (h : (ns.map V.str)[i]? = some v) : ∃ n, ns[i]? = some n ∧ v = .str n := by
  rw [List.getElem?_map] at h
  obtain ⟨n, h1, h2⟩ := Option.map_eq_some_iff.mp h
  exact ⟨n, h1, h2.symm⟩
/-- an if whose one way ends; what comes behind is shown once -/
theorem seq_if {t : TT} {a u : TS} {D : Ends} {σ : L2.St} {H : Hp} (P : Hp → Prop) (rest : ∀ H', P H' → u D σ H') (h : (∀ H', P H' → u D σ H') → tIfS t a tNext { D with nx := u D } σ H) : tSeq (tIfS t a tNext) u D σ H := h rest
theorem gname_go {i : Nat} {x : V} {σ : L2.St} {H : Hp} {Q : L2.St → Hp → Prop} (h : Q (σ.set i (some x)) H) : gName i x σ H Q := h
end UL
set_option Elab.async false
set_option linter.all false
set_option maxRecDepth 100000
set_option maxHeartbeats 4000000
namespace UL
open PySem PySem.Spec PyProof.Rows L2 PySem.SeqAt
/-! ### xs.count(y) of data -/
theorem DpAll.len {K : PySem.W.Frag} {H : Hp} : ∀ {vs : List V} {ds : List PyData}, DpAll K H vs ds → vs.length = ds.length
  | _, _, .nil => rfl
  | _, _, .cons _ q => by rw [List.length_cons, List.length_cons, DpAll.len q]
def rCntD (K : PySem.W.Frag) : V → List V → Hp → VK → Prop := fun x xs H Q => ∃ (p : Addr) (ys : List V) (ds : List PyData) (v : V) (d : PyData), x = .ref p ∧ xs = [v] ∧ SqL K H p ys ∧ DpAll K H ys ds ∧ Dp K H v d ∧ PyData.plainAll ds = true ∧ d.plain = true ∧ d.depth ≤ 40 ∧ Q (.int ((ds.countP fun y => PyData.eqv y d : Nat) : Int)) H
theorem mt_dcount {X : Cx} (hu : X.A.units + 64 < cLine) : MtR X "list.count" (rCntD X.K) := by
  intro pins s σ H x xs v us Q I rx rxs h
  obtain ⟨p, ys, ds, y, d, rfl, rfl, hs, hds, hd, p1, p2, dp, q⟩ := h
  cases rx
  obtain ⟨u, rfl, ru⟩ := rxs.one
  obtain ⟨its, rv, hl, hlen⟩ := I.list hs
  obtain ⟨as, r1⟩ := Dp.readsAll I ds ys its hds rv
  obtain ⟨bs, r2⟩ := Dp.reads I d y u hd ru
  exact count_list_data hl.isList (by simpa using r1) r2 p1 p2 (by omega) ⟨.int _, H, I.tok _, ⟨_, rfl⟩, q⟩
/-! ### orders of rows of whole numbers -/
theorem eqv_int (a b : Int) : PyData.eqv (.int a) (.int b) = decide (a = b) := PySem.W.Datum.eqv a b
theorem eqv_ints (xs ys : List Int) : PyData.eqvAll (xs.map PyData.int) (ys.map PyData.int) = decide (xs = ys) := PySem.W.eqvAll_map xs ys
theorem ordL_lt : ∀ (z : Bool) (xs ys : List Int), (z = decide (xs.length < ys.length)) → ordL .Lt z (xs.map PyData.int) (ys.map PyData.int) = decide (xs < ys)
  | z, [], [], e => by
    subst e
    simp [ordL]
  | z, [], y :: ys, e => by
    subst e
    simp [ordL]
  | z, x :: xs, [], e => by
    subst e
    simp [ordL]
  | z, x :: xs, y :: ys, e => by
    simp only [List.map_cons, ordL, eqv_int]
    by_cases c : x = y
    · rw [if_pos (decide_eq_true c), ordL_lt z xs ys (by rw [e]; simp), decide_eq_decide, List.cons_lt_cons_iff]
      subst c
      simp
    · have hh : decide (x :: xs < y :: ys) = decide (x < y ∨ x = y ∧ xs < ys) := decide_eq_decide.mpr List.cons_lt_cons_iff
      rw [if_neg (by simpa using c), hh]
      simp [ordV, opI, c]
theorem ordL_le : ∀ (z : Bool) (xs ys : List Int), (z = decide (xs.length ≤ ys.length)) → ordL .LtE z (xs.map PyData.int) (ys.map PyData.int) = decide (xs ≤ ys)
  | z, [], [], e => by
    subst e
    simp [ordL]
  | z, [], y :: ys, e => by
    subst e
    simp [ordL]
  | z, x :: xs, [], e => by
    subst e
    simp [ordL]
  | z, x :: xs, y :: ys, e => by
    simp only [List.map_cons, ordL, eqv_int]
    by_cases c : x = y
    · rw [if_pos (decide_eq_true c), ordL_le z xs ys (by rw [e]; simp), decide_eq_decide, List.cons_le_cons_iff]
      subst c
      simp
    · have hh : decide (x :: xs ≤ y :: ys) = decide (x < y ∨ x = y ∧ xs ≤ ys) := decide_eq_decide.mpr List.cons_le_cons_iff
      rw [if_neg (by simpa using c), hh]
      simp [ordV, opI, c]
      try omega
/-- a row put into a row in order, at the first place behind all that are below -/
theorem ins_sorted {α : Type} {r : α → α → Prop} (tot : ∀ a b, r a b ∨ r b a) (tr : ∀ a b c, r a b → r b c → r a c) {l : List α} {x : α} {i : Nat} (h : l.Pairwise r) (lo : ∀ y ∈ l.take i, r y x) (hi : ∀ y, l[i]? = some y → r x y) : (l.take i ++ [x] ++ l.drop i).Pairwise r := by
  have e : l = l.take i ++ l.drop i := (List.take_append_drop i l).symm
  rw [e, List.pairwise_append] at h
  obtain ⟨h1, h2, h3⟩ := h
  have hx : ∀ y ∈ l.drop i, r x y := by
    cases hd : l.drop i with
    | nil => exact fun y hy => by cases hy
    | cons y ys =>
      have h0 : l[i]? = some y := by
        have : (l.drop i)[0]? = some y := by rw [hd]; rfl
        rw [List.getElem?_drop, Nat.add_zero] at this
        exact this
      rw [hd, List.pairwise_cons] at h2
      exact fun z hz => by
        rcases List.mem_cons.mp hz with rfl | hz
        · exact hi _ h0
        · exact tr _ _ _ (hi _ h0) (h2.1 z hz)
  rw [List.append_assoc, List.pairwise_append]
  refine ⟨h1, ?_, fun a ha b hb => ?_⟩
  · rw [List.singleton_append, List.pairwise_cons]
    exact ⟨hx, h2⟩
  · rcases List.mem_append.mp hb with hb | hb
    · rw [List.mem_singleton.mp hb]
      exact lo a ha
    · exact h3 a ha b hb
theorem ins_perm {α : Type} (l : List α) (x : α) (i : Nat) : (l.take i ++ [x] ++ l.drop i).Perm (x :: l) := by
  have h := @List.perm_middle _ x (l.take i) (l.drop i)
  rw [List.take_append_drop] at h
  simpa using h
/-- what a def does that is run with n values, its star empty -/
@[irreducible] def spW (n : Nat) (sp : Sp) : Sp := fun vs H Q E => vs.length = n + 1 ∧ ∀ p, H p = Option.none → sp (vs ++ [V.ref p]) (upd H p (.tup [])) Q E
/-- an if whose one way ends; what comes behind is shown once, and hidden within -/
theorem seq_ifN {t : TT} {a u : TS} {D : Ends} {σ : L2.St} {H : Hp} (P : Hp → Prop) (rest : ∀ H', P H' → u D σ H') (h : ∀ Nx : L2.St → Hp → Prop, (∀ H', P H' → Nx σ H') → tIfS t a tNext { D with nx := Nx } σ H) : tSeq (tIfS t a tNext) u D σ H := h _ rest
section
variable {J : It} {n : Nat} {G : Hp → Prop} {Y : Nat → Hp → V → Hp → Prop} {g : TG} {te : TE} {vs : List Nat} {σ : L2.St} {H1 : Hp} {D : Addr} {Qd : Hp → Prop}
/-- the elements tell R, objects made on the way too; nothing changes but the row itself -/
theorem lc_made (w : Walk J n G Y) (hD : H1 D = none) (R : Nat → V → Hp → Prop)
    (mono : ∀ i v H H', R i v H → (∀ b o, b ≠ D → H b = some o → H' b = some o) → R i v H') (hn : n ≤ 16000000) (hG : ∀ H, L2.Same H1 H → G H)
    (hs : ∀ i x H H', i < n → L2.Same H1 H → (∃ xs, H D = some (.lst xs)) → Y i H x H' → ∀ Z : V → Hp → Prop, (∀ y H4, R i y H4 → L2.Same H H4 → Z y H4) → g x (wipe σ vs) H' fun σ2 H2 => wipe σ2 vs = wipe σ vs ∧ te σ2 H2 Z)
    (hd : ∀ H ys, ys.length = n → (∀ i y, ys[i]? = some y → R i y H) → L2.Same H1 H → H D = some (.lst ys) → Qd H) : LcW J g tYes te vs σ H1 D Qd := by
  refine lc_it w (fun i H => ∃ ys : List V, ys.length = i ∧ (∀ j y, ys[j]? = some y → R j y H) ∧ H D = some (.lst ys) ∧ L2.Same H1 H) ⟨[], rfl, fun j y z => by simp at z, upd_same, same_new hD⟩
    (fun i H _ ⟨_, _, _, _, s⟩ => hG H s) (fun i x H H' hi ⟨ys, l, r, d, s⟩ y => ?_) fun H ⟨ys, l, r, d, s⟩ => hd H ys l r s d
  refine hs i x H H' hi s ⟨_, d⟩ y _ fun y H4 ry s4 => ?_
  have d4 : H4 D = some (.lst ys) := s4 _ _ d
  have mv : ∀ (b : Addr) (o : HO), b ≠ D → H4 b = some o → upd H4 D (.lst (ys ++ [y])) b = some o := fun b o n e => by rw [upd_ne n]; exact e
  refine ⟨ys, d4, line_gt (by omega), ys ++ [y], by rw [List.length_append, l]; rfl, fun j z hz => ?_, upd_same, ?_⟩
  · rw [List.getElem?_append] at hz
    split at hz
    · exact mono j z H4 _ (mono j z H H4 (r j z hz) fun b o _ e => s4 b o e) mv
    · have e : j = i ∧ y = z := by
        have hl : j - ys.length < 1 := by
          have := (List.getElem?_eq_some_iff.mp hz).1
          simpa using this
        have : j - ys.length = 0 := by omega
        rw [this] at hz
        simp at hz
        exact ⟨by omega, hz⟩
      obtain ⟨rfl, rfl⟩ := e
      exact mono _ _ H4 _ ry mv
  · intro b o e
    rw [upd_ne (ne_of_none e hD)]
    exact s4 _ _ (s _ _ e)
end
end UL
set_option Elab.async false
set_option linter.all false
set_option maxRecDepth 100000
set_option maxHeartbeats 4000000
namespace UL
open PySem PySem.Spec PyProof.Rows L2
/-- a while whose turns are counted up to n at most -/
theorem while_up {c : TT} {tb : TS} {D : Ends} {σ : L2.St} {H : Hp} (n : Nat) (Pv : Nat → L2.St → Hp → Prop) (h0 : Pv 0 σ H)
    (hs : ∀ i σ H, i ≤ n → Pv i σ H → ∀ R : Bool → Hp → Prop, (∀ H1, (i < n ∧ tb { D with nx := Pv (i + 1), ct := Pv (i + 1), bk := D.nx } σ H1) → R true H1) → (∀ H1, D.nx σ H1 → R false H1) → c σ H R) : tWhile c tb D σ H := by
  refine ⟨fun m σ H => ∃ i, m = n - i ∧ i ≤ n ∧ Pv i σ H, ⟨n, 0, by simp, Nat.zero_le _, h0⟩, ?_⟩
  rintro m σ H ⟨i, rfl, hi, p⟩
  refine hs i σ H hi p _ (fun H1 q => ?_) fun H1 q => ?_
  · rw [if_pos rfl]
    exact ⟨Pv (i + 1), fun σ' H' p' => ⟨n - (i + 1), by have := q.1; omega, i + 1, rfl, q.1, p'⟩, q.2⟩
  · rw [if_neg Bool.false_ne_true]
    exact q
/-- both ways of a conditional expression hand on what P tells -/
theorem ite_any {c : Bool} {ta tb : TE} {σ : L2.St} {H : Hp} {Q : VK} (P : V → Hp → Prop) (ha : c = true → ∀ Q : VK, (∀ v H', P v H' → Q v H') → ta σ H Q) (hb : c = false → ∀ Q : VK, (∀ v H', P v H' → Q v H') → tb σ H Q) (h : ∀ v H', P v H' → Q v H') :
    if c = true then ta σ H Q else tb σ H Q := by
  cases c with
  | true => rw [if_pos rfl]; exact ha rfl Q h
  | false => rw [if_neg Bool.false_ne_true]; exact hb rfl Q h
theorem sq_past {K : PySem.W.Frag} {a p : Addr} {H H1 H2 : Hp} {xs : List V} (h : SqL K H a xs) (hp : H p = none) (s : L2.Same H H1) (st : Stay p H1 H2) : SqL K H2 a xs := by
  rcases h with (h | ⟨o, h⟩) | h
  · exact .inl (.inl (st _ _ (ne_of_none h hp) (s _ _ h)))
  · exact .inl (.inr ⟨o, st _ _ (ne_of_none h hp) (s _ _ h)⟩)
  · exact .inr h
theorem sq_same {K : PySem.W.Frag} {a : Addr} {H H1 : Hp} {xs : List V} (h : SqL K H a xs) (s : L2.Same H H1) : SqL K H1 a xs := by
  rcases h with (h | ⟨o, h⟩) | h
  · exact .inl (.inl (s _ _ h))
  · exact .inl (.inr ⟨o, s _ _ h⟩)
  · exact .inr h
theorem sq_off {K : PySem.W.Frag} {a D : Addr} {H : Hp} {xs : List V} (h : SqL K H a xs) (hD : H D = none) : ∀ (H2 : Hp) (o : HO), SqL K H2 a xs → SqL K (upd H2 D o) a xs := by
  intro H2 o h2
  have key : a ≠ D → SqL K (upd H2 D o) a xs := fun n => by
    rcases h2 with (h2 | ⟨u, h2⟩) | h2
    · exact .inl (.inl (by rw [upd_ne n]; exact h2))
    · exact .inl (.inr ⟨u, by rw [upd_ne n]; exact h2⟩)
    · exact .inr h2
  rcases h with (h | ⟨u, h⟩) | h
  · exact key (ne_of_none h hD)
  · exact key (ne_of_none h hD)
  · exact .inr h
/-- all of a row of truths -/
theorem all_true {n : Nat} : ((List.replicate n true).all id) = true := by
  rw [List.all_eq_true]
  intro x hx
  rw [List.eq_of_mem_replicate hx]
  rfl
end UL
namespace PySem.W
open PySem.Spec PyProof.Rows
section
variable {prog : Program} {w : World} {A : Around} {E : Value → Shared → Prop} {s : Shared} {K : Frag} {x C L f : Addr} {h₀ : Heap} {m : Str → Option Value} {ox : Obj} {od : Option Obj} {b tb : Value}
/-- x != b where the class has an own == alone -/
theorem ne_K {Q : Value → Shared → Prop} (hu : A.units + 1 < cLine) (F : Fr h₀ L s.heap m) (X₀ : K.In h₀) (I : InstAt s.heap x ox C od) (hb : Looks (model prog w) s.heap (typeOf b) tb) (hn : notFirst K C tb = true)
    (hne : findIn K (.ref C) "__ne__" = some (some (.builtin "object.__ne__"))) (hob : mroIn K C (.type "object") = some true) (hs : findIn K (.ref C) "__eq__" = some (some (.ref f))) (hf : isFn K (.ref f) = true)
    (h : wpAny (model prog w) A.in1 (call (.ref f) [.ref x, b]) (fun v s' => ∃ c, v = .bool c ∧ Q (.bool (!c)) s') E s) : wpAny (model prog w) A (richCompare .NotEq (.ref x) b) Q E s := by
  have X := X₀.keeps F.keep
  have S := PySem.F.cmp_object.ne
  have entry : ∀ {R : Fin → Shared → Prop}, (∀ c s', Q (.bool (!c)) s' → R (.done (.ret (.bool (!c)))) s') → wpAny (model prog w) A.in1 (Builtin.«object.__ne__» ⟨[.ref x, b], []⟩) R E s := fun {R} hR => by
    unfold Builtin.«object.__ne__»
    repeat (first
      | with_reducible refine wpAny_cRoomFor (show A.in1.units < cLine from hu) ?_
      | (refine wpAny_bind (m := callSpecialIfBound? (.ref x) (Str.ofString "__eq__") [b])
          (ifBound_K X I hs hf (wpAny_mono h (fun r s' hr => by
            obtain ⟨c, rfl, hq⟩ := hr
            repeat (first | exact hR _ _ hq | exact wpAny_pure (hR _ _ hq) | (refine wpAny_bind (m := truthy (.bool _)) (wpAny_truthy_bool ?_)) | wp_step)) fun _ _ e => e)))
      | wp_step)
  have one : wpAny (model prog w) A (tryCompare (.ref x) (cmpInfo .NotEq).2.1 b) (fun r s' => ∃ v, r = some v ∧ Q v s') E s := by
    unfold tryCompare
    refine wpAny_bind (m := callSpecialIfBound? (.ref x) (cmpInfo .NotEq).2.1 [b]) ?_
    simp only [callSpecialIfBound?, bindSpecialIfBound?]
    refine wpAny_holding (wpAny_bind (wpAny_bind (wpAny_bind (I.type.here ((looks_findIn X (show findIn K (.ref C) (cmpInfo .NotEq).2.1 = _ from hne)).here ?_)))))
    simp only [S.bind]
    refine wpAny_bind (wpAny_askSetting (wpAny_ite ?_))
    have sub : Looks (model prog w) s.heap (isInstance (.ref x) (.type "object")) true := I.type.andThen (looks_mroIn X hob)
    have fin : wpAny (model prog w) A (call (.builtin "object.__ne__") ([.ref x] ++ [b]) >>= fun v => pure (some v)) (fun r s' => wpAny (model prog w) A (match r with | some .notImplemented | none => pure none | some r => pure (some r)) (fun r s' => ∃ v, r = some v ∧ Q v s') E s') E s := by
      refine wpAny_bind (wpAny_call (codeAny_call_builtin S.plain PySem.F.cmpEntry_ne (check_slot PySem.F.cmpKind_ne PySem.F.cmpSplit_ne sub (PySem.F.cmpArgs_ne _ _) (entry fun c s' q => ?_))))
      exact wpAny_pure (wpAny_pure ⟨_, rfl, q⟩)
    split
    · exact wpAny_bind (wpAny_pure (wpAny_pure fin))
    · exact wpAny_tryCatch (wpAny_bind (wpAny_pure (wpAny_pure fin)))
  unfold richCompare
  simp only [oneThing_ref]
  refine wpAny_holding (wpAny_bind (wpAny_cRoomFor (Nat.lt_of_succ_lt hu) ?_))
  refine wpAny_bind (I.type.here (wpAny_bind (hb.here ?_)))
  split
  · rename_i q
    have e : subIn K tb (.ref C) = some false := by
      rcases Bool.or_eq_true_iff.mp hn with e | e
      · rw [beq_iff_eq.mp e] at q; simp at q
      · exact beq_iff_eq.mp e
    refine wpAny_bind ((looks_subIn X e).here ?_)
    simp only [Bool.false_eq_true, if_false]
    refine wpAny_bind (wpAny_mono one (fun r s' z => ?_) fun _ _ e => e)
    obtain ⟨v, rfl, hq⟩ := z
    exact wpAny_pure hq
  · refine wpAny_bind (wpAny_pure ?_)
    simp only [Bool.false_eq_true, if_false]
    refine wpAny_bind (wpAny_mono one (fun r s' z => ?_) fun _ _ e => e)
    obtain ⟨v, rfl, hq⟩ := z
    exact wpAny_pure hq
end
end PySem.W
namespace UL
open PySem PySem.Spec PyProof.Rows L2
section
variable {X : Cx} {CX : CXT} {C g : Addr} {n : Nat} {sp : Sp} {E : XK}
/-- x != y by the class's own == -/
def rNeI (K : PySem.W.Frag) (C : Addr) (sp : Sp) (E : XK) : R2 := fun x y H Q => ∃ (a dx : Addr) (fs : List (Str × V)) (t : Value), x = .ref a ∧ H a = some (.ins C dx fs) ∧ TyX K H y t ∧ PySem.W.notFirst K C t = true ∧ sp [x, y] H (fun z H' => ∃ c, z = .bl c ∧ Q (.bl (!c)) H') E
theorem op_neI (hne : PySem.W.findIn X.K (.ref C) "__ne__" = some (some (.builtin "object.__ne__"))) (ci : CIsi X.K C) (hs : PySem.W.findIn X.K (.ref C) "__eq__" = some (some (.ref g))) (hf : PySem.W.isFn X.K (.ref g) = true) (F : FnR X.prog X.w X.K X.mg X.base CX n g sp) (hr : Room (n + 1) X.A) (hx : Passes CX X E) :
    OpR X (compareOp .NotEq) (rNeI X.K C sp E) := by
  intro pins s σ H x y v u Q I rx ry h
  obtain ⟨a, dx, fs, t, rfl, ha, ty, hn, q⟩ := h
  cases (show v = Value.ref a from rx)
  obtain ⟨mA, O, _⟩ := ins_get I.hok ha
  obtain ⟨od, J, _⟩ := O.look
  obtain ⟨m, hF⟩ := I.fr
  obtain ⟨Pk, Z, pk, _⟩ := kit_of I ry ty
  show wpAny _ _ (richCompare .NotEq (.ref a) u) _ _ _
  refine PySem.W.ne_K (show X.A.units + 1 < cLine from hr.in1.units0) hF I.ok.mod.kin J (Z.ty _ _ I.kIn pk) hn hne ci.cm hs hf ?_
  refine wpAny_mono (wpAny_call (SlX.run_at (us := [.ref a, u]) (ws := [.ref a, y]) F hr.in1 I.env0.in1 hx I (.cons rfl (.cons ry .nil)) q)) (fun r s' z => ?_) fun _ _ e => e
  obtain ⟨z', H', I', rz, c, ez, qz⟩ := z
  subst ez
  cases (show r = Value.bool c from rz)
  exact ⟨c, rfl, .bl (!c), H', I', rfl, qz⟩
variable {k j : Nat}
theorem op_neS (c : CalS X.prog X.w X.K X.mg X.base k C "__eq__" sp) (hne : PySem.W.findIn X.K (.ref C) "__ne__" = some (some (.builtin "object.__ne__"))) (ci : CIsi X.K C) (hr : Room j X.A) (hk : k + 1 ≤ j) : OpR X (compareOp .NotEq) (rNeI X.K C sp E0) := by
  obtain ⟨f, F, h1, h2⟩ := c
  exact op_neI hne ci h1 h2 F (hr.mono hk) pass0
end
end UL
set_option Elab.async false
set_option linter.all false
set_option maxRecDepth 100000
set_option maxHeartbeats 4000000

local macro_rules | `(tactic| walk_at "look") => `(tactic| first
  | assumption
  | exact L2.upd_same
  | (with_reducible apply UL.new_look (by assumption)
     walk_at "look")
  | (with_reducible apply UL.Same.look (by assumption)
     walk_at "look")
  | (with_reducible apply UL.Stay.lookT (by assumption) (by walk_at "pot")
     walk_at "look")
  | (with_reducible apply UL.Stay.lookI (by assumption) (by walk_at "pot")
     walk_at "look")
  | (with_reducible apply UL.Stay.lookN (by assumption)
     · walk_at "ne"
     walk_at "look")
  | (with_reducible apply UL.over_look
     · walk_at "ne"
     walk_at "look")
  | (with_reducible apply UL.over_look2
     · walk_at "look"
     · walk_at "look"
     · intro z_; cases z_)
  | fail)
local macro_rules | `(tactic| walk_at "ne") => `(tactic| first
  | assumption
  | (refine Ne.symm ?_; assumption)
  | exact UL.ne_pot (by assumption) (by walk_at "pot")
  | exact Ne.symm (UL.ne_pot (by assumption) (by walk_at "pot"))
  | exact UL.ne_new (by assumption) (by walk_at "look")
  | exact Ne.symm (UL.ne_new (by assumption) (by walk_at "look"))
  | fail)
local macro_rules | `(tactic| walk_at "pot") => `(tactic| first
  | assumption
  | (with_reducible refine UL.Pot.same (H := _) ?_ (UL.same_new (by assumption)); walk_at "pot")
  | (with_reducible refine UL.Pot.same (H := _) ?_ (by assumption); walk_at "pot")
  | fail)
local macro_rules | `(tactic| walk_at "same") => `(tactic| first
  | assumption
  | exact L2.Same.refl _
  | exact UL.same_new (by assumption)
  | (with_reducible refine L2.Same.trans ?_ (UL.same_new (by assumption)); walk_at "same")
  | (with_reducible refine L2.Same.trans ?_ (by assumption); walk_at "same")
  | fail)
local macro_rules | `(tactic| walk_at "stay") => `(tactic| first
  | assumption
  | exact UL.Stay.refl _ _
  | exact UL.stay_upd
  | exact UL.Same.stay (by walk_at "same") _
  | (with_reducible refine UL.Stay.trans ?_ (UL.Same.stay (UL.same_new (by assumption)) _); walk_at "stay")
  | (with_reducible refine UL.Stay.trans ?_ (UL.Same.stay (by assumption) _); walk_at "stay")
  | (with_reducible refine UL.Stay.trans ?_ (by assumption); walk_at "stay")
  | (with_reducible refine UL.Stay.trans ?_ UL.stay_upd; walk_at "stay")
  | fail)
local macro_rules | `(tactic| walk_at "side") => `(tactic| first
  | ((with_reducible show (_ : Int) < _); omega)
  | assumption
  | rfl
  | ((with_reducible show _ ≠ _); walk_at "ne")
  | ((with_reducible show ∃ _, _ = _); exact ⟨_, rfl⟩)
  | ((with_reducible show L2.SqL _ _ _ _); exact L2.SqL.of (by walk_at "look"))
  | ((with_reducible show L2.SqT _ _ _ _); exact L2.SqT.of (by walk_at "look"))
  | ((with_reducible show _ = some _); walk_at "look")
  | ((with_reducible show L2.atI _ _ = _); first | exact L2.atI_nat rfl | exact L2.atI_nat (j := 0) rfl | exact L2.atI_nat (j := 1) rfl | exact L2.atI_nat (j := 2) rfl | exact L2.atI_nat (j := 3) rfl | exact L2.atI_nat (j := 4) rfl | fail)
  | ((with_reducible show UL.Pot _ _); walk_at "pot")
  | ((with_reducible show L2.Same _ _); walk_at "same")
  | ((with_reducible show UL.Stay _ _ _); walk_at "stay")
  | ((with_reducible show L2.CMul _ _); unfold L2.CMul; omega)
  | ((with_reducible show L2.CDiv _ _); unfold L2.CDiv; omega)
  | ((with_reducible show _ < 1000); exact of_decide_eq_true rfl)
  | ((with_reducible show _ ≤ PySem.sizeLine); refine UL.line_ge ?_; first | (simp; done) | (simp; omega) | fail)
  | ((with_reducible show _ < PySem.sizeLine); refine UL.line_gt ?_; first | (simp; done) | (simp; omega) | fail)
  | ((with_reducible show _ < List.length _); first | (simp; done) | (simp; omega) | fail)
  | ((with_reducible show List.length _ < _); first | (simp; done) | (simp; omega) | fail)
  | ((with_reducible show List.all _ _ = true); first | exact UL.flat_strs _ | exact UL.flat_ints _ | (simp [L2.flatV]; done) | fail)
  | (intro z_; cases z_; done)
  | walk_at "txt"
  | ((with_reducible show L2.tyV _ _ _ _); apply UL.ty_lst; walk_at "look")
  | exact L2.ClsV.own _
  | exact L2.ClsV.ty _
  | ((with_reducible show L2.TyX _ _ _ _); first | exact L2.TyX.base (L2.TyOf.int _) | exact L2.TyX.base (L2.TyOf.str _))
  | ((with_reducible show PySem.W.kitOne _ _ _ = _); first | exact UL.kit_own | exact L2.kit_ty (by decide +kernel) | fail)
  | omega
  | decide
  | ((with_reducible show _ ∨ _); first | exact Or.inl (by walk_at "side") | exact Or.inr (by walk_at "side"))
  | ((with_reducible show _ ∧ _); exact And.intro (by walk_at "side") (by walk_at "side"))
  | fail)
local macro_rules | `(tactic| walk_at "st4") => `(tactic| first
  | (apply And.intro; · walk_at "side"
     walk_at "st3")
  | fail)
local macro_rules | `(tactic| walk_at "st3") => `(tactic| first
  | (apply And.intro; · walk_at "side"
     walk_at "st3")
  | (apply Or.inl; walk_at "st4")
  | (apply Or.inr; walk_at "st4")
  | skip)
local macro_rules | `(tactic| walk_at "st2") => `(tactic| first
  | (apply Exists.intro; walk_at "st2")
  | (apply And.intro; · walk_at "side"
     walk_at "st3")
  | fail)
local macro_rules | `(tactic| walk_at "cond") => `(tactic| first
  | rfl
  | assumption
  | (rw [Bool.not_eq_false']; assumption)
  | (rw [Bool.not_eq_true']; assumption)
  | (simp only [decide_eq_false_iff_not, decide_eq_true_iff, L2.V.int.injEq, Bool.not_eq_false', Bool.not_eq_true']; omega)
  | (simp; done)
  | (simp; omega)
  | (simp [*]; done)
  | (simp [*]; omega)
  | fail)
local macro_rules | `(tactic| walk_at "st") => `(tactic| first
  | (apply Exists.intro; walk_at "st2"; all_goals (change (_ : Prop)))
  | (refine L2.iteT ?_)
  | (refine L2.iteF ?_)
  | (apply And.intro; · walk_at "side"
     walk_at "st3"; all_goals (change (_ : Prop)))
  | (intro _ _; change (_ : Prop))
  | (intro _; change (_ : Prop))
  | (refine UL.iteFo' ?hc_ ?_; · walk_at "cond")
  | (refine UL.iteTo' ?hc_ ?_; · walk_at "cond")
  | (apply Or.inl; walk_at "st")
  | (apply Or.inr; walk_at "st")
  | fail)
local macro_rules | `(tactic| walk_at "go") => `(tactic| repeat walk_at "st")
local macro_rules | `(tactic| walk_at "unk") => `(tactic| first
  | (simp only [UL.blk_K, UL.nox_K, UL.cxOf_K]; done)
  | (simp only [UL.blk_K, UL.nox_K, UL.cxOf_K]; rfl)
  | rfl
  | fail)
local macro_rules | `(tactic| walk_at "side") => `(tactic| ((with_reducible show _ ≤ PySem.sizeLine); refine UL.line_ge ?_; omega))
local macro_rules | `(tactic| walk_at "side") => `(tactic| ((with_reducible show _ < PySem.sizeLine); refine UL.line_gt ?_; omega))

namespace K23
open PySem L2 UL ClX
def top (i : Nat) : Stmt := PySem.Challenge.pw_unlikecalls_k23_signatures_in_order.main.body.getD i (.Pass ⟨0, 0, 0, 0⟩)
structure Bi (mg : Str → Option Value) : Prop where
  ArithmeticError : mg "ArithmeticError" = none
  LookupError : mg "LookupError" = none
  NotImplemented : mg "NotImplemented" = none
  RuntimeError : mg "RuntimeError" = none
  TypeError : mg "TypeError" = none
  ValueError : mg "ValueError" = none
  abs : mg "abs" = none
  all : mg "all" = none
  any : mg "any" = none
  bool : mg "bool" = none
  divmod : mg "divmod" = none
  enumerate : mg "enumerate" = none
  int : mg "int" = none
  isinstance : mg "isinstance" = none
  len : mg "len" = none
  list : mg "list" = none
  max : mg "max" = none
  min : mg "min" = none
  property : mg "property" = none
  range : mg "range" = none
  repr : mg "repr" = none
  str : mg "str" = none
  tuple : mg "tuple" = none
  zip : mg "zip" = none
structure Ad where
  c_CallError : Addr
  c_InvalidNumber : Addr
  c_InvalidName : Addr
  c_InvalidKind : Addr
  c_InvalidBook : Addr
  c_InvalidLetter : Addr
  c_InvalidSignature : Addr
  c_MissingError : Addr
  c_UnknownKind : Addr
  c_StateError : Addr
  c_OtherBook : Addr
  c_LimitError : Addr
  c_TooMany : Addr
  c_Kind : Addr
  c_Book : Addr
  c_Signature : Addr
  a_GROUPS : Addr
  a_ALIGNMENTS : Addr
  a_SIZES : Addr
structure Txt (K : PySem.W.Frag) (mg : Str → Option Value) (ad : Ad) : Prop where
  bi : Bi mg
  v_LONGEST_NAME : ∃ u, mg "LONGEST_NAME" = some u ∧ RelV (.int 8) u
  v_NAME_LETTERS : ∃ u, mg "NAME_LETTERS" = some u ∧ RelV (.str "abcdefghijklmnopqrstuvwxyz") u
  v_GROUPS : mg "GROUPS" = some (.ref ad.a_GROUPS)
  t_GROUPS : ∀ H : Hp, SqT K H ad.a_GROUPS [.str "whole", .str "float"]
  v_ALIGNMENTS : mg "ALIGNMENTS" = some (.ref ad.a_ALIGNMENTS)
  t_ALIGNMENTS : ∀ H : Hp, SqT K H ad.a_ALIGNMENTS [.int 1, .int 2, .int 4, .int 8, .int 16]
  v_SIZES : mg "SIZES" = some (.ref ad.a_SIZES)
  t_SIZES : ∀ H : Hp, SqT K H ad.a_SIZES [.int 1, .int 2, .int 4, .int 8, .int 16]
  v_DOUBLE_SIZE : ∃ u, mg "DOUBLE_SIZE" = some u ∧ RelV (.int 16) u
  v_LEAST_WIDTH : ∃ u, mg "LEAST_WIDTH" = some u ∧ RelV (.int 2) u
  v_LEAST_DOUBLE_WIDTH : ∃ u, mg "LEAST_DOUBLE_WIDTH" = some u ∧ RelV (.int 65) u
  v_MOST_KINDS : ∃ u, mg "MOST_KINDS" = some u ∧ RelV (.int 5) u
  v_MOST_LETTERS : ∃ u, mg "MOST_LETTERS" = some u ∧ RelV (.int 1000) u
  r_Signature : ∃ mc, CRead K ad.c_Signature mc ∧ ∃ u, CVal K ad.c_Signature mc "MARK" (.str "...") u
  g_Kind : mg "Kind" = some (.ref ad.c_Kind)
  i_Kind : CIsi K ad.c_Kind
  no_Kind : NoOp K ad.c_Kind "add"
  ne_Kind : PySem.W.findIn K (.ref ad.c_Kind) "__ne__" = some (some (.builtin "object.__ne__"))
  n_Kind_name : NoAttr K ad.c_Kind "_name"
  n_Kind_group : NoAttr K ad.c_Kind "_group"
  n_Kind_size : NoAttr K ad.c_Kind "_size"
  n_Kind_width : NoAttr K ad.c_Kind "_width"
  n_Kind_align : NoAttr K ad.c_Kind "_align"
  n_Kind_parts : NoAttr K ad.c_Kind "_parts"
  k_Kind : ∀ T ∈ (["NoneType", "tuple", "str", "int", "list", "bool", "dict"] : List String), PySem.W.kitOne K (.type T) (.ref ad.c_Kind) = some false ∧ PySem.W.notFirst K ad.c_Kind (.type T) = true
  g_Book : mg "Book" = some (.ref ad.c_Book)
  i_Book : CIsi K ad.c_Book
  sf_Book : PySem.W.selfFirst K ad.c_Book = true
  os_Book : OwnT K ad.c_Book "str" "add"
  ne_Book : PySem.W.findIn K (.ref ad.c_Book) "__ne__" = some (some (.builtin "object.__ne__"))
  n_Book_kinds : NoAttr K ad.c_Book "_kinds"
  n_Book_names : NoAttr K ad.c_Book "_names"
  n_Book_parts : NoAttr K ad.c_Book "_parts"
  k_Book : ∀ T ∈ (["NoneType", "tuple", "str", "int", "list", "bool", "dict"] : List String), PySem.W.kitOne K (.type T) (.ref ad.c_Book) = some false ∧ PySem.W.notFirst K ad.c_Book (.type T) = true
  g_Signature : mg "Signature" = some (.ref ad.c_Signature)
  i_Signature : CIsi K ad.c_Signature
  sf_Signature : PySem.W.selfFirst K ad.c_Signature = true
  os_Signature : OwnT K ad.c_Signature "str" "add"
  or_Signature : RadT K ad.c_Signature "str"
  ne_Signature : PySem.W.findIn K (.ref ad.c_Signature) "__ne__" = some (some (.builtin "object.__ne__"))
  n_Signature_book : NoAttr K ad.c_Signature "_book"
  n_Signature_letters : NoAttr K ad.c_Signature "_letters"
  n_Signature_key : NoAttr K ad.c_Signature "_key"
  k_Signature : ∀ T ∈ (["NoneType", "tuple", "str", "int", "list", "bool", "dict"] : List String), PySem.W.kitOne K (.type T) (.ref ad.c_Signature) = some false ∧ PySem.W.notFirst K ad.c_Signature (.type T) = true
local macro_rules | `(tactic| walk_at "txt") => `(tactic| first
  | ((with_reducible show L2.SqT _ _ _ _); first | exact Txt.t_GROUPS (by assumption) _ | exact Txt.t_ALIGNMENTS (by assumption) _ | exact Txt.t_SIZES (by assumption) _)
  | ((with_reducible show L2.Cls _ _); first | exact UL.CIsi.cl (Txt.i_Kind (by assumption)) | exact UL.CIsi.cl (Txt.i_Book (by assumption)) | exact UL.CIsi.cl (Txt.i_Signature (by assumption)))
  | ((with_reducible show UL.CIsi _ _); first | exact Txt.i_Kind (by assumption) | exact Txt.i_Book (by assumption) | exact Txt.i_Signature (by assumption))
  | ((with_reducible show L2.NoAttr _ _ _); first | exact Txt.n_Kind_name (by assumption) | exact Txt.n_Kind_group (by assumption) | exact Txt.n_Kind_size (by assumption) | exact Txt.n_Kind_width (by assumption) | exact Txt.n_Kind_align (by assumption) | exact Txt.n_Kind_parts (by assumption) | exact Txt.n_Book_kinds (by assumption) | exact Txt.n_Book_names (by assumption) | exact Txt.n_Book_parts (by assumption) | exact Txt.n_Signature_book (by assumption) | exact Txt.n_Signature_letters (by assumption) | exact Txt.n_Signature_key (by assumption))
  | ((with_reducible show L2.TyX _ _ _ _); first | exact UL.CIsi.ty (Txt.i_Kind (by assumption)) (by walk_at "look") | exact UL.CIsi.ty (Txt.i_Book (by assumption)) (by walk_at "look") | exact UL.CIsi.ty (Txt.i_Signature (by assumption)) (by walk_at "look"))
  | ((with_reducible show PySem.W.kitOne _ (.type _) (.ref _) = _); first | exact ((Txt.k_Kind (by assumption)) _ (by simp)).1 | exact ((Txt.k_Book (by assumption)) _ (by simp)).1 | exact ((Txt.k_Signature (by assumption)) _ (by simp)).1)
  | ((with_reducible show _ = PySem.Value.ref _ ∨ _); first | exact .inl rfl | exact .inr ⟨_, rfl, Txt.no_Kind (by assumption)⟩)
  | fail)
theorem same_over {H H1 : Hp} {L : Addr} {o : HO} (s : L2.Same H H1) (hL : H L = none) : L2.Same H (upd H1 L o) := fun b u e => by
  rw [upd_ne (ne_of_none e hL)]
  exact s b u e
/-- a good name -/
def isNm (n : Str) : Prop := 1 ≤ n.length ∧ n.length ≤ 8 ∧ ∀ c ∈ n.cps.toList, c ∈ (("abcdefghijklmnopqrstuvwxyz" : Str)).cps.toList
section
variable {P : Program} {w : World} {K : PySem.W.Frag} {mg : Str → Option Value} {base : Heap} {ad : Ad}
def spIsInt : Sp := fun vs H Q _ => ∃ i : Int, vs = [.int i] ∧ Q (.bl true) H
def spCount : Sp := fun vs H Q _ => ∃ i : Int, vs = [.int i] ∧ 0 ≤ i ∧ Q (.bl true) H
def spBetw : Sp := fun vs H Q _ => ∃ i lo hi : Int, vs = [.int i, .int lo, .int hi] ∧ lo ≤ i ∧ i ≤ hi ∧ Q (.bl true) H
def spOneOf (K : PySem.W.Frag) : Sp := fun vs H Q _ => ∃ (i : Int) (a : Addr) (xs : List V), vs = [.int i, .ref a] ∧ SqT K H a xs ∧ xs.all flatV = true ∧ Q (.bl (inV (.int i) xs)) H
def spWordOf (K : PySem.W.Frag) : Sp := fun vs H Q _ => ∃ (x : Str) (a : Addr) (xs : List V), vs = [.str x, .ref a] ∧ (SqL K H a xs ∨ SqT K H a xs) ∧ xs.all flatV = true ∧ Q (.bl (inV (.str x) xs)) H
def spName : Sp := fun vs H Q _ => ∃ n : Str, vs = [.str n] ∧ isNm n ∧ ∀ H' : Hp, L2.Same H H' → Q (.bl true) H'
abbrev st_is_integer : Stmt := top 4
theorem sc_is_integer : FnScope ["value"] ["value"] (defScope st_is_integer) := ⟨rfl, rfl, rfl, by decide +kernel, rfl, by decide +kernel, by decide +kernel⟩
theorem ok_is_integer {f : Addr} {fd : FuncData} (F : Fun K "is_integer" "is_integer" st_is_integer f fd) (T : Txt K mg ad)  :
    FnOk P w K mg base CX0 1 f fd ["value"] spIsInt := by
  refine F.ok sc_is_integer (fun vs H Q E h => ?_) (fun cdv A outer s H vs Q E hr h => ?_)
  · obtain (⟨i, rfl, k⟩) := h
    rfl
  · obtain (⟨i, rfl, k⟩) := h
    refine ⟨_, pss_one (ps_ret (pe_and (pe_callB call_isi (by rfl) T.bi.isinstance (by decide +kernel) (pa_cons (pv 0) (pa_cons (pe_bltn (v := .ty "int") (by rfl) T.bi.int (by decide +kernel) rfl) pa_nil))) (pe_one (pe_not (pe_callB call_isi (by rfl) T.bi.isinstance (by decide +kernel) (pa_cons (pv 0) (pa_cons (pe_bltn (v := .ty "bool") (by rfl) T.bi.bool (by decide +kernel) rfl) pa_nil))))))), ?_⟩
    refine ⟨_, rfl, _, _, _, _, true, rfl, .ty "int", .base (.int i), kit_ty (by decide +kernel), _, rfl, iteT ?_⟩
    exact ⟨_, rfl, _, _, _, _, false, rfl, .ty "bool", .base (.int i), kit_ty (by decide +kernel), _, rfl, k⟩
abbrev st_is_count : Stmt := top 5
theorem sc_is_count : FnScope ["value"] ["value"] (defScope st_is_count) := ⟨rfl, rfl, rfl, by decide +kernel, rfl, by decide +kernel, by decide +kernel⟩
theorem ok_is_count {f : Addr} {fd : FuncData} (F : Fun K "is_count" "is_count" st_is_count f fd) (T : Txt K mg ad)  :
    FnOk P w K mg base CX0 1 f fd ["value"] spCount := by
  refine F.ok sc_is_count (fun vs H Q E h => ?_) (fun cdv A outer s H vs Q E hr h => ?_)
  · obtain (⟨i, rfl, h0, k⟩) := h
    rfl
  · obtain (⟨i, rfl, h0, k⟩) := h
    refine ⟨_, pss_one (ps_ret (pe_and (pe_callB call_isi (by rfl) T.bi.isinstance (by decide +kernel) (pa_cons (pv 0) (pa_cons (pe_bltn (v := .ty "int") (by rfl) T.bi.int (by decide +kernel) rfl) pa_nil))) (pe_and (pe_not (pe_callB call_isi (by rfl) T.bi.isinstance (by decide +kernel) (pa_cons (pv 0) (pa_cons (pe_bltn (v := .ty "bool") (by rfl) T.bi.bool (by decide +kernel) rfl) pa_nil)))) (pe_one (pe_cmpR op_ge (pv 0) pe_int (nomark _)))))), ?_⟩
    refine ⟨_, rfl, _, _, _, _, true, rfl, .ty "int", .base (.int i), kit_ty (by decide +kernel), _, rfl, iteT ?_⟩
    refine ⟨_, rfl, _, _, _, _, false, rfl, .ty "bool", .base (.int i), kit_ty (by decide +kernel), _, rfl, _, rfl, iteT ⟨_, rfl, _, _, rfl, rfl, ?_⟩⟩
    dsimp only
    rw [decide_eq_true (show (0 : Int) ≤ i from h0)]
    exact k
abbrev st_is_between : Stmt := top 7
theorem sc_is_between : FnScope ["value", "least", "most"] ["value", "least", "most"] (defScope st_is_between) := ⟨rfl, rfl, rfl, by decide +kernel, rfl, by decide +kernel, by decide +kernel⟩
theorem ok_is_between {f : Addr} {fd : FuncData} (F : Fun K "is_between" "is_between" st_is_between f fd) (T : Txt K mg ad)  :
    FnOk P w K mg base CX0 1 f fd ["value", "least", "most"] spBetw := by
  refine F.ok sc_is_between (fun vs H Q E h => ?_) (fun cdv A outer s H vs Q E hr h => ?_)
  · obtain (⟨i, lo, hi, rfl, h0, h1, k⟩) := h
    rfl
  · obtain (⟨i, lo, hi, rfl, h0, h1, k⟩) := h
    refine ⟨_, pss_one (ps_ret (pe_and (pe_callB call_isi (by rfl) T.bi.isinstance (by decide +kernel) (pa_cons (pv 0) (pa_cons (pe_bltn (v := .ty "int") (by rfl) T.bi.int (by decide +kernel) rfl) pa_nil))) (pe_and (pe_not (pe_callB call_isi (by rfl) T.bi.isinstance (by decide +kernel) (pa_cons (pv 0) (pa_cons (pe_bltn (v := .ty "bool") (by rfl) T.bi.bool (by decide +kernel) rfl) pa_nil)))) (pe_one (pe_chain op_le op_le (pv 1) (pv 0) (pv 2)))))), ?_⟩
    refine ⟨_, rfl, _, _, _, _, true, rfl, .ty "int", .base (.int i), kit_ty (by decide +kernel), _, rfl, iteT ?_⟩
    refine ⟨_, rfl, _, _, _, _, false, rfl, .ty "bool", .base (.int i), kit_ty (by decide +kernel), _, rfl, _, rfl, iteT ?_⟩
    refine ⟨_, rfl, _, rfl, _, _, rfl, rfl, _, rfl, ?_⟩
    rw [decide_eq_true h0]
    refine iteT ⟨_, rfl, _, _, rfl, rfl, ?_⟩
    dsimp only
    rw [decide_eq_true h1]
    exact k
abbrev st_is_one_of : Stmt := top 8
theorem sc_is_one_of : FnScope ["value", "numbers"] ["value", "numbers"] (defScope st_is_one_of) := ⟨rfl, rfl, rfl, by decide +kernel, rfl, by decide +kernel, by decide +kernel⟩
theorem ok_is_one_of {f : Addr} {fd : FuncData} (F : Fun K "is_one_of" "is_one_of" st_is_one_of f fd) (T : Txt K mg ad) (c_is_integer : Cal P w K mg base 1 "is_integer" spIsInt) :
    FnOk P w K mg base CX0 2 f fd ["value", "numbers"] (spOneOf K) := by
  refine F.ok sc_is_one_of (fun vs H Q E h => ?_) (fun cdv A outer s H vs Q E hr h => ?_)
  · obtain (⟨i, a, xs, rfl, hS, hf, k⟩) := h
    rfl
  · obtain (⟨i, a, xs, rfl, hS, hf, k⟩) := h
    refine ⟨_, pss_one (ps_ret (pe_and (pe_c c_is_integer hr (by decide) (by rfl) (pa_cons (pv 0) pa_nil)) (pe_one (pe_cmpR op_in_seq (pv 0) (pv 1) (by rfl))))), ?_⟩
    exact ⟨_, rfl, i, rfl, _, rfl, iteT ⟨_, rfl, _, rfl, a, xs, rfl, .inr hS, rfl, hf, k⟩⟩
abbrev st_is_word_of : Stmt := top 9
theorem sc_is_word_of : FnScope ["value", "words"] ["value", "words"] (defScope st_is_word_of) := ⟨rfl, rfl, rfl, by decide +kernel, rfl, by decide +kernel, by decide +kernel⟩
theorem ok_is_word_of {f : Addr} {fd : FuncData} (F : Fun K "is_word_of" "is_word_of" st_is_word_of f fd) (T : Txt K mg ad)  :
    FnOk P w K mg base CX0 1 f fd ["value", "words"] (spWordOf K) := by
  refine F.ok sc_is_word_of (fun vs H Q E h => ?_) (fun cdv A outer s H vs Q E hr h => ?_)
  · obtain (⟨x, a, xs, rfl, hS, hf, k⟩) := h
    rfl
  · obtain (⟨x, a, xs, rfl, hS, hf, k⟩) := h
    refine ⟨_, pss_one (ps_ret (pe_and (pe_callB call_isi (by rfl) T.bi.isinstance (by decide +kernel) (pa_cons (pv 0) (pa_cons (pe_bltn (v := .ty "str") (by rfl) T.bi.str (by decide +kernel) rfl) pa_nil))) (pe_one (pe_cmpR op_in_seq (pv 0) (pv 1) (by rfl))))), ?_⟩
    refine ⟨_, rfl, _, _, _, _, true, rfl, .ty "str", .base (.str x), kit_ty (by decide +kernel), _, rfl, iteT ?_⟩
    exact ⟨_, rfl, _, rfl, a, xs, rfl, hS, rfl, hf, k⟩
abbrev st_is_name : Stmt := top 6
theorem sc_is_name : FnScope ["value", "letter"] ["value"] (defScope st_is_name) := ⟨rfl, rfl, rfl, by decide +kernel, rfl, by decide +kernel, by decide +kernel⟩
theorem ok_is_name {f : Addr} {fd : FuncData} (F : Fun K "is_name" "is_name" st_is_name f fd) (T : Txt K mg ad)  :
    FnOk P w K mg base CX0 1 f fd ["value"] spName := by
  refine F.ok sc_is_name (fun vs H Q E h => ?_) (fun cdv A outer s H vs Q E hr h => ?_)
  · obtain (⟨n, rfl, ⟨h1, h2, h3⟩, k⟩) := h
    rfl
  · obtain (⟨n, rfl, ⟨h1, h2, h3⟩, k⟩) := h
    refine ⟨_, pss_cons (ps_if (PW.pt (pw_or (pt_not (pt_val (pe_callB call_isi (by rfl) T.bi.isinstance (by decide +kernel) (pa_cons (pv 0) (pa_cons (pe_bltn (v := .ty "str") (by rfl) T.bi.str (by decide +kernel) rfl) pa_nil))))) (pw_or1 (pt_not (pt_chain op_le op_le pe_int (pe_callB call_len_str (by rfl) T.bi.len (by decide +kernel) (pa_cons (pv 0) pa_nil)) (pe_gl (by rfl) T.v_LONGEST_NAME)))))) (pss_one (ps_ret pe_bl)) pss_nil)
      (pss_one (ps_ret (pe_callB (cr_all rfl) (by rfl) T.bi.all (by decide +kernel) (pa_cons (pe_lc (own := [("letter", 1)]) (g := gName 1) (tt := tYes) rfl sc_is_name.nd (pi_str (pv 0)) (blkOk_by (N := ["value", "letter"]) (sc := defScope st_is_name) (by decide +kernel)) (fun _ _ _ _ _ => pg_name (i := 1) sc_is_name.nd rfl (Or.inl rfl)) (fun _ _ _ _ _ => pts_nil) (fun _ _ _ _ _ => UL.pe_conv (pe_cmpR op_in_sign (pv 1) (pe_gl (by rfl) T.v_NAME_LETTERS) (by rfl)) (by walk_at "unk"))) pa_nil)))), ?_⟩
    refine ⟨_, rfl, _, _, _, _, true, rfl, .ty "str", .base (.str n), kit_ty (by decide +kernel), _, rfl, iteF ⟨_, rfl, n, rfl, line_ge (by omega), 1, ((n.length : Nat) : Int), rfl, rfl, _, rfl, ?_⟩⟩
    rw [decide_eq_true (show (1 : Int) ≤ ((n.length : Nat) : Int) by omega)]
    refine iteT ⟨_, _, rfl, rfl, _, rfl, ?_⟩
    refine iteFo' (by simp; omega) ⟨_, rfl, n, rfl, fun D hD => ?_⟩
    have ml : n.cps.size = n.length := rfl
    refine lc_it walk_str (fun i H' => H' D = some (.lst ((List.replicate i true).map V.bl)) ∧ L2.Same H H') ⟨upd_same, same_new hD⟩ (fun _ _ _ _ => trivial) (fun i x H1 H2 hi ⟨d1, s1⟩ hy => ?_) (fun H1 ⟨d1, s1⟩ => ?_)
    · obtain ⟨rfl, c, hc, rfl⟩ := hy
      have hm : c ∈ n.cps.toList := by
        rw [← Array.getElem?_toList] at hc
        exact List.mem_of_getElem? hc
      refine ⟨rfl, _, rfl, c, _, rfl, rfl, ?_⟩
      rw [decide_eq_true (h3 c hm)]
      refine ⟨_, d1, line_gt (by rw [List.length_map, List.length_replicate]; omega), ?_, ?_⟩
      · rw [List.replicate_succ', List.map_append]
        exact upd_same
      · exact same_over s1 hD
    · refine ⟨D, _, rfl, SqL.of d1, ?_⟩
      have e : ((List.replicate n.cps.size true).all id) = true := by
        rw [List.all_eq_true]
        intro x hx
        rw [List.eq_of_mem_replicate hx]
        rfl
      rw [e]
      exact k H1 s1
end
end K23
set_option Elab.async false
set_option linter.all false
set_option maxRecDepth 100000
set_option maxHeartbeats 4000000


namespace K23
open PySem L2 UL ClX
local macro_rules | `(tactic| walk_at "txt") => `(tactic| first
  | ((with_reducible show L2.SqT _ _ _ _); first | exact Txt.t_GROUPS (by assumption) _ | exact Txt.t_ALIGNMENTS (by assumption) _ | exact Txt.t_SIZES (by assumption) _)
  | ((with_reducible show L2.Cls _ _); first | exact UL.CIsi.cl (Txt.i_Kind (by assumption)) | exact UL.CIsi.cl (Txt.i_Book (by assumption)) | exact UL.CIsi.cl (Txt.i_Signature (by assumption)))
  | ((with_reducible show UL.CIsi _ _); first | exact Txt.i_Kind (by assumption) | exact Txt.i_Book (by assumption) | exact Txt.i_Signature (by assumption))
  | ((with_reducible show L2.NoAttr _ _ _); first | exact Txt.n_Kind_name (by assumption) | exact Txt.n_Kind_group (by assumption) | exact Txt.n_Kind_size (by assumption) | exact Txt.n_Kind_width (by assumption) | exact Txt.n_Kind_align (by assumption) | exact Txt.n_Kind_parts (by assumption) | exact Txt.n_Book_kinds (by assumption) | exact Txt.n_Book_names (by assumption) | exact Txt.n_Book_parts (by assumption) | exact Txt.n_Signature_book (by assumption) | exact Txt.n_Signature_letters (by assumption) | exact Txt.n_Signature_key (by assumption))
  | ((with_reducible show L2.TyX _ _ _ _); first | exact UL.CIsi.ty (Txt.i_Kind (by assumption)) (by walk_at "look") | exact UL.CIsi.ty (Txt.i_Book (by assumption)) (by walk_at "look") | exact UL.CIsi.ty (Txt.i_Signature (by assumption)) (by walk_at "look"))
  | ((with_reducible show PySem.W.kitOne _ (.type _) (.ref _) = _); first | exact ((Txt.k_Kind (by assumption)) _ (by simp)).1 | exact ((Txt.k_Book (by assumption)) _ (by simp)).1 | exact ((Txt.k_Signature (by assumption)) _ (by simp)).1)
  | ((with_reducible show _ = PySem.Value.ref _ ∨ _); first | exact .inl rfl | exact .inr ⟨_, rfl, Txt.no_Kind (by assumption)⟩)
  | fail)
/-- a kind's parts -/
structure KD where
  n : Str
  g : Str
  s : Int
  w : Int
  a : Int
  deriving DecidableEq
structure KD.ok (k : KD) : Prop where
  nm : isNm k.n
  gr : inV (.str k.g) [.str "whole", .str "float"] = true
  sz : inV (.int k.s) [.int 1, .int 2, .int 4, .int 8, .int 16] = true
  lo : (if k.s = 16 then 65 else 2) ≤ k.w
  hi : k.w ≤ 8 * k.s
  al : inV (.int k.a) [.int 1, .int 2, .int 4, .int 8, .int 16] = true
def kparts (k : KD) : List V := [.str k.n, .str k.g, .int k.s, .int k.w, .int k.a]
def kfs (k : KD) (p : Addr) : List (Str × V) := [("_name", .str k.n), ("_group", .str k.g), ("_size", .int k.s), ("_width", .int k.w), ("_align", .int k.a), ("_parts", .ref p)]
def KindAt (ad : Ad) (H : Hp) (v : V) (k : KD) : Prop := ∃ a dx p, v = .ref a ∧ H a = some (.ins ad.c_Kind dx (kfs k p)) ∧ H p = some (.tup (kparts k))
theorem KindAt.same {ad : Ad} {H H' : Hp} {v : V} {k : KD} (h : KindAt ad H v k) (s : L2.Same H H') : KindAt ad H' v k := by
  obtain ⟨a, dx, p, e, h1, h2⟩ := h
  exact ⟨a, dx, p, e, s _ _ h1, s _ _ h2⟩
theorem five_cases {n : Int} (h : inV (.int n) [.int 1, .int 2, .int 4, .int 8, .int 16] = true) : n = 1 ∨ n = 2 ∨ n = 4 ∨ n = 8 ∨ n = 16 := by
  simp [inV, eqV] at h
  omega
section
variable {P : Program} {w : World} {K : PySem.W.Frag} {mg : Str → Option Value} {base : Heap} {ad : Ad}
@[irreducible] def spKindI (ad : Ad) : Sp := fun vs H Q _ => ∃ (x dx : Addr) (k : KD) (wv av : V), vs = [.ref x, .str k.n, .str k.g, .int k.s, wv, av] ∧ k.ok ∧ (wv = .non ∧ k.w = 8 * k.s ∨ wv = .int k.w) ∧ (av = .non ∧ k.a = k.s ∨ av = .int k.a) ∧ H x = some (.ins ad.c_Kind dx []) ∧
  ∀ (p : Addr) (H' : Hp), H' p = some (.tup (kparts k)) → H' x = some (.ins ad.c_Kind dx (kfs k p)) → Stay x H H' → Q .non H'
abbrev st_Kind_init : Stmt := inClass (top 32) 0
theorem sc_Kind_init : FnScope ["self", "name", "group", "size", "width", "align", "least"] ["self", "name", "group", "size", "width", "align"] (defScope st_Kind_init) := ⟨rfl, rfl, rfl, by decide +kernel, rfl, by decide +kernel, by decide +kernel⟩
theorem ok_Kind_init {f : Addr} {fd : FuncData} (F : FunD K "__init__" "Kind.__init__" (defArgs st_Kind_init) (defBody st_Kind_init) (defScope st_Kind_init) [.str "whole"] [("size", .int 8), ("width", .non), ("align", .non)] f fd) (T : Txt K mg ad) (c_is_name : Cal P w K mg base 1 "is_name" spName) (c_is_word_of : Cal P w K mg base 1 "is_word_of" (spWordOf K)) (c_is_one_of : Cal P w K mg base 2 "is_one_of" (spOneOf K)) (c_is_between : Cal P w K mg base 1 "is_between" spBetw) :
    FnOk P w K mg base CX0 3 f fd ["self", "name", "group", "size", "width", "align"] (spKindI ad) := by
  refine F.ok sc_Kind_init (fun vs H Q E h => ?_) (fun cdv A outer s H vs Q E hr h => ?_)
  · unfold spKindI at h; obtain (⟨x, dx, k, wv, av, rfl, ok, hwv, hav, hx, kk⟩) := h
    rfl
  · unfold spKindI at h; obtain (⟨x, dx, k, wv, av, rfl, ok, hwv, hav, hx, kk⟩) := h
    refine ⟨_, pss_cons (ps_if (pt_not (pt_val (pe_c c_is_name hr (by decide) (by rfl) (pa_cons (pv 1) pa_nil)))) (pss_one ps_never) pss_nil)
      (pss_cons (ps_if (pt_not (pt_val (pe_c c_is_word_of hr (by decide) (by rfl) (pa_cons (pv 2) (pa_cons (pe_glob (v := .ref ad.a_GROUPS) (by rfl) T.v_GROUPS rfl) pa_nil))))) (pss_one ps_never) pss_nil)
      (pss_cons (ps_if (pt_not (pt_val (pe_c c_is_one_of hr (by decide) (by rfl) (pa_cons (pv 3) (pa_cons (pe_glob (v := .ref ad.a_SIZES) (by rfl) T.v_SIZES rfl) pa_nil))))) (pss_one ps_never) pss_nil)
      (pss_cons (ps_set (i := 6) sc_Kind_init.nd rfl (.inl rfl) (pe_ifExp (pt_cmpR op_eq (pv 3) (pe_gl (by rfl) T.v_DOUBLE_SIZE) (nomark _)) (pe_gl (by rfl) T.v_LEAST_DOUBLE_WIDTH) (pe_gl (by rfl) T.v_LEAST_WIDTH)))
      (pss_cons (ps_if (PW.pt (pw_and (pt_cmpR op_notN (pv 4) pe_non (nomark _)) (pw_and1 (pt_not (pt_val (pe_c c_is_between hr (by decide) (by rfl) (pa_cons (pv 4) (pa_cons (pv 6) (pa_cons (pe_op op_mul pe_int (pv 3)) pa_nil))))))))) (pss_one ps_never) pss_nil)
      (pss_cons (ps_if (PW.pt (pw_and (pt_cmpR op_notN (pv 5) pe_non (nomark _)) (pw_and1 (pt_not (pt_val (pe_c c_is_one_of hr (by decide) (by rfl) (pa_cons (pv 5) (pa_cons (pe_glob (v := .ref ad.a_ALIGNMENTS) (by rfl) T.v_ALIGNMENTS rfl) pa_nil)))))))) (pss_one ps_never) pss_nil)
      (pss_cons (ps_fld (pv 0) (pv 1) rfl)
      (pss_cons (ps_fld (pv 0) (pv 2) rfl)
      (pss_cons (ps_fld (pv 0) (pv 3) rfl)
      (pss_cons (ps_fld (pv 0) (pe_ifExp (pt_cmpR op_isN (pv 4) pe_non (nomark _)) (pe_op op_mul pe_int (pv 3)) (pv 4)) rfl)
      (pss_cons (ps_fld (pv 0) (pe_ifExp (pt_cmpR op_isN (pv 5) pe_non (nomark _)) (pv 3) (pv 5)) rfl)
      (pss_one (ps_fld (pv 0) (pe_tup (pa_cons (pe_fld (pv 0) rfl) (pa_cons (pe_fld (pv 0) rfl) (pa_cons (pe_fld (pv 0) rfl) (pa_cons (pe_fld (pv 0) rfl) (pa_cons (pe_fld (pv 0) rfl) pa_nil)))))) rfl)))))))))))), ?_⟩
    have s5 := five_cases ok.sz
    refine ⟨_, rfl, k.n, rfl, ok.nm, fun H1 s1 => ⟨_, rfl, iteF ⟨_, rfl, k.g, ad.a_GROUPS, _, rfl, .inr (T.t_GROUPS H1), rfl, _, rfl, ?_⟩⟩⟩
    rw [ok.gr]
    refine iteF ⟨_, rfl, k.s, ad.a_SIZES, _, rfl, T.t_SIZES H1, rfl, _, rfl, ?_⟩
    rw [ok.sz]
    refine iteF ⟨_, rfl, rfl, _, rfl, ?_⟩
    have lo := ok.lo
    have hi := ok.hi
    have x1 := s1 _ _ hx
    have al := ok.al
    refine ite_val (.int (if k.s = 16 then 65 else 2)) (fun c Q hQ => ?_) (fun c Q hQ => ?_) ?_
    · rw [if_pos (by simpa using c)] at hQ
      exact hQ
    · rw [if_neg (by simpa using c)] at hQ
      exact hQ
    generalize (if k.s = 16 then (65 : Int) else 2) = l at lo ⊢
    refine ⟨_, rfl, rfl, _, rfl, ite_and false (fun c Q hQ => ?_) (fun _ => rfl) (iteF ?_)⟩
    · rcases hwv with ⟨rfl, ew⟩ | rfl
      · cases c
      · walk_at "go"
        exact hQ
    refine ⟨_, rfl, rfl, _, rfl, ite_and false (fun c Q hQ => ?_) (fun _ => rfl) (iteF ?_)⟩
    · rcases hav with ⟨rfl, ea⟩ | rfl
      · cases c
      · walk_at "go"
        rw [al]
        exact hQ
    walk_at "go"
    refine ite_val (.int k.w) (fun c Q hQ => ?_) (fun c Q hQ => ?_) ?_
    · rcases hwv with ⟨rfl, ew⟩ | rfl
      · rw [ew] at hQ
        walk_at "go"
        exact hQ
      · cases c
    · rcases hwv with ⟨rfl, ew⟩ | rfl
      · cases c
      · exact ⟨_, rfl, hQ⟩
    walk_at "go"
    refine ite_val (.int k.a) (fun c Q hQ => ?_) (fun c Q hQ => ?_) ?_
    · rcases hav with ⟨rfl, ea⟩ | rfl
      · rw [ea] at hQ
        exact ⟨_, rfl, hQ⟩
      · cases c
    · rcases hav with ⟨rfl, ea⟩ | rfl
      · cases c
      · exact ⟨_, rfl, hQ⟩
    walk_at "go"
    rename_i p hp
    exact kk p _ (by walk_at "look") (by walk_at "look") (by walk_at "stay")
end
end K23
set_option Elab.async false
set_option linter.all false
set_option maxRecDepth 100000
set_option maxHeartbeats 4000000


namespace K23
open PySem L2 UL ClX
local macro_rules | `(tactic| walk_at "txt") => `(tactic| first
  | ((with_reducible show L2.SqT _ _ _ _); first | exact Txt.t_GROUPS (by assumption) _ | exact Txt.t_ALIGNMENTS (by assumption) _ | exact Txt.t_SIZES (by assumption) _)
  | ((with_reducible show L2.Cls _ _); first | exact UL.CIsi.cl (Txt.i_Kind (by assumption)) | exact UL.CIsi.cl (Txt.i_Book (by assumption)) | exact UL.CIsi.cl (Txt.i_Signature (by assumption)))
  | ((with_reducible show UL.CIsi _ _); first | exact Txt.i_Kind (by assumption) | exact Txt.i_Book (by assumption) | exact Txt.i_Signature (by assumption))
  | ((with_reducible show L2.NoAttr _ _ _); first | exact Txt.n_Kind_name (by assumption) | exact Txt.n_Kind_group (by assumption) | exact Txt.n_Kind_size (by assumption) | exact Txt.n_Kind_width (by assumption) | exact Txt.n_Kind_align (by assumption) | exact Txt.n_Kind_parts (by assumption) | exact Txt.n_Book_kinds (by assumption) | exact Txt.n_Book_names (by assumption) | exact Txt.n_Book_parts (by assumption) | exact Txt.n_Signature_book (by assumption) | exact Txt.n_Signature_letters (by assumption) | exact Txt.n_Signature_key (by assumption))
  | ((with_reducible show L2.TyX _ _ _ _); first | exact UL.CIsi.ty (Txt.i_Kind (by assumption)) (by walk_at "look") | exact UL.CIsi.ty (Txt.i_Book (by assumption)) (by walk_at "look") | exact UL.CIsi.ty (Txt.i_Signature (by assumption)) (by walk_at "look"))
  | ((with_reducible show PySem.W.kitOne _ (.type _) (.ref _) = _); first | exact ((Txt.k_Kind (by assumption)) _ (by simp)).1 | exact ((Txt.k_Book (by assumption)) _ (by simp)).1 | exact ((Txt.k_Signature (by assumption)) _ (by simp)).1)
  | ((with_reducible show _ = PySem.Value.ref _ ∨ _); first | exact .inl rfl | exact .inr ⟨_, rfl, Txt.no_Kind (by assumption)⟩)
  | fail)
theorem KindAt.keep {ad : Ad} {H H' : Hp} {v : V} {k : KD} (h : KindAt ad H v k) (s : Keep H H') : KindAt ad H' v k := by
  obtain ⟨a, dx, p, e, h1, h2⟩ := h
  exact ⟨a, dx, p, e, s.ins h1, s.tup h2⟩
theorem KindAt.stay {ad : Ad} {H H' : Hp} {v : V} {k : KD} {x C dx : Addr} (h : KindAt ad H v k) (hx : H x = some (.ins C dx [])) (s : Stay x H H') : KindAt ad H' v k := by
  obtain ⟨a, da, p, e, h1, h2⟩ := h
  exact ⟨a, da, p, e, s _ _ (ne_of h1 hx (by intro z; simp [kfs] at z)) h1, s _ _ (ne_of h2 hx (by intro z; cases z)) h2⟩
/-- the parts' own tuples -/
def PartsAt (H : Hp) : List V → List KD → Prop := Each fun v k => ∃ p, v = .ref p ∧ H p = some (.tup (kparts k))
/-- the kinds' parts -/
theorem parts_of {ad : Ad} {H : Hp} : ∀ {kvs : List V} {ks : List KD}, Each (KindAt ad H) kvs ks → ∃ pvs : List V, pvs.length = kvs.length ∧ PartsAt H pvs ks ∧ ∀ (i : Nat) v k, kvs[i]? = some v → ks[i]? = some k → ∃ a dx p, v = .ref a ∧ H a = some (.ins ad.c_Kind dx (kfs k p)) ∧ pvs[i]? = some (.ref p)
  | [], [], _ => ⟨[], rfl, Each.nil, fun i v k h => by simp at h⟩
  | [], _ :: _, e => absurd e.1 (by simp)
  | _ :: _, [], e => absurd e.1 (by simp)
  | v :: kvs, k :: ks, e => by
    obtain ⟨pvs, l, h1, h2⟩ := parts_of (ad := ad) (H := H) (kvs := kvs) (ks := ks) ⟨by have := e.1; simpa using this, fun i x y a b => e.2 (i + 1) x y (by simpa using a) (by simpa using b)⟩
    obtain ⟨a, dx, p, ev, i1, i2⟩ := e.2 0 v k rfl rfl
    refine ⟨.ref p :: pvs, by simp [l], Each.cons ⟨p, rfl, i2⟩ h1, fun i v' k' a1 a2 => ?_⟩
    cases i with
    | zero =>
      simp at a1 a2
      subst a1 a2
      exact ⟨a, dx, p, ev, i1, rfl⟩
    | succ i => exact h2 i v' k' (by simpa using a1) (by simpa using a2)
/-- one step before a kind is made -/
theorem kmade1 {ad : Ad} {H1 : Hp} {x dx : Addr} {k : KD} {wv av : V} {R : VK} (nx : H1 x = none) (nd : H1 dx = none) (ne : dx ≠ x) (ok : k.ok) (hw : wv = .non ∧ k.w = 8 * k.s ∨ wv = .int k.w) (ha : av = .non ∧ k.a = k.s ∨ av = .int k.a)
    (kk : ∀ H', L2.Same H1 H' → KindAt ad H' (.ref x) k → R .non H') : spKindI ad [.ref x, .str k.n, .str k.g, .int k.s, wv, av] (upd (upd H1 dx (.own x)) x (.ins ad.c_Kind dx [])) R E0 := by
  have s1 : L2.Same H1 (upd H1 dx (.own x)) := same_new nd
  have n2 : upd H1 dx (.own x) x = none := by rw [upd_ne ne.symm]; exact nx
  unfold spKindI
  refine ⟨x, dx, k, wv, av, rfl, ok, hw, ha, upd_same, fun p H' h1 h2 st => kk H' ?_ ⟨x, dx, p, rfl, h2, h1⟩⟩
  exact fun b o e => st b o (ne_of_none e nx) (same_new n2 b o (s1 b o e))
def gKA : List V → List V → List V := fun vs zs => vs ++ zs ++ [.non, .non]
def gB {α : Type} (us ds mv ws : List α) : List α := match ws with
  | [n, a, w, s] => us ++ [n] ++ ds ++ [s, w, a]
  | _ => []
def gKB : List V → List V → List V := fun vs zs => gB vs [.str "whole"] [] zs
def gKC : List V → List V → List V := fun vs zs => vs ++ zs
/-- the names of a book's kinds -/
def nms (ks : List KD) : List V := ks.map fun k => .str k.n
theorem nms_eq (ks : List KD) : nms ks = (ks.map KD.n).map V.str := by rw [nms, List.map_map]; rfl
def bfs (kt nt pt : Addr) : List (Str × V) := [("_kinds", .ref kt), ("_names", .ref nt), ("_parts", .ref pt)]
structure bok (ks : List KD) : Prop where
  ok : ∀ k ∈ ks, k.ok
  nd : (ks.map KD.n).Nodup
  lo : 1 ≤ ks.length
  hi : ks.length ≤ 5
def BookAt (ad : Ad) (H : Hp) (v : V) (ks : List KD) : Prop := ∃ a dx kt nt pt kvs pvs, v = .ref a ∧ H a = some (.ins ad.c_Book dx (bfs kt nt pt)) ∧ H kt = some (.tup kvs) ∧ Each (KindAt ad H) kvs ks ∧ H nt = some (.tup (nms ks)) ∧ H pt = some (.tup pvs) ∧ PartsAt H pvs ks ∧ bok ks
theorem BookAt.keep {ad : Ad} {H H' : Hp} {v : V} {ks : List KD} (h : BookAt ad H v ks) (s : Keep H H') : BookAt ad H' v ks := by
  obtain ⟨a, dx, kt, nt, pt, kvs, pvs, e, h1, h2, h3, h4, h5, h6, ok⟩ := h
  exact ⟨a, dx, kt, nt, pt, kvs, pvs, e, s.ins h1, s.tup h2, h3.imp fun v k q => q.keep s, s.tup h4, s.tup h5, h6.imp fun v k ⟨p, e, q⟩ => ⟨p, e, s.tup q⟩, ok⟩
theorem BookAt.same {ad : Ad} {H H' : Hp} {v : V} {ks : List KD} (h : BookAt ad H v ks) (s : L2.Same H H') : BookAt ad H' v ks := h.keep (UL.Same.keep s)
section
variable {P : Program} {w : World} {K : PySem.W.Frag} {mg : Str → Option Value} {base : Heap} {ad : Ad}
def spKGet (ad : Ad) (f : KD → V) : Sp := fun vs H Q _ => ∃ v k, vs = [v] ∧ KindAt ad H v k ∧ Q (f k) H
abbrev st_Kind_name : Stmt := inClass (top 32) 1
theorem sc_Kind_name : FnScope ["self"] ["self"] (defScope st_Kind_name) := ⟨rfl, rfl, rfl, by decide +kernel, rfl, by decide +kernel, by decide +kernel⟩
theorem ok_Kind_name {f : Addr} {fd : FuncData} (F : Fun K "name" "Kind.name" st_Kind_name f fd) (T : Txt K mg ad)  :
    FnOk P w K mg base CX0 1 f fd ["self"] (spKGet ad fun k => .str k.n) := by
  refine F.ok sc_Kind_name (fun vs H Q E h => ?_) (fun cdv A outer s H vs Q E hr h => ?_)
  · obtain (⟨v, k, rfl, ⟨a, dx, p, rfl, h1, h2⟩, q⟩) := h
    rfl
  · obtain (⟨v, k, rfl, ⟨a, dx, p, rfl, h1, h2⟩, q⟩) := h
    refine ⟨_, pss_one (ps_ret (pe_fld (pv 0) rfl)), ?_⟩
    walk_at "go"
    exact q
def spKParts (ad : Ad) : Sp := fun vs H Q _ => ∃ a dx k p, vs = [.ref a] ∧ H a = some (.ins ad.c_Kind dx (kfs k p)) ∧ Q (.ref p) H
abbrev st_Kind_parts : Stmt := inClass (top 32) 7
theorem sc_Kind_parts : FnScope ["self"] ["self"] (defScope st_Kind_parts) := ⟨rfl, rfl, rfl, by decide +kernel, rfl, by decide +kernel, by decide +kernel⟩
theorem ok_Kind_parts {f : Addr} {fd : FuncData} (F : Fun K "parts" "Kind.parts" st_Kind_parts f fd) (T : Txt K mg ad)  :
    FnOk P w K mg base CX0 1 f fd ["self"] (spKParts ad) := by
  refine F.ok sc_Kind_parts (fun vs H Q E h => ?_) (fun cdv A outer s H vs Q E hr h => ?_)
  · obtain (⟨a, dx, k, p, rfl, h1, q⟩) := h
    rfl
  · obtain (⟨a, dx, k, p, rfl, h1, q⟩) := h
    refine ⟨_, pss_one (ps_ret (pe_fld (pv 0) rfl)), ?_⟩
    walk_at "go"
    exact q
/-- Book.__init__, its kinds in a tuple -/
def spBookI (ad : Ad) : Sp := fun vs H Q _ => ∃ (x dx kt : Addr) (kvs : List V) (ks : List KD), vs = [.ref x, .ref kt] ∧ H kt = some (.tup kvs) ∧ Each (KindAt ad H) kvs ks ∧ bok ks ∧ H x = some (.ins ad.c_Book dx []) ∧
  ∀ (nt pt : Addr) (pvs : List V) (H' : Hp), H' nt = some (.tup (nms ks)) → H' pt = some (.tup pvs) → PartsAt H' pvs ks → H' x = some (.ins ad.c_Book dx (bfs kt nt pt)) → Stay x H H' → Q .non H'
abbrev st_Book_init : Stmt := inClass (top 33) 0
theorem sc_Book_init : FnScope ["self", "kinds", "kind", "names", "position", "name"] ["self", "kinds"] (defScope st_Book_init) := ⟨rfl, rfl, rfl, by decide +kernel, rfl, by decide +kernel, by decide +kernel⟩
theorem ok_Book_init {f : Addr} {cdv : Value} (c_Kind_name : CalP P w K mg base 1 ad.c_Kind "name" (spKGet ad fun k => .str k.n)) (c_Kind_parts : CalM P w K mg base 1 ad.c_Kind "parts" (spKParts ad)) (T : Txt K mg ad) {A : Around} {outer : List Env} {s : Shared} {H : Hp} {vs : List V} {Q : VK} {E : XK} (hr : Room 2 (A.deeper (PyProof.Rows.envOfC "Book.__init__" (defScope st_Book_init) s.heap.objs.size f cdv))) (h : (spBookI ad) vs H Q E) :
    ∃ t, PSs (cxOf CX0 P w K mg base ["self", "kinds", "kind", "names", "position", "name"] "Book.__init__" (defScope st_Book_init) f cdv A outer s H E).nox (defBody st_Book_init) t ∧ t { nx := fun _ H' => Q .non H', rt := Q } (L2.start ["self", "kinds", "kind", "names", "position", "name"] vs) H := by
  · obtain (⟨x, dx, kt, kvs, ks, rfl, hkt, hE, ok, hx, kk⟩) := h
    refine ⟨_, pss_cons (ps_for PassesOwn.never rfl (pi_tup (pv 1)) (pg_name (i := 2) sc_Book_init.nd rfl (Or.inl rfl))
        (pss_one (ps_if (pt_not (pt_val (pe_callB call_isi (by rfl) T.bi.isinstance (by decide +kernel) (pa_cons (pv 2) (pa_cons (pe_glob (v := .ref ad.c_Kind) (by rfl) T.g_Kind rfl) pa_nil))))) (pss_one ps_never) pss_nil)))
      (pss_cons (ps_setLc (i := 3) (own := [("kind", 2)]) (g := gName 2) (tt := tYes) rfl sc_Book_init.nd rfl rfl (sw_true rfl rfl rfl (by decide +kernel)) (pi_tup (pv 1)) (blkOk_by (N := ["self", "kinds", "kind", "names", "position", "name"]) (sc := defScope st_Book_init) (by decide +kernel)) (fun _ _ _ _ _ => pg_name (i := 2) sc_Book_init.nd rfl (Or.inl rfl)) (fun _ _ _ _ _ => pts_nil) (fun _ _ _ _ _ => UL.pe_conv (pe_p (pv 2) c_Kind_name hr (by decide) (by rfl)) (by walk_at "unk")))
      (pss_cons (ps_for PassesOwn.never rfl (pi_enumT (by rfl) T.bi.enumerate (pa_cons (pv 3) pa_nil)) (pg_tup rfl (pgs_cons (pg_name (i := 4) sc_Book_init.nd rfl (Or.inl rfl)) (pgs_cons (pg_name (i := 5) sc_Book_init.nd rfl (Or.inl rfl)) pgs_nil)))
        (pss_one (ps_if (pt_cmpR op_in_seq (pv 5) (pe_slice sl_list (pv 3) po_none (po_some (pv 4))) (by rfl)) (pss_one ps_never) pss_nil)))
      (pss_cons (ps_if (pt_cmpR op_gt (pe_callB call_len_seq (by rfl) T.bi.len (by decide +kernel) (pa_cons (pv 1) pa_nil)) (pe_gl (by rfl) T.v_MOST_KINDS) (nomark _)) (pss_one ps_never) pss_nil)
      (pss_cons (ps_if (pt_cmpR op_eq (pe_callB call_len_seq (by rfl) T.bi.len (by decide +kernel) (pa_cons (pv 1) pa_nil)) pe_int (nomark _)) (pss_one ps_never) pss_nil)
      (pss_cons (ps_fld (pv 0) (pv 1) rfl)
      (pss_cons (ps_fld (pv 0) (pe_callTy call_tuple_of (by rfl) T.bi.tuple (by decide +kernel) (pa_cons (pv 3) pa_nil)) rfl)
      (pss_one (ps_fld (pv 0) (pe_callTy call_tuple_of (by rfl) T.bi.tuple (by decide +kernel) (pa_cons (pe_lc (own := [("kind", 2)]) (g := gName 2) (tt := tYes) rfl sc_Book_init.nd (pi_tup (pv 1)) (blkOk_by (N := ["self", "kinds", "kind", "names", "position", "name"]) (sc := defScope st_Book_init) (by decide +kernel)) (fun _ _ _ _ _ => pg_name (i := 2) sc_Book_init.nd rfl (Or.inl rfl)) (fun _ _ _ _ _ => pts_nil) (fun _ _ _ _ _ => UL.pe_conv (pe_m0 (pv 2) c_Kind_parts hr (by decide)) (by walk_at "unk"))) pa_nil)) rfl)))))))), ?_⟩
    have nkx : kt ≠ x := ne_of hkt hx (by intro z; cases z)
    have ln : kvs.length ≤ 5 := by rw [hE.1]; exact ok.hi
    refine ⟨_, rfl, kt, rfl, ⟨kvs, SqT.of hkt⟩, fr_same (walk_tup (xs := kvs)) (fun _ σ => ∃ a, σ = [some (.ref x), some (.ref kt), a, none, none, none]) ⟨_, rfl⟩ (fun H1 s1 => SqT.of (s1 _ _ hkt)) (fun i y σ H1 H' hi s1 ⟨a, e⟩ hy Z hZ => ?_) (fun σ H1 ⟨a, e⟩ s1 => ?_)⟩
    · subst e
      obtain ⟨rfl, hy⟩ := hy
      obtain ⟨k, hk, hK⟩ := hE.at hy
      obtain ⟨b, db, p, rfl, h1, h2⟩ := hK.same s1
      walk_at "go"
      exact hZ _ _ ⟨_, rfl⟩ (L2.Same.refl _)
    subst e
    have en : kvs.length = (nms ks).length := by rw [hE.1, nms, List.length_map]
    refine ⟨_, rfl, kt, rfl, ⟨kvs, SqT.of (s1 _ _ hkt)⟩, fun D hD => lc_same (walk_tup (xs := kvs)) hD (fun i => (nms ks).getD i .non) (by omega) (fun H2 s2 => SqT.of (s2 _ _ (s1 _ _ hkt))) (fun i y H2 H' hi s2 hy R hR => ?_) (fun H2 s2 hd => ?_)⟩
    · obtain ⟨rfl, hy⟩ := hy
      obtain ⟨k, hk, hK⟩ := hE.at hy
      obtain ⟨b, db, p, rfl, h1, h2⟩ := id ((hK.same s1).same s2)
      have ei : (nms ks).getD i .non = .str k.n := by simp [nms, hk]
      rw [ei] at hR
      walk_at "go"
      exact ⟨_, k, rfl, (hK.same s1).same s2, hR _ (L2.Same.refl _)⟩
    rw [en, range_getD] at hd
    have hkt2 := s2 _ _ (s1 _ _ hkt)
    have hx2 := s2 _ _ (s1 _ _ hx)
    refine ⟨_, rfl, D, _, rfl, .inl ⟨SqL.of hd, fr_same (walk_enum (xs := nms ks)) (fun _ σ => ∃ a b c, σ = [some (.ref x), some (.ref kt), a, some (.ref D), b, c]) ⟨_, _, _, rfl⟩ (fun H3 s3 => SqL.of (s3 _ _ hd)) (fun i y σ H3 H' hi s3 ⟨a, b, c, e⟩ hy Z hZ => ?_) (fun σ H3 ⟨a, b, c, e⟩ s3 => ?_)⟩⟩
    · subst e
      obtain ⟨T1, u, v, rfl, hT, rfl, hu, hv⟩ := hy
      cases hu
      have hd3 := s3 _ _ hd
      obtain ⟨k, hk, rfl⟩ : ∃ k, ks[i]? = some k ∧ v = .str k.n := by
        simp only [nms, List.getElem?_map] at hv
        obtain ⟨k, hk, e⟩ := Option.map_eq_some_iff.mp hv
        exact ⟨k, hk, e.symm⟩
      have nin : inV (.str k.n) (cutV (nms ks) none (some ((i : Nat) : Int))) = false := by
        rw [cut_to, nms_eq, ← List.map_take, in_strs]
        exact decide_eq_false (not_ahead ok.nd (by rw [List.getElem?_map, hk]; rfl))
      have fl : (cutV (nms ks) none (some ((i : Nat) : Int))).all flatV = true := by
        rw [cut_to, nms_eq, ← List.map_take]
        exact flat_strs _
      walk_at "go"
      exact hZ _ _ ⟨_, _, _, rfl⟩ (by walk_at "same")
    subst e
    have hd3 := s3 _ _ hd
    have hkt3 := s3 _ _ hkt2
    have hx3 := s3 _ _ hx2
    have hE3 : Each (KindAt ad H3) kvs ks := hE.imp fun v k q => ((q.same s1).same s2).same s3
    have lo := ok.lo
    have ek := hE.1
    walk_at "go"
    rename_i l hl
    obtain ⟨pvs, lp, hP, hpk⟩ := parts_of hE3
    have pt : ∀ H4, Stay x H3 H4 → PartsAt H4 pvs ks := fun H4 st => hP.imp fun v k ⟨p, e, hp⟩ => ⟨p, e, st _ _ (ne_of hp hx3 (by intro z; cases z)) hp⟩
    refine ⟨⟨kvs, SqT.of (by walk_at "look")⟩, fun D2 hD2 => lc_same (walk_tup (xs := kvs)) hD2 (fun i => pvs.getD i .non) (by omega) (fun H5 s5 => SqT.of (s5 _ _ (by walk_at "look"))) (fun i y H5 H' hi s5 hy R hR => ?_) (fun H5 s5 hd5 => ?_)⟩
    · obtain ⟨rfl, hy⟩ := hy
      obtain ⟨k, hk, _⟩ := hE3.at hy
      obtain ⟨b, db, p, rfl, h1, h2⟩ := hpk i _ k hy hk
      have ei : pvs.getD i .non = .ref p := by simp [h2]
      rw [ei] at hR
      have st : Stay x H3 H' := Stay.trans (by walk_at "stay") (UL.Same.stay s5 x)
      have h5 := st _ _ (ne_of h1 hx3 (by intro z; simp [kfs] at z)) h1
      walk_at "go"
      exact hR _ (L2.Same.refl _)
    rw [← lp, range_getD] at hd5
    walk_at "go"
    rename_i m hm
    exact kk l m pvs _ (by walk_at "look") (by walk_at "look") (pt _ (by walk_at "stay")) (by walk_at "look") (by walk_at "stay")
/-- a book made -/
@[irreducible] def spBookR (ad : Ad) : Sp := fun vs H Q _ => ∃ (x dx : Addr) (kvs : List V) (ks : List KD), vs = .ref x :: kvs ∧ Each (KindAt ad H) kvs ks ∧ bok ks ∧ H x = some (.ins ad.c_Book dx []) ∧ ∀ H', Stay x H H' → BookAt ad H' (.ref x) ks → Q .non H'
theorem sp_Book_init : FnScope ["self", "kinds", "kind", "names", "position", "name"] ((["self"] : List Str) ++ (["kinds"] : List Str)) (defScope st_Book_init) := sc_Book_init
theorem r_Book_init {f : Addr} {oc : Value} {od an : Option Addr} {osl : Array (Option Value)} {kV doc pm cdv ct : Value} (lk : K.lookup f = some ⟨oc, od, .func (PySem.W.fnOf "__init__" "Book.__init__" (defArgs st_Book_init) (defBody st_Book_init) (defScope st_Book_init) .none kV doc pm an cdv ct), osl⟩) (hcd : PySem.W.codeIn K cdv "Book.__init__" = true) (c_Kind_name : CalP P w K mg base 1 ad.c_Kind "name" (spKGet ad fun k => .str k.n)) (c_Kind_parts : CalM P w K mg base 1 ad.c_Kind "parts" (spKParts ad)) (T : Txt K mg ad) : FnR P w K mg base CX0 3 f (spBookR ad) := by
  refine (StX.fn_star (ps := ["self"]) (pv := "kinds") (sp := (spBookI ad)) lk hcd sp_Book_init StX.cxUp_none (StX.bind_star1 (B := fun us => bindArgs (PySem.W.fnOf "__init__" "Book.__init__" (defArgs st_Book_init) (defBody st_Book_init) (defScope st_Book_init) .none kV doc pm an cdv ct) ⟨us, []⟩) (p1 := "self") (pv := "kinds") (fun _  => rfl) fun _ _ _  => rfl) fun A outer s H vs Q E hr hsp => ?_).imp fun vs H Q E h => ?_
  · obtain ⟨t, ht, q⟩ := ok_Book_init c_Kind_name c_Kind_parts T hr hsp
    exact ⟨t, ht.nox, q⟩
  · unfold spBookR at h; obtain ⟨x, dx, kvs, ks, rfl, hE, ok, hx, kk⟩ := h
    refine ⟨[.ref x], kvs, rfl, rfl, line_ge (by have := ok.hi; rw [hE.1]; omega), fun p hp => ?_⟩
    have s1 := same_new (o := .tup kvs) hp
    have hx1 := s1 _ _ hx
    refine ⟨x, dx, p, kvs, ks, rfl, upd_same, hE.imp fun v k q => q.same s1, ok, hx1, fun nt pt pvs H' h1 h2 h3 h4 st => kk H' (Stay.trans (UL.Same.stay s1 x) st) ⟨x, dx, p, nt, pt, kvs, pvs, rfl, h4, st _ _ (ne_new hp hx) upd_same, hE.imp fun v k q => (q.same s1).stay hx1 st, h1, h2, h3, ok⟩⟩
/-- one step before a book is made -/
theorem bmade1 {H1 : Hp} {x dx : Addr} {kvs : List V} {ks : List KD} {R : VK} (nx : H1 x = none) (nd : H1 dx = none) (ne : dx ≠ x) (hE : Each (KindAt ad H1) kvs ks) (ok : bok ks) (kk : ∀ H', L2.Same H1 H' → BookAt ad H' (.ref x) ks → R .non H') :
    spBookR ad (.ref x :: kvs) (upd (upd H1 dx (.own x)) x (.ins ad.c_Book dx [])) R E0 := by
  have s1 : L2.Same H1 (upd H1 dx (.own x)) := same_new nd
  have n2 : upd H1 dx (.own x) x = none := by rw [upd_ne ne.symm]; exact nx
  have s2 := s1.trans (same_new (o := .ins ad.c_Book dx []) n2)
  unfold spBookR
  exact ⟨x, dx, kvs, ks, rfl, hE.imp fun v k q => q.same s2, ok, upd_same, fun H' st hb => kk H' (fun b o e => st b o (ne_of_none e nx) (s2 b o e)) hb⟩
def spBNames (ad : Ad) : Sp := fun vs H Q _ => ∃ v ks, vs = [v] ∧ BookAt ad H v ks ∧ ∀ l, H l = none → Q (.ref l) (upd H l (.lst (nms ks)))
abbrev st_Book_names : Stmt := inClass (top 33) 2
theorem sc_Book_names : FnScope ["self"] ["self"] (defScope st_Book_names) := ⟨rfl, rfl, rfl, by decide +kernel, rfl, by decide +kernel, by decide +kernel⟩
theorem ok_Book_names {f : Addr} {fd : FuncData} (F : Fun K "names" "Book.names" st_Book_names f fd) (T : Txt K mg ad)  :
    FnOk P w K mg base CX0 1 f fd ["self"] (spBNames ad) := by
  refine F.ok sc_Book_names (fun vs H Q E h => ?_) (fun cdv A outer s H vs Q E hr h => ?_)
  · obtain (⟨v, ks, rfl, ⟨a, dx, kt, nt, pt, kvs, pvs, rfl, h1, h2, h3, h4, h5, h6, ok⟩, q⟩) := h
    rfl
  · obtain (⟨v, ks, rfl, ⟨a, dx, kt, nt, pt, kvs, pvs, rfl, h1, h2, h3, h4, h5, h6, ok⟩, q⟩) := h
    refine ⟨_, pss_one (ps_ret (pe_callTy call_list_of (by rfl) T.bi.list (by decide +kernel) (pa_cons (pe_fld (pv 0) rfl) pa_nil))), ?_⟩
    walk_at "go"
    exact q _ (by assumption)
def spBParts (ad : Ad) : Sp := fun vs H Q _ => ∃ a dx kt nt pt, vs = [.ref a] ∧ H a = some (.ins ad.c_Book dx (bfs kt nt pt)) ∧ Q (.ref pt) H
abbrev st_Book_parts : Stmt := inClass (top 33) 3
theorem sc_Book_parts : FnScope ["self"] ["self"] (defScope st_Book_parts) := ⟨rfl, rfl, rfl, by decide +kernel, rfl, by decide +kernel, by decide +kernel⟩
theorem ok_Book_parts {f : Addr} {fd : FuncData} (F : Fun K "parts" "Book.parts" st_Book_parts f fd) (T : Txt K mg ad)  :
    FnOk P w K mg base CX0 1 f fd ["self"] (spBParts ad) := by
  refine F.ok sc_Book_parts (fun vs H Q E h => ?_) (fun cdv A outer s H vs Q E hr h => ?_)
  · obtain (⟨a, dx, kt, nt, pt, rfl, h1, q⟩) := h
    rfl
  · obtain (⟨a, dx, kt, nt, pt, rfl, h1, q⟩) := h
    refine ⟨_, pss_one (ps_ret (pe_fld (pv 0) rfl)), ?_⟩
    walk_at "go"
    exact q
def spBAdd (ad : Ad) : Sp := fun vs H Q _ => ∃ v u ks k, vs = [v, u] ∧ BookAt ad H v ks ∧ KindAt ad H u k ∧ bok (ks ++ [k]) ∧ ∀ v' H', L2.Same H H' → BookAt ad H' v' (ks ++ [k]) → Q v' H'
abbrev st_Book_add : Stmt := inClass (top 33) 8
theorem sc_Book_add : FnScope ["self", "other", "kinds"] ["self", "other"] (defScope st_Book_add) := ⟨rfl, rfl, rfl, by decide +kernel, rfl, by decide +kernel, by decide +kernel⟩
theorem ok_Book_add {f : Addr} {fd : FuncData} (F : Fun K "__add__" "Book.__add__" st_Book_add f fd) (T : Txt K mg ad) (m_Book : MakR P w K mg base 3 "Book" ad.c_Book (spBookR ad)) :
    FnOk P w K mg base CX0 5 f fd ["self", "other"] (spBAdd ad) := by
  refine F.ok sc_Book_add (fun vs H Q E h => ?_) (fun cdv A outer s H vs Q E hr h => ?_)
  · obtain (⟨v, u, ks, k, rfl, ⟨a, dx, kt, nt, pt, kvs, pvs, rfl, h1, h2, h3, h4, h5, h6, ok0⟩, hk, ok, q⟩) := h
    rfl
  · obtain (⟨v, u, ks, k, rfl, ⟨a, dx, kt, nt, pt, kvs, pvs, rfl, h1, h2, h3, h4, h5, h6, ok0⟩, hk, ok, q⟩) := h
    refine ⟨_, pss_cons (ps_set (i := 2) sc_Book_add.nd rfl (.inl rfl) (pe_op op_catS (pe_fld (pv 0) rfl) (pe_tup (pa_cons (pv 1) pa_nil))))
      (pss_one (ps_ret (pe_nRS m_Book hr (by decide) (by rfl) (pv 2)))), ?_⟩
    have hl : kvs.length ≤ 5 := by
      have := ok0.hi
      rw [h3.1]
      omega
    have nz : kvs ≠ [] := by
      intro z
      have := ok0.lo
      rw [← h3.1, z] at this
      exact absurd this (by simp)
    walk_at "go"
    rename_i p1 hp1 hu p hp x dx nx nd ne
    exact bmade1 nx nd ne (Each.app (h3.imp fun v k q => q.same (by walk_at "same")) (Each.one (hk.same (by walk_at "same")))) ok fun H' s' hb => ⟨rfl, q _ _ (L2.Same.trans (by walk_at "same") s') hb⟩
end
end K23
set_option Elab.async false
set_option linter.all false
set_option maxRecDepth 100000
set_option maxHeartbeats 4000000


namespace K23
open PySem L2 UL ClX
local macro_rules | `(tactic| walk_at "txt") => `(tactic| first
  | ((with_reducible show L2.SqT _ _ _ _); first | exact Txt.t_GROUPS (by assumption) _ | exact Txt.t_ALIGNMENTS (by assumption) _ | exact Txt.t_SIZES (by assumption) _)
  | ((with_reducible show L2.Cls _ _); first | exact UL.CIsi.cl (Txt.i_Kind (by assumption)) | exact UL.CIsi.cl (Txt.i_Book (by assumption)) | exact UL.CIsi.cl (Txt.i_Signature (by assumption)))
  | ((with_reducible show UL.CIsi _ _); first | exact Txt.i_Kind (by assumption) | exact Txt.i_Book (by assumption) | exact Txt.i_Signature (by assumption))
  | ((with_reducible show L2.NoAttr _ _ _); first | exact Txt.n_Kind_name (by assumption) | exact Txt.n_Kind_group (by assumption) | exact Txt.n_Kind_size (by assumption) | exact Txt.n_Kind_width (by assumption) | exact Txt.n_Kind_align (by assumption) | exact Txt.n_Kind_parts (by assumption) | exact Txt.n_Book_kinds (by assumption) | exact Txt.n_Book_names (by assumption) | exact Txt.n_Book_parts (by assumption) | exact Txt.n_Signature_book (by assumption) | exact Txt.n_Signature_letters (by assumption) | exact Txt.n_Signature_key (by assumption))
  | ((with_reducible show L2.TyX _ _ _ _); first | exact UL.CIsi.ty (Txt.i_Kind (by assumption)) (by walk_at "look") | exact UL.CIsi.ty (Txt.i_Book (by assumption)) (by walk_at "look") | exact UL.CIsi.ty (Txt.i_Signature (by assumption)) (by walk_at "look"))
  | ((with_reducible show PySem.W.kitOne _ (.type _) (.ref _) = _); first | exact ((Txt.k_Kind (by assumption)) _ (by simp)).1 | exact ((Txt.k_Book (by assumption)) _ (by simp)).1 | exact ((Txt.k_Signature (by assumption)) _ (by simp)).1)
  | ((with_reducible show _ = PySem.Value.ref _ ∨ _); first | exact .inl rfl | exact .inr ⟨_, rfl, Txt.no_Kind (by assumption)⟩)
  | fail)
/-- the letters of a book, the mark behind -/
def MK : Str := "..."
def alph (ks : List KD) : List Str := ks.map KD.n ++ [MK]
/-- a row of letters -/
structure lok (ks : List KD) (ls : List Str) : Prop where
  al : ∀ l ∈ ls, l ∈ alph ks
  m1 : ls.count MK ≤ 1
  hi : ls.length ≤ 1000
/-- the letters' numbers -/
def ranks (ks : List KD) (ls : List Str) : List Int := ls.map fun l => (((alph ks).idxOf l : Nat) : Int)
def sfs (b lt kt : Addr) : List (Str × V) := [("_book", .ref b), ("_letters", .ref lt), ("_key", .ref kt)]
def SigAt (ad : Ad) (H : Hp) (v : V) (ks : List KD) (ls : List Str) : Prop := ∃ a dx b lt kt rt pt pvs, v = .ref a ∧ H a = some (.ins ad.c_Signature dx (sfs b lt kt)) ∧ BookAt ad H (.ref b) ks ∧ H lt = some (.tup (ls.map V.str)) ∧ lok ks ls ∧
  H kt = some (.tup [.int ((ls.length : Nat) : Int), .ref rt, .ref pt]) ∧ H rt = some (.tup ((ranks ks ls).map V.int)) ∧ H pt = some (.tup pvs) ∧ PartsAt H pvs ks
theorem SigAt.keep {ad : Ad} {H H' : Hp} {v : V} {ks : List KD} {ls : List Str} (h : SigAt ad H v ks ls) (s : Keep H H') : SigAt ad H' v ks ls := by
  obtain ⟨a, dx, b, lt, kt, rt, pt, pvs, e, h1, h2, h3, h4, h5, h6, h7, h8⟩ := h
  exact ⟨a, dx, b, lt, kt, rt, pt, pvs, e, s.ins h1, h2.keep s, s.tup h3, h4, s.tup h5, s.tup h6, s.tup h7, h8.imp fun v k ⟨p, e, q⟩ => ⟨p, e, s.tup q⟩⟩
theorem SigAt.same {ad : Ad} {H H' : Hp} {v : V} {ks : List KD} {ls : List Str} (h : SigAt ad H v ks ls) (s : L2.Same H H') : SigAt ad H' v ks ls := h.keep (UL.Same.keep s)
section
variable {P : Program} {w : World} {K : PySem.W.Frag} {mg : Str → Option Value} {base : Heap} {ad : Ad}
def spFWL (K : PySem.W.Frag) : Sp := fun vs H Q _ => ∃ (la lt : Addr) (al ls : List Str), vs = [.ref la, .ref lt] ∧ H la = some (.lst (al.map V.str)) ∧ H lt = some (.tup (ls.map V.str)) ∧ (∀ l ∈ ls, l ∈ al) ∧ ls.count MK ≤ 1 ∧ ls.length ≤ 2000 ∧ ∀ H', L2.Same H H' → Q .non H'
abbrev st_first_wrong_letter : Stmt := top 37
theorem sc_first_wrong_letter : FnScope ["alphabet", "letters", "marked", "position", "letter"] ["alphabet", "letters"] (defScope st_first_wrong_letter) := ⟨rfl, rfl, rfl, by decide +kernel, rfl, by decide +kernel, by decide +kernel⟩
theorem ok_first_wrong_letter {f : Addr} {fd : FuncData} (F : Fun K "first_wrong_letter" "first_wrong_letter" st_first_wrong_letter f fd) (T : Txt K mg ad) (c_is_word_of : Cal P w K mg base 1 "is_word_of" (spWordOf K)) :
    FnOk P w K mg base CX0 2 f fd ["alphabet", "letters"] (spFWL K) := by
  refine F.ok sc_first_wrong_letter (fun vs H Q E h => ?_) (fun cdv A outer s H vs Q E hr h => ?_)
  · obtain (⟨la, lt, al, ls, rfl, ha, hl, hal, hc, hz, q⟩) := h
    rfl
  · obtain (⟨la, lt, al, ls, rfl, ha, hl, hal, hc, hz, q⟩) := h
    refine ⟨_, pss_cons (ps_set (i := 2) sc_first_wrong_letter.nd rfl (.inl rfl) pe_bl)
      (pss_cons (ps_for PassesOwn.never rfl (pi_enumT (by rfl) T.bi.enumerate (pa_cons (pv 1) pa_nil)) (pg_tup rfl (pgs_cons (pg_name (i := 3) sc_first_wrong_letter.nd rfl (Or.inl rfl)) (pgs_cons (pg_name (i := 4) sc_first_wrong_letter.nd rfl (Or.inl rfl)) pgs_nil)))
        (pss_cons (ps_if (pt_not (pt_val (pe_c c_is_word_of hr (by decide) (by rfl) (pa_cons (pv 4) (pa_cons (pv 0) pa_nil))))) (pss_one (ps_ret (pv 3))) pss_nil)
          (pss_one (ps_if (pt_cmpR op_eq (pv 4) (pe_cval (pe_glob (v := .ref ad.c_Signature) (by rfl) T.g_Signature rfl)) (nomark _)) (pss_cons (ps_if (pt_val (pv 2)) (pss_one (ps_ret (pv 3))) pss_nil)
              (pss_one (ps_set (i := 2) sc_first_wrong_letter.nd rfl (.inl rfl) pe_bl))) pss_nil))))
      (pss_one (ps_ret pe_non))), ?_⟩
    obtain ⟨mc, r1, u0, r2⟩ := T.r_Signature
    have ln : (ls.map V.str).length = ls.length := List.length_map _
    refine ⟨_, rfl, lt, _, rfl, .inr ⟨SqT.of hl, fr_same (walk_enumT (xs := ls.map V.str)) (fun i σ => ∃ a b, σ = [some (.ref la), some (.ref lt), some (.bl (decide (MK ∈ ls.take i))), a, b]) ⟨_, _, rfl⟩ (fun H1 s1 => SqT.of (s1 _ _ hl)) (fun i y σ H1 H' hi s1 ⟨a, b, e⟩ hy Z hZ => ?_) (fun σ H1 ⟨a, b, e⟩ s1 => ?_)⟩⟩
    · subst e
      obtain ⟨T1, u, v, rfl, hT, rfl, hu, hv⟩ := hy
      cases hu
      obtain ⟨l, hli, rfl⟩ : ∃ l, ls[i]? = some l ∧ v = .str l := by
        simp only [List.getElem?_map] at hv
        obtain ⟨l, h1, h2⟩ := Option.map_eq_some_iff.mp hv
        exact ⟨l, h1, h2.symm⟩
      have ha1 := s1 _ _ ha
      have hin : inV (.str l) (al.map V.str) = true := by
        rw [in_strs]
        exact decide_eq_true (hal l (List.mem_of_getElem? hli))
      have fl := flat_strs al
      have tk := mem_take_succ (x := MK) hli
      by_cases c : l = MK
      · subst c
        have nm : decide (MK ∈ ls.take i) = false := decide_eq_false (once_ahead hc hli)
        rw [decide_eq_true (tk.mpr (.inr rfl))] at hZ
        rw [nm]
        walk_at "go"
        exact hZ _ _ ⟨_, _, rfl⟩ (by walk_at "same")
      · have e1 : decide (MK ∈ ls.take (i + 1)) = decide (MK ∈ ls.take i) := by
          rw [decide_eq_decide, tk]
          exact ⟨fun h => h.resolve_right (fun z => c z.symm), .inl⟩
        have e2 : decide (V.str l = V.str MK) = false := by simpa using c
        rw [e1] at hZ
        walk_at "go"
        exact hZ _ _ ⟨_, _, rfl⟩ (by walk_at "same")
    subst e
    exact q _ s1
theorem BookAt.stay {ad : Ad} {H H' : Hp} {v : V} {ks : List KD} {x C dx : Addr} (h : BookAt ad H v ks) (hx : H x = some (.ins C dx [])) (s : Stay x H H') : BookAt ad H' v ks := by
  obtain ⟨a, da, kt, nt, pt, kvs, pvs, e, h1, h2, h3, h4, h5, h6, ok⟩ := h
  have nt' : ∀ b xs, H b = some (.tup xs) → H' b = some (.tup xs) := fun b xs hb => s _ _ (ne_of hb hx (by intro z; cases z)) hb
  exact ⟨a, da, kt, nt, pt, kvs, pvs, e, s _ _ (ne_of h1 hx (by intro z; simp [bfs] at z)) h1, nt' _ _ h2, h3.imp fun v k q => q.stay hx s, nt' _ _ h4, nt' _ _ h5, h6.imp fun v k ⟨p, e, q⟩ => ⟨p, e, nt' _ _ q⟩, ok⟩
/-- Signature.__init__, its letters in a tuple -/
def spSigI (ad : Ad) : Sp := fun vs H Q _ => ∃ (x dx lt : Addr) (v : V) (ks : List KD) (ls : List Str), vs = [.ref x, v, .ref lt] ∧ BookAt ad H v ks ∧ H lt = some (.tup (ls.map V.str)) ∧ lok ks ls ∧ H x = some (.ins ad.c_Signature dx []) ∧
  ∀ H', Stay x H H' → SigAt ad H' (.ref x) ks ls → Q .non H'
abbrev st_Signature_init : Stmt := inClass (top 36) 1
theorem sc_Signature_init : FnScope ["self", "book", "letters", "alphabet", "position", "ranks", "letter"] ["self", "book", "letters"] (defScope st_Signature_init) := ⟨rfl, rfl, rfl, by decide +kernel, rfl, by decide +kernel, by decide +kernel⟩
theorem ok_Signature_init {f : Addr} {cdv : Value} (c_Book_names : CalM P w K mg base 1 ad.c_Book "names" (spBNames ad)) (c_first_wrong_letter : Cal P w K mg base 2 "first_wrong_letter" (spFWL K)) (c_Book_parts : CalM P w K mg base 1 ad.c_Book "parts" (spBParts ad)) (T : Txt K mg ad) {A : Around} {outer : List Env} {s : Shared} {H : Hp} {vs : List V} {Q : VK} {E : XK} (hr : Room 2 (A.deeper (PyProof.Rows.envOfC "Signature.__init__" (defScope st_Signature_init) s.heap.objs.size f cdv))) (h : (spSigI ad) vs H Q E) :
    ∃ t, PSs (cxOf CX0 P w K mg base ["self", "book", "letters", "alphabet", "position", "ranks", "letter"] "Signature.__init__" (defScope st_Signature_init) f cdv A outer s H E).nox (defBody st_Signature_init) t ∧ t { nx := fun _ H' => Q .non H', rt := Q } (L2.start ["self", "book", "letters", "alphabet", "position", "ranks", "letter"] vs) H := by
  · obtain (⟨x, dx, lt, v, ks, ls, rfl, hB, hlt, ok, hx, kk⟩) := h
    refine ⟨_, pss_cons (ps_if (pt_not (pt_val (pe_callB call_isi (by rfl) T.bi.isinstance (by decide +kernel) (pa_cons (pv 1) (pa_cons (pe_glob (v := .ref ad.c_Book) (by rfl) T.g_Book rfl) pa_nil))))) (pss_one ps_never) pss_nil)
      (pss_cons (ps_set (i := 3) sc_Signature_init.nd rfl (.inr rfl) (pe_lst (StX.pa_star (pe_m0 (pv 1) c_Book_names hr (by decide)) (pa_cons (pe_cval (pe_glob (v := .ref ad.c_Signature) (by rfl) T.g_Signature rfl)) pa_nil))))
      (pss_cons (ps_set (i := 4) sc_Signature_init.nd rfl (.inl rfl) (pe_c c_first_wrong_letter hr (by decide) (by rfl) (pa_cons (pv 3) (pa_cons (pv 2) pa_nil))))
      (pss_cons (ps_if (pt_cmpR op_notN (pv 4) pe_non (nomark _)) (pss_one ps_never) pss_nil)
      (pss_cons (ps_if (pt_cmpR op_gt (pe_callB call_len_seq (by rfl) T.bi.len (by decide +kernel) (pa_cons (pv 2) pa_nil)) (pe_gl (by rfl) T.v_MOST_LETTERS) (nomark _)) (pss_one ps_never) pss_nil)
      (pss_cons (ps_fld (pv 0) (pv 1) rfl)
      (pss_cons (ps_fld (pv 0) (pv 2) rfl)
      (pss_cons (ps_set (i := 5) sc_Signature_init.nd rfl (.inl rfl) (pe_callTy call_tuple_of (by rfl) T.bi.tuple (by decide +kernel) (pa_cons (pe_lc (own := [("letter", 6)]) (g := gName 6) (tt := tYes) rfl sc_Signature_init.nd (pi_tup (pv 2)) (blkOk_by (N := ["self", "book", "letters", "alphabet", "position", "ranks", "letter"]) (sc := defScope st_Signature_init) (by decide +kernel)) (fun _ _ _ _ _ => pg_name (i := 6) sc_Signature_init.nd rfl (Or.inl rfl)) (fun _ _ _ _ _ => pts_nil) (fun _ _ _ _ _ => UL.pe_conv (pe_bm PySem.F.plainAttrs_list PySem.F.slot_list_index PySem.F.type_list_index mt_index (pv 3) (pa_cons (pv 6) pa_nil)) (by walk_at "unk"))) pa_nil)))
      (pss_one (ps_fld (pv 0) (pe_tup (pa_cons (pe_callB call_len_seq (by rfl) T.bi.len (by decide +kernel) (pa_cons (pv 2) pa_nil)) (pa_cons (pv 5) (pa_cons (pe_m0 (pv 1) c_Book_parts hr (by decide)) pa_nil)))) rfl))))))))), ?_⟩
    obtain ⟨mc, r1, u0, r2⟩ := T.r_Signature
    obtain ⟨b, db, kt, nt, pt, kvs, pvs, rfl, h1, h2, h3, h4, h5, h6, okb⟩ := id hB
    have hnl : (nms ks).length ≤ 5 := by rw [nms, List.length_map]; exact okb.hi
    walk_at "go"
    rename_i l hl p hp
    have ea : nms ks ++ [V.str MK] = (alph ks).map V.str := by rw [alph, List.map_append, nms_eq]; rfl
    refine ⟨p, lt, alph ks, ls, rfl, ?_, by walk_at "look", ok.al, ok.m1, by have := ok.hi; omega, fun H2 s2 => ?_⟩
    · rw [← ea]
      exact upd_same
    have al2 : H2 p = some (.lst ((alph ks).map V.str)) := s2 _ _ (by rw [← ea]; exact upd_same)
    have hi := ok.hi
    have lt2 : H2 lt = some (.tup (ls.map V.str)) := by walk_at "look"
    have hx2 : H2 x = some (.ins ad.c_Signature dx []) := by walk_at "look"
    have hb2 : H2 b = some (.ins ad.c_Book db (bfs kt nt pt)) := by walk_at "look"
    have hB2 : BookAt ad H2 (.ref b) ks := hB.same (by walk_at "same")
    have st2 : Stay x H H2 := by walk_at "stay"
    have nbx : b ≠ x := ne_of hb2 hx2 (by intro z; simp [bfs] at z)
    have pt2 : H2 pt = some (.tup pvs) := by walk_at "look"
    have hP2 : PartsAt H2 pvs ks := h6.imp fun v k ⟨q, e, hq⟩ => ⟨q, e, by walk_at "look"⟩
    walk_at "go"
    have en : (ls.map V.str).length = ((ranks ks ls).map V.int).length := by simp [ranks]
    refine ⟨⟨ls.map V.str, SqT.of (by walk_at "look")⟩, fun D hD => lc_same (walk_tup (xs := ls.map V.str)) hD (fun i => ((ranks ks ls).map V.int).getD i .non) (by simp; omega) (fun H5 s5 => SqT.of (s5 _ _ (by walk_at "look"))) (fun i y H5 H' hi s5 hy R hR => ?_) (fun H5 s5 hd => ?_)⟩
    · obtain ⟨rfl, hy⟩ := hy
      obtain ⟨c, hc, rfl⟩ : ∃ c, ls[i]? = some c ∧ y = .str c := by
        rw [List.getElem?_map] at hy
        obtain ⟨c, h1, h2⟩ := Option.map_eq_some_iff.mp hy
        exact ⟨c, h1, h2.symm⟩
      have ei : ((ranks ks ls).map V.int).getD i .non = .int (((alph ks).idxOf c : Nat) : Int) := by simp [ranks, hc]
      rw [ei] at hR
      obtain ⟨i1, i2, i3⟩ := idx_strs (ok.al c (List.mem_of_getElem? hc))
      have al5 : H' p = some (.lst ((alph ks).map V.str)) := s5 _ _ (by walk_at "look")
      have fl := flat_strs (alph ks)
      walk_at "go"
      exact hR _ (L2.Same.refl _)
    rw [en, range_getD] at hd
    walk_at "go"
    rename_i r hr0 q hq
    have el : (((ls.map V.str).length : Nat) : Int) = ((ls.length : Nat) : Int) := by rw [List.length_map]
    rw [el]
    exact kk _ (Stay.trans st2 (by walk_at "stay")) ⟨x, dx, b, lt, q, r, pt, pvs, rfl, by walk_at "look", hB2.stay hx2 (by walk_at "stay"), by walk_at "look", ok, by walk_at "look", by walk_at "look", by walk_at "look", hP2.imp fun v k ⟨u, e, hu⟩ => ⟨u, e, by walk_at "look"⟩⟩
/-- a signature made of what is written -/
@[irreducible] def spSigR (ad : Ad) : Sp := fun vs H Q _ => ∃ (x dx : Addr) (v : V) (ks : List KD) (ls : List Str), vs = .ref x :: v :: ls.map V.str ∧ BookAt ad H v ks ∧ lok ks ls ∧ H x = some (.ins ad.c_Signature dx []) ∧ ∀ H', Stay x H H' → SigAt ad H' (.ref x) ks ls → Q .non H'
theorem sp_Signature_init : FnScope ["self", "book", "letters", "alphabet", "position", "ranks", "letter"] ((["self", "book"] : List Str) ++ (["letters"] : List Str)) (defScope st_Signature_init) := sc_Signature_init
theorem r_Signature_init {f : Addr} {oc : Value} {od an : Option Addr} {osl : Array (Option Value)} {kV doc pm cdv ct : Value} (lk : K.lookup f = some ⟨oc, od, .func (PySem.W.fnOf "__init__" "Signature.__init__" (defArgs st_Signature_init) (defBody st_Signature_init) (defScope st_Signature_init) .none kV doc pm an cdv ct), osl⟩) (hcd : PySem.W.codeIn K cdv "Signature.__init__" = true) (c_Book_names : CalM P w K mg base 1 ad.c_Book "names" (spBNames ad)) (c_first_wrong_letter : Cal P w K mg base 2 "first_wrong_letter" (spFWL K)) (c_Book_parts : CalM P w K mg base 1 ad.c_Book "parts" (spBParts ad)) (T : Txt K mg ad) : FnR P w K mg base CX0 3 f (spSigR ad) := by
  refine (StX.fn_star (ps := ["self", "book"]) (pv := "letters") (sp := (spSigI ad)) lk hcd sp_Signature_init StX.cxUp_none (StX.bind_star2 (B := fun us => bindArgs (PySem.W.fnOf "__init__" "Signature.__init__" (defArgs st_Signature_init) (defBody st_Signature_init) (defScope st_Signature_init) .none kV doc pm an cdv ct) ⟨us, []⟩) (p1 := "self") (p2 := "book") (pv := "letters") (fun _ _  => rfl) fun _ _ _ _  => rfl) fun A outer s H vs Q E hr hsp => ?_).imp fun vs H Q E h => ?_
  · obtain ⟨t, ht, q⟩ := ok_Signature_init c_Book_names c_first_wrong_letter c_Book_parts T hr hsp
    exact ⟨t, ht.nox, q⟩
  · unfold spSigR at h; obtain ⟨x, dx, v, ks, ls, rfl, hB, ok, hx, kk⟩ := h
    refine ⟨[.ref x, v], ls.map V.str, rfl, rfl, line_ge (by have := ok.hi; simp; omega), fun p hp => ?_⟩
    have s1 := same_new (o := .tup (ls.map V.str)) hp
    exact ⟨x, dx, p, v, ks, ls, rfl, hB.same s1, upd_same, ok, s1 _ _ hx, fun H' st hS => kk H' (Stay.trans (UL.Same.stay s1 x) st) hS⟩
theorem w_Signature_init {f : Addr} {oc : Value} {od an : Option Addr} {osl : Array (Option Value)} {kV doc pm cdv ct : Value} (lk : K.lookup f = some ⟨oc, od, .func (PySem.W.fnOf "__init__" "Signature.__init__" (defArgs st_Signature_init) (defBody st_Signature_init) (defScope st_Signature_init) .none kV doc pm an cdv ct), osl⟩) (hcd : PySem.W.codeIn K cdv "Signature.__init__" = true) (c_Book_names : CalM P w K mg base 1 ad.c_Book "names" (spBNames ad)) (c_first_wrong_letter : Cal P w K mg base 2 "first_wrong_letter" (spFWL K)) (c_Book_parts : CalM P w K mg base 1 ad.c_Book "parts" (spBParts ad)) (T : Txt K mg ad) : FnKw P w K mg base 3 f ["book"] (spW 1 (spSigI ad)) := by
  unfold spW
  refine fnKw_star (N := ["self", "book", "letters", "alphabet", "position", "ranks", "letter"]) (ps := []) (p0 := "self") (pv := "letters") (ks := ["book"]) (sp := (spSigI ad)) lk hcd (sp_Signature_init) (fun u ws hl => ?_) (fun A outer s H vs Q E hr hsp => ?_)
  · match ws, hl with
    | [_], _ => rfl
  · obtain ⟨t, ht, q⟩ := ok_Signature_init c_Book_names c_first_wrong_letter c_Book_parts T hr hsp
    exact ⟨t, ht.nox, q⟩
theorem lok.nil (ks : List KD) : lok ks [] := ⟨fun l h => (by cases h), by simp, by simp⟩
theorem smadeW {H1 : Hp} {x dx : Addr} {v : V} {ks : List KD} {R : VK} (nx : H1 x = none) (nd : H1 dx = none) (ne : dx ≠ x) (hB : BookAt ad H1 v ks) (kk : ∀ H', L2.Same H1 H' → SigAt ad H' (.ref x) ks [] → R .non H') :
    spW 1 (spSigI ad) [.ref x, v] (upd (upd H1 dx (.own x)) x (.ins ad.c_Signature dx [])) R E0 := by
  have s1 : L2.Same H1 (upd H1 dx (.own x)) := same_new nd
  have n2 : upd H1 dx (.own x) x = none := by rw [upd_ne ne.symm]; exact nx
  have s2 := s1.trans (same_new (o := .ins ad.c_Signature dx []) n2)
  unfold spW
  refine ⟨rfl, fun p hp => ?_⟩
  have s3 := same_new (o := .tup []) hp
  exact ⟨x, dx, p, v, ks, [], rfl, (hB.same s2).same s3, upd_same, lok.nil ks, s3 _ _ upd_same, fun H' st hb => kk H' (fun b o e => st b o (ne_of_none e nx) (s3 b o (s2 b o e))) hb⟩
/-- one step before a signature is made -/
theorem smade1 {H1 : Hp} {x dx : Addr} {v : V} {ks : List KD} {ls : List Str} {R : VK} (nx : H1 x = none) (nd : H1 dx = none) (ne : dx ≠ x) (hB : BookAt ad H1 v ks) (ok : lok ks ls) (kk : ∀ H', L2.Same H1 H' → SigAt ad H' (.ref x) ks ls → R .non H') :
    spSigR ad (.ref x :: v :: ls.map V.str) (upd (upd H1 dx (.own x)) x (.ins ad.c_Signature dx [])) R E0 := by
  have s1 : L2.Same H1 (upd H1 dx (.own x)) := same_new nd
  have n2 : upd H1 dx (.own x) x = none := by rw [upd_ne ne.symm]; exact nx
  have s2 := s1.trans (same_new (o := .ins ad.c_Signature dx []) n2)
  unfold spSigR
  exact ⟨x, dx, v, ks, ls, rfl, hB.same s2, ok, upd_same, fun H' st hb => kk H' (fun b o e => st b o (ne_of_none e nx) (s2 b o e)) hb⟩
def spSLetters (ad : Ad) : Sp := fun vs H Q _ => ∃ v ks ls, vs = [v] ∧ SigAt ad H v ks ls ∧ ∀ l, H l = none → Q (.ref l) (upd H l (.lst (ls.map V.str)))
abbrev st_Signature_letters : Stmt := inClass (top 36) 4
theorem sc_Signature_letters : FnScope ["self"] ["self"] (defScope st_Signature_letters) := ⟨rfl, rfl, rfl, by decide +kernel, rfl, by decide +kernel, by decide +kernel⟩
theorem ok_Signature_letters {f : Addr} {fd : FuncData} (F : Fun K "letters" "Signature.letters" st_Signature_letters f fd) (T : Txt K mg ad)  :
    FnOk P w K mg base CX0 1 f fd ["self"] (spSLetters ad) := by
  refine F.ok sc_Signature_letters (fun vs H Q E h => ?_) (fun cdv A outer s H vs Q E hr h => ?_)
  · obtain (⟨v, ks, ls, rfl, ⟨a, dx, b, lt, kt, rt, pt, pvs, rfl, h1, h2, h3, ok, h5, h6, h7, h8⟩, q⟩) := h
    rfl
  · obtain (⟨v, ks, ls, rfl, ⟨a, dx, b, lt, kt, rt, pt, pvs, rfl, h1, h2, h3, ok, h5, h6, h7, h8⟩, q⟩) := h
    refine ⟨_, pss_one (ps_ret (pe_callTy call_list_of (by rfl) T.bi.list (by decide +kernel) (pa_cons (pe_fld (pv 0) rfl) pa_nil))), ?_⟩
    walk_at "go"
    exact q _ (by assumption)
def spSAddT (ad : Ad) : Sp := fun vs H Q _ => ∃ v l ks ls, vs = [v, .str l] ∧ SigAt ad H v ks ls ∧ lok ks (ls ++ [l]) ∧ ∀ v' H', L2.Same H H' → SigAt ad H' v' ks (ls ++ [l]) → Q v' H'
abbrev st_Signature_add : Stmt := inClass (top 36) 13
theorem sc_Signature_add : FnScope ["self", "other", "more", "letters"] ["self", "other"] (defScope st_Signature_add) := ⟨rfl, rfl, rfl, by decide +kernel, rfl, by decide +kernel, by decide +kernel⟩
theorem ok_Signature_add {f : Addr} {fd : FuncData} (F : Fun K "__add__" "Signature.__add__" st_Signature_add f fd) (T : Txt K mg ad) (m_Signature : MakR P w K mg base 3 "Signature" ad.c_Signature (spSigR ad)) :
    FnOk P w K mg base CX0 5 f fd ["self", "other"] (spSAddT ad) := by
  refine F.ok sc_Signature_add (fun vs H Q E h => ?_) (fun cdv A outer s H vs Q E hr h => ?_)
  · obtain (⟨v, l, ks, ls, rfl, ⟨a, dx, b, lt, kt, rt, pt, pvs, rfl, h1, h2, h3, ok, h5, h6, h7, h8⟩, ok2, q⟩) := h
    rfl
  · obtain (⟨v, l, ks, ls, rfl, ⟨a, dx, b, lt, kt, rt, pt, pvs, rfl, h1, h2, h3, ok, h5, h6, h7, h8⟩, ok2, q⟩) := h
    refine ⟨_, pss_cons (ps_if (pt_val (pe_callB call_isi (by rfl) T.bi.isinstance (by decide +kernel) (pa_cons (pv 1) (pa_cons (pe_glob (v := .ref ad.c_Signature) (by rfl) T.g_Signature rfl) pa_nil)))) (pss_cons ps_never (pss_one ps_never)) (pss_one (ps_if (pt_val (pe_callB call_isi (by rfl) T.bi.isinstance (by decide +kernel) (pa_cons (pv 1) (pa_cons (pe_bltn (v := .ty "str") (by rfl) T.bi.str (by decide +kernel) rfl) pa_nil)))) (pss_one (ps_set (i := 2) sc_Signature_add.nd rfl (.inl rfl) (pe_tup (pa_cons (pv 1) pa_nil)))) (pss_one ps_never))))
      (pss_cons (ps_set (i := 3) sc_Signature_add.nd rfl (.inl rfl) (pe_op op_catS (pe_fld (pv 0) rfl) (pv 2)))
      (pss_one (ps_ret (pe_nR2 m_Signature hr (by decide) (by rfl) (pa_cons (pe_fld (pv 0) rfl) (StX.pa_star (pv 3) pa_nil)))))), ?_⟩
    have hl := ok2.hi
    rw [List.length_append] at hl
    walk_at "go"
    rename_i p1 hp1 p H1 s1 hp x dx nx nd ne
    have e : ls.map V.str ++ [V.str l] ++ [] = (ls ++ [l]).map V.str := by simp
    rw [e]
    exact smade1 nx nd ne (h2.same (by walk_at "same")) ok2 fun H' s' hs' => ⟨rfl, q _ _ (L2.Same.trans (by walk_at "same") s') hs'⟩
def spSRadd (ad : Ad) : Sp := fun vs H Q _ => ∃ v l ks ls, vs = [v, .str l] ∧ SigAt ad H v ks ls ∧ lok ks (l :: ls) ∧ ∀ v' H', L2.Same H H' → SigAt ad H' v' ks (l :: ls) → Q v' H'
abbrev st_Signature_radd : Stmt := inClass (top 36) 14
theorem sc_Signature_radd : FnScope ["self", "other", "letters"] ["self", "other"] (defScope st_Signature_radd) := ⟨rfl, rfl, rfl, by decide +kernel, rfl, by decide +kernel, by decide +kernel⟩
theorem ok_Signature_radd {f : Addr} {fd : FuncData} (F : Fun K "__radd__" "Signature.__radd__" st_Signature_radd f fd) (T : Txt K mg ad) (m_Signature : MakR P w K mg base 3 "Signature" ad.c_Signature (spSigR ad)) :
    FnOk P w K mg base CX0 5 f fd ["self", "other"] (spSRadd ad) := by
  refine F.ok sc_Signature_radd (fun vs H Q E h => ?_) (fun cdv A outer s H vs Q E hr h => ?_)
  · obtain (⟨v, l, ks, ls, rfl, ⟨a, dx, b, lt, kt, rt, pt, pvs, rfl, h1, h2, h3, ok, h5, h6, h7, h8⟩, ok2, q⟩) := h
    rfl
  · obtain (⟨v, l, ks, ls, rfl, ⟨a, dx, b, lt, kt, rt, pt, pvs, rfl, h1, h2, h3, ok, h5, h6, h7, h8⟩, ok2, q⟩) := h
    refine ⟨_, pss_cons (ps_if (pt_not (pt_val (pe_callB call_isi (by rfl) T.bi.isinstance (by decide +kernel) (pa_cons (pv 1) (pa_cons (pe_bltn (v := .ty "str") (by rfl) T.bi.str (by decide +kernel) rfl) pa_nil))))) (pss_one ps_never) pss_nil)
      (pss_cons (ps_set (i := 2) sc_Signature_radd.nd rfl (.inl rfl) (pe_op op_catS (pe_tup (pa_cons (pv 1) pa_nil)) (pe_fld (pv 0) rfl)))
      (pss_one (ps_ret (pe_nR2 m_Signature hr (by decide) (by rfl) (pa_cons (pe_fld (pv 0) rfl) (StX.pa_star (pv 2) pa_nil)))))), ?_⟩
    have hl := ok2.hi
    rw [List.length_cons] at hl
    walk_at "go"
    rename_i p1 hp1 p H1 s1 hp x dx nx nd ne
    have e : [V.str l] ++ ls.map V.str ++ [] = (l :: ls).map V.str := by simp
    rw [e]
    exact smade1 nx nd ne (h2.same (by walk_at "same")) ok2 fun H' s' hs' => ⟨rfl, q _ _ (L2.Same.trans (by walk_at "same") s') hs'⟩
/-! the orders -/
def kpD (k : KD) : PyData := .tuple [.str k.n, .str k.g, .int k.s, .int k.w, .int k.a]
def keyD (ks : List KD) (ls : List Str) : PyData := .tuple [.int ((ls.length : Nat) : Int), .tuple ((ranks ks ls).map PyData.int), .tuple (ks.map kpD)]
theorem dp_parts {K : PySem.W.Frag} {H : Hp} : ∀ {pvs : List V} {ks : List KD}, PartsAt H pvs ks → DpAll K H pvs (ks.map kpD)
  | [], [], _ => .nil
  | [], _ :: _, e => absurd e.1 (by simp)
  | _ :: _, [], e => absurd e.1 (by simp)
  | v :: pvs, k :: ks, e => by
    obtain ⟨p, rfl, hp⟩ := e.2 0 v k rfl rfl
    exact .cons (.tup (SqT.of hp) (.cons (.str _) (.cons (.str _) (.cons (.int _) (.cons (.int _) (.cons (.int _) .nil)))))) (dp_parts ⟨by have := e.1; simpa using this, fun i x y a b => e.2 (i + 1) x y (by simpa using a) (by simpa using b)⟩)
theorem str_nm {n : Str} (h : isNm n) : PyData.strOk n = true := by
  have a : ∀ c ∈ (("abcdefghijklmnopqrstuvwxyz" : Str)).cps.toList, decide (c < 0x110000) = true := by decide +kernel
  unfold PyData.strOk
  rw [← Array.all_toList, List.all_eq_true]
  exact fun c hc => a c (h.2.2 c hc)
theorem lay_kp {k : KD} (h : k.ok) : (kpD k).canLay0 = true := by
  have h1 := str_nm h.nm
  have h2 : PyData.strOk k.g = true := by
    have := h.gr
    simp only [inV, eqV, List.any_cons, List.any_nil, Bool.or_false, Bool.or_eq_true, beq_iff_eq, decide_eq_true_iff] at this
    rcases this with e | e
    · first | rw [← e] | rw [e]
      decide +kernel
    · first | rw [← e] | rw [e]
      decide +kernel
  simp [kpD, PyData.canLay0, PyData.canLayAll0, h1, h2]
theorem lay_ints (ns : List Int) : PyData.canLayAll0 (ns.map PyData.int) = true := lay_all fun d hd => by
  obtain ⟨n, _, rfl⟩ := List.mem_map.mp hd
  simp [PyData.canLay0]
theorem lay_parts {ks : List KD} (h : bok ks) : PyData.canLayAll0 (ks.map kpD) = true := lay_all fun d hd => by
  obtain ⟨k, hk, rfl⟩ := List.mem_map.mp hd
  exact lay_kp (h.ok k hk)
theorem lay_key {ks : List KD} {ls : List Str} (h : bok ks) : (keyD ks ls).canLay0 = true := by
  simp [keyD, PyData.canLay0, PyData.canLayAll0, lay_ints, lay_parts h]
theorem ord_ints : ∀ xs ys : List Int, ordOkL (xs.map PyData.int) (ys.map PyData.int) = true
  | [], ys => by cases ys <;> simp [ordOkL]
  | _ :: _, [] => by simp [ordOkL]
  | x :: xs, y :: ys => by simp [ordOkL, ordOk, ord_ints xs ys]
theorem ord_key {ks : List KD} {ls ms : List Str} (h : bok ks) : ordOk (keyD ks ls) (keyD ks ms) = true := by
  have e : PyData.eqv (.tuple (ks.map kpD)) (.tuple (ks.map kpD)) = true := SeqAt.eqv_refl _ (by simp [PyData.canLay0, lay_parts h])
  simp [keyD, ordOk, ordOkL, ord_ints, e]
theorem depth_key {ks : List KD} {ls : List Str} : (keyD ks ls).depth ≤ 60 := by
  have h1 : PyData.depthAll ((ranks ks ls).map PyData.int) ≤ 0 := depth_all fun d hd => by
    obtain ⟨n, _, rfl⟩ := List.mem_map.mp hd
    simp [PyData.depth]
  have h2 : PyData.depthAll (ks.map kpD) ≤ 1 := depth_all fun d hd => by
    obtain ⟨k, _, rfl⟩ := List.mem_map.mp hd
    simp [kpD, PyData.depth, PyData.depthAll]
  simp only [keyD, PyData.depth, PyData.depthAll]
  omega
theorem shaped_key {ks : List KD} {ls : List Str} (h : bok ks) : SeqAt.shaped (keyD ks ls) = true := shaped_of (lay_key h) (Nat.le_trans depth_key (by decide))
def spSCmp (ad : Ad) (o : CmpOp) : Sp := fun vs H Q _ => ∃ v u ks ls ms, vs = [v, u] ∧ SigAt ad H v ks ls ∧ SigAt ad H u ks ms ∧ Q (.bl (ordV o (keyD ks ls) (keyD ks ms))) H
theorem SigAt.dp {K : PySem.W.Frag} {H : Hp} {kt rt pt : Addr} {pvs : List V} {ks : List KD} {ls : List Str} (h5 : H kt = some (.tup [.int ((ls.length : Nat) : Int), .ref rt, .ref pt])) (h6 : H rt = some (.tup ((ranks ks ls).map V.int))) (h7 : H pt = some (.tup pvs)) (h8 : PartsAt H pvs ks) : Dp K H (.ref kt) (keyD ks ls) :=
  .tup (SqT.of h5) (.cons (.int _) (.cons (.tup (SqT.of h6) (dp_ints _)) (.cons (.tup (SqT.of h7) (dp_parts h8)) .nil)))
abbrev st_Signature_lt : Stmt := inClass (top 36) 16
theorem sc_Signature_lt : FnScope ["self", "other"] ["self", "other"] (defScope st_Signature_lt) := ⟨rfl, rfl, rfl, by decide +kernel, rfl, by decide +kernel, by decide +kernel⟩
theorem ok_Signature_lt {f : Addr} {fd : FuncData} (F : Fun K "__lt__" "Signature.__lt__" st_Signature_lt f fd) (T : Txt K mg ad)  :
    FnOk P w K mg base CX0 1 f fd ["self", "other"] (spSCmp ad .Lt) := by
  refine F.ok sc_Signature_lt (fun vs H Q E h => ?_) (fun cdv A outer s H vs Q E hr h => ?_)
  · obtain (⟨v, u, ks, ls, ms, rfl, ⟨a, dx, b, lt, kt, rt, pt, pvs, rfl, h1, ⟨_, _, _, _, _, _, _, _, _, _, _, _, _, _, okb⟩, h3, ok, h5, h6, h7, h8⟩, ⟨a', dx', b', lt', kt', rt', pt', pvs', rfl, i1, i2, i3, ok', i5, i6, i7, i8⟩, q⟩) := h
    rfl
  · obtain (⟨v, u, ks, ls, ms, rfl, ⟨a, dx, b, lt, kt, rt, pt, pvs, rfl, h1, ⟨_, _, _, _, _, _, _, _, _, _, _, _, _, _, okb⟩, h3, ok, h5, h6, h7, h8⟩, ⟨a', dx', b', lt', kt', rt', pt', pvs', rfl, i1, i2, i3, ok', i5, i6, i7, i8⟩, q⟩) := h
    refine ⟨_, pss_cons (ps_if (pt_not (pt_val (pe_callB call_isi (by rfl) T.bi.isinstance (by decide +kernel) (pa_cons (pv 1) (pa_cons (pe_glob (v := .ref ad.c_Signature) (by rfl) T.g_Signature rfl) pa_nil))))) (pss_one ps_never) pss_nil)
      (pss_one (ps_ret (pe_cmpR (op_ordD .lt hr.units) (pe_fld (pv 0) rfl) (pe_fld (pv 1) rfl) (nomark _)))), ?_⟩
    walk_at "go"
    exact ⟨_, _, SigAt.dp h5 h6 h7 h8, SigAt.dp i5 i6 i7 i8, ord_key okb, lay_key okb, lay_key okb, depth_key, q⟩
abbrev st_Signature_le : Stmt := inClass (top 36) 17
theorem sc_Signature_le : FnScope ["self", "other"] ["self", "other"] (defScope st_Signature_le) := ⟨rfl, rfl, rfl, by decide +kernel, rfl, by decide +kernel, by decide +kernel⟩
theorem ok_Signature_le {f : Addr} {fd : FuncData} (F : Fun K "__le__" "Signature.__le__" st_Signature_le f fd) (T : Txt K mg ad)  :
    FnOk P w K mg base CX0 1 f fd ["self", "other"] (spSCmp ad .LtE) := by
  refine F.ok sc_Signature_le (fun vs H Q E h => ?_) (fun cdv A outer s H vs Q E hr h => ?_)
  · obtain (⟨v, u, ks, ls, ms, rfl, ⟨a, dx, b, lt, kt, rt, pt, pvs, rfl, h1, ⟨_, _, _, _, _, _, _, _, _, _, _, _, _, _, okb⟩, h3, ok, h5, h6, h7, h8⟩, ⟨a', dx', b', lt', kt', rt', pt', pvs', rfl, i1, i2, i3, ok', i5, i6, i7, i8⟩, q⟩) := h
    rfl
  · obtain (⟨v, u, ks, ls, ms, rfl, ⟨a, dx, b, lt, kt, rt, pt, pvs, rfl, h1, ⟨_, _, _, _, _, _, _, _, _, _, _, _, _, _, okb⟩, h3, ok, h5, h6, h7, h8⟩, ⟨a', dx', b', lt', kt', rt', pt', pvs', rfl, i1, i2, i3, ok', i5, i6, i7, i8⟩, q⟩) := h
    refine ⟨_, pss_cons (ps_if (pt_not (pt_val (pe_callB call_isi (by rfl) T.bi.isinstance (by decide +kernel) (pa_cons (pv 1) (pa_cons (pe_glob (v := .ref ad.c_Signature) (by rfl) T.g_Signature rfl) pa_nil))))) (pss_one ps_never) pss_nil)
      (pss_one (ps_ret (pe_cmpR (op_ordD .le hr.units) (pe_fld (pv 0) rfl) (pe_fld (pv 1) rfl) (nomark _)))), ?_⟩
    walk_at "go"
    exact ⟨_, _, SigAt.dp h5 h6 h7 h8, SigAt.dp i5 i6 i7 i8, ord_key okb, lay_key okb, lay_key okb, depth_key, q⟩
abbrev st_Signature_gt : Stmt := inClass (top 36) 18
theorem sc_Signature_gt : FnScope ["self", "other"] ["self", "other"] (defScope st_Signature_gt) := ⟨rfl, rfl, rfl, by decide +kernel, rfl, by decide +kernel, by decide +kernel⟩
theorem ok_Signature_gt {f : Addr} {fd : FuncData} (F : Fun K "__gt__" "Signature.__gt__" st_Signature_gt f fd) (T : Txt K mg ad)  :
    FnOk P w K mg base CX0 1 f fd ["self", "other"] (spSCmp ad .Gt) := by
  refine F.ok sc_Signature_gt (fun vs H Q E h => ?_) (fun cdv A outer s H vs Q E hr h => ?_)
  · obtain (⟨v, u, ks, ls, ms, rfl, ⟨a, dx, b, lt, kt, rt, pt, pvs, rfl, h1, ⟨_, _, _, _, _, _, _, _, _, _, _, _, _, _, okb⟩, h3, ok, h5, h6, h7, h8⟩, ⟨a', dx', b', lt', kt', rt', pt', pvs', rfl, i1, i2, i3, ok', i5, i6, i7, i8⟩, q⟩) := h
    rfl
  · obtain (⟨v, u, ks, ls, ms, rfl, ⟨a, dx, b, lt, kt, rt, pt, pvs, rfl, h1, ⟨_, _, _, _, _, _, _, _, _, _, _, _, _, _, okb⟩, h3, ok, h5, h6, h7, h8⟩, ⟨a', dx', b', lt', kt', rt', pt', pvs', rfl, i1, i2, i3, ok', i5, i6, i7, i8⟩, q⟩) := h
    refine ⟨_, pss_cons (ps_if (pt_not (pt_val (pe_callB call_isi (by rfl) T.bi.isinstance (by decide +kernel) (pa_cons (pv 1) (pa_cons (pe_glob (v := .ref ad.c_Signature) (by rfl) T.g_Signature rfl) pa_nil))))) (pss_one ps_never) pss_nil)
      (pss_one (ps_ret (pe_cmpR (op_ordD .gt hr.units) (pe_fld (pv 0) rfl) (pe_fld (pv 1) rfl) (nomark _)))), ?_⟩
    walk_at "go"
    exact ⟨_, _, SigAt.dp h5 h6 h7 h8, SigAt.dp i5 i6 i7 i8, ord_key okb, lay_key okb, lay_key okb, depth_key, q⟩
abbrev st_Signature_ge : Stmt := inClass (top 36) 19
theorem sc_Signature_ge : FnScope ["self", "other"] ["self", "other"] (defScope st_Signature_ge) := ⟨rfl, rfl, rfl, by decide +kernel, rfl, by decide +kernel, by decide +kernel⟩
theorem ok_Signature_ge {f : Addr} {fd : FuncData} (F : Fun K "__ge__" "Signature.__ge__" st_Signature_ge f fd) (T : Txt K mg ad)  :
    FnOk P w K mg base CX0 1 f fd ["self", "other"] (spSCmp ad .GtE) := by
  refine F.ok sc_Signature_ge (fun vs H Q E h => ?_) (fun cdv A outer s H vs Q E hr h => ?_)
  · obtain (⟨v, u, ks, ls, ms, rfl, ⟨a, dx, b, lt, kt, rt, pt, pvs, rfl, h1, ⟨_, _, _, _, _, _, _, _, _, _, _, _, _, _, okb⟩, h3, ok, h5, h6, h7, h8⟩, ⟨a', dx', b', lt', kt', rt', pt', pvs', rfl, i1, i2, i3, ok', i5, i6, i7, i8⟩, q⟩) := h
    rfl
  · obtain (⟨v, u, ks, ls, ms, rfl, ⟨a, dx, b, lt, kt, rt, pt, pvs, rfl, h1, ⟨_, _, _, _, _, _, _, _, _, _, _, _, _, _, okb⟩, h3, ok, h5, h6, h7, h8⟩, ⟨a', dx', b', lt', kt', rt', pt', pvs', rfl, i1, i2, i3, ok', i5, i6, i7, i8⟩, q⟩) := h
    refine ⟨_, pss_cons (ps_if (pt_not (pt_val (pe_callB call_isi (by rfl) T.bi.isinstance (by decide +kernel) (pa_cons (pv 1) (pa_cons (pe_glob (v := .ref ad.c_Signature) (by rfl) T.g_Signature rfl) pa_nil))))) (pss_one ps_never) pss_nil)
      (pss_one (ps_ret (pe_cmpR (op_ordD .ge hr.units) (pe_fld (pv 0) rfl) (pe_fld (pv 1) rfl) (nomark _)))), ?_⟩
    walk_at "go"
    exact ⟨_, _, SigAt.dp h5 h6 h7 h8, SigAt.dp i5 i6 i7 i8, ord_key okb, lay_key okb, lay_key okb, depth_key, q⟩
def spSEq (ad : Ad) : Sp := fun vs H Q _ => ∃ v u ks ls ms, vs = [v, u] ∧ SigAt ad H v ks ls ∧ SigAt ad H u ks ms ∧ Q (.bl (PyData.eqv (keyD ks ls) (keyD ks ms))) H
abbrev st_Signature_eq : Stmt := inClass (top 36) 20
theorem sc_Signature_eq : FnScope ["self", "other"] ["self", "other"] (defScope st_Signature_eq) := ⟨rfl, rfl, rfl, by decide +kernel, rfl, by decide +kernel, by decide +kernel⟩
theorem ok_Signature_eq {f : Addr} {fd : FuncData} (F : Fun K "__eq__" "Signature.__eq__" st_Signature_eq f fd) (T : Txt K mg ad)  :
    FnOk P w K mg base CX0 1 f fd ["self", "other"] (spSEq ad) := by
  refine F.ok sc_Signature_eq (fun vs H Q E h => ?_) (fun cdv A outer s H vs Q E hr h => ?_)
  · obtain (⟨v, u, ks, ls, ms, rfl, ⟨a, dx, b, lt, kt, rt, pt, pvs, rfl, h1, ⟨_, _, _, _, _, _, _, _, _, _, _, _, _, _, okb⟩, h3, ok, h5, h6, h7, h8⟩, ⟨a', dx', b', lt', kt', rt', pt', pvs', rfl, i1, i2, i3, ok', i5, i6, i7, i8⟩, q⟩) := h
    rfl
  · obtain (⟨v, u, ks, ls, ms, rfl, ⟨a, dx, b, lt, kt, rt, pt, pvs, rfl, h1, ⟨_, _, _, _, _, _, _, _, _, _, _, _, _, _, okb⟩, h3, ok, h5, h6, h7, h8⟩, ⟨a', dx', b', lt', kt', rt', pt', pvs', rfl, i1, i2, i3, ok', i5, i6, i7, i8⟩, q⟩) := h
    refine ⟨_, pss_cons (ps_if (pt_not (pt_val (pe_callB call_isi (by rfl) T.bi.isinstance (by decide +kernel) (pa_cons (pv 1) (pa_cons (pe_glob (v := .ref ad.c_Signature) (by rfl) T.g_Signature rfl) pa_nil))))) (pss_one ps_never) pss_nil)
      (pss_one (ps_ret (pe_cmpR (op_eqD hr.units) (pe_fld (pv 0) rfl) (pe_fld (pv 1) rfl) (nomark _)))), ?_⟩
    walk_at "go"
    exact ⟨_, _, SigAt.dp h5 h6 h7 h8, SigAt.dp i5 i6 i7 i8, shaped_key okb, shaped_key okb, q⟩
end
end K23
set_option Elab.async false
set_option linter.all false
set_option maxRecDepth 100000
set_option maxHeartbeats 4000000


namespace K23
open PySem L2 UL ClX
local macro_rules | `(tactic| walk_at "txt") => `(tactic| first
  | ((with_reducible show L2.SqT _ _ _ _); first | exact Txt.t_GROUPS (by assumption) _ | exact Txt.t_ALIGNMENTS (by assumption) _ | exact Txt.t_SIZES (by assumption) _)
  | ((with_reducible show L2.Cls _ _); first | exact UL.CIsi.cl (Txt.i_Kind (by assumption)) | exact UL.CIsi.cl (Txt.i_Book (by assumption)) | exact UL.CIsi.cl (Txt.i_Signature (by assumption)))
  | ((with_reducible show UL.CIsi _ _); first | exact Txt.i_Kind (by assumption) | exact Txt.i_Book (by assumption) | exact Txt.i_Signature (by assumption))
  | ((with_reducible show L2.NoAttr _ _ _); first | exact Txt.n_Kind_name (by assumption) | exact Txt.n_Kind_group (by assumption) | exact Txt.n_Kind_size (by assumption) | exact Txt.n_Kind_width (by assumption) | exact Txt.n_Kind_align (by assumption) | exact Txt.n_Kind_parts (by assumption) | exact Txt.n_Book_kinds (by assumption) | exact Txt.n_Book_names (by assumption) | exact Txt.n_Book_parts (by assumption) | exact Txt.n_Signature_book (by assumption) | exact Txt.n_Signature_letters (by assumption) | exact Txt.n_Signature_key (by assumption))
  | ((with_reducible show L2.TyX _ _ _ _); first | exact UL.CIsi.ty (Txt.i_Kind (by assumption)) (by walk_at "look") | exact UL.CIsi.ty (Txt.i_Book (by assumption)) (by walk_at "look") | exact UL.CIsi.ty (Txt.i_Signature (by assumption)) (by walk_at "look"))
  | ((with_reducible show PySem.W.kitOne _ (.type _) (.ref _) = _); first | exact ((Txt.k_Kind (by assumption)) _ (by simp)).1 | exact ((Txt.k_Book (by assumption)) _ (by simp)).1 | exact ((Txt.k_Signature (by assumption)) _ (by simp)).1)
  | ((with_reducible show _ = PySem.Value.ref _ ∨ _); first | exact .inl rfl | exact .inr ⟨_, rfl, Txt.no_Kind (by assumption)⟩)
  | fail)
section
variable {P : Program} {w : World} {K : PySem.W.Frag} {mg : Str → Option Value} {base : Heap} {ad : Ad}
/-- _law_pick(pot, some): one of them -/
def spPick1 (K : PySem.W.Frag) : Sp := fun vs H Q _ => ∃ (p l : Addr) (xs : List V), vs = [.ref p, .ref l] ∧ Pot H p ∧ l ≠ p ∧ SqL K H l xs ∧ 0 < xs.length ∧ xs.length < 1073741824 ∧
  ∀ (i : Nat) (v : V) (H' : Hp), xs[i]? = some v → Pot H' p → Stay p H H' → Q v H'
/-- _law_pot(script, k): a new pot -/
def spPot (K : PySem.W.Frag) : Sp := fun vs H Q _ => ∃ (a : Addr) (ns : List Int) (k : Int), vs = [.ref a, .int k] ∧ SqL K H a (ns.map V.int) ∧ 0 ≤ k ∧ k ≤ 100 ∧
  ∀ (p : Addr) (H' : Hp), H p = none → Pot H' p → L2.Same H H' → Q (.ref p) H'
abbrev st_l_draw : Stmt := top 40
theorem sc_l_draw : FnScope ["_law_pot_here", "_law_much", "_law_digit"] ["_law_pot_here", "_law_much"] (defScope st_l_draw) := ⟨rfl, rfl, rfl, by decide +kernel, rfl, by decide +kernel, by decide +kernel⟩
theorem ok_l_draw {f : Addr} {fd : FuncData} (F : Fun K "_law_draw" "_law_draw" st_l_draw f fd) (T : Txt K mg ad)  :
    FnOk P w K mg base CX0 1 f fd ["_law_pot_here", "_law_much"] spDraw := by
  refine F.ok sc_l_draw (fun vs H Q E h => ?_) (fun cdv A outer s H vs Q E hr h => ?_)
  · obtain (⟨p, n, rfl, ⟨a, b, hp, hb0, hb1⟩, hn0, hn1, k⟩) := h
    rfl
  · obtain (⟨p, n, rfl, ⟨a, b, hp, hb0, hb1⟩, hn0, hn1, k⟩) := h
    refine ⟨_, pss_cons (ps_if (pt_cmpR op_gt (pe_ix ix_list (pv 0) pe_int (fun _ _ => rfl)) pe_int (nomark _)) (pss_cons (ps_asg (pe_callB call_divmod (by rfl) T.bi.divmod (by decide +kernel) (pa_cons (pe_ix ix_list (pv 0) pe_int (fun _ _ => rfl)) (pa_cons (pv 1) pa_nil))) (pg_tup rfl (pgs_cons (pg_sub (pv 0) pe_int set_list) (pgs_cons (pg_name (i := 2) sc_l_draw.nd rfl (Or.inl rfl)) pgs_nil))))
          (pss_one (ps_ret (pv 2)))) pss_nil)
      (pss_cons (ps_asg (pe_op op_mod (pe_callTy call_int1 (by rfl) T.bi.int (by decide +kernel) (pa_cons (pe_op op_add (pe_op op_mul (pe_ix ix_list (pv 0) pe_int (fun _ _ => rfl)) pe_int) pe_int) pa_nil)) pe_int) (pg_sub (pv 0) pe_int set_list))
      (pss_one (ps_ret (pe_op op_mod (pe_callTy call_int1 (by rfl) T.bi.int (by decide +kernel) (pa_cons (pe_op op_fdiv (pe_op op_mod (pe_callTy call_int1 (by rfl) T.bi.int (by decide +kernel) (pa_cons (pe_op op_mul (pe_ix ix_list (pv 0) pe_int (fun _ _ => rfl)) (pe_ix ix_list (pv 0) pe_int (fun _ _ => rfl))) pa_nil)) pe_int) pe_int) pa_nil)) (pv 1))))), ?_⟩
    -- if pot[0] > 0
    refine ⟨_, rfl, p, _, _, _, rfl, rfl, SqL.of hp, atI_nat (j := 0) rfl, _, _, rfl, rfl, _, rfl, ?_⟩
    by_cases c : 0 < a
    · rw [decide_eq_true c]
      refine iteT ?_
      refine ⟨_, rfl, p, _, _, _, rfl, rfl, SqL.of hp, atI_nat (j := 0) rfl, _, rfl, _, _, rfl, ⟨hn0, hn1⟩, fun t ht => ?_⟩
      have npt : p ≠ t := ne_of_none hp ht
      refine ⟨t, _, rfl, SqT.of upd_same, rfl, _, _, rfl, _, rfl, p, _, _, 0, rfl, rfl, (by rw [upd_ne npt]; exact hp), rfl, _, _, rfl, rfl, ?_⟩
      refine ⟨_, rfl, ?_⟩
      refine k _ _ (Int.emod_nonneg _ (by omega)) (Int.emod_lt_of_pos _ hn0) ⟨_, b, upd_same, hb0, hb1⟩ fun u o hu e => ?_
      rw [upd_ne hu, upd_ne (ne_of_none e ht)]
      exact e
    · rw [decide_eq_false c]
      refine iteF ?_
      refine ⟨_, rfl, p, _, _, _, rfl, rfl, SqL.of hp, atI_nat (j := 1) rfl, _, _, rfl, rfl, .inr ⟨by decide, by decide⟩, _, _, rfl, rfl, .inl ⟨_, rfl, _, _, rfl, rfl, (by show (0 : Int) < 2147483587; decide), ?_⟩⟩
      refine ⟨_, rfl, p, _, _, 1, rfl, rfl, hp, rfl, ?_⟩
      have e1 : 0 ≤ (b * 48271 + 12161) % 2147483587 := Int.emod_nonneg _ (by decide)
      have e2 : (b * 48271 + 12161) % 2147483587 < 2147483587 := Int.emod_lt_of_pos _ (by decide)
      dsimp only [List.set]
      generalize (b * 48271 + 12161) % 2147483587 = z at e1 e2 ⊢
      refine ⟨_, rfl, p, _, _, _, rfl, rfl, SqL.of upd_same, atI_nat (j := 1) rfl, _, rfl, p, _, _, _, rfl, rfl, SqL.of upd_same, atI_nat (j := 1) rfl, _, _, rfl, rfl, .inl ⟨by omega, by omega⟩, .inl ⟨_, rfl, _, _, rfl, rfl, (by show (0 : Int) < 2147483549; decide), _, _, rfl, rfl, ⟨by decide, by decide⟩,
        .inl ⟨_, rfl, _, rfl, _, _, rfl, rfl, hn0, ?_⟩⟩⟩
      exact k _ _ (Int.emod_nonneg _ (by omega)) (Int.emod_lt_of_pos _ hn0) ⟨a, z, upd_same, e1, by omega⟩ stay_upd
abbrev st_l_pick : Stmt := top 41
theorem sc_l_pick : FnScope ["_law_pot_here", "_law_some"] ["_law_pot_here", "_law_some"] (defScope st_l_pick) := ⟨rfl, rfl, rfl, by decide +kernel, rfl, by decide +kernel, by decide +kernel⟩
theorem ok_l_pick {f : Addr} {fd : FuncData} (F : Fun K "_law_pick" "_law_pick" st_l_pick f fd) (T : Txt K mg ad) (c_l_draw : Cal P w K mg base 1 "_law_draw" spDraw) :
    FnOk P w K mg base CX0 2 f fd ["_law_pot_here", "_law_some"] (spPick1 K) := by
  refine F.ok sc_l_pick (fun vs H Q E h => ?_) (fun cdv A outer s H vs Q E hr h => ?_)
  · obtain (⟨p, l, xs, rfl, hp, hne, hS, h0, h1, k⟩) := h
    rfl
  · obtain (⟨p, l, xs, rfl, hp, hne, hS, h0, h1, k⟩) := h
    refine ⟨_, pss_one (ps_ret (pe_ix ix_list (pv 1) (pe_c c_l_draw hr (by decide) (by rfl) (pa_cons (pv 0) (pa_cons (pe_callB call_len_seq (by rfl) T.bi.len (by decide +kernel) (pa_cons (pv 1) pa_nil)) pa_nil))) (fun _ _ => rfl))), ?_⟩
    refine ⟨_, rfl, _, rfl, _, rfl, l, xs, rfl, .inl hS, p, (xs.length : Int), rfl, hp, by omega, by omega, fun d H' d0 d1 hp' st => ?_⟩
    obtain ⟨j, rfl⟩ : ∃ j : Nat, d = (j : Int) := ⟨d.toNat, by omega⟩
    have hj : j < xs.length := by omega
    exact ⟨l, xs, _, xs[j], rfl, rfl, Stay.seqL st hne hS, atI_nat (List.getElem?_eq_getElem hj), k j _ H' (List.getElem?_eq_getElem hj) hp' st⟩
theorem pot_b (z k : Int) : 0 ≤ (z % 2147483549 + 11) * (2 * k + 3) ^ 3 % 2147483477 + 1 ∧ (z % 2147483549 + 11) * (2 * k + 3) ^ 3 % 2147483477 + 1 < 4294967296 := by
  have h1 := Int.emod_nonneg ((z % 2147483549 + 11) * (2 * k + 3) ^ 3) (show (2147483477 : Int) ≠ 0 by decide)
  have h2 := Int.emod_lt_of_pos ((z % 2147483549 + 11) * (2 * k + 3) ^ 3) (show (0 : Int) < 2147483477 by decide)
  omega
abbrev st_l_pot : Stmt := top 39
theorem sc_l_pot : FnScope ["_law_script", "_law_k", "_law_cell"] ["_law_script", "_law_k"] (defScope st_l_pot) := ⟨rfl, rfl, rfl, by decide +kernel, rfl, by decide +kernel, by decide +kernel⟩
theorem ok_l_pot {f : Addr} {fd : FuncData} (F : Fun K "_law_pot" "_law_pot" st_l_pot f fd) (T : Txt K mg ad)  :
    FnOk P w K mg base CX0 1 f fd ["_law_script", "_law_k"] (spPot K) := by
  refine F.ok sc_l_pot (fun vs H Q E h => ?_) (fun cdv A outer s H vs Q E hr h => ?_)
  · obtain (⟨a, ns, i, rfl, hS, i0, i1, k⟩) := h
    rfl
  · obtain (⟨a, ns, i, rfl, hS, i0, i1, k⟩) := h
    refine ⟨_, pss_cons (ps_set (i := 2) sc_l_pot.nd rfl (.inl rfl) (pe_op op_add (pe_op op_mul pe_int (pv 1)) pe_int))
      (pss_cons (ps_if (pt_cmpR op_lt (pv 1) (pe_callB call_len_seq (by rfl) T.bi.len (by decide +kernel) (pa_cons (pv 0) pa_nil)) (nomark _)) (pss_one (ps_set (i := 2) sc_l_pot.nd rfl (.inl rfl) (pe_callB call_abs (by rfl) T.bi.abs (by decide +kernel) (pa_cons (pe_ix ix_list (pv 0) (pv 1) (fun _ _ => rfl)) pa_nil)))) pss_nil)
      (pss_one (ps_ret (pe_lst (pa_cons (pe_callB (call_max2 rfl) (by rfl) T.bi.max (by decide +kernel) (pa_cons pe_int (pa_cons (pe_op op_sub (pv 2) (pe_op op_pow pe_int pe_int)) pa_nil))) (pa_cons (pe_op op_add (pe_op op_mod (pe_op op_mul (pe_callTy call_int1 (by rfl) T.bi.int (by decide +kernel) (pa_cons (pe_op op_add (pe_op op_mod (pe_callTy call_int1 (by rfl) T.bi.int (by decide +kernel) (pa_cons (pv 2) pa_nil)) pe_int) pe_int) pa_nil)) (pe_op op_pow (pe_op op_add (pe_op op_mul pe_int (pv 1)) pe_int) pe_int)) pe_int) pe_int) pa_nil)))))), ?_⟩
    refine ⟨_, rfl, _, _, rfl, rfl, .inl ⟨by decide, by decide⟩, _, _, rfl, rfl, ?_⟩
    refine ⟨_, rfl, _, rfl, a, _, rfl, .inl hS, _, _, rfl, rfl, _, rfl, ?_⟩
    have m1 : ∀ z : Int, -(2 ^ 64) < z % 2147483549 + 11 ∧ z % 2147483549 + 11 < 2 ^ 64 := fun z => by
      have h1 := Int.emod_nonneg z (show (2147483549 : Int) ≠ 0 by decide)
      have h2 := Int.emod_lt_of_pos z (show (0 : Int) < 2147483549 by decide)
      omega
    by_cases c : i < ((ns.map V.int).length : Int)
    · rw [decide_eq_true c]
      rw [List.length_map] at c
      obtain ⟨j, rfl⟩ : ∃ j : Nat, i = (j : Int) := ⟨i.toNat, by omega⟩
      have hj : j < ns.length := by omega
      refine iteT ⟨_, rfl, _, rfl, a, _, _, V.int ns[j], rfl, rfl, hS, atI_nat (by rw [List.getElem?_map, List.getElem?_eq_getElem hj]; rfl), _, rfl, ?_⟩
      generalize (if ns[j] < 0 then -ns[j] else ns[j]) = z
      refine ⟨_, rfl, _, _, rfl, rfl, ⟨by decide, by decide, by decide⟩, _, _, rfl, rfl, 0, _, rfl, ?_⟩
      refine ⟨_, rfl, .inl ⟨z, rfl, _, _, rfl, rfl, (by show (0 : Int) < 2147483549; decide), _, _, rfl, rfl, .inl ⟨_, rfl, _, rfl, _, _, rfl, rfl, .inl ⟨by decide, by decide⟩, _, _, rfl, rfl, _, _, rfl, rfl, ⟨by decide, by decide, by omega⟩, _, _, rfl, rfl,
        .inl (m1 z), _, _, rfl, rfl, (by show (0 : Int) < 2147483477; decide), _, _, rfl, rfl, (by show 2 ≤ sizeLine; decide), fun q hq => ?_⟩⟩⟩
      exact k q _ hq ⟨_, _, upd_same, pot_b z _⟩ (same_new hq)
    · rw [decide_eq_false c]
      refine iteF ?_
      refine ⟨_, rfl, _, _, rfl, rfl, ⟨by decide, by decide, by decide⟩, _, _, rfl, rfl, 0, _, rfl, ?_⟩
      refine ⟨_, rfl, .inl ⟨31 * i + 6, rfl, _, _, rfl, rfl, (by show (0 : Int) < 2147483549; decide), _, _, rfl, rfl, .inl ⟨_, rfl, _, rfl, _, _, rfl, rfl, .inl ⟨by decide, by decide⟩, _, _, rfl, rfl, _, _, rfl, rfl, ⟨by decide, by decide, by omega⟩, _, _, rfl, rfl,
        .inl (m1 _), _, _, rfl, rfl, (by show (0 : Int) < 2147483477; decide), _, _, rfl, rfl, (by show 2 ≤ sizeLine; decide), fun q hq => ?_⟩⟩⟩
      exact k q _ hq ⟨_, _, upd_same, pot_b _ _⟩ (same_new hq)
end
end K23
set_option Elab.async false
set_option linter.all false
set_option maxRecDepth 100000
set_option maxHeartbeats 4000000


namespace K23
open PySem L2 UL ClX
local macro_rules | `(tactic| walk_at "txt") => `(tactic| first
  | ((with_reducible show L2.SqT _ _ _ _); first | exact Txt.t_GROUPS (by assumption) _ | exact Txt.t_ALIGNMENTS (by assumption) _ | exact Txt.t_SIZES (by assumption) _)
  | ((with_reducible show L2.Cls _ _); first | exact UL.CIsi.cl (Txt.i_Kind (by assumption)) | exact UL.CIsi.cl (Txt.i_Book (by assumption)) | exact UL.CIsi.cl (Txt.i_Signature (by assumption)))
  | ((with_reducible show UL.CIsi _ _); first | exact Txt.i_Kind (by assumption) | exact Txt.i_Book (by assumption) | exact Txt.i_Signature (by assumption))
  | ((with_reducible show L2.NoAttr _ _ _); first | exact Txt.n_Kind_name (by assumption) | exact Txt.n_Kind_group (by assumption) | exact Txt.n_Kind_size (by assumption) | exact Txt.n_Kind_width (by assumption) | exact Txt.n_Kind_align (by assumption) | exact Txt.n_Kind_parts (by assumption) | exact Txt.n_Book_kinds (by assumption) | exact Txt.n_Book_names (by assumption) | exact Txt.n_Book_parts (by assumption) | exact Txt.n_Signature_book (by assumption) | exact Txt.n_Signature_letters (by assumption) | exact Txt.n_Signature_key (by assumption))
  | ((with_reducible show L2.TyX _ _ _ _); first | exact UL.CIsi.ty (Txt.i_Kind (by assumption)) (by walk_at "look") | exact UL.CIsi.ty (Txt.i_Book (by assumption)) (by walk_at "look") | exact UL.CIsi.ty (Txt.i_Signature (by assumption)) (by walk_at "look"))
  | ((with_reducible show PySem.W.kitOne _ (.type _) (.ref _) = _); first | exact ((Txt.k_Kind (by assumption)) _ (by simp)).1 | exact ((Txt.k_Book (by assumption)) _ (by simp)).1 | exact ((Txt.k_Signature (by assumption)) _ (by simp)).1)
  | ((with_reducible show _ = PySem.Value.ref _ ∨ _); first | exact .inl rfl | exact .inr ⟨_, rfl, Txt.no_Kind (by assumption)⟩)
  | fail)
section
variable {P : Program} {w : World} {K : PySem.W.Frag} {mg : Str → Option Value} {base : Heap} {ad : Ad}
def spRow : Sp := fun vs H Q _ => ∃ (p : Addr) (n : Str), vs = [.ref p, .str n] ∧ Pot H p ∧ isNm n ∧ ∀ (t : Addr) (k : KD) (H' : Hp), k.n = n → k.ok → H' t = some (.tup (kparts k)) → Pot H' p → Stay p H H' → Q (.ref t) H'
abbrev st_l_row : Stmt := top 43
theorem sc_l_row : FnScope ["_law_pot_here", "_law_label", "_law_bulk", "_law_least", "_law_top", "_law_wide", "_law_step"] ["_law_pot_here", "_law_label"] (defScope st_l_row) := ⟨rfl, rfl, rfl, by decide +kernel, rfl, by decide +kernel, by decide +kernel⟩
theorem ok_l_row {f : Addr} {fd : FuncData} (F : Fun K "_law_row" "_law_row" st_l_row f fd) (T : Txt K mg ad) (c_l_pick : Cal P w K mg base 2 "_law_pick" (spPick1 K)) (c_l_draw : Cal P w K mg base 1 "_law_draw" spDraw) :
    FnOk P w K mg base CX0 3 f fd ["_law_pot_here", "_law_label"] spRow := by
  refine F.ok sc_l_row (fun vs H Q E h => ?_) (fun cdv A outer s H vs Q E hr h => ?_)
  · obtain (⟨p, n, rfl, hp, hn, q⟩) := h
    rfl
  · obtain (⟨p, n, rfl, hp, hn, q⟩) := h
    refine ⟨_, pss_cons (ps_set (i := 2) sc_l_row.nd rfl (.inl rfl) (pe_c c_l_pick hr (by decide) (by rfl) (pa_cons (pv 0) (pa_cons (pe_lst (pa_cons pe_int (pa_cons pe_int (pa_cons pe_int (pa_cons pe_int (pa_cons pe_int (pa_cons pe_int pa_nil))))))) pa_nil))))
      (pss_cons (ps_par (i := 3) (j := 4) rfl sc_l_row.nd rfl rfl (by decide) rfl rfl (pa_cons (pe_ifExp (pt_cmpR op_eq (pv 2) pe_int (nomark _)) pe_int pe_int) (pa_cons (pe_op op_mul pe_int (pv 2)) pa_nil)) (by rfl))
      (pss_cons (ps_set (i := 5) sc_l_row.nd rfl (.inl rfl) (pe_c c_l_pick hr (by decide) (by rfl) (pa_cons (pv 0) (pa_cons (pe_lst (pa_cons (pv 4) (pa_cons (pv 4) (pa_cons (pv 3) (pa_cons (pe_op op_sub (pv 4) pe_int) (pa_cons (pe_op op_add (pv 3) (pe_c c_l_draw hr (by decide) (by rfl) (pa_cons (pv 0) (pa_cons (pe_op op_add (pe_op op_sub (pv 4) (pv 3)) pe_int) pa_nil)))) pa_nil)))))) pa_nil))))
      (pss_cons (ps_set (i := 6) sc_l_row.nd rfl (.inl rfl) (pe_c c_l_pick hr (by decide) (by rfl) (pa_cons (pv 0) (pa_cons (pe_lst (pa_cons (pv 2) (pa_cons (pv 2) (pa_cons pe_int (pa_cons pe_int (pa_cons pe_int (pa_cons pe_int (pa_cons pe_int pa_nil)))))))) pa_nil))))
      (pss_one (ps_ret (pe_tup (pa_cons (pv 1) (pa_cons (pe_c c_l_pick hr (by decide) (by rfl) (pa_cons (pv 0) (pa_cons (pe_lst (pa_cons pe_str (pa_cons pe_str (pa_cons pe_str pa_nil)))) pa_nil))) (pa_cons (pv 2) (pa_cons (pv 5) (pa_cons (pv 6) pa_nil))))))))))), ?_⟩
    walk_at "go"
    rename_i l1 hl1 i1 v1 H1 e1 hp1 st1
    obtain ⟨s, hs, rfl⟩ := at_ints (ns := [1, 2, 4, 8, 8, 16]) e1
    have s5 : s = 1 ∨ s = 2 ∨ s = 4 ∨ s = 8 ∨ s = 16 := by simpa using hs
    refine ⟨rfl, _, rfl, ite_val (.int (if s = 16 then 65 else 2)) (fun c Q hQ => ?_) (fun c Q hQ => ?_) ?_⟩
    · rw [if_pos (by simpa using c)] at hQ
      exact hQ
    · rw [if_neg (by simpa using c)] at hQ
      exact hQ
    have hL : (if s = 16 then (65 : Int) else 2) = 65 ∧ s = 16 ∨ (if s = 16 then (65 : Int) else 2) = 2 ∧ s ≠ 16 := by
      by_cases c : s = 16
      · rw [if_pos c]
        exact .inl ⟨rfl, c⟩
      · rw [if_neg c]
        exact .inr ⟨rfl, c⟩
    generalize hl : (if s = 16 then (65 : Int) else 2) = L at hL ⊢
    walk_at "go"
    rename_i d H2 d0 d1 hp2 st2 l2 hl2 i2 v2 H3 e2 hp3 st3 l3 hl3 i3 v3 H4 e3 hp4 st4 l4 hl4 i4 v4 H5 e4 hp5 st5 t ht
    obtain ⟨w', hw, rfl⟩ := at_ints (ns := [8 * s, 8 * s, L, 8 * s - 1, L + d]) e2
    obtain ⟨a', ha, rfl⟩ := at_ints (ns := [s, s, 1, 2, 4, 8, 16]) e3
    obtain ⟨g, hg, rfl⟩ := at_strs (ns := ["whole", "whole", "float"]) e4
    refine q t ⟨n, g, s, w', a'⟩ _ rfl ⟨hn, ?_, ?_, ?_, ?_, ?_⟩ (by walk_at "look") (by walk_at "pot") (by walk_at "stay")
    · simp only [List.mem_cons, List.mem_nil_iff, or_false] at hg
      rcases hg with rfl | rfl | rfl <;> (dsimp only; decide +kernel)
    · rcases s5 with rfl | rfl | rfl | rfl | rfl <;> (dsimp only; decide +kernel)
    · show (if s = 16 then (65 : Int) else 2) ≤ w'
      rw [hl]
      simp only [List.mem_cons, List.mem_nil_iff, or_false] at hw
      omega
    · show w' ≤ 8 * s
      simp only [List.mem_cons, List.mem_nil_iff, or_false] at hw
      omega
    · show inV (.int a') _ = true
      simp only [List.mem_cons, List.mem_nil_iff, or_false] at ha
      have : a' = 1 ∨ a' = 2 ∨ a' = 4 ∨ a' = 8 ∨ a' = 16 := by omega
      rcases this with rfl | rfl | rfl | rfl | rfl <;> decide +kernel
def spKindL (ad : Ad) : Sp := fun vs H Q _ => ∃ (p t : Addr) (k : KD), vs = [.ref p, .ref t] ∧ Pot H p ∧ H t = some (.tup (kparts k)) ∧ k.ok ∧ ∀ (v : V) (H' : Hp), KindAt ad H' v k → Pot H' p → Stay p H H' → Q v H'
abbrev st_l_kind : Stmt := top 45
theorem sc_l_kind : FnScope ["_law_pot_here", "_law_row_here", "_law_label", "_law_sort", "_law_bulk", "_law_wide", "_law_step", "_law_way"] ["_law_pot_here", "_law_row_here"] (defScope st_l_kind) := ⟨rfl, rfl, rfl, by decide +kernel, rfl, by decide +kernel, by decide +kernel⟩
theorem ok_l_kind {f : Addr} {fd : FuncData} (F : Fun K "_law_kind" "_law_kind" st_l_kind f fd) (T : Txt K mg ad) (c_l_draw : Cal P w K mg base 1 "_law_draw" spDraw) (m_Kind_2_size : MakN P w K mg base 3 "Kind" ad.c_Kind 2 ["size"] gKA (spKindI ad)) (m_Kind_0_name_align_width_size : MakK P w K mg base 3 "Kind" ad.c_Kind ["name", "align", "width", "size"] gKB (spKindI ad)) (m_Kind_2_size_width_align : MakN P w K mg base 3 "Kind" ad.c_Kind 2 ["size", "width", "align"] gKC (spKindI ad)) :
    FnOk P w K mg base CX0 5 f fd ["_law_pot_here", "_law_row_here"] (spKindL ad) := by
  refine F.ok sc_l_kind (fun vs H Q E h => ?_) (fun cdv A outer s H vs Q E hr h => ?_)
  · obtain (⟨p, t, k, rfl, hp, ht, ok, q⟩) := h
    rfl
  · obtain (⟨p, t, k, rfl, hp, ht, ok, q⟩) := h
    refine ⟨_, pss_cons (ps_asg (pv 1) (pg_tup rfl (pgs_cons (pg_name (i := 2) sc_l_kind.nd rfl (Or.inl rfl)) (pgs_cons (pg_name (i := 3) sc_l_kind.nd rfl (Or.inl rfl)) (pgs_cons (pg_name (i := 4) sc_l_kind.nd rfl (Or.inl rfl)) (pgs_cons (pg_name (i := 5) sc_l_kind.nd rfl (Or.inl rfl)) (pgs_cons (pg_name (i := 6) sc_l_kind.nd rfl (Or.inl rfl)) pgs_nil)))))))
      (pss_cons (ps_set (i := 7) sc_l_kind.nd rfl (.inl rfl) (pe_c c_l_draw hr (by decide) (by rfl) (pa_cons (pv 0) (pa_cons pe_int pa_nil))))
      (pss_cons (ps_if (PW.pt (pw_and (pt_cmpR op_eq (pv 7) pe_int (nomark _)) (pw_and (pt_cmpR op_eq (pv 5) (pe_op op_mul pe_int (pv 4)) (nomark _)) (pw_and1 (pt_cmpR op_eq (pv 6) (pv 4) (nomark _)))))) (pss_one (ps_ret (pe_nN m_Kind_2_size hr (by decide) (by rfl) (pa_cons (pv 2) (pa_cons (pv 3) pa_nil)) (pk_cons (pv 4) pk_nil)))) pss_nil)
      (pss_cons (ps_if (PW.pt (pw_and (pt_cmpR op_eq (pv 7) pe_int (nomark _)) (pw_and1 (pt_cmpR op_eq (pv 3) pe_str (nomark _))))) (pss_one (ps_ret (pe_nK m_Kind_0_name_align_width_size hr (by decide) (by rfl) (pk_cons (pv 2) (pk_cons (pv 6) (pk_cons (pv 5) (pk_cons (pv 4) pk_nil))))))) pss_nil)
      (pss_one (ps_ret (pe_nN m_Kind_2_size_width_align hr (by decide) (by rfl) (pa_cons (pv 2) (pa_cons (pv 3) pa_nil)) (pk_cons (pv 4) (pk_cons (pe_ifExp (PW.pt (pw_and (pt_cmpR op_eq (pv 7) pe_int (nomark _)) (pw_and1 (pt_cmpR op_eq (pv 5) (pe_op op_mul pe_int (pv 4)) (nomark _))))) pe_non (pv 5)) (pk_cons (pv 6) pk_nil))))))))), ?_⟩
    walk_at "go"
    rename_i d H1 d0 d1 hp1 st1
    by_cases c0 : d = 0
    · by_cases c1 : k.w = 8 * k.s
      · by_cases c2 : k.a = k.s
        · walk_at "go"
          rename_i x dx nx nd ne
          exact kmade1 nx nd ne ok (.inl ⟨rfl, c1⟩) (.inl ⟨rfl, c2⟩) fun H' s' hk => ⟨rfl, q _ _ hk (by walk_at "pot") (by walk_at "stay")⟩
        · walk_at "go"
          rename_i x dx nx nd ne
          exact kmade1 nx nd ne ok (.inr rfl) (.inr rfl) fun H' s' hk => ⟨rfl, q _ _ hk (by walk_at "pot") (by walk_at "stay")⟩
      · walk_at "go"
        rename_i x dx nx nd ne
        exact kmade1 nx nd ne ok (.inr rfl) (.inr rfl) fun H' s' hk => ⟨rfl, q _ _ hk (by walk_at "pot") (by walk_at "stay")⟩
    · by_cases c3 : d = 1
      · by_cases c4 : k.g = "whole"
        · walk_at "go"
          rename_i x dx nx nd ne
          show spKindI ad [.ref x, .str k.n, .str "whole", .int k.s, .int k.w, .int k.a] _ _ _
          rw [← c4]
          exact kmade1 nx nd ne ok (.inr rfl) (.inr rfl) fun H' s' hk => ⟨rfl, q _ _ hk (by walk_at "pot") (by walk_at "stay")⟩
        · walk_at "go"
          rename_i x dx nx nd ne
          exact kmade1 nx nd ne ok (.inr rfl) (.inr rfl) fun H' s' hk => ⟨rfl, q _ _ hk (by walk_at "pot") (by walk_at "stay")⟩
      · by_cases c5 : d = 2
        · by_cases c1 : k.w = 8 * k.s
          · walk_at "go"
            rename_i x dx nx nd ne
            exact kmade1 nx nd ne ok (.inl ⟨rfl, c1⟩) (.inr rfl) fun H' s' hk => ⟨rfl, q _ _ hk (by walk_at "pot") (by walk_at "stay")⟩
          · walk_at "go"
            rename_i x dx nx nd ne
            exact kmade1 nx nd ne ok (.inr rfl) (.inr rfl) fun H' s' hk => ⟨rfl, q _ _ hk (by walk_at "pot") (by walk_at "stay")⟩
        · walk_at "go"
          rename_i x dx nx nd ne
          exact kmade1 nx nd ne ok (.inr rfl) (.inr rfl) fun H' s' hk => ⟨rfl, q _ _ hk (by walk_at "pot") (by walk_at "stay")⟩
end
end K23
set_option Elab.async false
set_option linter.all false
set_option maxRecDepth 100000
set_option maxHeartbeats 4000000


namespace K23
open PySem L2 UL ClX
local macro_rules | `(tactic| walk_at "txt") => `(tactic| first
  | ((with_reducible show L2.SqT _ _ _ _); first | exact Txt.t_GROUPS (by assumption) _ | exact Txt.t_ALIGNMENTS (by assumption) _ | exact Txt.t_SIZES (by assumption) _)
  | ((with_reducible show L2.Cls _ _); first | exact UL.CIsi.cl (Txt.i_Kind (by assumption)) | exact UL.CIsi.cl (Txt.i_Book (by assumption)) | exact UL.CIsi.cl (Txt.i_Signature (by assumption)))
  | ((with_reducible show UL.CIsi _ _); first | exact Txt.i_Kind (by assumption) | exact Txt.i_Book (by assumption) | exact Txt.i_Signature (by assumption))
  | ((with_reducible show L2.NoAttr _ _ _); first | exact Txt.n_Kind_name (by assumption) | exact Txt.n_Kind_group (by assumption) | exact Txt.n_Kind_size (by assumption) | exact Txt.n_Kind_width (by assumption) | exact Txt.n_Kind_align (by assumption) | exact Txt.n_Kind_parts (by assumption) | exact Txt.n_Book_kinds (by assumption) | exact Txt.n_Book_names (by assumption) | exact Txt.n_Book_parts (by assumption) | exact Txt.n_Signature_book (by assumption) | exact Txt.n_Signature_letters (by assumption) | exact Txt.n_Signature_key (by assumption))
  | ((with_reducible show L2.TyX _ _ _ _); first | exact UL.CIsi.ty (Txt.i_Kind (by assumption)) (by walk_at "look") | exact UL.CIsi.ty (Txt.i_Book (by assumption)) (by walk_at "look") | exact UL.CIsi.ty (Txt.i_Signature (by assumption)) (by walk_at "look"))
  | ((with_reducible show PySem.W.kitOne _ (.type _) (.ref _) = _); first | exact ((Txt.k_Kind (by assumption)) _ (by simp)).1 | exact ((Txt.k_Book (by assumption)) _ (by simp)).1 | exact ((Txt.k_Signature (by assumption)) _ (by simp)).1)
  | ((with_reducible show _ = PySem.Value.ref _ ∨ _); first | exact .inl rfl | exact .inr ⟨_, rfl, Txt.no_Kind (by assumption)⟩)
  | fail)
/-! names -/
def ABC : Str := "abcdefghijklmnopqrstuvwxyz"
theorem abc_len : ABC.cps.toList.length = 26 := by decide +kernel
theorem abc_nd : ABC.cps.toList.Nodup := by decide +kernel
theorem join_from : ∀ (r : List Str) (a : Array Nat), (r.foldl (fun acc p => acc ++ (("" : Str)).cps ++ p.cps) a).toList = a.toList ++ (r.map fun p => p.cps.toList).flatten
  | [], a => by simp
  | p :: r, a => by
    rw [List.foldl_cons, join_from r]
    have e : (("" : Str)).cps = #[] := by decide +kernel
    simp [e]
theorem join_cps (ys : List Str) : (Txt.join ("" : Str) ys).cps.toList = (ys.map fun p => p.cps.toList).flatten := by
  cases ys with
  | nil => decide +kernel
  | cons y r =>
    show (r.foldl (fun acc p => acc ++ (("" : Str)).cps ++ p.cps) y.cps).toList = _
    rw [join_from]
    rfl
theorem flat_ones {A : List Nat} : ∀ {ys : List Str}, (∀ y ∈ ys, ∃ c ∈ A, y = (⟨#[c]⟩ : Str)) → (ys.map fun p => p.cps.toList).flatten.length = ys.length ∧ ∀ c ∈ (ys.map fun p => p.cps.toList).flatten, c ∈ A
  | [], _ => by simp
  | y :: ys, h => by
    obtain ⟨c, hc, rfl⟩ := h y List.mem_cons_self
    obtain ⟨h1, h2⟩ := flat_ones (A := A) (ys := ys) fun z hz => h z (List.mem_cons_of_mem _ hz)
    simp only [List.map_cons, List.flatten_cons, List.length_append, h1, List.length_cons]
    refine ⟨by simp; omega, fun d hd => ?_⟩
    rcases List.mem_append.mp hd with z | z
    · have e : d = c := by simpa using z
      rw [e]
      exact hc
    · exact h2 d z
/-- a joined row of signs is a name -/
theorem nm_join {ys : List Str} (h : ∀ y ∈ ys, ∃ c ∈ ABC.cps.toList, y = (⟨#[c]⟩ : Str)) (h1 : 1 ≤ ys.length) (h2 : ys.length ≤ 8) : isNm (Txt.join ("" : Str) ys) := by
  obtain ⟨a, b⟩ := flat_ones h
  have e : (Txt.join ("" : Str) ys).length = ys.length := by
    show (Txt.join ("" : Str) ys).cps.size = _
    rw [← Array.length_toList, join_cps, a]
  exact ⟨by omega, by omega, fun c hc => by
    rw [join_cps] at hc
    exact b c hc⟩
/-- the t-th spare name -/
def spare (n : Str) (t : Nat) : Str := cutS n none (some 6) ++ (⟨#[ABC.cps.toList.getD (t % 26) 0]⟩ : Str) ++ (⟨#[ABC.cps.toList.getD (t / 26) 0]⟩ : Str)
theorem spare_cps (n : Str) (t : Nat) : (spare n t).cps.toList = n.cps.toList.take 6 ++ [ABC.cps.toList.getD (t % 26) 0, ABC.cps.toList.getD (t / 26) 0] := by
  have e : (cutS n none (some 6)).cps.toList = n.cps.toList.take 6 := by
    unfold cutS
    rw [HT.sIx_none, show (some (6 : Int)) = some ((6 : Nat) : Int) from rfl, HT.sIx_nat]
    simp only [List.drop_zero, Nat.sub_zero]
    have hl : n.length = n.cps.toList.length := (Array.length_toList (xs := n.cps)).symm
    rw [hl, ← List.take_eq_take_min]
  show ((cutS n none (some 6)).cps ++ #[_] ++ #[_]).toList = _
  simp only [Array.toList_append, e]
  simp
theorem abc_at {i : Nat} (h : i < 26) : ABC.cps.toList.getD i 0 ∈ ABC.cps.toList := by
  have h' : i < ABC.cps.toList.length := by rw [abc_len]; exact h
  rw [List.getD_eq_getElem?_getD, List.getElem?_eq_getElem h']
  exact List.getElem_mem h'
theorem abc_inj {i j : Nat} (hi : i < 26) (hj : j < 26) (e : ABC.cps.toList.getD i 0 = ABC.cps.toList.getD j 0) : i = j := by
  have hi' : i < ABC.cps.toList.length := by rw [abc_len]; exact hi
  have hj' : j < ABC.cps.toList.length := by rw [abc_len]; exact hj
  rw [List.getD_eq_getElem?_getD, List.getD_eq_getElem?_getD, List.getElem?_eq_getElem hi', List.getElem?_eq_getElem hj'] at e
  exact (List.getElem_inj abc_nd).mp e
theorem nm_spare {n : Str} (h : isNm n) {t : Nat} (ht : t < 100) : isNm (spare n t) := by
  have e := spare_cps n t
  have l : (spare n t).length = (n.cps.toList.take 6).length + 2 := by
    show (spare n t).cps.size = _
    rw [← Array.length_toList, e, List.length_append]
    rfl
  have m := List.length_take_le 6 n.cps.toList
  refine ⟨by omega, by omega, fun c hc => ?_⟩
  rw [e] at hc
  rcases List.mem_append.mp hc with z | z
  · exact h.2.2 c (List.mem_of_mem_take z)
  · simp only [List.mem_cons, List.mem_nil_iff, or_false] at z
    rcases z with rfl | rfl
    · exact abc_at (by omega)
    · exact abc_at (by omega)
theorem spare_inj {n : Str} {t u : Nat} (ht : t < 100) (hu : u < 100) (e : spare n t = spare n u) : t = u := by
  have h : (spare n t).cps.toList = (spare n u).cps.toList := by rw [e]
  rw [spare_cps, spare_cps] at h
  have h2 := List.append_cancel_left h
  simp only [List.cons.injEq, and_true] at h2
  have a := abc_inj (by omega) (by omega) h2.1
  have b := abc_inj (by omega) (by omega) h2.2
  omega
def spares (n : Str) : List Str := (List.range 100).map (spare n)
theorem spares_nd (n : Str) : (spares n).Nodup := by
  unfold spares
  rw [List.nodup_iff_pairwise_ne, List.pairwise_map]
  refine List.Pairwise.imp_of_mem ?_ (List.nodup_iff_pairwise_ne.mp List.nodup_range)
  intro a b ha hb ne e
  exact ne (spare_inj (List.mem_range.mp ha) (List.mem_range.mp hb) e)
/-- one of them is not taken -/
theorem spare_left (n : Str) (fs : List Str) (h : fs.length < 100) : (spares n).filter (fun x => !decide (x ∈ fs)) ≠ [] := by
  intro z
  have sub : spares n ⊆ fs := fun x hx => by
    by_cases c : x ∈ fs
    · exact c
    · exfalso
      have hm : x ∈ (spares n).filter (fun x => !decide (x ∈ fs)) := List.mem_filter.mpr ⟨hx, by simp [c]⟩
      rw [z] at hm
      cases hm
  have := List.Nodup.length_le_of_subset (spares_nd n) sub
  simp [spares] at this
  omega
section
variable {P : Program} {w : World} {K : PySem.W.Frag} {mg : Str → Option Value} {base : Heap} {ad : Ad}
/-- _law_named(pot, much, taken): so many names, none twice, none taken -/
def spNamed : Sp := fun vs H Q _ => ∃ (p lt : Addr) (m : Nat) (ts : List Str), vs = [.ref p, .int (m : Int), .ref lt] ∧ Pot H p ∧ lt ≠ p ∧ H lt = some (.lst (ts.map V.str)) ∧ m ≤ 20 ∧ ts.length ≤ 50 ∧
  ∀ (l : Addr) (ns : List Str) (H' : Hp), H l = none → H' l = some (.lst (ns.map V.str)) → ns.length = m → (∀ n ∈ ns, isNm n) → ns.Nodup → (∀ n ∈ ns, n ∉ ts) → Pot H' p → Stay p H H' → Q (.ref l) H'
abbrev st_l_named : Stmt := top 42
theorem sc_l_named : FnScope ["_law_pot_here", "_law_much", "_law_taken", "_law_alphabet", "_law_found", "_law_k", "_law_label", "_law_turn", "_law_spare", "_law_near_here"] ["_law_pot_here", "_law_much", "_law_taken"] (defScope st_l_named) := ⟨rfl, rfl, rfl, by decide +kernel, rfl, by decide +kernel, by decide +kernel⟩
theorem ok_l_named {f : Addr} {fd : FuncData} (F : Fun K "_law_named" "_law_named" st_l_named f fd) (T : Txt K mg ad) (c_l_pick : Cal P w K mg base 2 "_law_pick" (spPick1 K)) (c_l_draw : Cal P w K mg base 1 "_law_draw" spDraw) :
    FnOk P w K mg base CX0 3 f fd ["_law_pot_here", "_law_much", "_law_taken"] spNamed := by
  refine F.ok sc_l_named (fun vs H Q E h => ?_) (fun cdv A outer s H vs Q E hr h => ?_)
  · obtain (⟨p, lt, m, ts, rfl, hp, nlt, hlt, hm, hts, q⟩) := h
    rfl
  · obtain (⟨p, lt, m, ts, rfl, hp, nlt, hlt, hm, hts, q⟩) := h
    refine ⟨_, pss_cons (ps_asg (pe_tup (pa_cons pe_str (pa_cons (pe_lst pa_nil) pa_nil))) (pg_tup rfl (pgs_cons (pg_name (i := 3) sc_l_named.nd rfl (Or.inr rfl)) (pgs_cons (pg_name (i := 4) sc_l_named.nd rfl (Or.inr rfl)) pgs_nil))))
      (pss_cons (ps_for PassesOwn.never rfl (pi_range1 (by rfl) T.bi.range (pa_cons (pv 1) pa_nil)) (pg_name (i := 5) sc_l_named.nd rfl (Or.inl rfl))
        (pss_cons (ps_set (i := 6) sc_l_named.nd rfl (.inr rfl) (pe_join pe_str (pe_lc (own := [("_law_turn", 7)]) (g := gName 7) (tt := tYes) rfl sc_l_named.nd (pi_range1 (by rfl) T.bi.range (pa_cons (pe_c c_l_pick hr (by decide) (by rfl) (pa_cons (pv 0) (pa_cons (pe_lst (pa_cons pe_int (pa_cons pe_int (pa_cons pe_int (pa_cons pe_int (pa_cons pe_int pa_nil)))))) pa_nil))) pa_nil)) (blkOk_by (N := ["_law_pot_here", "_law_much", "_law_taken", "_law_alphabet", "_law_found", "_law_k", "_law_label", "_law_turn", "_law_spare", "_law_near_here"]) (sc := defScope st_l_named) (by decide +kernel)) (fun _ _ _ _ _ => pg_name (i := 7) sc_l_named.nd rfl (Or.inl rfl)) (fun _ _ _ _ _ => pts_nil) (fun _ _ _ _ _ => UL.pe_conv (pe_ix ix_str (pv 3) (pe_c c_l_draw hr (by decide) (by rfl) (pa_cons (pv 0) (pa_cons pe_int pa_nil))) (fun _ _ => rfl)) (by walk_at "unk")))))
          (pss_cons (ps_if (PW.pt (pw_or (pt_cmpR op_in_seq (pv 6) (pv 4) (by rfl)) (pw_or1 (pt_cmpR op_in_seq (pv 6) (pv 2) (by rfl))))) (pss_cons (ps_setLc (i := 8) (own := [("_law_turn", 7)]) (g := gName 7) (tt := tYes) rfl sc_l_named.nd rfl rfl (sw_true rfl rfl rfl (by decide +kernel)) (pi_range1 (by rfl) T.bi.range (pa_cons pe_int pa_nil)) (blkOk_by (N := ["_law_pot_here", "_law_much", "_law_taken", "_law_alphabet", "_law_found", "_law_k", "_law_label", "_law_turn", "_law_spare", "_law_near_here"]) (sc := defScope st_l_named) (by decide +kernel)) (fun _ _ _ _ _ => pg_name (i := 7) sc_l_named.nd rfl (Or.inl rfl)) (fun _ _ _ _ _ => pts_nil) (fun _ _ _ _ _ => UL.pe_conv (pe_op op_add_str (pe_op op_add_str (pe_slice sl_str (pv 6) po_none (po_some pe_int)) (pe_ix ix_str (pv 3) (pe_op op_mod (pv 7) pe_int) (fun _ _ => rfl))) (pe_ix ix_str (pv 3) (pe_op op_fdiv (pv 7) pe_int) (fun _ _ => rfl))) (by walk_at "unk")))
              (pss_one (ps_set (i := 6) sc_l_named.nd rfl (.inr rfl) (pe_ix ix_list (pe_lc (own := [("_law_near_here", 9)]) (g := gName 9) (tt := _) rfl sc_l_named.nd (pi_list (pv 8)) (blkOk_by (N := ["_law_pot_here", "_law_much", "_law_taken", "_law_alphabet", "_law_found", "_law_k", "_law_label", "_law_turn", "_law_spare", "_law_near_here"]) (sc := defScope st_l_named) (by decide +kernel)) (fun _ _ _ _ _ => pg_name (i := 9) sc_l_named.nd rfl (Or.inl rfl)) (fun _ _ _ _ _ => UL.pts_conv (pts_one (PW.pt (pw_and (pt_cmpR op_notIn_seq (pv 9) (pv 4) (by rfl)) (pw_and1 (pt_cmpR op_notIn_seq (pv 9) (pv 2) (by rfl)))))) (by walk_at "unk")) (fun _ _ _ _ _ => UL.pe_conv (pv 9) (by walk_at "unk"))) pe_int (fun _ _ => rfl))))) pss_nil)
          (pss_one (ps_expr (pe_bm PySem.F.plainAttrs_list PySem.F.slot_list_append PySem.F.type_list_append mt_append (pv 4) (pa_cons (pv 6) pa_nil)))))))
      (pss_one (ps_ret (pv 4)))), ?_⟩
    walk_at "go"
    rename_i D hD0 tp htp
    have nD : D ≠ p := by walk_at "ne"
    have nlD : lt ≠ D := ne_of_none hlt hD0
    have lenA : ABC.length = 26 := by decide +kernel
    refine for_it walk_range (fun i σ H' => Hold (∃ (ns : List Str) (a b c d e : Option V), σ = [some (.ref p), some (.int m), some (.ref lt), some (.str ABC), some (.ref D), a, b, c, d, e] ∧ ns.length = i ∧ (∀ n ∈ ns, isNm n) ∧ ns.Nodup ∧ (∀ n ∈ ns, n ∉ ts) ∧ H' D = some (.lst (ns.map V.str)) ∧ Stay p H H' ∧ Pot H' p))
      (Hold.mk ⟨[], _, _, _, _, _, rfl, rfl, fun n h => by simp at h, List.nodup_nil, fun n h => by simp at h, by walk_at "look", by walk_at "stay", by walk_at "pot"⟩) (fun _ _ _ _ _ => trivial) (fun i x σ H1 H' hi hh hy => ?_) (fun σ H1 hh => ?_)
    · obtain ⟨ns, a, b, c, d, e, es, h1, h2, h3, h4, h5, h6, h7⟩ := hh.out
      clear hh
      subst es
      obtain ⟨rfl, rfl⟩ := hy
      walk_at "go"
      rename_i pl hpl i1 v1 H2 e1 hp2 st2
      obtain ⟨j, hj, rfl⟩ := at_ints (ns := [1, 1, 2, 3, 8]) e1
      have j8 : 1 ≤ j ∧ j ≤ 8 := by
        simp only [List.mem_cons, List.mem_nil_iff, or_false] at hj
        omega
      have D2 : H2 D = some (.lst (ns.map V.str)) := by walk_at "look"
      have t2 : Stay p H H2 := by walk_at "stay"
      refine ⟨j, rfl, by omega, by omega, fun L hL => lc_keep walk_range hL hp2 (fun _ v _ => ∃ c ∈ ABC.cps.toList, v = .str ⟨#[c]⟩) (fun _ _ _ _ r _ => r) (by omega) (fun _ _ _ => trivial) (fun i2 x H3 H' hi2 s3 p3 hy Z hZ => ?_) (fun H3 ys ly ry s3 p3 hL3 => ?_)⟩
      · obtain ⟨rfl, rfl⟩ := hy
        walk_at "go"
        rename_i d H4 d0 d1 hp4 st4
        obtain ⟨t, rfl⟩ : ∃ t : Nat, d = (t : Int) := ⟨d.toNat, by omega⟩
        have ht : t < ABC.cps.toList.length := by rw [abc_len]; omega
        refine ⟨ABC, _, ABC.cps.toList[t], rfl, rfl, by decide +kernel, atI_nat (List.getElem?_eq_getElem ht), hZ _ _ ⟨_, List.getElem_mem ht, rfl⟩ st4 hp4⟩
      obtain ⟨zs, hzs, hz1⟩ := strs_of (R := fun y => ∃ c ∈ ABC.cps.toList, y = (⟨#[c]⟩ : Str)) fun i y h => by
        obtain ⟨c, hc, e⟩ := ry i y h
        exact ⟨_, ⟨c, hc, rfl⟩, e⟩
      subst hzs
      have D3 : H3 D = some (.lst (ns.map V.str)) := by walk_at "look"
      have nD3 : D ≠ L := by walk_at "ne"
      have t3 : Stay p H H3 := by walk_at "stay"
      have T3 : H3 lt = some (.lst (ts.map V.str)) := t3 _ _ nlt hlt
      have lz : (zs.length : Int) = j := by
        rw [List.length_map] at ly
        omega
      have nm := nm_join hz1 (by omega) (by omega)
      have sm : (zs.map (·.length)).sum + zs.length * (("" : Str)).length ≤ 16777216 := by
        have e : (("" : Str)).length = 0 := by decide +kernel
        have := sum_le (fun t : Str => t.length) 1 zs fun t ht => by
          obtain ⟨c, _, rfl⟩ := hz1 t ht
          exact Nat.le_refl _
        rw [e]
        omega
      generalize hlab : Txt.join ("" : Str) zs = lab at nm
      have l8 := nm.2.1
      walk_at "go"
      rw [hlab]
      refine ite_or (decide (lab ∈ ns ++ ts)) (fun c1 Q1 hQ => ?_) (fun c1 => ?_) ?_
      · have e1 : inV (.str lab) (ts.map V.str) = decide (lab ∈ ns ++ ts) := by
          rw [in_strs] at c1 ⊢
          have := of_decide_eq_false c1
          simp [this]
        walk_at "go"
        rw [e1]
        exact hQ
      · rw [in_strs] at c1
        have := of_decide_eq_true c1
        simp [this]
      have fin : ∀ (lab' : Str), isNm lab' → lab' ∉ ns ++ ts → (ns ++ [lab']).length = i + 1 ∧ (∀ n ∈ ns ++ [lab'], isNm n) ∧ (ns ++ [lab']).Nodup ∧ (∀ n ∈ ns ++ [lab'], n ∉ ts) := fun lab' hn hm => by
        rw [List.mem_append, not_or] at hm
        refine ⟨by simp [h1], fun n hn' => ?_, ?_, fun n hn' => ?_⟩
        · rcases List.mem_append.mp hn' with z | z
          · exact h2 n z
          · rw [List.mem_singleton.mp z]
            exact hn
        · rw [List.nodup_append]
          refine ⟨h3, by simp, fun a ha b hb e => ?_⟩
          rw [List.mem_singleton.mp hb] at e
          rw [e] at ha
          exact hm.1 ha
        · rcases List.mem_append.mp hn' with z | z
          · exact h4 n z
          · rw [List.mem_singleton.mp z]
            exact hm.2
      have lns : ns.length ≤ 20 := by
        have : i < m := hi
        omega
      by_cases c2 : lab ∈ ns ++ ts
      · rw [decide_eq_true c2]
        walk_at "go"
        rename_i S hS
        refine lc_same walk_range hS (fun t => .str (spare lab t)) (by decide) (fun _ _ => trivial) (fun t x H4 H' ht s4 hy R hR => ?_) (fun H4 s4 hS4 => ?_)
        · obtain ⟨rfl, hx⟩ := hy
          have hx' : x = .int (t : Int) := by
            rw [hx]
            show V.int (0 + (t : Int)) = _
            rw [Int.zero_add]
          subst hx'
          have l6 : (cutS lab none (some 6)).length ≤ 6 := by
            show (Array.size _) ≤ 6
            unfold cutS
            rw [HT.sIx_none, show (some (6 : Int)) = some ((6 : Nat) : Int) from rfl, HT.sIx_nat]
            simp
            omega
          have at1 : atI ABC.cps.toList ((t : Int) % 26) = some (ABC.cps.toList.getD (t % 26) 0) := by
            have : t % 26 < ABC.cps.toList.length := by rw [abc_len]; omega
            rw [show ((t : Int) % 26) = ((t % 26 : Nat) : Int) by omega]
            exact atI_nat (by rw [List.getD_eq_getElem?_getD, List.getElem?_eq_getElem this]; rfl)
          have at2 : atI ABC.cps.toList ((t : Int) / 26) = some (ABC.cps.toList.getD (t / 26) 0) := by
            have : t / 26 < ABC.cps.toList.length := by
              have : t < 100 := ht
              rw [abc_len]
              omega
            rw [show ((t : Int) / 26) = ((t / 26 : Nat) : Int) by omega]
            exact atI_nat (by rw [List.getD_eq_getElem?_getD, List.getElem?_eq_getElem this]; rfl)
          have la : ABC.length ≤ sizeLine := by decide +kernel
          have s1 : (cutS lab none (some 6)).length + (⟨#[ABC.cps.toList.getD (t % 26) 0]⟩ : Str).length ≤ sizeLine := line_ge (by show _ + 1 ≤ _; omega)
          have s2 : (cutS lab none (some 6) ++ (⟨#[ABC.cps.toList.getD (t % 26) 0]⟩ : Str)).length + (⟨#[ABC.cps.toList.getD (t / 26) 0]⟩ : Str).length ≤ sizeLine := line_ge (by
            rw [Str.length_append]
            show _ + 1 + 1 ≤ _
            omega)
          walk_at "go"
          refine ⟨ABC, _, _, rfl, rfl, la, by first | exact at1 | (rw [Int.zero_add]; exact at1), ?_⟩
          walk_at "go"
          refine ⟨ABC, _, _, rfl, rfl, la, by first | exact at2 | (rw [Int.zero_add]; exact at2), ?_⟩
          walk_at "go"
          exact hR _ (L2.Same.refl _)
        have e100 : (List.range (Int.toNat 100)).map (fun t => V.str (spare lab t)) = (spares lab).map V.str := by
          unfold spares
          rw [List.map_map]
          rfl
        rw [e100] at hS4
        have sl : ((spares lab).map V.str).length = 100 := by simp [spares]
        have D4 := s4 _ _ D3
        have T4 := s4 _ _ T3
        walk_at "go"
        refine ⟨⟨_, SqL.of hS4⟩, fun F hF => lc_filt (walk_list (xs := (spares lab).map V.str)) hF (fun u => !decide ((spares lab).getD u "" ∈ ns ++ ts)) (fun u => .str ((spares lab).getD u "")) (by omega) (fun H5 s5 => SqL.of (s5 _ _ hS4)) (fun u x H5 H' hu s5 hy R Z hR hZ => ?_) (fun H5 s5 hF5 => ?_)⟩
        · obtain ⟨rfl, hy⟩ := hy
          have hx : x = .str ((spares lab).getD u "") := by
            rw [List.getElem?_map] at hy
            obtain ⟨z, h1, h2⟩ := Option.map_eq_some_iff.mp hy
            rw [← h2, List.getD_eq_getElem?_getD, h1]
            rfl
          subst hx
          generalize (spares lab).getD u "" = z at hR hZ ⊢
          have D5 := s5 _ _ D4
          have T5 := s5 _ _ T4
          by_cases z1 : z ∈ ns
          · have i1 : inV (.str z) (ns.map V.str) = true := by
              rw [in_strs]
              exact decide_eq_true z1
            have b1 : (!decide (z ∈ ns ++ ts)) = false := by simp [z1]
            walk_at "go"
            exact hZ b1 _ (L2.Same.refl _)
          · have i1 : inV (.str z) (ns.map V.str) = false := by
              rw [in_strs]
              exact decide_eq_false z1
            by_cases z2 : z ∈ ts
            · have i2 : inV (.str z) (ts.map V.str) = true := by
                rw [in_strs]
                exact decide_eq_true z2
              have b1 : (!decide (z ∈ ns ++ ts)) = false := by simp [z2]
              walk_at "go"
              exact hZ b1 _ (L2.Same.refl _)
            · have i2 : inV (.str z) (ts.map V.str) = false := by
                rw [in_strs]
                exact decide_eq_false z2
              have b1 : (!decide (z ∈ ns ++ ts)) = true := by simp [z1, z2]
              walk_at "go"
              exact hR b1 _ (L2.Same.refl _)
        rw [range_filt (fun x => !decide (x ∈ ns ++ ts)) V.str (by simp)] at hF5
        obtain ⟨w0, ws, ew⟩ := List.exists_cons_of_ne_nil (spare_left lab (ns ++ ts) (by rw [List.length_append]; omega))
        rw [ew] at hF5
        have hw : w0 ∈ (spares lab).filter (fun x => !decide (x ∈ ns ++ ts)) := by
          rw [ew]
          exact List.mem_cons_self
        obtain ⟨hw1, hw2⟩ := List.mem_filter.mp hw
        have nmw : isNm w0 := by
          obtain ⟨t, ht, rfl⟩ := List.mem_map.mp hw1
          exact nm_spare nm (List.mem_range.mp ht)
        obtain ⟨g1, g2, g3, g4⟩ := fin w0 nmw (by simpa using hw2)
        have D6 : H5 D = some (.lst (ns.map V.str)) := by walk_at "look"
        refine ⟨F, _, 0, .str w0, rfl, rfl, SqL.of hF5, atI_nat (j := 0) rfl, ?_⟩
        walk_at "go"
        exact Hold.mk ⟨ns ++ [w0], _, _, _, _, _, rfl, g1, g2, g3, g4, by rw [List.map_append]; exact upd_same, Stay.over (by walk_at "stay") hD0, Pot.over (by walk_at "pot") nD⟩
      · rw [decide_eq_false c2]
        obtain ⟨g1, g2, g3, g4⟩ := fin lab nm c2
        walk_at "go"
        exact Hold.mk ⟨ns ++ [lab], _, _, _, _, _, rfl, g1, g2, g3, g4, by rw [List.map_append]; exact upd_same, Stay.over t3 hD0, Pot.over p3 nD⟩
    obtain ⟨ns, a, b, c, d, e, es, h1, h2, h3, h4, h5, h6, h7⟩ := hh.out
    subst es
    exact ⟨_, rfl, q D ns H1 hD0 h5 h1 h2 h3 h4 h7 h6⟩
end
end K23
set_option Elab.async false
set_option linter.all false
set_option maxRecDepth 100000
set_option maxHeartbeats 4000000


namespace K23
open PySem L2 UL ClX
local macro_rules | `(tactic| walk_at "txt") => `(tactic| first
  | ((with_reducible show L2.SqT _ _ _ _); first | exact Txt.t_GROUPS (by assumption) _ | exact Txt.t_ALIGNMENTS (by assumption) _ | exact Txt.t_SIZES (by assumption) _)
  | ((with_reducible show L2.Cls _ _); first | exact UL.CIsi.cl (Txt.i_Kind (by assumption)) | exact UL.CIsi.cl (Txt.i_Book (by assumption)) | exact UL.CIsi.cl (Txt.i_Signature (by assumption)))
  | ((with_reducible show UL.CIsi _ _); first | exact Txt.i_Kind (by assumption) | exact Txt.i_Book (by assumption) | exact Txt.i_Signature (by assumption))
  | ((with_reducible show L2.NoAttr _ _ _); first | exact Txt.n_Kind_name (by assumption) | exact Txt.n_Kind_group (by assumption) | exact Txt.n_Kind_size (by assumption) | exact Txt.n_Kind_width (by assumption) | exact Txt.n_Kind_align (by assumption) | exact Txt.n_Kind_parts (by assumption) | exact Txt.n_Book_kinds (by assumption) | exact Txt.n_Book_names (by assumption) | exact Txt.n_Book_parts (by assumption) | exact Txt.n_Signature_book (by assumption) | exact Txt.n_Signature_letters (by assumption) | exact Txt.n_Signature_key (by assumption))
  | ((with_reducible show L2.TyX _ _ _ _); first | exact UL.CIsi.ty (Txt.i_Kind (by assumption)) (by walk_at "look") | exact UL.CIsi.ty (Txt.i_Book (by assumption)) (by walk_at "look") | exact UL.CIsi.ty (Txt.i_Signature (by assumption)) (by walk_at "look"))
  | ((with_reducible show PySem.W.kitOne _ (.type _) (.ref _) = _); first | exact ((Txt.k_Kind (by assumption)) _ (by simp)).1 | exact ((Txt.k_Book (by assumption)) _ (by simp)).1 | exact ((Txt.k_Signature (by assumption)) _ (by simp)).1)
  | ((with_reducible show _ = PySem.Value.ref _ ∨ _); first | exact .inl rfl | exact .inr ⟨_, rfl, Txt.no_Kind (by assumption)⟩)
  | fail)
section
variable {P : Program} {w : World} {K : PySem.W.Frag} {mg : Str → Option Value} {base : Heap} {ad : Ad}
theorem PartsAt.keep {H H' : Hp} {vs : List V} {ks : List KD} (h : PartsAt H vs ks) (s : Keep H H') : PartsAt H' vs ks := h.imp fun v k ⟨p, e, q⟩ => ⟨p, e, s.tup q⟩
def spRows : Sp := fun vs H Q _ => ∃ (p : Addr) (m : Nat), vs = [.ref p, .int (m : Int)] ∧ Pot H p ∧ m ≤ 20 ∧
  ∀ (l : Addr) (ks : List KD) (vs' : List V) (H' : Hp), H l = none → H' l = some (.lst vs') → PartsAt H' vs' ks → (∀ k ∈ ks, k.ok) → (ks.map KD.n).Nodup → ks.length = m → Pot H' p → Stay p H H' → Q (.ref l) H'
abbrev st_l_rows : Stmt := top 44
theorem sc_l_rows : FnScope ["_law_pot_here", "_law_much", "_law_label"] ["_law_pot_here", "_law_much"] (defScope st_l_rows) := ⟨rfl, rfl, rfl, by decide +kernel, rfl, by decide +kernel, by decide +kernel⟩
theorem ok_l_rows {f : Addr} {fd : FuncData} (F : Fun K "_law_rows" "_law_rows" st_l_rows f fd) (T : Txt K mg ad) (c_l_named : Cal P w K mg base 3 "_law_named" spNamed) (c_l_row : Cal P w K mg base 3 "_law_row" spRow) :
    FnOk P w K mg base CX0 4 f fd ["_law_pot_here", "_law_much"] spRows := by
  refine F.ok sc_l_rows (fun vs H Q E h => ?_) (fun cdv A outer s H vs Q E hr h => ?_)
  · obtain (⟨p, m, rfl, hp, hm, q⟩) := h
    rfl
  · obtain (⟨p, m, rfl, hp, hm, q⟩) := h
    refine ⟨_, pss_one (ps_ret (pe_lc (own := [("_law_label", 2)]) (g := gName 2) (tt := tYes) rfl sc_l_rows.nd (pi_list (pe_c c_l_named hr (by decide) (by rfl) (pa_cons (pv 0) (pa_cons (pv 1) (pa_cons (pe_lst pa_nil) pa_nil))))) (blkOk_by (N := ["_law_pot_here", "_law_much", "_law_label"]) (sc := defScope st_l_rows) (by decide +kernel)) (fun _ _ _ _ _ => pg_name (i := 2) sc_l_rows.nd rfl (Or.inl rfl)) (fun _ _ _ _ _ => pts_nil) (fun _ _ _ _ _ => UL.pe_conv (pe_c c_l_row hr (by decide) (by rfl) (pa_cons (pv 0) (pa_cons (pv 2) pa_nil))) (by walk_at "unk")))), ?_⟩
    walk_at "go"
    rename_i e he
    refine ⟨p, e, m, [], rfl, by walk_at "pot", by walk_at "ne", upd_same, hm, by simp, fun l0 ns H1 hl0 hl1 e1 e2 e3 e4 hp1 st1 => ?_⟩
    have nl : l0 ≠ p := by walk_at "ne"
    refine ⟨l0, rfl, ⟨_, SqL.of hl1⟩, fun D hD => lc_keep (walk_list (xs := ns.map V.str)) hD hp1 (fun i v H => ∃ t k, v = .ref t ∧ H t = some (.tup (kparts k)) ∧ k.ok ∧ ns[i]? = some k.n) (fun i v H H' ⟨t, k, e, h, r⟩ s => ⟨t, k, e, s.tup h, r⟩) (by simp; omega) (fun H2 s2 p2 => SqL.of (s2 _ _ nl hl1)) (fun i x H2 H' hi s2 p2 hy Z hZ => ?_) (fun H2 ys ly ry s2 p2 hD2 => ?_)⟩
    · obtain ⟨rfl, hy⟩ := hy
      obtain ⟨n, hn, rfl⟩ := at_strs' hy
      have nm := e2 n (List.mem_of_getElem? hn)
      walk_at "go"
      rename_i t k H3 e5 ok5 ht5 hp5 st5
      exact hZ _ _ ⟨t, k, rfl, ht5, ok5, by rw [hn, e5]⟩ st5 hp5
    obtain ⟨ks, lk, hk⟩ := each_choose (R := fun i v k => ∃ t, v = .ref t ∧ H2 t = some (.tup (kparts k)) ∧ k.ok ∧ ns[i]? = some k.n) fun i y h => by
      obtain ⟨t, k, r⟩ := ry i y h
      exact ⟨k, t, r⟩
    have ln : ks.length = ns.length := by rw [lk, ly, List.length_map]
    have at_ : ∀ (i : Nat) k, ks[i]? = some k → ∃ y, ys[i]? = some y ∧ ∃ t, y = .ref t ∧ H2 t = some (.tup (kparts k)) ∧ k.ok ∧ ns[i]? = some k.n := fun i k h => by
      have hi := (List.getElem?_eq_some_iff.mp h).1
      have hi' : i < ys.length := by omega
      exact ⟨ys[i], List.getElem?_eq_getElem hi', hk i _ k (List.getElem?_eq_getElem hi') h⟩
    have en : ks.map KD.n = ns := by
      refine List.ext_getElem (by rw [List.length_map, ln]) fun i h1 h2 => ?_
      rw [List.getElem_map]
      have h1' : i < ks.length := by simpa using h1
      obtain ⟨y, _, t, _, _, _, hn⟩ := at_ i _ (List.getElem?_eq_getElem h1')
      rw [List.getElem?_eq_getElem h2] at hn
      exact (Option.some.inj hn).symm
    refine q D ks ys H2 (up_none (Stay.none st1 hp1 hD)) hD2 ⟨lk.symm, fun i v k h1 h2 => ?_⟩ (fun k hk' => ?_) (by rw [en]; exact e3) (by omega) p2 (by walk_at "stay")
    · obtain ⟨t, e, h, _⟩ := hk i v k h1 h2
      exact ⟨t, e, h⟩
    · obtain ⟨i, hi⟩ := List.getElem?_of_mem hk'
      obtain ⟨y, _, t, _, _, ok, _⟩ := at_ i k hi
      exact ok
theorem Each.tl {α : Type} {R : V → α → Prop} {v : V} {vs : List V} {d : α} {ds : List α} (e : Each R (v :: vs) (d :: ds)) : Each R vs ds := ⟨by have := e.1; simpa using this, fun i x y a b => e.2 (i + 1) x y (by simpa using a) (by simpa using b)⟩
theorem take_snoc {α : Type} {l : List α} {i : Nat} {x : α} (h : l[i]? = some x) : l.take i ++ [x] = l.take (i + 1) := by
  obtain ⟨h1, h2⟩ := List.getElem?_eq_some_iff.mp h
  rw [List.take_succ_eq_append_getElem h1, h2]
theorem bok.take {ks : List KD} (h : bok ks) {n : Nat} (hn : 1 ≤ n) : bok (ks.take n) :=
  ⟨fun k hk => h.ok k (List.mem_of_mem_take hk), by rw [List.map_take]; exact List.Nodup.sublist (List.take_sublist _ _) h.nd, by have := h.lo; rw [List.length_take]; omega, by have := h.hi; rw [List.length_take]; omega⟩
def spBookL (ad : Ad) : Sp := fun vs H Q _ => ∃ (p l : Addr) (rvs : List V) (ks : List KD), vs = [.ref p, .ref l] ∧ Pot H p ∧ l ≠ p ∧ H l = some (.lst rvs) ∧ PartsAt H rvs ks ∧ bok ks ∧ ∀ (v : V) (H' : Hp), BookAt ad H' v ks → Pot H' p → Stay p H H' → Q v H'
abbrev st_l_book : Stmt := top 46
theorem sc_l_book : FnScope ["_law_pot_here", "_law_rows_here", "_law_some", "_law_row_here", "_law_made", "_law_one"] ["_law_pot_here", "_law_rows_here"] (defScope st_l_book) := ⟨rfl, rfl, rfl, by decide +kernel, rfl, by decide +kernel, by decide +kernel⟩
theorem ok_l_book {f : Addr} {fd : FuncData} (F : Fun K "_law_book" "_law_book" st_l_book f fd) (T : Txt K mg ad) (c_l_kind : Cal P w K mg base 5 "_law_kind" (spKindL ad)) (c_l_draw : Cal P w K mg base 1 "_law_draw" spDraw) (m_Book : MakR P w K mg base 3 "Book" ad.c_Book (spBookR ad)) (c_Book_add : CalS P w K mg base 5 ad.c_Book "__add__" (spBAdd ad)) :
    FnOk P w K mg base CX0 6 f fd ["_law_pot_here", "_law_rows_here"] (spBookL ad) := by
  refine F.ok sc_l_book (fun vs H Q E h => ?_) (fun cdv A outer s H vs Q E hr h => ?_)
  · obtain (⟨p, l, rvs, ks, rfl, hp, nl, hl, hP, ok, q⟩) := h
    rfl
  · obtain (⟨p, l, rvs, ks, rfl, hp, nl, hl, hP, ok, q⟩) := h
    refine ⟨_, pss_cons (ps_setLc (i := 2) (own := [("_law_row_here", 3)]) (g := gName 3) (tt := tYes) rfl sc_l_book.nd rfl rfl (sw_true rfl rfl rfl (by decide +kernel)) (pi_list (pv 1)) (blkOk_by (N := ["_law_pot_here", "_law_rows_here", "_law_some", "_law_row_here", "_law_made", "_law_one"]) (sc := defScope st_l_book) (by decide +kernel)) (fun _ _ _ _ _ => pg_name (i := 3) sc_l_book.nd rfl (Or.inl rfl)) (fun _ _ _ _ _ => pts_nil) (fun _ _ _ _ _ => UL.pe_conv (pe_c c_l_kind hr (by decide) (by rfl) (pa_cons (pv 0) (pa_cons (pv 3) pa_nil))) (by walk_at "unk")))
      (pss_cons (ps_if (PW.pt (pw_and (pt_cmpR op_eq (pe_callB call_len_seq (by rfl) T.bi.len (by decide +kernel) (pa_cons (pv 2) pa_nil)) pe_int (nomark _)) (pw_and1 (pt_cmpR op_eq (pe_c c_l_draw hr (by decide) (by rfl) (pa_cons (pv 0) (pa_cons pe_int pa_nil))) pe_int (nomark _))))) (pss_one (ps_ret (pe_nR m_Book hr (by decide) (by rfl) (pa_cons (pe_ix ix_list (pv 2) pe_int (fun _ _ => rfl)) (pa_cons (pe_ix ix_list (pv 2) pe_int (fun _ _ => rfl)) pa_nil))))) pss_nil)
      (pss_cons (ps_if (PW.pt (pw_and (pt_cmpR op_eq (pe_callB call_len_seq (by rfl) T.bi.len (by decide +kernel) (pa_cons (pv 2) pa_nil)) pe_int (nomark _)) (pw_and1 (pt_cmpR op_eq (pe_c c_l_draw hr (by decide) (by rfl) (pa_cons (pv 0) (pa_cons pe_int pa_nil))) pe_int (nomark _))))) (pss_one (ps_ret (pe_nR m_Book hr (by decide) (by rfl) (pa_cons (pe_ix ix_list (pv 2) pe_int (fun _ _ => rfl)) (pa_cons (pe_ix ix_list (pv 2) pe_int (fun _ _ => rfl)) (pa_cons (pe_ix ix_list (pv 2) pe_int (fun _ _ => rfl)) pa_nil)))))) pss_nil)
      (pss_cons (ps_set (i := 4) sc_l_book.nd rfl (.inl rfl) (pe_nR m_Book hr (by decide) (by rfl) (pa_cons (pe_ix ix_list (pv 2) pe_int (fun _ _ => rfl)) pa_nil)))
      (pss_cons (ps_for PassesOwn.never rfl (pi_list (pe_slice sl_list (pv 2) (po_some pe_int) po_none)) (pg_name (i := 5) sc_l_book.nd rfl (Or.inl rfl))
        (pss_one (ps_set (i := 4) sc_l_book.nd rfl (.inl rfl) (pe_op (op_addS c_Book_add T.sf_Book hr (by decide)) (pv 4) (pv 5)))))
      (pss_one (ps_ret (pv 4))))))), ?_⟩
    have lr : rvs.length ≤ 5 := by rw [hP.1]; exact ok.hi
    refine ⟨_, rfl, l, rfl, ⟨rvs, SqL.of hl⟩, fun D hD => lc_keep (walk_list (xs := rvs)) hD hp (fun i v H => ∃ k, ks[i]? = some k ∧ KindAt ad H v k) (fun i v H H' ⟨k, e, h⟩ s => ⟨k, e, h.keep s⟩) (by omega) (fun H2 s2 p2 => SqL.of (s2 _ _ nl hl)) (fun i x H2 H' hi s2 p2 hy Z hZ => ?_) (fun H2 ys ly ry s2 p2 hD2 => ?_)⟩
    · obtain ⟨rfl, hy⟩ := hy
      obtain ⟨k, hk, t, rfl, ht⟩ := hP.at hy
      have okk := ok.ok k (List.mem_of_getElem? hk)
      have ht2 : H' t = some (.tup (kparts k)) := (UL.Stay.keep s2 hp).tup ht
      walk_at "go"
      rename_i v1 H3 hk3 hp3 st3
      exact hZ _ _ ⟨k, hk, hk3⟩ st3 hp3
    have hE : Each (KindAt ad H2) ys ks := ⟨by rw [ly, hP.1], fun i v k h1 h2 => by
      obtain ⟨k', e, h⟩ := ry i v h1
      rw [h2] at e
      cases e
      exact h⟩
    have lo := ok.lo
    rw [← hP.1, ← ly] at lo
    refine gname_go ?_
    dsimp only
    refine seq_ifN (fun H' => Stay p H2 H' ∧ Pot H' p) (fun H3 ⟨s3, p3⟩ => ?_) (fun Nx rest => ?_)
    refine seq_ifN (fun H' => Stay p H3 H' ∧ Pot H' p) (fun H4 ⟨s4, p4⟩ => ?_) (fun Nx rest => ?_)
    · obtain ⟨y0, yr, rfl⟩ : ∃ y0 yr, ys = y0 :: yr := by
        match ys, lo with
        | y0 :: yr, _ => exact ⟨y0, yr, rfl⟩
      obtain ⟨k0, kr, rfl⟩ : ∃ k0 kr, ks = k0 :: kr := by
        match ks, hE.1 with
        | k0 :: kr, _ => exact ⟨k0, kr, rfl⟩
      have hD4 : H4 D = some (.lst (y0 :: yr)) := by walk_at "look"
      have hE4 : Each (KindAt ad H4) (y0 :: yr) (k0 :: kr) := hE.imp fun v k h => (h.keep (UL.Stay.keep s3 p2)).keep (UL.Stay.keep s4 p3)
      walk_at "go"
      rename_i x dx nx nd ne
      have ok0 : bok [k0] := by have := ok.take (n := 1) (Nat.le_refl 1); simpa using this
      have len := hE4.1
      refine bmade1 nx nd ne (Each.one (hE4.2 0 _ _ rfl rfl)) ok0 fun H5 s5 hb => ⟨rfl, ?_⟩
      have hD5 := s5 _ _ hD4
      have p5 : Pot H5 p := p4.same s5
      have st5 : Stay p H H5 := by walk_at "stay"
      have lk5 := ok.hi
      have et : cutV (y0 :: yr) (some 1) none = yr := by
        have := cut_from (y0 :: yr) 1
        simpa using this
      walk_at "go"
      rename_i tl htl
      rw [et]
      have ntl : tl ≠ p := by walk_at "ne"
      refine ⟨⟨yr, SqL.of upd_same⟩, fr_stay (walk_list (xs := yr)) (by walk_at "pot") (fun i σ H => ∃ v a, σ = [some (.ref p), some (.ref l), some (.ref D), none, some v, a] ∧ BookAt ad H v ((k0 :: kr).take (i + 1))) ⟨_, _, rfl, by
        have := hb.same (same_new (o := .lst yr) htl)
        simpa using this⟩ (fun H6 s6 _ => SqL.of (s6 _ _ ntl upd_same)) (fun i x σ H6 H' hi s6 p6 ⟨v, a, e, hv⟩ hy Z hZ => ?_) (fun σ H6 ⟨v, a, e, hv⟩ s6 p6 => ?_)⟩
      · subst e
        obtain ⟨rfl, hy⟩ := hy
        obtain ⟨k, hk, hK⟩ := (Each.tl hE4).at hy
        have hK6 : KindAt ad H' x k := (hK.same s5).keep (UL.Stay.keep (Stay.trans (UL.Same.stay (same_new htl) p) s6) p5)
        obtain ⟨ba, bd, b3, b4, b5, b6, b7, rfl, b8, _⟩ := id hv
        obtain ⟨ka, kd, kp, rfl, k1, _⟩ := id hK6
        have eT : (k0 :: kr).take (i + 1) ++ [k] = (k0 :: kr).take (i + 1 + 1) := by rw [List.take_succ_cons, List.take_succ_cons, List.cons_append, take_snoc hk]
        walk_at "go"
        refine ⟨by rw [eT]; exact ok.take (by omega), fun v' H7 s7 hb7 => ?_⟩
        rw [eT] at hb7
        exact hZ _ _ ⟨_, _, rfl, hb7⟩ (UL.Same.stay s7 p) (p6.same s7)
      subst e
      walk_at "go"
      have lyr : (k0 :: kr).length ≤ yr.length + 1 := by rw [← len]; simp
      rw [List.take_of_length_le lyr] at hv
      exact q _ _ hv p6 (Stay.trans st5 (Stay.trans (UL.Same.stay (same_new htl) p) s6))
    · by_cases c3 : ys.length = 3
      · obtain ⟨a, b, c, rfl⟩ : ∃ a b c, ys = [a, b, c] := by
          match ys, c3 with
          | [a, b, c], _ => exact ⟨a, b, c, rfl⟩
        walk_at "go"
        rename_i d H4 d0 d1 hp4 st4
        by_cases cd : d = 0
        · walk_at "go"
          rename_i x dx nx nd ne
          exact bmade1 nx nd ne (hE.imp fun v k h => (h.keep (UL.Stay.keep s3 p2)).keep (UL.Stay.keep st4 p3)) ok fun H' s' hb => ⟨rfl, q _ _ hb (by walk_at "pot") (by walk_at "stay")⟩
        · walk_at "go"
          exact rest _ ⟨st4, hp4⟩
      · walk_at "go"
        exact rest _ ⟨Stay.refl _ _, p3⟩
    · by_cases c2 : ys.length = 2
      · obtain ⟨a, b, rfl⟩ : ∃ a b, ys = [a, b] := by
          match ys, c2 with
          | [a, b], _ => exact ⟨a, b, rfl⟩
        walk_at "go"
        rename_i d H3 d0 d1 hp3 st3
        by_cases cd : d = 0
        · walk_at "go"
          rename_i x dx nx nd ne
          exact bmade1 nx nd ne (hE.imp fun v k h => h.keep (UL.Stay.keep st3 p2)) ok fun H' s' hb => ⟨rfl, q _ _ hb (by walk_at "pot") (by walk_at "stay")⟩
        · walk_at "go"
          exact rest _ ⟨st3, hp3⟩
      · walk_at "go"
        exact rest _ ⟨Stay.refl _ _, p2⟩
end
end K23
set_option Elab.async false
set_option linter.all false
set_option maxRecDepth 100000
set_option maxHeartbeats 4000000


namespace K23
open PySem L2 UL ClX
local macro_rules | `(tactic| walk_at "txt") => `(tactic| first
  | ((with_reducible show L2.SqT _ _ _ _); first | exact Txt.t_GROUPS (by assumption) _ | exact Txt.t_ALIGNMENTS (by assumption) _ | exact Txt.t_SIZES (by assumption) _)
  | ((with_reducible show L2.Cls _ _); first | exact UL.CIsi.cl (Txt.i_Kind (by assumption)) | exact UL.CIsi.cl (Txt.i_Book (by assumption)) | exact UL.CIsi.cl (Txt.i_Signature (by assumption)))
  | ((with_reducible show UL.CIsi _ _); first | exact Txt.i_Kind (by assumption) | exact Txt.i_Book (by assumption) | exact Txt.i_Signature (by assumption))
  | ((with_reducible show L2.NoAttr _ _ _); first | exact Txt.n_Kind_name (by assumption) | exact Txt.n_Kind_group (by assumption) | exact Txt.n_Kind_size (by assumption) | exact Txt.n_Kind_width (by assumption) | exact Txt.n_Kind_align (by assumption) | exact Txt.n_Kind_parts (by assumption) | exact Txt.n_Book_kinds (by assumption) | exact Txt.n_Book_names (by assumption) | exact Txt.n_Book_parts (by assumption) | exact Txt.n_Signature_book (by assumption) | exact Txt.n_Signature_letters (by assumption) | exact Txt.n_Signature_key (by assumption))
  | ((with_reducible show L2.TyX _ _ _ _); first | exact UL.CIsi.ty (Txt.i_Kind (by assumption)) (by walk_at "look") | exact UL.CIsi.ty (Txt.i_Book (by assumption)) (by walk_at "look") | exact UL.CIsi.ty (Txt.i_Signature (by assumption)) (by walk_at "look"))
  | ((with_reducible show PySem.W.kitOne _ (.type _) (.ref _) = _); first | exact ((Txt.k_Kind (by assumption)) _ (by simp)).1 | exact ((Txt.k_Book (by assumption)) _ (by simp)).1 | exact ((Txt.k_Signature (by assumption)) _ (by simp)).1)
  | ((with_reducible show _ = PySem.Value.ref _ ∨ _); first | exact .inl rfl | exact .inr ⟨_, rfl, Txt.no_Kind (by assumption)⟩)
  | fail)
theorem lok.sub {ks : List KD} {ls ms : List Str} (h : lok ks ls) (s : ms.Sublist ls) : lok ks ms := ⟨fun l hl => h.al l (s.subset hl), Nat.le_trans (s.count_le MK) h.m1, Nat.le_trans s.length_le h.hi⟩
theorem lok.rev {ks : List KD} {ls : List Str} (h : lok ks ls) : lok ks ls.reverse := ⟨fun l hl => h.al l (List.mem_reverse.mp hl), by rw [List.count_reverse]; exact h.m1, by rw [List.length_reverse]; exact h.hi⟩
section
variable {P : Program} {w : World} {K : PySem.W.Frag} {mg : Str → Option Value} {base : Heap} {ad : Ad}
def spSpell (ad : Ad) : Sp := fun vs H Q _ => ∃ (p l : Addr) (v : V) (ks : List KD) (ls : List Str), vs = [.ref p, v, .ref l] ∧ Pot H p ∧ l ≠ p ∧ BookAt ad H v ks ∧ H l = some (.lst (ls.map V.str)) ∧ lok ks ls ∧ ls.length ≤ 40 ∧
  ∀ (v' : V) (H' : Hp), SigAt ad H' v' ks ls → Pot H' p → Stay p H H' → Q v' H'
abbrev st_l_spelled : Stmt := top 47
theorem sc_l_spelled : FnScope ["_law_pot_here", "_law_made", "_law_row_here", "_law_way", "_law_found", "_law_letter"] ["_law_pot_here", "_law_made", "_law_row_here"] (defScope st_l_spelled) := ⟨rfl, rfl, rfl, by decide +kernel, rfl, by decide +kernel, by decide +kernel⟩
theorem ok_l_spelled {f : Addr} {fd : FuncData} (F : Fun K "_law_spelled" "_law_spelled" st_l_spelled f fd) (T : Txt K mg ad) (c_l_draw : Cal P w K mg base 1 "_law_draw" spDraw) (m_Signature : MakR P w K mg base 3 "Signature" ad.c_Signature (spSigR ad)) (m_Signature_book : MakW P w K mg base 3 "Signature" ad.c_Signature ["book"] (spW 1 (spSigI ad))) (c_Signature_add : CalS P w K mg base 5 ad.c_Signature "__add__" (spSAddT ad)) (c_Signature_radd : CalS P w K mg base 5 ad.c_Signature "__radd__" (spSRadd ad)) :
    FnOk P w K mg base CX0 6 f fd ["_law_pot_here", "_law_made", "_law_row_here"] (spSpell ad) := by
  refine F.ok sc_l_spelled (fun vs H Q E h => ?_) (fun cdv A outer s H vs Q E hr h => ?_)
  · obtain (⟨p, l, v, ks, ls, rfl, hp, nl, hB, hl, ok, hi, q⟩) := h
    rfl
  · obtain (⟨p, l, v, ks, ls, rfl, hp, nl, hB, hl, ok, hi, q⟩) := h
    refine ⟨_, pss_cons (ps_set (i := 3) sc_l_spelled.nd rfl (.inl rfl) (pe_c c_l_draw hr (by decide) (by rfl) (pa_cons (pv 0) (pa_cons pe_int pa_nil))))
      (pss_cons (ps_if (PW.pt (pw_and (pt_cmpR op_eq (pv 3) pe_int (nomark _)) (pw_and1 (pt_cmpR op_eq (pe_callB call_len_seq (by rfl) T.bi.len (by decide +kernel) (pa_cons (pv 2) pa_nil)) pe_int (nomark _))))) (pss_one (ps_ret (pe_nR m_Signature hr (by decide) (by rfl) (pa_cons (pv 1) (pa_cons (pe_ix ix_list (pv 2) pe_int (fun _ _ => rfl)) pa_nil))))) pss_nil)
      (pss_cons (ps_if (PW.pt (pw_and (pt_cmpR op_eq (pv 3) pe_int (nomark _)) (pw_and1 (pt_cmpR op_eq (pe_callB call_len_seq (by rfl) T.bi.len (by decide +kernel) (pa_cons (pv 2) pa_nil)) pe_int (nomark _))))) (pss_one (ps_ret (pe_nR m_Signature hr (by decide) (by rfl) (pa_cons (pv 1) (pa_cons (pe_ix ix_list (pv 2) pe_int (fun _ _ => rfl)) (pa_cons (pe_ix ix_list (pv 2) pe_int (fun _ _ => rfl)) pa_nil)))))) pss_nil)
      (pss_cons (ps_if (PW.pt (pw_and (pt_cmpR op_eq (pv 3) pe_int (nomark _)) (pw_and1 (pt_cmpR op_eq (pe_callB call_len_seq (by rfl) T.bi.len (by decide +kernel) (pa_cons (pv 2) pa_nil)) pe_int (nomark _))))) (pss_one (ps_ret (pe_nR m_Signature hr (by decide) (by rfl) (pa_cons (pv 1) (pa_cons (pe_ix ix_list (pv 2) pe_int (fun _ _ => rfl)) (pa_cons (pe_ix ix_list (pv 2) pe_int (fun _ _ => rfl)) (pa_cons (pe_ix ix_list (pv 2) pe_int (fun _ _ => rfl)) pa_nil))))))) pss_nil)
      (pss_cons (ps_set (i := 4) sc_l_spelled.nd rfl (.inl rfl) (pe_nW m_Signature_book hr (by decide) (by rfl) (pk_cons (pv 1) pk_nil)))
      (pss_cons (ps_for PassesOwn.never rfl (pi_list (pe_ifExp (pt_cmpR op_lt (pv 3) pe_int (nomark _)) (pv 2) (pe_revL (pv 2)))) (pg_name (i := 5) sc_l_spelled.nd rfl (Or.inl rfl))
        (pss_one (ps_set (i := 4) sc_l_spelled.nd rfl (.inl rfl) (pe_ifExp (pt_cmpR op_lt (pv 3) pe_int (nomark _)) (pe_op (op_addST c_Signature_add T.os_Signature hr (by decide)) (pv 4) (pv 5)) (pe_op (op_raddS c_Signature_radd T.or_Signature hr (by decide)) (pv 5) (pv 4))))))
      (pss_one (ps_ret (pv 4)))))))), ?_⟩
    refine ⟨_, rfl, p, 3, rfl, hp, by omega, by omega, fun d H1 d0 d1 hp1 st1 => gname_go ?_⟩
    dsimp only
    have hl1 : H1 l = some (.lst (ls.map V.str)) := by walk_at "look"
    have hB1 : BookAt ad H1 v ks := hB.keep (UL.Stay.keep st1 hp)
    clear hl hB
    refine seq_ifN (fun H' => H1 = H') (fun _ e => ?_) (fun Nx rest => ?_)
    · subst e
      refine seq_ifN (fun H' => H1 = H') (fun _ e => ?_) (fun Nx rest => ?_)
      · subst e
        refine seq_ifN (fun H' => H1 = H') (fun _ e => ?_) (fun Nx rest => ?_)
        · subst e
          walk_at "go"
          rename_i x dx nx nd ne
          refine smadeW nx nd ne hB1 fun H2 s2 hS => ⟨rfl, ?_⟩
          have hl2 := s2 _ _ hl1
          have hp2 := hp1.same s2
          have st2 : Stay p H H2 := by walk_at "stay"
          by_cases cd : d < 2
          · walk_at "go"
            refine ⟨⟨_, SqL.of hl2⟩, fr_stay (walk_list (xs := ls.map V.str)) hp2 (fun i σ H => ∃ u a, σ = [some (.ref p), some v, some (.ref l), some (.int d), some u, a] ∧ SigAt ad H u ks (ls.take i)) ⟨_, _, rfl, by simpa using hS⟩ (fun H6 s6 _ => SqL.of (s6 _ _ nl hl2)) (fun i y σ H6 H' hi6 s6 p6 ⟨u, a, e, hu⟩ hy Z hZ => ?_) (fun σ H6 ⟨u, a, e, hu⟩ s6 p6 => ?_)⟩
            · subst e
              obtain ⟨rfl, hy⟩ := hy
              obtain ⟨c, hc, rfl⟩ := at_strs' hy
              obtain ⟨ga, gd, g3, g4, g5, g6, g7, g8, rfl, g1, _⟩ := id hu
              have eT : ls.take i ++ [c] = ls.take (i + 1) := take_snoc hc
              walk_at "go"
              refine ⟨fun u h => by obtain ⟨t, rfl⟩ := h; rfl, _, c, ks, _, rfl, hu, by rw [eT]; exact ok.sub (List.take_sublist _ _), fun v' H7 s7 hb7 => ?_⟩
              rw [eT] at hb7
              exact hZ _ _ ⟨_, _, rfl, hb7⟩ (UL.Same.stay s7 p) (p6.same s7)
            subst e
            rw [List.length_map, List.take_length] at hu
            walk_at "go"
            exact q _ _ hu p6 (Stay.trans st2 s6)
          · walk_at "go"
            rename_i tl htl
            rw [← List.map_reverse]
            have ntl : tl ≠ p := by walk_at "ne"
            refine ⟨⟨_, SqL.of upd_same⟩, fr_stay (walk_list (xs := ls.reverse.map V.str)) (by walk_at "pot") (fun i σ H => ∃ u a, σ = [some (.ref p), some v, some (.ref l), some (.int d), some u, a] ∧ SigAt ad H u ks (ls.reverse.take i).reverse) ⟨_, _, rfl, by
              have := hS.same (same_new (o := .lst (ls.reverse.map V.str)) htl)
              simpa using this⟩ (fun H6 s6 _ => SqL.of (s6 _ _ ntl upd_same)) (fun i y σ H6 H' hi6 s6 p6 ⟨u, a, e, hu⟩ hy Z hZ => ?_) (fun σ H6 ⟨u, a, e, hu⟩ s6 p6 => ?_)⟩
            · subst e
              obtain ⟨rfl, hy⟩ := hy
              obtain ⟨c, hc, rfl⟩ := at_strs' hy
              obtain ⟨ga, gd, g3, g4, g5, g6, g7, g8, rfl, g1, _⟩ := id hu
              have eT : c :: (ls.reverse.take i).reverse = (ls.reverse.take (i + 1)).reverse := by rw [← take_snoc hc, List.reverse_append]; rfl
              walk_at "go"
              refine ⟨fun u h => by obtain ⟨t, rfl⟩ := h; rfl, _, c, ks, _, rfl, hu, by rw [eT]; exact (ok.rev.sub (List.take_sublist _ _)).rev, fun v' H7 s7 hb7 => ?_⟩
              rw [eT] at hb7
              exact hZ _ _ ⟨_, _, rfl, hb7⟩ (UL.Same.stay s7 p) (p6.same s7)
            subst e
            rw [List.length_map, List.take_length, List.reverse_reverse] at hu
            walk_at "go"
            exact q _ _ hu p6 (Stay.trans st2 (Stay.trans (UL.Same.stay (same_new htl) p) s6))
        · by_cases c0 : d = 0
          · by_cases c1 : ls.length = 3
            · obtain ⟨a, b, c, rfl⟩ : ∃ a b c, ls = [a, b, c] := by
                match ls, c1 with
                | [a, b, c], _ => exact ⟨a, b, c, rfl⟩
              walk_at "go"
              rename_i x dx nx nd ne
              exact smade1 nx nd ne hB1 ok fun H' s' hs => ⟨rfl, q _ _ hs (by walk_at "pot") (by walk_at "stay")⟩
            · walk_at "go"
              exact rest _ rfl
          · walk_at "go"
            exact rest _ rfl
      · by_cases c0 : d = 0
        · by_cases c1 : ls.length = 2
          · obtain ⟨a, b, rfl⟩ : ∃ a b, ls = [a, b] := by
              match ls, c1 with
              | [a, b], _ => exact ⟨a, b, rfl⟩
            walk_at "go"
            rename_i x dx nx nd ne
            exact smade1 nx nd ne hB1 ok fun H' s' hs => ⟨rfl, q _ _ hs (by walk_at "pot") (by walk_at "stay")⟩
          · walk_at "go"
            exact rest _ rfl
        · walk_at "go"
          exact rest _ rfl
    · by_cases c0 : d = 0
      · by_cases c1 : ls.length = 1
        · obtain ⟨a, rfl⟩ : ∃ a, ls = [a] := by
            match ls, c1 with
            | [a], _ => exact ⟨a, rfl⟩
          walk_at "go"
          rename_i x dx nx nd ne
          exact smade1 nx nd ne hB1 ok fun H' s' hs => ⟨rfl, q _ _ hs (by walk_at "pot") (by walk_at "stay")⟩
        · walk_at "go"
          exact rest _ rfl
      · walk_at "go"
        exact rest _ rfl
end
end K23
set_option Elab.async false
set_option linter.all false
set_option maxRecDepth 100000
set_option maxHeartbeats 4000000


namespace K23
open PySem L2 UL ClX
local macro_rules | `(tactic| walk_at "txt") => `(tactic| first
  | ((with_reducible show L2.SqT _ _ _ _); first | exact Txt.t_GROUPS (by assumption) _ | exact Txt.t_ALIGNMENTS (by assumption) _ | exact Txt.t_SIZES (by assumption) _)
  | ((with_reducible show L2.Cls _ _); first | exact UL.CIsi.cl (Txt.i_Kind (by assumption)) | exact UL.CIsi.cl (Txt.i_Book (by assumption)) | exact UL.CIsi.cl (Txt.i_Signature (by assumption)))
  | ((with_reducible show UL.CIsi _ _); first | exact Txt.i_Kind (by assumption) | exact Txt.i_Book (by assumption) | exact Txt.i_Signature (by assumption))
  | ((with_reducible show L2.NoAttr _ _ _); first | exact Txt.n_Kind_name (by assumption) | exact Txt.n_Kind_group (by assumption) | exact Txt.n_Kind_size (by assumption) | exact Txt.n_Kind_width (by assumption) | exact Txt.n_Kind_align (by assumption) | exact Txt.n_Kind_parts (by assumption) | exact Txt.n_Book_kinds (by assumption) | exact Txt.n_Book_names (by assumption) | exact Txt.n_Book_parts (by assumption) | exact Txt.n_Signature_book (by assumption) | exact Txt.n_Signature_letters (by assumption) | exact Txt.n_Signature_key (by assumption))
  | ((with_reducible show L2.TyX _ _ _ _); first | exact UL.CIsi.ty (Txt.i_Kind (by assumption)) (by walk_at "look") | exact UL.CIsi.ty (Txt.i_Book (by assumption)) (by walk_at "look") | exact UL.CIsi.ty (Txt.i_Signature (by assumption)) (by walk_at "look"))
  | ((with_reducible show PySem.W.kitOne _ (.type _) (.ref _) = _); first | exact ((Txt.k_Kind (by assumption)) _ (by simp)).1 | exact ((Txt.k_Book (by assumption)) _ (by simp)).1 | exact ((Txt.k_Signature (by assumption)) _ (by simp)).1)
  | ((with_reducible show _ = PySem.Value.ref _ ∨ _); first | exact .inl rfl | exact .inr ⟨_, rfl, Txt.no_Kind (by assumption)⟩)
  | fail)
theorem nm_ne_mk {n : Str} (h : isNm n) : n ≠ MK := by
  intro e
  subst e
  have := h.2.2 46 (by decide +kernel)
  revert this
  decide +kernel
theorem bok.nomk {ks : List KD} (h : bok ks) : MK ∉ ks.map KD.n := fun hm => by
  obtain ⟨k, hk, e⟩ := List.mem_map.mp hm
  exact nm_ne_mk (h.ok k hk).nm e
theorem al_mem {ks : List KD} {x : Str} (h : x ∈ ks.map KD.n) : x ∈ alph ks := List.mem_append_left _ h
theorem al_mk (ks : List KD) : MK ∈ alph ks := List.mem_append_right _ (List.mem_singleton.mpr rfl)
theorem lok.put {ks : List KD} {a b : List Str} {x : Str} (h : lok ks (a ++ b)) (hx : x ∈ alph ks) (hm : x ≠ MK ∨ MK ∉ a ++ b) (hl : (a ++ b).length < 1000) : lok ks (a ++ [x] ++ b) := by
  refine ⟨fun l hl => ?_, ?_, ?_⟩
  · simp only [List.mem_append, List.mem_singleton] at hl
    rcases hl with (hl | rfl) | hl
    · exact h.al l (List.mem_append_left _ hl)
    · exact hx
    · exact h.al l (List.mem_append_right _ hl)
  · have e : (a ++ [x] ++ b).count MK = (a ++ b).count MK + [x].count MK := by
      simp only [List.count_append]
      omega
    rw [e]
    rcases hm with hm | hm
    · have : [x].count MK = 0 := List.count_eq_zero.mpr fun z => hm (List.mem_singleton.mp z).symm
      have := h.m1
      omega
    · have h0 : (a ++ b).count MK = 0 := List.count_eq_zero.mpr hm
      have h1 : [x].count MK ≤ 1 := List.count_le_length
      omega
  · simp only [List.length_append, List.length_singleton] at hl ⊢
    omega
theorem lok.names {ks : List KD} {ls : List Str} (ok : bok ks) (h : ∀ z ∈ ls, z ∈ ks.map KD.n) (hl : ls.length ≤ 1000) : lok ks ls ∧ MK ∉ ls := by
  have nm : MK ∉ ls := fun hm => ok.nomk (h _ hm)
  exact ⟨⟨fun l hl => al_mem (h l hl), by rw [List.count_eq_zero.mpr nm]; omega, hl⟩, nm⟩
theorem away_sub (ls : List Str) (i : Nat) : (ls.take i ++ ls.drop (i + 1)).Sublist ls := by
  have h : (ls.drop (i + 1)).Sublist (ls.drop i) := by
    have e : ls.drop (i + 1) = (ls.drop i).drop 1 := by rw [List.drop_drop]
    rw [e]
    exact List.drop_sublist _ _
  have h2 := (List.Sublist.refl (ls.take i)).append h
  rw [List.take_append_drop] at h2
  exact h2
section
variable {P : Program} {w : World} {K : PySem.W.Frag} {mg : Str → Option Value} {base : Heap} {ad : Ad}
def spLetters : Sp := fun vs H Q _ => ∃ (p l : Addr) (ks : List KD) (m : Nat), vs = [.ref p, .ref l, .int (m : Int)] ∧ Pot H p ∧ l ≠ p ∧ H l = some (.lst ((ks.map KD.n).map V.str)) ∧ bok ks ∧ m ≤ 20 ∧
  ∀ (D : Addr) (ls : List Str) (H' : Hp), H D = none → H' D = some (.lst (ls.map V.str)) → lok ks ls → ls.length ≤ m → Pot H' p → Stay p H H' → Q (.ref D) H'
abbrev st_l_letters : Stmt := top 48
theorem sc_l_letters : FnScope ["_law_pot_here", "_law_labels", "_law_top", "_law_found", "_law_turn", "_law_at"] ["_law_pot_here", "_law_labels", "_law_top"] (defScope st_l_letters) := ⟨rfl, rfl, rfl, by decide +kernel, rfl, by decide +kernel, by decide +kernel⟩
theorem ok_l_letters {f : Addr} {fd : FuncData} (F : Fun K "_law_letters" "_law_letters" st_l_letters f fd) (T : Txt K mg ad) (c_l_draw : Cal P w K mg base 1 "_law_draw" spDraw) (c_l_pick : Cal P w K mg base 2 "_law_pick" (spPick1 K)) :
    FnOk P w K mg base CX0 3 f fd ["_law_pot_here", "_law_labels", "_law_top"] spLetters := by
  refine F.ok sc_l_letters (fun vs H Q E h => ?_) (fun cdv A outer s H vs Q E hr h => ?_)
  · obtain (⟨p, l, ks, m, rfl, hp, nl, hl, ok, hm, q⟩) := h
    rfl
  · obtain (⟨p, l, ks, m, rfl, hp, nl, hl, ok, hm, q⟩) := h
    refine ⟨_, pss_cons (ps_setLc (i := 3) (own := [("_law_turn", 4)]) (g := gName 4) (tt := tYes) rfl sc_l_letters.nd rfl rfl (sw_true rfl rfl rfl (by decide +kernel)) (pi_range1 (by rfl) T.bi.range (pa_cons (pe_c c_l_draw hr (by decide) (by rfl) (pa_cons (pv 0) (pa_cons (pe_op op_add (pv 2) pe_int) pa_nil))) pa_nil)) (blkOk_by (N := ["_law_pot_here", "_law_labels", "_law_top", "_law_found", "_law_turn", "_law_at"]) (sc := defScope st_l_letters) (by decide +kernel)) (fun _ _ _ _ _ => pg_name (i := 4) sc_l_letters.nd rfl (Or.inl rfl)) (fun _ _ _ _ _ => pts_nil) (fun _ _ _ _ _ => UL.pe_conv (pe_c c_l_pick hr (by decide) (by rfl) (pa_cons (pv 0) (pa_cons (pv 1) pa_nil))) (by walk_at "unk")))
      (pss_cons (ps_if (PW.pt (pw_and (pt_cmpR op_lt (pe_callB call_len_seq (by rfl) T.bi.len (by decide +kernel) (pa_cons (pv 3) pa_nil)) (pv 2) (nomark _)) (pw_and1 (pt_cmpR op_eq (pe_c c_l_draw hr (by decide) (by rfl) (pa_cons (pv 0) (pa_cons pe_int pa_nil))) pe_int (nomark _))))) (pss_cons (ps_set (i := 5) sc_l_letters.nd rfl (.inl rfl) (pe_c c_l_draw hr (by decide) (by rfl) (pa_cons (pv 0) (pa_cons (pe_op op_add (pe_callB call_len_seq (by rfl) T.bi.len (by decide +kernel) (pa_cons (pv 3) pa_nil)) pe_int) pa_nil))))
          (pss_one (ps_set (i := 3) sc_l_letters.nd rfl (.inl rfl) (pe_op op_cat (pe_op op_cat (pe_slice sl_list (pv 3) po_none (po_some (pv 5))) (pe_lst (pa_cons pe_str pa_nil))) (pe_slice sl_list (pv 3) (po_some (pv 5)) po_none))))) pss_nil)
      (pss_one (ps_ret (pv 3)))), ?_⟩
    have lo := ok.lo
    have hi := ok.hi
    have lk : ((ks.map KD.n).map V.str).length = ks.length := by simp
    walk_at "go"
    rename_i d H1 d0 d1 hp1 st1 D hD
    refine lc_keep walk_range hD hp1 (fun _ v _ => ∃ z, z ∈ ks.map KD.n ∧ v = .str z) (fun _ _ _ _ r _ => r) (by omega) (fun _ _ _ => trivial) (fun i x H2 H' hi2 s2 p2 hy Z hZ => ?_) (fun H2 ys ly ry s2 p2 hD2 => ?_)
    · obtain ⟨rfl, rfl⟩ := hy
      have hl2 : H' l = some (.lst ((ks.map KD.n).map V.str)) := by walk_at "look"
      walk_at "go"
      rename_i i3 v3 H3 e3 p3 s3
      obtain ⟨z, hz, rfl⟩ := at_strs e3
      exact hZ _ _ ⟨z, hz, rfl⟩ s3 p3
    obtain ⟨zs, hzs, hz1⟩ := strs_of ry
    subst hzs
    have lz : zs.length = d.toNat := by rw [← ly, List.length_map]
    obtain ⟨okz, nmz⟩ := lok.names ok hz1 (by omega)
    have hD0 : H D = none := Stay.none st1 hp1 hD
    have st2 : Stay p H H2 := by walk_at "stay"
    by_cases c1 : zs.length < m
    · walk_at "go"
      rename_i d2 H3 e0 e1 p3 s3
      have hD3 : H3 D = some (.lst (zs.map V.str)) := by walk_at "look"
      by_cases c2 : d2 = 0
      · iterate 5 walk_at "st"
        refine ⟨p, _, rfl, p3, by rw [List.length_map]; omega, by rw [List.length_map]; omega, fun d3 H4 f0 f1 p4 s4 => gname_go ?_⟩
        rw [List.length_map] at f1
        obtain ⟨j, rfl⟩ : ∃ j : Nat, d3 = (j : Int) := ⟨d3.toNat, by omega⟩
        have hD4 : H4 D = some (.lst (zs.map V.str)) := by walk_at "look"
        have ct : cutV (zs.map V.str) none (some (j : Int)) = (zs.take j).map V.str := by rw [cut_to, List.map_take]
        have cf : cutV (zs.map V.str) (some (j : Int)) none = (zs.drop j).map V.str := by rw [cut_from, List.map_drop]
        walk_at "go"
        rename_i a1 ha1 a2 ha2
        rw [ct] at *
        refine ⟨line_ge (by simp; omega), fun a3 ha3 => ?_⟩
        walk_at "go"
        rw [cf] at *
        refine ⟨line_ge (by simp; omega), fun a5 ha5 => ?_⟩
        walk_at "go"
        have eM : (zs.take j).map V.str ++ [V.str "..."] ++ (zs.drop j).map V.str = (zs.take j ++ [MK] ++ zs.drop j).map V.str := by simp [MK]
        rw [eM]
        have okp := lok.put (a := zs.take j) (b := zs.drop j) (x := MK) (by rw [List.take_append_drop]; exact okz) (al_mk ks) (.inr (by rw [List.take_append_drop]; exact nmz)) (by rw [List.take_append_drop]; omega)
        refine q a5 _ _ (Stay.none (p := p) ?_ ?_ ha5) upd_same okp (by simp; omega) ?_ ?_
        · walk_at "stay"
        · walk_at "pot"
        · walk_at "pot"
        · walk_at "stay"
      · walk_at "go"
        exact q _ _ _ hD0 hD3 okz (by omega) p3 (Stay.trans st2 s3)
    · walk_at "go"
      exact q _ _ _ hD0 hD2 okz (by omega) p2 st2
def spNear : Sp := fun vs H Q _ => ∃ (p l r : Addr) (ks : List KD) (ls : List Str), vs = [.ref p, .ref l, .ref r] ∧ Pot H p ∧ l ≠ p ∧ r ≠ p ∧ H l = some (.lst ((ks.map KD.n).map V.str)) ∧ H r = some (.lst (ls.map V.str)) ∧ bok ks ∧ lok ks ls ∧ ls.length ≤ 40 ∧
  ∀ (D : Addr) (ms : List Str) (H' : Hp), H D = none → H' D = some (.lst (ms.map V.str)) → lok ks ms → ms.length ≤ ls.length + 1 → Pot H' p → Stay p H H' → Q (.ref D) H'
abbrev st_l_near : Stmt := top 49
theorem sc_l_near : FnScope ["_law_pot_here", "_law_labels", "_law_row_here", "_law_way", "_law_at", "_law_fresh"] ["_law_pot_here", "_law_labels", "_law_row_here"] (defScope st_l_near) := ⟨rfl, rfl, rfl, by decide +kernel, rfl, by decide +kernel, by decide +kernel⟩
theorem ok_l_near {f : Addr} {fd : FuncData} (F : Fun K "_law_near" "_law_near" st_l_near f fd) (T : Txt K mg ad) (c_l_draw : Cal P w K mg base 1 "_law_draw" spDraw) (c_l_pick : Cal P w K mg base 2 "_law_pick" (spPick1 K)) :
    FnOk P w K mg base CX0 3 f fd ["_law_pot_here", "_law_labels", "_law_row_here"] spNear := by
  refine F.ok sc_l_near (fun vs H Q E h => ?_) (fun cdv A outer s H vs Q E hr h => ?_)
  · obtain (⟨p, l, r, ks, ls, rfl, hp, nl, nr, hl, hr0, ok, okl, hi, q⟩) := h
    rfl
  · obtain (⟨p, l, r, ks, ls, rfl, hp, nl, nr, hl, hr0, ok, okl, hi, q⟩) := h
    refine ⟨_, pss_cons (ps_par (i := 3) (j := 4) rfl sc_l_near.nd rfl rfl (by decide) rfl rfl (pa_cons (pe_c c_l_draw hr (by decide) (by rfl) (pa_cons (pv 0) (pa_cons pe_int pa_nil))) (pa_cons (pe_c c_l_draw hr (by decide) (by rfl) (pa_cons (pv 0) (pa_cons (pe_op op_add (pe_callB call_len_seq (by rfl) T.bi.len (by decide +kernel) (pa_cons (pv 2) pa_nil)) pe_int) pa_nil))) pa_nil)) (by rfl))
      (pss_cons (ps_set (i := 5) sc_l_near.nd rfl (.inl rfl) (pe_c c_l_pick hr (by decide) (by rfl) (pa_cons (pv 0) (pa_cons (pe_ifExp (pt_cmpR op_notIn_seq pe_str (pe_op op_cat (pe_slice sl_list (pv 2) po_none (po_some (pv 4))) (pe_slice sl_list (pv 2) (po_some (pe_op op_add (pv 4) pe_int)) po_none)) (by rfl)) (pe_op op_cat (pv 1) (pe_lst (pa_cons pe_str pa_nil))) (pv 1)) pa_nil))))
      (pss_cons (ps_if (PW.pt (pw_and (pt_cmpR op_eq (pv 3) pe_int (nomark _)) (pw_and1 (pt_cmpR op_lt (pv 4) (pe_callB call_len_seq (by rfl) T.bi.len (by decide +kernel) (pa_cons (pv 2) pa_nil)) (nomark _))))) (pss_one (ps_ret (pe_op op_cat (pe_op op_cat (pe_slice sl_list (pv 2) po_none (po_some (pv 4))) (pe_lst (pa_cons (pv 5) pa_nil))) (pe_slice sl_list (pv 2) (po_some (pe_op op_add (pv 4) pe_int)) po_none)))) pss_nil)
      (pss_cons (ps_if (PW.pt (pw_and (pt_cmpR op_eq (pv 3) pe_int (nomark _)) (pw_and1 (PW.pt (pw_or (pt_cmpR op_ne (pv 5) pe_str (nomark _)) (pw_or1 (pt_cmpR op_notIn_seq pe_str (pv 2) (by rfl)))))))) (pss_one (ps_ret (pe_op op_cat (pe_op op_cat (pe_slice sl_list (pv 2) po_none (po_some (pv 4))) (pe_lst (pa_cons (pv 5) pa_nil))) (pe_slice sl_list (pv 2) (po_some (pv 4)) po_none)))) pss_nil)
      (pss_one (ps_ret (pe_op op_cat (pe_slice sl_list (pv 2) po_none (po_some (pv 4))) (pe_slice sl_list (pv 2) (po_some (pe_op op_add (pv 4) pe_int)) po_none))))))), ?_⟩
    have lo := ok.lo
    have hk := ok.hi
    have lk : ((ks.map KD.n).map V.str).length = ks.length := by simp
    iterate 9 walk_at "st"
    rename_i d H1 d0 d1 hp1 st1
    refine ⟨p, _, rfl, hp1, by rw [List.length_map]; omega, by rw [List.length_map]; omega, fun d2 H2 e0 e1 hp2 st2 => ?_⟩
    rw [List.length_map] at e1
    obtain ⟨j, rfl⟩ : ∃ j : Nat, d2 = (j : Int) := ⟨d2.toNat, by omega⟩
    have hr2 : H2 r = some (.lst (ls.map V.str)) := by walk_at "look"
    have hl2 : H2 l = some (.lst ((ks.map KD.n).map V.str)) := by walk_at "look"
    walk_at "go"
    rename_i a1 ha1 a2 ha2
    have ct : cutV (ls.map V.str) none (some (j : Int)) = (ls.take j).map V.str := by rw [cut_to, List.map_take]
    have cf : cutV (ls.map V.str) (some ((j : Int) + 1)) none = (ls.drop (j + 1)).map V.str := by rw [show ((j : Int) + 1) = ((j + 1 : Nat) : Int) by omega, cut_from, List.map_drop]
    rw [ct] at ha2 ⊢
    rw [cf]
    refine ⟨line_ge (by simp; omega), fun a3 ha3 => ?_⟩
    have fl := flat_strs (ls.take j ++ ls.drop (j + 1))
    rw [← List.map_append]
    have s3 : L2.Same H2 (upd (upd (upd H2 a1 (.lst ((ls.take j).map V.str))) a2 (.lst ((ls.drop (j + 1)).map V.str))) a3 (.lst ((ls.take j ++ ls.drop (j + 1)).map V.str))) := by walk_at "same"
    have h3 : (upd (upd (upd H2 a1 (.lst ((ls.take j).map V.str))) a2 (.lst ((ls.drop (j + 1)).map V.str))) a3 (.lst ((ls.take j ++ ls.drop (j + 1)).map V.str))) a3 = some (.lst ((ls.take j ++ ls.drop (j + 1)).map V.str)) := upd_same
    generalize (upd (upd (upd H2 a1 (.lst ((ls.take j).map V.str))) a2 (.lst ((ls.drop (j + 1)).map V.str))) a3 (.lst ((ls.take j ++ ls.drop (j + 1)).map V.str))) = H3 at s3 h3 ⊢
    iterate 2 walk_at "st"
    dsimp only
    rw [in_strs]
    have hr3 := s3 _ _ hr2
    have hl3 := s3 _ _ hl2
    have p3 := hp2.same s3
    have nD : ∀ {H' : Hp} {D : Addr}, Stay p H3 H' → Pot H' p → H' D = none → H D = none := fun st hp' h => Stay.none (Stay.trans st1 (Stay.trans st2 (Stay.trans (UL.Same.stay s3 p) st))) hp' h
    have st3 : Stay p H H3 := by walk_at "stay"
    clear ha1 ha2 ha3 s3 hr2 hl2 hr0 hl st2 hp2 st1 hp1 hp
    refine ite_any (fun v H' => ∃ (a : Addr) (xs : List Str), v = .ref a ∧ a ≠ p ∧ H' a = some (.lst (xs.map V.str)) ∧ (∀ x ∈ xs, x ∈ alph ks ∧ (x ≠ MK ∨ MK ∉ ls.take j ++ ls.drop (j + 1))) ∧ 0 < xs.length ∧ xs.length ≤ 6 ∧ L2.Same H3 H') (fun c Q1 hQ => ?_) (fun c Q1 hQ => ?_) ?_
    · walk_at "go"
      rename_i b1 hb1 b2 hb2
      have cm : MK ∉ ls.take j ++ ls.drop (j + 1) := by simpa [MK] using c
      refine hQ _ _ ⟨b2, alph ks, rfl, ?_, ?_, fun x hx => ⟨hx, .inr cm⟩, by simp [alph], by simp [alph]; omega, by walk_at "same"⟩
      · walk_at "ne"
      · rw [alph, List.map_append]
        exact upd_same
    · walk_at "go"
      exact hQ _ _ ⟨l, ks.map KD.n, rfl, nl, hl3, fun x hx => ⟨al_mem hx, .inl fun e => ok.nomk (e ▸ hx)⟩, by simp; omega, by simp; omega, L2.Same.refl _⟩
    rintro v H4 ⟨a, xs, rfl, na, ha, hx, x0, x6, s4⟩
    walk_at "go"
    rename_i i5 v5 H5 e5 p5 s5
    obtain ⟨x, hxm, rfl⟩ := at_strs e5
    obtain ⟨xal, xmk⟩ := hx x hxm
    have st5 : Stay p H3 H5 := Stay.trans (UL.Same.stay s4 p) s5
    have hr5 : H5 r = some (.lst (ls.map V.str)) := st5 _ _ nr hr3
    have st6 : Stay p H H5 := Stay.trans st3 st5
    have l1 : (cutV (ls.map V.str) none (some (j : Int))).length ≤ 40 := by rw [ct]; simp; omega
    have l2 : (cutV (ls.map V.str) (some ((j : Int) + 1)) none).length ≤ 40 := by rw [cf]; simp; omega
    have l3 : (cutV (ls.map V.str) (some (j : Int)) none).length ≤ 40 := by rw [cut_from]; simp; omega
    have sub := away_sub ls j
    have fin : ∀ (D : Addr) (ms : List Str) (H6 : Hp), L2.Same H5 H6 → H6 D = none → lok ks ms → ms.length ≤ ls.length + 1 → Q (.ref D) (upd H6 D (.lst (ms.map V.str))) := fun D ms H6 s6 hD okm hlm => q D ms _ (nD (Stay.trans st5 (UL.Same.stay s6 p)) (p5.same s6) hD) upd_same okm hlm ((p5.same s6).same (same_new hD)) (Stay.trans st6 (UL.Same.stay (s6.trans (same_new hD)) p))
    have away : lok ks (ls.take j ++ ls.drop (j + 1)) := okl.sub sub
    have put0 : j < ls.length → lok ks (ls.take j ++ [x] ++ ls.drop (j + 1)) := fun _ => away.put xal xmk (by have := sub.length_le; omega)
    clear e0 ct cf s4 s5 hr3 hl3 h3 hx
    by_cases c0 : d = 0 ∧ j < ls.length
    · obtain ⟨rfl, cj⟩ := c0
      walk_at "go"
      rename_i b1 hb1 b2 hb2 b3 hb3 b4 hb4 b5 hb5
      have e : cutV (ls.map V.str) none (some (j : Int)) ++ [V.str x] ++ cutV (ls.map V.str) (some ((j : Int) + 1)) none = (ls.take j ++ [x] ++ ls.drop (j + 1)).map V.str := by
        rw [cut_to, show ((j : Int) + 1) = ((j + 1 : Nat) : Int) by omega, cut_from]
        simp
      rw [e]
      exact fin _ _ _ (by walk_at "same") hb5 (put0 cj) (by simp; omega)
    · by_cases c1 : d = 1 ∧ (x ≠ MK ∨ MK ∉ ls)
      · obtain ⟨rfl, cx⟩ := c1
        have eB : cutV (ls.map V.str) none (some (j : Int)) ++ [V.str x] ++ cutV (ls.map V.str) (some (j : Int)) none = (ls.take j ++ [x] ++ ls.drop j).map V.str := by
          rw [cut_to, cut_from]
          simp
        have okB : lok ks (ls.take j ++ [x] ++ ls.drop j) := okl |> fun h => lok.put (a := ls.take j) (b := ls.drop j) (by rw [List.take_append_drop]; exact h) xal (by rw [List.take_append_drop]; exact cx) (by rw [List.take_append_drop]; omega)
        by_cases c2 : x = MK
        · have cm : MK ∉ ls := cx.resolve_left fun z => z c2
          have im : inV (.str "...") (ls.map V.str) = false := by
            rw [in_strs]
            exact decide_eq_false cm
          have fl := flat_strs ls
          have ne : (V.str x != V.str "...") = false := by rw [c2]; decide +kernel
          subst c2
          walk_at "go"
          rename_i b1 hb1 b2 hb2 b3 hb3 b4 hb4 b5 hb5
          rw [eB]
          exact fin _ _ _ (by walk_at "same") hb5 okB (by simp; omega)
        · have nx : decide (V.str x = V.str "...") = false := decide_eq_false fun z => c2 (by cases z; rfl)
          walk_at "go"
          rename_i b1 hb1 b2 hb2 b3 hb3 b4 hb4 b5 hb5
          rw [eB]
          exact fin _ _ _ (by walk_at "same") hb5 okB (by simp; omega)
      · have eC : cutV (ls.map V.str) none (some (j : Int)) ++ cutV (ls.map V.str) (some ((j : Int) + 1)) none = (ls.take j ++ ls.drop (j + 1)).map V.str := by
          rw [cut_to, show ((j : Int) + 1) = ((j + 1 : Nat) : Int) by omega, cut_from]
          simp
        have lC : (ls.take j ++ ls.drop (j + 1)).length ≤ ls.length + 1 := by have := sub.length_le; omega
        by_cases c2 : d = 1
        · subst c2
          have c3 : x = MK ∧ MK ∈ ls := by
            refine ⟨Classical.byContradiction fun z => c1 ⟨rfl, .inl z⟩, Classical.byContradiction fun z => c1 ⟨rfl, .inr z⟩⟩
          obtain ⟨rfl, c4⟩ := c3
          have im : inV (.str "...") (ls.map V.str) = true := by
            rw [in_strs]
            exact decide_eq_true c4
          have fl := flat_strs ls
          walk_at "go"
          rename_i b1 hb1 b2 hb2 b3 hb3
          rw [eC]
          exact fin _ _ _ (by walk_at "same") hb3 away lC
        · by_cases c3 : d = 0
          · have c4 : ¬ j < ls.length := fun z => c0 ⟨c3, z⟩
            subst c3
            walk_at "go"
            rename_i b1 hb1 b2 hb2 b3 hb3
            rw [eC]
            exact fin _ _ _ (by walk_at "same") hb3 away lC
          · walk_at "go"
            rename_i b1 hb1 b2 hb2 b3 hb3
            rw [eC]
            exact fin _ _ _ (by walk_at "same") hb3 away lC
end
end K23
set_option Elab.async false
set_option linter.all false
set_option maxRecDepth 100000
set_option maxHeartbeats 4000000


namespace K23
open PySem L2 UL ClX
local macro_rules | `(tactic| walk_at "txt") => `(tactic| first
  | ((with_reducible show L2.SqT _ _ _ _); first | exact Txt.t_GROUPS (by assumption) _ | exact Txt.t_ALIGNMENTS (by assumption) _ | exact Txt.t_SIZES (by assumption) _)
  | ((with_reducible show L2.Cls _ _); first | exact UL.CIsi.cl (Txt.i_Kind (by assumption)) | exact UL.CIsi.cl (Txt.i_Book (by assumption)) | exact UL.CIsi.cl (Txt.i_Signature (by assumption)))
  | ((with_reducible show UL.CIsi _ _); first | exact Txt.i_Kind (by assumption) | exact Txt.i_Book (by assumption) | exact Txt.i_Signature (by assumption))
  | ((with_reducible show L2.NoAttr _ _ _); first | exact Txt.n_Kind_name (by assumption) | exact Txt.n_Kind_group (by assumption) | exact Txt.n_Kind_size (by assumption) | exact Txt.n_Kind_width (by assumption) | exact Txt.n_Kind_align (by assumption) | exact Txt.n_Kind_parts (by assumption) | exact Txt.n_Book_kinds (by assumption) | exact Txt.n_Book_names (by assumption) | exact Txt.n_Book_parts (by assumption) | exact Txt.n_Signature_book (by assumption) | exact Txt.n_Signature_letters (by assumption) | exact Txt.n_Signature_key (by assumption))
  | ((with_reducible show L2.TyX _ _ _ _); first | exact UL.CIsi.ty (Txt.i_Kind (by assumption)) (by walk_at "look") | exact UL.CIsi.ty (Txt.i_Book (by assumption)) (by walk_at "look") | exact UL.CIsi.ty (Txt.i_Signature (by assumption)) (by walk_at "look"))
  | ((with_reducible show PySem.W.kitOne _ (.type _) (.ref _) = _); first | exact ((Txt.k_Kind (by assumption)) _ (by simp)).1 | exact ((Txt.k_Book (by assumption)) _ (by simp)).1 | exact ((Txt.k_Signature (by assumption)) _ (by simp)).1)
  | ((with_reducible show _ = PySem.Value.ref _ ∨ _); first | exact .inl rfl | exact .inr ⟨_, rfl, Txt.no_Kind (by assumption)⟩)
  | fail)
def placeD (ks : List KD) (ls : List Str) : PyData := .tuple [.int ((ls.length : Nat) : Int), .list ((ranks ks ls).map PyData.int)]
def PlaceAt (H : Hp) (v : V) (ks : List KD) (ls : List Str) : Prop := ∃ t r, v = .ref t ∧ H t = some (.tup [.int ((ls.length : Nat) : Int), .ref r]) ∧ H r = some (.lst ((ranks ks ls).map V.int))
theorem PlaceAt.dp {K : PySem.W.Frag} {H : Hp} {v : V} {ks : List KD} {ls : List Str} (h : PlaceAt H v ks ls) : Dp K H v (placeD ks ls) := by
  obtain ⟨t, r, rfl, h1, h2⟩ := h
  exact .tup (SqT.of h1) (.cons (.int _) (.cons (.lst (SqL.of h2) (dp_ints _)) .nil))
theorem PlaceAt.same {H H' : Hp} {v : V} {ks : List KD} {ls : List Str} (h : PlaceAt H v ks ls) (s : L2.Same H H') : PlaceAt H' v ks ls := by
  obtain ⟨t, r, e, h1, h2⟩ := h
  exact ⟨t, r, e, s _ _ h1, s _ _ h2⟩
theorem lay_place (ks : List KD) (ls : List Str) : (placeD ks ls).canLay0 = true := by
  simp [placeD, PyData.canLay0, PyData.canLayAll0, lay_ints]
theorem ord_place (ks : List KD) (ls ms : List Str) : ordOk (placeD ks ls) (placeD ks ms) = true := by
  simp [placeD, ordOk, ordOkL, ord_ints]
theorem depth_place (ks : List KD) (ls : List Str) : (placeD ks ls).depth ≤ 2 := by
  have h1 : PyData.depthAll ((ranks ks ls).map PyData.int) ≤ 0 := depth_all fun d hd => by
    obtain ⟨n, _, rfl⟩ := List.mem_map.mp hd
    simp [PyData.depth]
  simp only [placeD, PyData.depth, PyData.depthAll]
  omega
theorem shaped_place (ks : List KD) (ls : List Str) : SeqAt.shaped (placeD ks ls) = true := shaped_of (lay_place ks ls) (Nat.le_trans (depth_place ks ls) (by decide))
theorem opN_self (o : CmpOp) (n m : Nat) : opN o n n = opN o m m := by
  cases o <;> simp [opN]
theorem eqv_parts {ks : List KD} (h : bok ks) : PyData.eqvAll (ks.map kpD) (ks.map kpD) = true := by
  have e : PyData.eqv (.tuple (ks.map kpD)) (.tuple (ks.map kpD)) = true := SeqAt.eqv_refl _ (by simp [PyData.canLay0, lay_parts h])
  simpa [PyData.eqv] using e
theorem ordV_key {ks : List KD} {ls ms : List Str} (h : bok ks) (o : CmpOp) : ordV o (keyD ks ls) (keyD ks ms) = ordV o (placeD ks ls) (placeD ks ms) := by
  have e := eqv_parts h
  have z := opN_self o 3 2
  simp [keyD, placeD, ordV, ordL, PyData.eqv, e, z]
theorem eqv_key {ks : List KD} {ls ms : List Str} (h : bok ks) : PyData.eqv (keyD ks ls) (keyD ks ms) = PyData.eqv (placeD ks ls) (placeD ks ms) := by
  have e := eqv_parts h
  simp [keyD, placeD, PyData.eqv, PyData.eqvAll, e]
/-- a row's key, one row of whole numbers -/
def kL (ks : List KD) (ls : List Str) : List Int := ((ls.length : Nat) : Int) :: ranks ks ls
theorem place_lt (ks : List KD) (ls ms : List Str) : ordV .Lt (placeD ks ls) (placeD ks ms) = decide (kL ks ls < kL ks ms) := by
  have e1 := eqv_int ((ls.length : Nat) : Int) ((ms.length : Nat) : Int)
  have e2 := eqv_ints (ranks ks ls) (ranks ks ms)
  have e3 := ordL_lt (opN .Lt ((ranks ks ls).map PyData.int).length ((ranks ks ms).map PyData.int).length) (ranks ks ls) (ranks ks ms) (by simp [opN])
  have e4 : PyData.eqv (.list ((ranks ks ls).map PyData.int)) (.list ((ranks ks ms).map PyData.int)) = decide (ranks ks ls = ranks ks ms) := by rw [PyData.eqv, e2]
  rw [placeD, placeD, ordV, ordL, ordL, ordL, e1, e4, ordV, ordV, e3]
  unfold kL
  have hh : decide (((ls.length : Nat) : Int) :: ranks ks ls < ((ms.length : Nat) : Int) :: ranks ks ms) = decide (((ls.length : Nat) : Int) < ((ms.length : Nat) : Int) ∨ ((ls.length : Nat) : Int) = ((ms.length : Nat) : Int) ∧ ranks ks ls < ranks ks ms) := decide_eq_decide.mpr List.cons_lt_cons_iff
  rw [hh]
  by_cases c : ((ls.length : Nat) : Int) = ((ms.length : Nat) : Int)
  · rw [if_pos (decide_eq_true c)]
    by_cases c2 : ranks ks ls = ranks ks ms
    · rw [if_pos (decide_eq_true c2), c2, c]
      simp [opN, List.lt_irrefl]
    · rw [if_neg (by simpa using c2), c]
      simp
  · rw [if_neg (by simpa using c)]
    simp [UL.opI, c]
theorem place_le (ks : List KD) (ls ms : List Str) : ordV .LtE (placeD ks ls) (placeD ks ms) = decide (kL ks ls ≤ kL ks ms) := by
  have e1 := eqv_int ((ls.length : Nat) : Int) ((ms.length : Nat) : Int)
  have e2 := eqv_ints (ranks ks ls) (ranks ks ms)
  have e3 := ordL_le (opN .LtE ((ranks ks ls).map PyData.int).length ((ranks ks ms).map PyData.int).length) (ranks ks ls) (ranks ks ms) (by simp [opN])
  have e4 : PyData.eqv (.list ((ranks ks ls).map PyData.int)) (.list ((ranks ks ms).map PyData.int)) = decide (ranks ks ls = ranks ks ms) := by rw [PyData.eqv, e2]
  rw [placeD, placeD, ordV, ordL, ordL, ordL, e1, e4, ordV, ordV, e3]
  unfold kL
  have hh : decide (((ls.length : Nat) : Int) :: ranks ks ls ≤ ((ms.length : Nat) : Int) :: ranks ks ms) = decide (((ls.length : Nat) : Int) < ((ms.length : Nat) : Int) ∨ ((ls.length : Nat) : Int) = ((ms.length : Nat) : Int) ∧ ranks ks ls ≤ ranks ks ms) := decide_eq_decide.mpr List.cons_le_cons_iff
  rw [hh]
  by_cases c : ((ls.length : Nat) : Int) = ((ms.length : Nat) : Int)
  · rw [if_pos (decide_eq_true c)]
    by_cases c2 : ranks ks ls = ranks ks ms
    · rw [if_pos (decide_eq_true c2), c2, c]
      simp [opN, List.le_refl]
    · rw [if_neg (by simpa using c2), c]
      simp
  · rw [if_neg (by simpa using c)]
    simp [UL.opI, c]
    omega
theorem place_eq (ks : List KD) (ls ms : List Str) : PyData.eqv (placeD ks ls) (placeD ks ms) = decide (kL ks ls = kL ks ms) := by
  have e1 := eqv_int ((ls.length : Nat) : Int) ((ms.length : Nat) : Int)
  have e2 := eqv_ints (ranks ks ls) (ranks ks ms)
  have e4 : PyData.eqv (.list ((ranks ks ls).map PyData.int)) (.list ((ranks ks ms).map PyData.int)) = decide (ranks ks ls = ranks ks ms) := by rw [PyData.eqv, e2]
  rw [placeD, placeD, PyData.eqv, PyData.eqvAll, PyData.eqvAll, PyData.eqvAll, e1, e4]
  unfold kL
  by_cases c : ((ls.length : Nat) : Int) = ((ms.length : Nat) : Int) <;> by_cases c2 : ranks ks ls = ranks ks ms <;> simp [c, c2]
theorem six_bls : ∀ a b c d e f : Bool, (PyData.list [.bool a, .bool b, .bool c, .bool d, .bool e, .bool f]).showable = true ∧ (PyData.list [.bool a, .bool b, .bool c, .bool d, .bool e, .bool f]).hasDict = false ∧ (PyData.list [.bool a, .bool b, .bool c, .bool d, .bool e, .bool f]).depth ≤ 40 ∧ (PyData.list [.bool a, .bool b, .bool c, .bool d, .bool e, .bool f]).shown.length ≤ 200 := by decide +kernel
theorem repr_six {K : PySem.W.Frag} {H : Hp} {l : Addr} {a b c d e f : Bool} {Q : VK} (h : H l = some (.lst [.bl a, .bl b, .bl c, .bl d, .bl e, .bl f])) (k : Q (.str (PyData.list [.bool a, .bool b, .bool c, .bool d, .bool e, .bool f]).shown) H) : rReprD K [.ref l] H Q := by
  obtain ⟨z1, z2, z3, z4⟩ := six_bls a b c d e f
  exact ⟨_, _, rfl, .lst (SqL.of h) (dp_bls [a, b, c, d, e, f]), z1, z2, z3, line_ge (Nat.le_trans z4 (by decide)), k⟩
section
variable {P : Program} {w : World} {K : PySem.W.Frag} {mg : Str → Option Value} {base : Heap} {ad : Ad}
def spPlace : Sp := fun vs H Q _ => ∃ (la l : Addr) (ks : List KD) (ls : List Str), vs = [.ref la, .ref l] ∧ H la = some (.lst ((ks.map KD.n).map V.str)) ∧ H l = some (.lst (ls.map V.str)) ∧ ks.length ≤ 5 ∧ lok ks ls ∧
  ∀ (t r : Addr) (H' : Hp), H t = none → H r = none → H' t = some (.tup [.int ((ls.length : Nat) : Int), .ref r]) → H' r = some (.lst ((ranks ks ls).map V.int)) → L2.Same H H' → Q (.ref t) H'
abbrev st_l_place : Stmt := top 50
theorem sc_l_place : FnScope ["_law_labels", "_law_row_here", "_law_letter"] ["_law_labels", "_law_row_here"] (defScope st_l_place) := ⟨rfl, rfl, rfl, by decide +kernel, rfl, by decide +kernel, by decide +kernel⟩
theorem ok_l_place {f : Addr} {fd : FuncData} (F : Fun K "_law_place" "_law_place" st_l_place f fd) (T : Txt K mg ad)  :
    FnOk P w K mg base CX0 1 f fd ["_law_labels", "_law_row_here"] spPlace := by
  refine F.ok sc_l_place (fun vs H Q E h => ?_) (fun cdv A outer s H vs Q E hr h => ?_)
  · obtain (⟨la, l, ks, ls, rfl, ha, hl, lk, ok, q⟩) := h
    rfl
  · obtain (⟨la, l, ks, ls, rfl, ha, hl, lk, ok, q⟩) := h
    refine ⟨_, pss_one (ps_ret (pe_tup (pa_cons (pe_callB call_len_seq (by rfl) T.bi.len (by decide +kernel) (pa_cons (pv 1) pa_nil)) (pa_cons (pe_lc (own := [("_law_letter", 2)]) (g := gName 2) (tt := tYes) rfl sc_l_place.nd (pi_list (pv 1)) (blkOk_by (N := ["_law_labels", "_law_row_here", "_law_letter"]) (sc := defScope st_l_place) (by decide +kernel)) (fun _ _ _ _ _ => pg_name (i := 2) sc_l_place.nd rfl (Or.inl rfl)) (fun _ _ _ _ _ => pts_nil) (fun _ _ _ _ _ => UL.pe_conv (pe_bm PySem.F.plainAttrs_list PySem.F.slot_list_index PySem.F.type_list_index mt_index (pe_op op_cat (pv 0) (pe_lst (pa_cons pe_str pa_nil))) (pa_cons (pv 2) pa_nil)) (by walk_at "unk"))) pa_nil)))), ?_⟩
    have hi := ok.hi
    have ea : (ks.map KD.n).map V.str ++ [V.str "..."] = (alph ks).map V.str := by rw [alph, List.map_append]; rfl
    walk_at "go"
    refine ⟨⟨_, SqL.of hl⟩, fun D hD => lc_made (walk_list (xs := ls.map V.str)) hD (fun i v H' => ∃ c, ls[i]? = some c ∧ v = .int (((alph ks).idxOf c : Nat) : Int)) (fun _ _ _ _ r _ => r) (by simp; omega) (fun H2 s2 => SqL.of (s2 _ _ hl)) (fun i x H2 H' hi2 s2 hx hy Z hZ => ?_) (fun H2 ys ly ry s2 hD2 => ?_)⟩
    · obtain ⟨rfl, hy⟩ := hy
      obtain ⟨c, hc, rfl⟩ := at_strs' hy
      have ha2 : H' la = some (.lst ((ks.map KD.n).map V.str)) := s2 _ _ ha
      obtain ⟨i1, i2, i3⟩ := idx_strs (ok.al c (List.mem_of_getElem? hc))
      have fl := flat_strs (alph ks)
      have sz : ((ks.map KD.n).map V.str).length ≤ 5 := by simpa using lk
      rw [← ea] at i1 i3 fl
      walk_at "go"
      exact hZ _ _ ⟨c, hc, rfl⟩ (by walk_at "same")
    have ey : ys = (ranks ks ls).map V.int := by
      refine List.ext_getElem (by rw [ly]; simp [ranks]) fun i h1 h2 => ?_
      obtain ⟨c, hc, e⟩ := ry i _ (List.getElem?_eq_getElem h1)
      rw [e]
      obtain ⟨h3, h4⟩ := List.getElem?_eq_some_iff.mp hc
      simp [ranks, h4]
    subst ey
    walk_at "go"
    rename_i p2 hp2
    rw [List.length_map]
    have hD0 : H D = none := hD
    refine q p2 D _ (UL.Same.none s2 hp2) hD upd_same ?_ (s2.trans (same_new hp2))
    rw [upd_ne (ne_of_none hD2 hp2)]
    exact hD2
def spPairR (ad : Ad) (K : PySem.W.Frag) : Sp := fun vs H Q _ => ∃ (v u t1 t2 : V) (ks : List KD) (ls ms : List Str), vs = [v, u, t1, t2] ∧ bok ks ∧ SigAt ad H v ks ls ∧ SigAt ad H u ks ms ∧ PlaceAt H t1 ks ls ∧ PlaceAt H t2 ks ms ∧ ∀ H', L2.Same H H' → Q (.bl true) H'
abbrev st_l_pair_right : Stmt := top 51
theorem sc_l_pair_right : FnScope ["_law_one", "_law_other", "_law_this", "_law_mate", "_law_told"] ["_law_one", "_law_other", "_law_this", "_law_mate"] (defScope st_l_pair_right) := ⟨rfl, rfl, rfl, by decide +kernel, rfl, by decide +kernel, by decide +kernel⟩
theorem ok_l_pair_right {f : Addr} {fd : FuncData} (F : Fun K "_law_pair_right" "_law_pair_right" st_l_pair_right f fd) (T : Txt K mg ad) (c_Signature_lt : CalS P w K mg base 1 ad.c_Signature "__lt__" (spSCmp ad .Lt)) (c_Signature_le : CalS P w K mg base 1 ad.c_Signature "__le__" (spSCmp ad .LtE)) (c_Signature_gt : CalS P w K mg base 1 ad.c_Signature "__gt__" (spSCmp ad .Gt)) (c_Signature_ge : CalS P w K mg base 1 ad.c_Signature "__ge__" (spSCmp ad .GtE)) (c_Signature_eq : CalS P w K mg base 1 ad.c_Signature "__eq__" (spSEq ad)) :
    FnG P w K mg base 3 f fd ["_law_one", "_law_other", "_law_this", "_law_mate"] (spPairR ad K) := by
  refine FnG.mk' F sc_l_pair_right (fun vs H Q E h => ?_) (fun cdv A outer s H vs Q E hgd hr h => ?_)
  · obtain (⟨v, u, t1, t2, ks, ls, ms, rfl, okb, hv, hu, h1, h2, q⟩) := h
    rfl
  · obtain (⟨v, u, t1, t2, ks, ls, ms, rfl, okb, hv, hu, h1, h2, q⟩) := h
    refine ⟨_, pss_cons (ps_set (i := 4) sc_l_pair_right.nd rfl (.inl rfl) (pe_lst (pa_cons (pe_cmpR (op_ltS c_Signature_lt hr (by decide)) (pv 0) (pv 1) (nomark _)) (pa_cons (pe_cmpR (op_leS c_Signature_le hr (by decide)) (pv 0) (pv 1) (nomark _)) (pa_cons (pe_cmpR (op_gtS c_Signature_gt hr (by decide)) (pv 0) (pv 1) (nomark _)) (pa_cons (pe_cmpR (op_geS c_Signature_ge hr (by decide)) (pv 0) (pv 1) (nomark _)) (pa_cons (pe_cmpR (op_eqS c_Signature_eq hr (by decide)) (pv 0) (pv 1) (nomark _)) (pa_cons (pe_cmpR (op_neS c_Signature_eq T.ne_Signature T.i_Signature hr (by decide)) (pv 0) (pv 1) (nomark _)) pa_nil))))))))
      (pss_one (ps_ret (pe_cmpR op_eq (pe_callB (r := rReprD K) (call_reprD hgd hr.units) (by rfl) T.bi.repr (by decide +kernel) (pa_cons (pv 4) pa_nil)) (pe_callB (r := rReprD K) (call_reprD hgd hr.units) (by rfl) T.bi.repr (by decide +kernel) (pa_cons (pe_lst (pa_cons (pe_cmpR (op_ordD .lt hr.units) (pv 2) (pv 3) (nomark _)) (pa_cons (pe_cmpR (op_ordD .le hr.units) (pv 2) (pv 3) (nomark _)) (pa_cons (pe_cmpR (op_ordD .gt hr.units) (pv 2) (pv 3) (nomark _)) (pa_cons (pe_cmpR (op_ordD .ge hr.units) (pv 2) (pv 3) (nomark _)) (pa_cons (pe_cmpR (op_eqD hr.units) (pv 2) (pv 3) (nomark _)) (pa_cons (pe_cmpR (op_neD hr.units) (pv 2) (pv 3) (nomark _)) pa_nil))))))) pa_nil)) (nomark _)))), ?_⟩
    have hv' := hv
    have hu' := hu
    obtain ⟨a, dx, b, lt, kt, rt, pt, pvs, rfl, i1, i2, i3, i4, i5, i6, i7, i8⟩ := id hv
    obtain ⟨a', dx', b', lt', kt', rt', pt', pvs', rfl, j1, j2, j3, j4, j5, j6, j7, j8⟩ := id hu
    have nf : PySem.W.notFirst K ad.c_Signature (.ref ad.c_Signature) = true := by simp [PySem.W.notFirst]
    walk_at "go"
    rename_i l1 hl1
    rw [ordV_key okb, ordV_key okb, ordV_key okb, ordV_key okb, eqv_key okb]
    dsimp only [tNil]
    refine repr_six upd_same ?_
    have h1' : ∀ {H'}, L2.Same H H' → Dp K H' t1 (placeD ks ls) := fun s => (h1.same s).dp
    have h2' : ∀ {H'}, L2.Same H H' → Dp K H' t2 (placeD ks ms) := fun s => (h2.same s).dp
    have oo := ord_place ks ls ms
    have c1 := lay_place ks ls
    have c2 := lay_place ks ms
    have dd : (placeD ks ls).depth ≤ 60 := Nat.le_trans (depth_place ks ls) (by decide)
    have sh1 := shaped_place ks ls
    have sh2 := shaped_place ks ms
    have sm := same_new (o := .lst [V.bl (ordV .Lt (placeD ks ls) (placeD ks ms)), V.bl (ordV .LtE (placeD ks ls) (placeD ks ms)), V.bl (ordV .Gt (placeD ks ls) (placeD ks ms)), V.bl (ordV .GtE (placeD ks ls) (placeD ks ms)), V.bl (PyData.eqv (placeD ks ls) (placeD ks ms)), V.bl (!PyData.eqv (placeD ks ls) (placeD ks ms))]) hl1
    generalize (upd H l1 _) = H1 at sm ⊢
    refine ⟨_, rfl, _, rfl, _, _, h1' sm, h2' sm, oo, c1, c2, dd, ?_⟩
    refine ⟨_, rfl, _, rfl, _, _, h1' sm, h2' sm, oo, c1, c2, dd, ?_⟩
    refine ⟨_, rfl, _, rfl, _, _, h1' sm, h2' sm, oo, c1, c2, dd, ?_⟩
    refine ⟨_, rfl, _, rfl, _, _, h1' sm, h2' sm, oo, c1, c2, dd, ?_⟩
    refine ⟨_, rfl, _, rfl, _, _, h1' sm, h2' sm, sh1, sh2, ?_⟩
    refine ⟨_, rfl, _, rfl, _, _, h1' sm, h2' sm, sh1, sh2, ?_⟩
    walk_at "go"
    rename_i l2 hl2
    dsimp only [tNil]
    refine repr_six upd_same ?_
    walk_at "go"
    rw [decide_eq_true rfl]
    exact q _ (sm.trans (same_new hl2))
end
end K23
set_option Elab.async false
set_option linter.all false
set_option maxRecDepth 100000
set_option maxHeartbeats 4000000


namespace K23
open PySem L2 UL ClX
local macro_rules | `(tactic| walk_at "txt") => `(tactic| first
  | ((with_reducible show L2.SqT _ _ _ _); first | exact Txt.t_GROUPS (by assumption) _ | exact Txt.t_ALIGNMENTS (by assumption) _ | exact Txt.t_SIZES (by assumption) _)
  | ((with_reducible show L2.Cls _ _); first | exact UL.CIsi.cl (Txt.i_Kind (by assumption)) | exact UL.CIsi.cl (Txt.i_Book (by assumption)) | exact UL.CIsi.cl (Txt.i_Signature (by assumption)))
  | ((with_reducible show UL.CIsi _ _); first | exact Txt.i_Kind (by assumption) | exact Txt.i_Book (by assumption) | exact Txt.i_Signature (by assumption))
  | ((with_reducible show L2.NoAttr _ _ _); first | exact Txt.n_Kind_name (by assumption) | exact Txt.n_Kind_group (by assumption) | exact Txt.n_Kind_size (by assumption) | exact Txt.n_Kind_width (by assumption) | exact Txt.n_Kind_align (by assumption) | exact Txt.n_Kind_parts (by assumption) | exact Txt.n_Book_kinds (by assumption) | exact Txt.n_Book_names (by assumption) | exact Txt.n_Book_parts (by assumption) | exact Txt.n_Signature_book (by assumption) | exact Txt.n_Signature_letters (by assumption) | exact Txt.n_Signature_key (by assumption))
  | ((with_reducible show L2.TyX _ _ _ _); first | exact UL.CIsi.ty (Txt.i_Kind (by assumption)) (by walk_at "look") | exact UL.CIsi.ty (Txt.i_Book (by assumption)) (by walk_at "look") | exact UL.CIsi.ty (Txt.i_Signature (by assumption)) (by walk_at "look"))
  | ((with_reducible show PySem.W.kitOne _ (.type _) (.ref _) = _); first | exact ((Txt.k_Kind (by assumption)) _ (by simp)).1 | exact ((Txt.k_Book (by assumption)) _ (by simp)).1 | exact ((Txt.k_Signature (by assumption)) _ (by simp)).1)
  | ((with_reducible show _ = PySem.Value.ref _ ∨ _); first | exact .inl rfl | exact .inr ⟨_, rfl, Txt.no_Kind (by assumption)⟩)
  | fail)
def kle (ks : List KD) (a b : List Str) : Prop := kL ks a ≤ kL ks b
theorem kle_tot (ks : List KD) (a b : List Str) : kle ks a b ∨ kle ks b a := List.le_total _ _
theorem kle_tr (ks : List KD) (a b c : List Str) (h : kle ks a b) (g : kle ks b c) : kle ks a c := List.le_trans h g
theorem key_lt {ks : List KD} (ok : bok ks) (ls ms : List Str) : ordV .Lt (keyD ks ls) (keyD ks ms) = decide (kL ks ls < kL ks ms) := by rw [ordV_key ok, place_lt]
theorem Each.take {α : Type} {R : V → α → Prop} {vs : List V} {ds : List α} (e : Each R vs ds) (n : Nat) : Each R (vs.take n) (ds.take n) := ⟨by rw [List.length_take, List.length_take, e.1], fun i v d h1 h2 => by
  rw [List.getElem?_take] at h1 h2
  split at h1
  · rename_i c
    rw [if_pos c] at h2
    exact e.2 i v d h1 h2
  · cases h1⟩
theorem Each.drop {α : Type} {R : V → α → Prop} {vs : List V} {ds : List α} (e : Each R vs ds) (n : Nat) : Each R (vs.drop n) (ds.drop n) := ⟨by rw [List.length_drop, List.length_drop, e.1], fun i v d h1 h2 => by
  rw [List.getElem?_drop] at h1 h2
  exact e.2 _ v d h1 h2⟩
section
variable {P : Program} {w : World} {K : PySem.W.Frag} {mg : Str → Option Value} {base : Heap} {ad : Ad}
def SigsAt (ad : Ad) (ks : List KD) (H : Hp) (vs : List V) (lss : List (List Str)) : Prop := Each (fun v ls => SigAt ad H v ks ls) vs lss
def spSorted (ad : Ad) : Sp := fun vs H Q _ => ∃ (l : Addr) (us : List V) (ks : List KD) (lss : List (List Str)), vs = [.ref l] ∧ H l = some (.lst us) ∧ bok ks ∧ SigsAt ad ks H us lss ∧ us.length ≤ 40 ∧
  ∀ (D : Addr) (ws : List V) (mss : List (List Str)) (H' : Hp), H' D = some (.lst ws) → SigsAt ad ks H' ws mss → mss.Perm lss → mss.Pairwise (kle ks) → L2.Same H H' → Q (.ref D) H'
abbrev st_l_sorted : Stmt := top 52
theorem sc_l_sorted : FnScope ["_law_some", "_law_found", "_law_one", "_law_at"] ["_law_some"] (defScope st_l_sorted) := ⟨rfl, rfl, rfl, by decide +kernel, rfl, by decide +kernel, by decide +kernel⟩
theorem ok_l_sorted {f : Addr} {fd : FuncData} (F : Fun K "_law_sorted" "_law_sorted" st_l_sorted f fd) (T : Txt K mg ad) (c_Signature_lt : CalS P w K mg base 1 ad.c_Signature "__lt__" (spSCmp ad .Lt)) :
    FnOk P w K mg base CX0 2 f fd ["_law_some"] (spSorted ad) := by
  refine F.ok sc_l_sorted (fun vs H Q E h => ?_) (fun cdv A outer s H vs Q E hr h => ?_)
  · obtain (⟨l, us, ks, lss, rfl, hl, ok, hE, hi, q⟩) := h
    rfl
  · obtain (⟨l, us, ks, lss, rfl, hl, ok, hE, hi, q⟩) := h
    refine ⟨_, pss_cons (ps_set (i := 1) sc_l_sorted.nd rfl (.inl rfl) (pe_lst pa_nil))
      (pss_cons (ps_for PassesOwn.never rfl (pi_list (pv 0)) (pg_name (i := 2) sc_l_sorted.nd rfl (Or.inl rfl))
        (pss_cons (ps_set (i := 3) sc_l_sorted.nd rfl (.inl rfl) pe_int)
          (pss_cons (ps_while PassesOwn.never (PW.pt (pw_and (pt_cmpR op_lt (pv 3) (pe_callB call_len_seq (by rfl) T.bi.len (by decide +kernel) (pa_cons (pv 1) pa_nil)) (nomark _)) (pw_and1 (pt_cmpR (op_ltS c_Signature_lt hr (by decide)) (pe_ix ix_list (pv 1) (pv 3) (fun _ _ => rfl)) (pv 2) (nomark _)))))
            (pss_one (ps_set (i := 3) sc_l_sorted.nd rfl (.inl rfl) (pe_op op_add (pv 3) pe_int))))
          (pss_one (ps_set (i := 1) sc_l_sorted.nd rfl (.inl rfl) (pe_op op_cat (pe_op op_cat (pe_slice sl_list (pv 1) po_none (po_some (pv 3))) (pe_lst (pa_cons (pv 2) pa_nil))) (pe_slice sl_list (pv 1) (po_some (pv 3)) po_none)))))))
      (pss_one (ps_ret (pv 1)))), ?_⟩
    walk_at "go"
    rename_i D0 hD0
    refine ⟨⟨us, SqL.of (by walk_at "look")⟩, for_it (walk_list (xs := us)) (fun i σ H' => Hold (∃ (D : Addr) (ws : List V) (mss : List (List Str)) (a b : Option V), σ = [some (.ref l), some (.ref D), a, b] ∧ H' D = some (.lst ws) ∧ SigsAt ad ks H' ws mss ∧ mss.Perm (lss.take i) ∧ mss.Pairwise (kle ks) ∧ L2.Same H H'))
      (Hold.mk ⟨D0, [], [], _, _, rfl, upd_same, Each.nil, by simp, List.Pairwise.nil, same_new hD0⟩) (fun i σ H' _ hh => ?_) (fun i x σ H0 H1' hi2 hh hy => ?_) (fun σ H1 hh => ?_)⟩
    · obtain ⟨D, ws, mss, a, b, es, h1, h2, h3, h4, h5⟩ := hh.out
      exact SqL.of (h5 _ _ hl)
    · obtain ⟨D, ws, mss, a, b, es, h1, h2, h3, h4, h5⟩ := hh.out
      clear hh
      subst es
      obtain ⟨rfl, hy⟩ := hy
      obtain ⟨ls, hls, hx⟩ := hE.at hy
      have hx1 : SigAt ad H1' x ks ls := hx.same h5
      have lm : mss.length = i := by
        have := h3.length_eq
        rw [this, List.length_take, ← hE.1]
        omega
      have lw : ws.length = mss.length := h2.1
      walk_at "go"
      refine while_up mss.length (fun j σ H2 => H2 = H1' ∧ σ = [some (.ref l), some (.ref D), some x, some (.int (j : Int))] ∧ ∀ y ∈ mss.take j, kL ks y < kL ks ls) ⟨rfl, rfl, by simp⟩ (fun j σ H2 hj ⟨e1, e2, e3⟩ R hT hF => ?_)
      subst e1 e2
      have li : us.length ≤ 40 := hi
      have nf : PySem.W.notFirst K ad.c_Signature (.ref ad.c_Signature) = true := by simp [PySem.W.notFirst]
      obtain ⟨xa, xdx, xb, xlt, xkt, xrt, xpt, xpvs, rfl, x1, _⟩ := id hx1
      by_cases c : ∃ y, mss[j]? = some y ∧ kL ks y < kL ks ls
      · obtain ⟨y, hy1, hy2⟩ := c
        have hj2 : j < mss.length := (List.getElem?_eq_some_iff.mp hy1).1
        have h0 : R true H2 := by
          refine hT H2 ⟨hj2, ?_⟩
          walk_at "go"
          rename_i z hz
          rw [← take_snoc hy1, List.mem_append] at hz
          rcases hz with hz | hz
          · exact e3 z hz
          · rw [List.mem_singleton.mp hz]
            exact hy2
        obtain ⟨v, hv, hS⟩ := h2.atD hy1
        obtain ⟨ga, gdx, gb, glt, gkt, grt, gpt, gpvs, rfl, g1, _⟩ := id hS
        walk_at "go"
        refine ⟨D, _, _, _, rfl, rfl, SqL.of h1, atI_nat hv, ?_⟩
        walk_at "go"
        rw [key_lt ok, decide_eq_true hy2]
        exact h0
      · have h0 : R false H2 := by
          refine hF H2 ?_
          have t1 : (cutV ws none (some (j : Int))).length ≤ 40 := by rw [cut_to]; simp; omega
          have t2 : (cutV ws (some (j : Int)) none).length ≤ 40 := by rw [cut_from]; simp; omega
          walk_at "go"
          rename_i b1 hb1 b2 hb2 b3 hb3 b4 hb4 b5 hb5
          rw [cut_to, cut_from] at *
          have lo : ∀ y ∈ mss.take j, kle ks y ls := fun y hy => List.le_of_lt (e3 y hy)
          have hg : ∀ y, mss[j]? = some y → kle ks ls y := fun y hy => List.not_lt.mp fun z => c ⟨y, hy, z⟩
          have sm : L2.Same H2 (upd (upd (upd (upd (upd H2 b1 (.lst (ws.take j))) b2 (.lst [.ref xa])) b3 (.lst (ws.take j ++ [.ref xa]))) b4 (.lst (ws.drop j))) b5 (.lst (ws.take j ++ [.ref xa] ++ ws.drop j))) := by walk_at "same"
          refine Hold.mk ⟨b5, _, mss.take j ++ [ls] ++ mss.drop j, _, _, rfl, upd_same, ?_, ?_, ins_sorted (kle_tot ks) (kle_tr ks) h4 lo hg, h5.trans sm⟩
          · exact (Each.app (Each.app (Each.take h2 j) (Each.one hx1)) (Each.drop h2 j)).imp fun v k q => q.same sm
          · refine (ins_perm mss ls j).trans ((List.Perm.cons ls h3).trans ?_)
            rw [← take_snoc hls]
            exact (List.perm_append_singleton ls _).symm
        by_cases c2 : j < mss.length
        · have hy1 : mss[j]? = some mss[j] := List.getElem?_eq_getElem c2
          obtain ⟨v, hv, hS⟩ := h2.atD hy1
          obtain ⟨ga, gdx, gb, glt, gkt, grt, gpt, gpvs, rfl, g1, _⟩ := id hS
          have nl : ¬ kL ks mss[j] < kL ks ls := fun z => c ⟨_, hy1, z⟩
          walk_at "go"
          refine ⟨D, _, _, _, rfl, rfl, SqL.of h1, atI_nat hv, ?_⟩
          walk_at "go"
          rw [key_lt ok, decide_eq_false nl]
          exact h0
        · walk_at "go"
          exact h0
    obtain ⟨D, ws, mss, a, b, es, h1, h2, h3, h4, h5⟩ := hh.out
    subst es
    exact ⟨_, rfl, q D ws mss H1 h1 h2 (by rw [hE.1] at h3; rw [List.take_length] at h3; exact h3) h4 h5⟩
end
end K23
set_option Elab.async false
set_option linter.all false
set_option maxRecDepth 100000
set_option maxHeartbeats 4000000


namespace K23
open PySem L2 UL ClX
local macro_rules | `(tactic| walk_at "txt") => `(tactic| first
  | ((with_reducible show L2.SqT _ _ _ _); first | exact Txt.t_GROUPS (by assumption) _ | exact Txt.t_ALIGNMENTS (by assumption) _ | exact Txt.t_SIZES (by assumption) _)
  | ((with_reducible show L2.Cls _ _); first | exact UL.CIsi.cl (Txt.i_Kind (by assumption)) | exact UL.CIsi.cl (Txt.i_Book (by assumption)) | exact UL.CIsi.cl (Txt.i_Signature (by assumption)))
  | ((with_reducible show UL.CIsi _ _); first | exact Txt.i_Kind (by assumption) | exact Txt.i_Book (by assumption) | exact Txt.i_Signature (by assumption))
  | ((with_reducible show L2.NoAttr _ _ _); first | exact Txt.n_Kind_name (by assumption) | exact Txt.n_Kind_group (by assumption) | exact Txt.n_Kind_size (by assumption) | exact Txt.n_Kind_width (by assumption) | exact Txt.n_Kind_align (by assumption) | exact Txt.n_Kind_parts (by assumption) | exact Txt.n_Book_kinds (by assumption) | exact Txt.n_Book_names (by assumption) | exact Txt.n_Book_parts (by assumption) | exact Txt.n_Signature_book (by assumption) | exact Txt.n_Signature_letters (by assumption) | exact Txt.n_Signature_key (by assumption))
  | ((with_reducible show L2.TyX _ _ _ _); first | exact UL.CIsi.ty (Txt.i_Kind (by assumption)) (by walk_at "look") | exact UL.CIsi.ty (Txt.i_Book (by assumption)) (by walk_at "look") | exact UL.CIsi.ty (Txt.i_Signature (by assumption)) (by walk_at "look"))
  | ((with_reducible show PySem.W.kitOne _ (.type _) (.ref _) = _); first | exact ((Txt.k_Kind (by assumption)) _ (by simp)).1 | exact ((Txt.k_Book (by assumption)) _ (by simp)).1 | exact ((Txt.k_Signature (by assumption)) _ (by simp)).1)
  | ((with_reducible show _ = PySem.Value.ref _ ∨ _); first | exact .inl rfl | exact .inr ⟨_, rfl, Txt.no_Kind (by assumption)⟩)
  | fail)
theorem range_strs (l : List Str) {n : Nat} (h : n = l.length) : (List.range n).map (fun i => V.str (l.getD i "")) = l.map V.str := by
  subst h
  refine List.ext_getElem (by simp) fun i h1 h2 => ?_
  simp at h1
  simp [h1]
theorem plain_ints : ∀ ns : List Int, PyData.plainAll (ns.map PyData.int) = true
  | [] => by simp [PyData.plainAll]
  | n :: ns => by simp [PyData.plainAll, PyData.plain, plain_ints ns]
theorem plain_place (ks : List KD) (ls : List Str) : (placeD ks ls).plain = true := by
  simp [placeD, PyData.plain, PyData.plainAll, plain_ints]
theorem plain_places (ks : List KD) : ∀ lss : List (List Str), PyData.plainAll (lss.map (placeD ks)) = true
  | [] => by simp [PyData.plainAll]
  | ls :: lss => by simp [PyData.plainAll, plain_place, plain_places ks lss]
theorem dp_places {K : PySem.W.Frag} {H : Hp} {ks : List KD} : ∀ {vs : List V} {lss : List (List Str)}, Each (fun v ls => PlaceAt H v ks ls) vs lss → DpAll K H vs (lss.map (placeD ks))
  | [], [], _ => .nil
  | [], _ :: _, e => absurd e.1 (by simp)
  | _ :: _, [], e => absurd e.1 (by simp)
  | v :: vs, ls :: lss, e => .cons (e.2 0 v ls rfl rfl).dp (dp_places (Each.tl e))
theorem range_bls (b : Bool) (n : Nat) : (List.range n).map (fun _ => V.bl b) = (List.replicate n b).map V.bl := by
  simp [List.map_const']
theorem any_false {n : Nat} : ((List.replicate n false).any id) = false := by
  rw [Bool.eq_false_iff]
  intro h
  rw [List.any_eq_true] at h
  obtain ⟨x, hx, e⟩ := h
  rw [List.eq_of_mem_replicate hx] at e
  cases e
/-- rows of letters in the heap, apart from the pot and their own list -/
def LineAt (p q : Addr) (ks : List KD) (n : Nat) (H : Hp) (v : V) (ls : List Str) : Prop := ∃ r, v = .ref r ∧ r ≠ p ∧ r ≠ q ∧ H r = some (.lst (ls.map V.str)) ∧ lok ks ls ∧ ls.length ≤ n
theorem LineAt.mono {p q : Addr} {ks : List KD} {n m : Nat} {H H' : Hp} {v : V} {ls : List Str} (h : LineAt p q ks n H v ls) (nm : n ≤ m) (s : ∀ b o, b ≠ p → b ≠ q → H b = some o → H' b = some o) : LineAt p q ks m H' v ls := by
  obtain ⟨r, e, n1, n2, hr, ok, hl⟩ := h
  exact ⟨r, e, n1, n2, s _ _ n1 n2 hr, ok, Nat.le_trans hl nm⟩
section
variable {P : Program} {w : World} {K : PySem.W.Frag} {mg : Str → Option Value} {base : Heap} {ad : Ad}
def spRight : Sp := fun vs H Q _ => ∃ p : Addr, vs = [.ref p] ∧ Pot H p ∧ ∀ H' : Hp, Pot H' p → Stay p H H' → Q (.bl true) H'
abbrev st_l_right : Stmt := top 53
theorem sc_l_right : FnScope ["_law_pot_here", "_law_rows_here", "_law_labels", "_law_made", "_law_row_here", "_law_lines", "_law_turn", "_law_far", "_law_some", "_law_places", "_law_one", "_law_this", "_law_other", "_law_mate", "_law_told", "_law_place_here"] ["_law_pot_here"] (defScope st_l_right) := ⟨rfl, rfl, rfl, by decide +kernel, rfl, by decide +kernel, by decide +kernel⟩
theorem ok_l_right {f : Addr} {fd : FuncData} (F : Fun K "_law_right" "_law_right" st_l_right f fd) (T : Txt K mg ad) (c_l_rows : Cal P w K mg base 4 "_law_rows" spRows) (c_l_draw : Cal P w K mg base 1 "_law_draw" spDraw) (c_l_book : Cal P w K mg base 6 "_law_book" (spBookL ad)) (c_l_letters : Cal P w K mg base 3 "_law_letters" spLetters) (c_l_near : Cal P w K mg base 3 "_law_near" spNear) (c_l_pick : Cal P w K mg base 2 "_law_pick" (spPick1 K)) (c_l_spelled : Cal P w K mg base 6 "_law_spelled" (spSpell ad)) (c_l_place : Cal P w K mg base 1 "_law_place" spPlace) (c_l_pair_right : CalG P w K mg base 3 "_law_pair_right" (spPairR ad K)) (c_l_sorted : Cal P w K mg base 2 "_law_sorted" (spSorted ad)) (c_Signature_letters : CalM P w K mg base 1 ad.c_Signature "letters" (spSLetters ad)) :
    FnG P w K mg base 7 f fd ["_law_pot_here"] spRight := by
  refine FnG.mk' F sc_l_right (fun vs H Q E h => ?_) (fun cdv A outer s H vs Q E hgd hr h => ?_)
  · obtain (⟨p, rfl, hp, q⟩) := h
    rfl
  · obtain (⟨p, rfl, hp, q⟩) := h
    refine ⟨_, pss_cons (ps_set (i := 1) sc_l_right.nd rfl (.inr rfl) (pe_c c_l_rows hr (by decide) (by rfl) (pa_cons (pv 0) (pa_cons (pe_op op_add pe_int (pe_c c_l_draw hr (by decide) (by rfl) (pa_cons (pv 0) (pa_cons pe_int pa_nil)))) pa_nil))))
      (pss_cons (ps_asg (pe_tup (pa_cons (pe_lc (own := [("_law_row_here", 4)]) (g := gName 4) (tt := tYes) rfl sc_l_right.nd (pi_list (pv 1)) (blkOk_by (N := ["_law_pot_here", "_law_rows_here", "_law_labels", "_law_made", "_law_row_here", "_law_lines", "_law_turn", "_law_far", "_law_some", "_law_places", "_law_one", "_law_this", "_law_other", "_law_mate", "_law_told", "_law_place_here"]) (sc := defScope st_l_right) (by decide +kernel)) (fun _ _ _ _ _ => pg_name (i := 4) sc_l_right.nd rfl (Or.inl rfl)) (fun _ _ _ _ _ => pts_nil) (fun _ _ _ _ _ => UL.pe_conv (pe_ix ix_tup (pv 4) pe_int (fun _ _ => rfl)) (by walk_at "unk"))) (pa_cons (pe_c c_l_book hr (by decide) (by rfl) (pa_cons (pv 0) (pa_cons (pv 1) pa_nil))) pa_nil))) (pg_tup rfl (pgs_cons (pg_name (i := 2) sc_l_right.nd rfl (Or.inr rfl)) (pgs_cons (pg_name (i := 3) sc_l_right.nd rfl (Or.inr rfl)) pgs_nil))))
      (pss_cons (ps_set (i := 5) sc_l_right.nd rfl (.inl rfl) (pe_lst (pa_cons (pe_c c_l_letters hr (by decide) (by rfl) (pa_cons (pv 0) (pa_cons (pv 2) (pa_cons pe_int pa_nil)))) pa_nil)))
      (pss_cons (ps_for PassesOwn.never rfl (pi_range1 (by rfl) T.bi.range (pa_cons (pe_op op_add pe_int (pe_c c_l_draw hr (by decide) (by rfl) (pa_cons (pv 0) (pa_cons pe_int pa_nil)))) pa_nil)) (pg_name (i := 6) sc_l_right.nd rfl (Or.inl rfl))
        (pss_cons (ps_set (i := 7) sc_l_right.nd rfl (.inl rfl) (pe_c c_l_letters hr (by decide) (by rfl) (pa_cons (pv 0) (pa_cons (pv 2) (pa_cons pe_int pa_nil)))))
          (pss_one (ps_expr (pe_bm PySem.F.plainAttrs_list PySem.F.slot_list_append PySem.F.type_list_append mt_append (pv 5) (pa_cons (pe_ifExp (pt_cmpR op_eq (pe_c c_l_draw hr (by decide) (by rfl) (pa_cons (pv 0) (pa_cons pe_int pa_nil))) pe_int (nomark _)) (pv 7) (pe_c c_l_near hr (by decide) (by rfl) (pa_cons (pv 0) (pa_cons (pv 2) (pa_cons (pe_c c_l_pick hr (by decide) (by rfl) (pa_cons (pv 0) (pa_cons (pv 5) pa_nil))) pa_nil))))) pa_nil))))))
      (pss_cons (ps_setLc (i := 8) (own := [("_law_row_here", 4)]) (g := gName 4) (tt := tYes) rfl sc_l_right.nd rfl rfl (sw_true rfl rfl rfl (by decide +kernel)) (pi_list (pv 5)) (blkOk_by (N := ["_law_pot_here", "_law_rows_here", "_law_labels", "_law_made", "_law_row_here", "_law_lines", "_law_turn", "_law_far", "_law_some", "_law_places", "_law_one", "_law_this", "_law_other", "_law_mate", "_law_told", "_law_place_here"]) (sc := defScope st_l_right) (by decide +kernel)) (fun _ _ _ _ _ => pg_name (i := 4) sc_l_right.nd rfl (Or.inl rfl)) (fun _ _ _ _ _ => pts_nil) (fun _ _ _ _ _ => UL.pe_conv (pe_c c_l_spelled hr (by decide) (by rfl) (pa_cons (pv 0) (pa_cons (pe_ifExp (pt_cmpR op_eq (pe_c c_l_draw hr (by decide) (by rfl) (pa_cons (pv 0) (pa_cons pe_int pa_nil))) pe_int (nomark _)) (pv 3) (pe_c c_l_book hr (by decide) (by rfl) (pa_cons (pv 0) (pa_cons (pv 1) pa_nil)))) (pa_cons (pv 4) pa_nil)))) (by walk_at "unk")))
      (pss_cons (ps_set (i := 9) sc_l_right.nd rfl (.inr rfl) (pe_lc (own := [("_law_row_here", 4)]) (g := gName 4) (tt := tYes) rfl sc_l_right.nd (pi_list (pv 5)) (blkOk_by (N := ["_law_pot_here", "_law_rows_here", "_law_labels", "_law_made", "_law_row_here", "_law_lines", "_law_turn", "_law_far", "_law_some", "_law_places", "_law_one", "_law_this", "_law_other", "_law_mate", "_law_told", "_law_place_here"]) (sc := defScope st_l_right) (by decide +kernel)) (fun _ _ _ _ _ => pg_name (i := 4) sc_l_right.nd rfl (Or.inl rfl)) (fun _ _ _ _ _ => pts_nil) (fun _ _ _ _ _ => UL.pe_conv (pe_c c_l_place hr (by decide) (by rfl) (pa_cons (pv 2) (pa_cons (pv 4) pa_nil))) (by walk_at "unk"))))
      (pss_cons (ps_for PassesOwn.never rfl (pi_zip (by rfl) T.bi.zip (pa_cons (pv 8) (pa_cons (pv 9) pa_nil))) (pg_tup rfl (pgs_cons (pg_name (i := 10) sc_l_right.nd rfl (Or.inr rfl)) (pgs_cons (pg_name (i := 11) sc_l_right.nd rfl (Or.inr rfl)) pgs_nil)))
        (pss_one (ps_if (pt_not (pt_val (pe_callB (cr_all rfl) (by rfl) T.bi.all (by decide +kernel) (pa_cons (pe_lc (own := [("_law_other", 12), ("_law_mate", 13)]) (g := gTup K 2 (gCons (gName 12) (gCons (gName 13) gNil))) (tt := tYes) rfl sc_l_right.nd (pi_zip (by rfl) T.bi.zip (pa_cons (pv 8) (pa_cons (pv 9) pa_nil))) (blkOk_by (N := ["_law_pot_here", "_law_rows_here", "_law_labels", "_law_made", "_law_row_here", "_law_lines", "_law_turn", "_law_far", "_law_some", "_law_places", "_law_one", "_law_this", "_law_other", "_law_mate", "_law_told", "_law_place_here"]) (sc := defScope st_l_right) (by decide +kernel)) (fun _ _ _ _ _ => pg_tup rfl (pgs_cons (pg_name (i := 12) sc_l_right.nd rfl (Or.inl rfl)) (pgs_cons (pg_name (i := 13) sc_l_right.nd rfl (Or.inl rfl)) pgs_nil))) (fun _ _ _ _ _ => pts_nil) (fun _ _ _ _ _ => UL.pe_conv (pe_cG hgd c_l_pair_right hr (by decide) (by rfl) (pa_cons (pv 10) (pa_cons (pv 12) (pa_cons (pv 11) (pa_cons (pv 13) pa_nil))))) (by walk_at "unk"))) pa_nil)))) (pss_one (ps_ret pe_bl)) pss_nil)))
      (pss_cons (ps_set (i := 14) sc_l_right.nd rfl (.inr rfl) (pe_lc (own := [("_law_one", 10)]) (g := gName 10) (tt := tYes) rfl sc_l_right.nd (pi_list (pe_c c_l_sorted hr (by decide) (by rfl) (pa_cons (pv 8) pa_nil))) (blkOk_by (N := ["_law_pot_here", "_law_rows_here", "_law_labels", "_law_made", "_law_row_here", "_law_lines", "_law_turn", "_law_far", "_law_some", "_law_places", "_law_one", "_law_this", "_law_other", "_law_mate", "_law_told", "_law_place_here"]) (sc := defScope st_l_right) (by decide +kernel)) (fun _ _ _ _ _ => pg_name (i := 10) sc_l_right.nd rfl (Or.inl rfl)) (fun _ _ _ _ _ => pts_nil) (fun _ _ _ _ _ => UL.pe_conv (pe_c c_l_place hr (by decide) (by rfl) (pa_cons (pv 2) (pa_cons (pe_m0 (pv 10) c_Signature_letters hr (by decide)) pa_nil))) (by walk_at "unk"))))
      (pss_cons (ps_if (pt_val (pe_callB (cr_any rfl) (by rfl) T.bi.any (by decide +kernel) (pa_cons (pe_lc (own := [("_law_place_here", 15)]) (g := gName 15) (tt := tYes) rfl sc_l_right.nd (pi_list (pe_op op_cat (pv 14) (pv 9))) (blkOk_by (N := ["_law_pot_here", "_law_rows_here", "_law_labels", "_law_made", "_law_row_here", "_law_lines", "_law_turn", "_law_far", "_law_some", "_law_places", "_law_one", "_law_this", "_law_other", "_law_mate", "_law_told", "_law_place_here"]) (sc := defScope st_l_right) (by decide +kernel)) (fun _ _ _ _ _ => pg_name (i := 15) sc_l_right.nd rfl (Or.inl rfl)) (fun _ _ _ _ _ => pts_nil) (fun _ _ _ _ _ => UL.pe_conv (pe_cmpR op_ne (pe_bm PySem.F.plainAttrs_list PySem.F.slot_list_count PySem.F.type_list_count (mt_dcount hr.units) (pv 14) (pa_cons (pv 15) pa_nil)) (pe_bm PySem.F.plainAttrs_list PySem.F.slot_list_count PySem.F.type_list_count (mt_dcount hr.units) (pv 9) (pa_cons (pv 15) pa_nil)) (nomark _)) (by walk_at "unk"))) pa_nil))) (pss_one (ps_ret pe_bl)) pss_nil)
      (pss_one (ps_ret (pe_callB (cr_all rfl) (by rfl) T.bi.all (by decide +kernel) (pa_cons (pe_lc (own := [("_law_this", 11), ("_law_mate", 13)]) (g := gTup K 2 (gCons (gName 11) (gCons (gName 13) gNil))) (tt := tYes) rfl sc_l_right.nd (pi_zip (by rfl) T.bi.zip (pa_cons (pv 14) (pa_cons (pe_slice sl_list (pv 14) (po_some pe_int) po_none) pa_nil))) (blkOk_by (N := ["_law_pot_here", "_law_rows_here", "_law_labels", "_law_made", "_law_row_here", "_law_lines", "_law_turn", "_law_far", "_law_some", "_law_places", "_law_one", "_law_this", "_law_other", "_law_mate", "_law_told", "_law_place_here"]) (sc := defScope st_l_right) (by decide +kernel)) (fun _ _ _ _ _ => pg_tup rfl (pgs_cons (pg_name (i := 11) sc_l_right.nd rfl (Or.inl rfl)) (pgs_cons (pg_name (i := 13) sc_l_right.nd rfl (Or.inl rfl)) pgs_nil))) (fun _ _ _ _ _ => pts_nil) (fun _ _ _ _ _ => UL.pe_conv (pe_cmpR (op_ordD .le hr.units) (pv 11) (pv 13) (nomark _)) (by walk_at "unk"))) pa_nil)))))))))))), ?_⟩
    walk_at "go"
    rename_i d H1 d0 d1 hp1 st1
    obtain ⟨k0, rfl⟩ : ∃ k : Nat, d = (k : Int) := ⟨d.toNat, by omega⟩
    refine ⟨p, 1 + k0, by rw [Int.natCast_add]; rfl, hp1, by omega, fun lr ks rvs H2 hlr0 hlr hP hok hnd hlen hp2 st2 => gname_go ?_⟩
    have ok : bok ks := ⟨hok, hnd, by omega, by omega⟩
    have nlr : lr ≠ p := by walk_at "ne"
    have lrv : rvs.length = ks.length := hP.1
    have lk5 := ok.hi
    walk_at "go"
    refine ⟨⟨rvs, SqL.of hlr⟩, fun D hD => lc_same (walk_list (xs := rvs)) hD (fun i => .str ((ks.map KD.n).getD i "")) (by omega) (fun H3 s3 => SqL.of (s3 _ _ hlr)) (fun i x H3 H' hi s3 hy R hR => ?_) (fun H3 s3 hD3 => ?_)⟩
    · obtain ⟨rfl, hy⟩ := hy
      obtain ⟨k, hk, t, rfl, ht⟩ := hP.at hy
      have ht3 := s3 _ _ ht
      have ek : (ks.map KD.n).getD i "" = k.n := by simp [hk]
      rw [ek] at hR
      walk_at "go"
      exact hR _ (L2.Same.refl _)
    rw [range_strs (ks.map KD.n) (by simp [lrv])] at hD3
    have nD : D ≠ p := by walk_at "ne"
    have hlr3 := s3 _ _ hlr
    have hp3 := hp2.same s3
    have hP3 : PartsAt H3 rvs ks := hP.keep (UL.Same.keep s3)
    walk_at "go"
    rename_i vB H4 hB hp4 st4 t0 ht0 L0 ls0 H5 hL0 hL1 okL0 lL0 hp5 st5 q0 hq0 d H6 e0 e1 hp6 st6
    have nq0 : q0 ≠ p := by walk_at "ne"
    have nL0 : L0 ≠ p := by walk_at "ne"
    have nLq : L0 ≠ q0 := by walk_at "ne"
    have hD5 : H5 D = some (.lst ((ks.map KD.n).map V.str)) := by walk_at "look"
    have hlr5 : H5 lr = some (.lst rvs) := by walk_at "look"
    have nDq : D ≠ q0 := ne_of_none hD5 hq0
    have nlq : lr ≠ q0 := ne_of_none hlr5 hq0
    have hD6 : H6 D = some (.lst ((ks.map KD.n).map V.str)) := by walk_at "look"
    have hlr6 : H6 lr = some (.lst rvs) := by walk_at "look"
    have hq6 : H6 q0 = some (.lst [.ref L0]) := by walk_at "look"
    have hL6 : H6 L0 = some (.lst (ls0.map V.str)) := by walk_at "look"
    have k46 : Keep H4 H6 := (UL.Same.keep (same_new ht0)).trans ((UL.Stay.keep st5 (hp4.same (same_new ht0))).trans ((UL.Same.keep (same_new hq0)).trans (UL.Stay.keep st6 (hp5.same (same_new hq0)))))
    have hP6 : PartsAt H6 rvs ks := hP3.keep ((UL.Stay.keep st4 hp3).trans k46)
    have hB6 : BookAt ad H6 vB ks := hB.keep k46
    have st06 : Stay p H H6 := Stay.trans st1 (Stay.trans st2 (Stay.trans (UL.Same.stay s3 p) (Stay.trans st4 (Stay.trans (UL.Same.stay (same_new ht0) p) (Stay.trans st5 (Stay.trans (UL.Same.stay (same_new hq0) p) st6))))))
    have q0H : H q0 = none := Stay.none (Stay.trans st1 (Stay.trans st2 (Stay.trans (UL.Same.stay s3 p) (Stay.trans st4 (Stay.trans (UL.Same.stay (same_new ht0) p) st5))))) hp5 hq0
    obtain ⟨dn, rfl⟩ : ∃ k : Nat, d = (k : Int) := ⟨d.toNat, by omega⟩
    have lD : ((ks.map KD.n).map V.str).length ≤ 5 := by simpa using lk5
    clear hL0 hL1 st5 st4 ht0 hq0 st6 s3 hD hD3 hlr3 hP3 hp3 hp4 hp5 hB hD5 hlr5 k46 hlr0 hlr hP hp2 st2 hp1 st1
    refine for_it walk_range (fun i σ H' => Hold (∃ (lvs : List V) (lss : List (List Str)) (a b : Option V), σ = [some (.ref p), some (.ref lr), some (.ref D), some vB, none, some (.ref q0), a, b, none, none, none, none, none, none, none, none] ∧ H' q0 = some (.lst lvs) ∧ lvs.length = i + 1 ∧ Each (LineAt p q0 ks (5 + i) H') lvs lss ∧ (∀ b o, b ≠ p → b ≠ q0 → H6 b = some o → H' b = some o) ∧ Pot H' p))
      (Hold.mk ⟨[.ref L0], [ls0], _, _, rfl, hq6, rfl, Each.one ⟨L0, rfl, nL0, nLq, hL6, okL0, lL0⟩, fun _ _ _ _ h => h, hp6⟩) (fun _ _ _ _ _ => trivial) (fun i x σ H7 H' hi hh hy => ?_) (fun σ H7 hh => ?_)
    · obtain ⟨lvs, lss, a, b, es, g1, g2, g3, g4, g5⟩ := hh.out
      clear hh
      subst es
      obtain ⟨rfl, rfl⟩ := hy
      have fD := g4 _ _ nD nDq hD6
      have i5 : i ≤ 5 := by
        have : i < (2 + (dn : Int)).toNat := hi
        omega
      walk_at "go"
      rename_i L1 ls1 H8 hL8 hL1 okL1 lL1 hp8 st8 d2 H9 e2 e3 hp9 st9
      have lL1 : ls1.length ≤ 5 := lL1
      have nL1 : L1 ≠ p := by walk_at "ne"
      have nL1q : L1 ≠ q0 := by walk_at "ne"
      have hL19 : H9 L1 = some (.lst (ls1.map V.str)) := by walk_at "look"
      have st79 : Stay p H' H9 := Stay.trans st8 st9
      have g19 : H9 q0 = some (.lst lvs) := by walk_at "look"
      have fD9 : H9 D = some (.lst ((ks.map KD.n).map V.str)) := by walk_at "look"
      dsimp only
      refine ite_any (fun v HH => ∃ r ls, v = .ref r ∧ r ≠ p ∧ r ≠ q0 ∧ HH r = some (.lst (ls.map V.str)) ∧ lok ks ls ∧ ls.length ≤ 5 + (i + 1) ∧ Stay p H9 HH ∧ Pot HH p) (fun c Q1 hQ => ?_) (fun c Q1 hQ => ?_) ?_
      · walk_at "go"
        exact hQ _ _ ⟨L1, ls1, rfl, nL1, nL1q, hL19, okL1, by omega, Stay.refl _ _, hp9⟩
      · walk_at "go"
        rename_i j v H10 hv hp10 st10
        obtain ⟨ls, hls, hLn⟩ := g3.at hv
        obtain ⟨r, rfl, n1, n2, hr, okl, ll⟩ := hLn
        have hr10 : H10 r = some (.lst (ls.map V.str)) := st10 _ _ n1 (st79 _ _ n1 hr)
        have fD10 : H10 D = some (.lst ((ks.map KD.n).map V.str)) := by walk_at "look"
        have g110 : H10 q0 = some (.lst lvs) := by walk_at "look"
        walk_at "go"
        rename_i L2 ms H11 hL2 hL21 okm lm hp11 st11
        have n3 : L2 ≠ p := by walk_at "ne"
        have n4 : L2 ≠ q0 := by walk_at "ne"
        exact hQ _ _ ⟨L2, ms, rfl, n3, n4, hL21, okm, by omega, Stay.trans st10 st11, hp11⟩
      rintro v HH ⟨r, ls, rfl, n1, n2, hr, okl, ll, sth, hph⟩
      have g1h : HH q0 = some (.lst lvs) := by walk_at "look"
      walk_at "go"
      show Hold _
      refine Hold.mk ⟨lvs ++ [.ref r], lss ++ [ls], _, _, rfl, upd_same, by simp [g2], Each.app (g3.imp fun v k h => h.mono (by omega) fun b o m1 m2 e => ?_) (Each.one ⟨r, rfl, n1, n2, ?_, okl, ll⟩), fun b o m1 m2 e => ?_, ?_⟩
      · rw [upd_ne m2]
        exact sth _ _ m1 (st79 _ _ m1 e)
      · rw [upd_ne n2]
        exact hr
      · rw [upd_ne m2]
        exact sth _ _ m1 (st79 _ _ m1 (g4 _ _ m1 m2 e))
      · exact Pot.over hph nq0
    obtain ⟨lvs, lss, a, b, es, g1, g2, g3, g4, g5⟩ := hh.out
    clear hh
    subst es
    have ll7 : lvs.length ≤ 7 := by omega
    have ss7 : lss.length ≤ 7 := by rw [← g3.1]; exact ll7
    have g3 : Each (LineAt p q0 ks 11 H7) lvs lss := g3.imp fun v k h => h.mono (by omega) fun _ _ _ _ h => h
    have fD := g4 _ _ nD nDq hD6
    have flr := g4 _ _ nlr nlq hlr6
    have kp7 : Keep H6 H7 := fun b o h n => by
      refine g4 b o (fun z => ?_) (fun z => ?_) h
      · obtain ⟨z1, z2, z3, _⟩ := hp6
        exact n _ (Option.some.inj (h.symm.trans (by rw [z]; exact z3)))
      · exact n _ (Option.some.inj (h.symm.trans (by rw [z]; exact hq6)))
    have fB := hB6.keep kp7
    have fP : PartsAt H7 rvs ks := hP6.keep kp7
    have st07 : Stay p H H7 := fun b o n e => g4 b o n (ne_of_none e q0H) (st06 b o n e)
    clear g4 g2 kp7 hL6 hD6 hlr6 hq6 hP6 hB6 st06 hp6 okL0 lL0 nL0 nLq L0 ls0
    walk_at "go"
    refine ⟨⟨lvs, SqL.of g1⟩, fun DS hDS => lc_keep (walk_list (xs := lvs)) hDS g5 (fun i v H' => ∃ ls, lss[i]? = some ls ∧ SigAt ad H' v ks ls) (fun i v H H' ⟨ls, e, h⟩ s => ⟨ls, e, h.keep s⟩) (by omega) (fun H2 s2 p2 => SqL.of (s2 _ _ nq0 g1)) (fun i x H8 H' hi s2 p2 hy Z hZ => ?_) (fun H8 ys ly ry s8 p8 hS8 => ?_)⟩
    · obtain ⟨rfl, hy⟩ := hy
      obtain ⟨ls, hls, r, rfl, n1, n2, hr, okl, ll⟩ := g3.at hy
      have hr8 : H' r = some (.lst (ls.map V.str)) := s2 _ _ n1 hr
      have flr8 : H' lr = some (.lst rvs) := s2 _ _ nlr flr
      have fB8 : BookAt ad H' vB ks := fB.keep (UL.Stay.keep s2 g5)
      have fP8 : PartsAt H' rvs ks := fP.keep (UL.Stay.keep s2 g5)
      walk_at "go"
      rename_i d9 H9 e2 e3 hp9 st9
      have fB9 : BookAt ad H9 vB ks := fB8.keep (UL.Stay.keep st9 p2)
      have fP9 : PartsAt H9 rvs ks := fP8.keep (UL.Stay.keep st9 p2)
      have flr9 : H9 lr = some (.lst rvs) := by walk_at "look"
      have hr9 : H9 r = some (.lst (ls.map V.str)) := by walk_at "look"
      dsimp only
      refine ite_any (fun v HH => BookAt ad HH v ks ∧ Stay p H9 HH ∧ Pot HH p) (fun c Q1 hQ => ?_) (fun c Q1 hQ => ?_) ?_
      · walk_at "go"
        exact hQ _ _ ⟨fB9, Stay.refl _ _, hp9⟩
      · walk_at "go"
        rename_i v2 H10 hB10 hp10 st10
        exact hQ _ _ ⟨hB10, st10, hp10⟩
      rintro v HH ⟨hBv, stv, hpv⟩
      have hrv : HH r = some (.lst (ls.map V.str)) := by walk_at "look"
      walk_at "go"
      rename_i v3 H10 hS10 hp10 st10
      exact hZ _ _ ⟨ls, hls, hS10⟩ (Stay.trans st9 (Stay.trans stv st10)) hp10
    obtain ⟨mss, lm, hmss⟩ := each_choose ry
    have hS : SigsAt ad ks H8 ys lss := ⟨by rw [ly]; exact g3.1, fun i v ls h1 h2 => by
      obtain ⟨ls', e, h⟩ := ry i v h1
      rw [h2] at e
      cases e
      exact h⟩
    have fD8 := s8 _ _ nD fD
    have g18 := s8 _ _ nq0 g1
    have g38 : Each (LineAt p q0 ks 11 H8) lvs lss := g3.imp fun v k h => h.mono (Nat.le_refl _) fun b o m1 _ e => s8 b o m1 e
    have nS : DS ≠ p := by walk_at "ne"
    have st08 : Stay p H H8 := Stay.trans st07 s8
    clear ry hmss lm mss g3 g1 fD flr fB fP st07 s8 hDS
    walk_at "go"
    refine ⟨⟨lvs, SqL.of g18⟩, fun DP hDP => lc_made (walk_list (xs := lvs)) hDP (fun i v H' => ∃ ls t r, lss[i]? = some ls ∧ v = .ref t ∧ r ≠ DP ∧ t ≠ DP ∧ H' t = some (.tup [.int ((ls.length : Nat) : Int), .ref r]) ∧ H' r = some (.lst ((ranks ks ls).map V.int))) (fun i v H H' ⟨ls, t, r, e, e2, n1, n2, h1, h2⟩ s => ⟨ls, t, r, e, e2, n1, n2, s _ _ n2 h1, s _ _ n1 h2⟩) (by omega) (fun H2 s2 => SqL.of (s2 _ _ g18)) (fun i x H9 H' hi s2 hx hy Z hZ => ?_) (fun H9 ys2 ly2 ry s9 hP9 => ?_)⟩
    · obtain ⟨rfl, hy⟩ := hy
      obtain ⟨ls, hls, r, rfl, n1, n2, hr, okl, ll⟩ := g38.at hy
      obtain ⟨xs0, hx0⟩ := hx
      have hr8 : H' r = some (.lst (ls.map V.str)) := s2 _ _ hr
      have fD9 : H' D = some (.lst ((ks.map KD.n).map V.str)) := s2 _ _ fD8
      walk_at "go"
      rename_i t r2 H10 ht hr2 ht10 hr10 s10
      exact hZ _ _ ⟨ls, t, r2, hls, rfl, ne_new hr2 hx0, ne_new ht hx0, ht10, hr10⟩ s10
    have ES : SigsAt ad ks H9 ys lss := hS.imp fun v k h => h.same s9
    have EP : Each (fun v ls => PlaceAt H9 v ks ls) ys2 lss := ⟨by rw [ly2]; exact g38.1, fun i v ls h1 h2 => by
      obtain ⟨ls', t, r, e, e2, _, _, a1, a2⟩ := ry i v h1
      rw [h2] at e
      cases e
      exact ⟨t, r, e2, a1, a2⟩⟩
    have l1 : ys.length = lss.length := ES.1
    have l2 : ys2.length = lss.length := EP.1
    have fD9 := s9 _ _ fD8
    have hS9 := s9 _ _ hS8
    have st09 : Stay p H H9 := Stay.trans st08 (UL.Same.stay s9 p)
    have hp9 := p8.same s9
    clear ry hS8 hS g38 g18 fD8 st08 p8 hDP s9 ly ly2
    walk_at "go"
    refine for_it (walk_zip (xs := ys) (ys := ys2) (n := lss.length) (by rw [l1, l2, Nat.min_self])) (fun i σ H' => Hold (∃ a' b', σ = [some (.ref p), some (.ref lr), some (.ref D), some vB, none, some (.ref q0), a, b, some (.ref DS), some (.ref DP), a', b', none, none, none, none] ∧ L2.Same H9 H')) (Hold.mk ⟨_, _, rfl, L2.Same.refl _⟩) (fun i σ H' _ hh => ?_) (fun i x σ H10 H' hi hh hy => ?_) (fun σ H10 hh => ?_)
    · obtain ⟨_, _, _, s⟩ := hh.out
      exact ⟨SqL.of (s _ _ hS9), SqL.of (s _ _ hP9)⟩
    · obtain ⟨a', b', es, s10⟩ := hh.out
      clear hh
      subst es
      obtain ⟨T1, x1, y1, rfl, hT, rfl, hx, hy⟩ := hy
      obtain ⟨ls, hls, hSx⟩ := ES.at hx
      obtain ⟨ls', hls', hPx⟩ := EP.at hy
      rw [hls] at hls'
      cases hls'
      have hS10 := s10 _ _ hS9
      have hP10 := s10 _ _ hP9
      walk_at "go"
      rename_i D2 hD2
      have sT := same_new (o := .tup [x1, y1]) hT
      refine lc_same (walk_zip (xs := ys) (ys := ys2) (n := lss.length) (by rw [l1, l2, Nat.min_self])) hD2 (fun _ => .bl true) (by omega) (fun H2 s2 => ⟨SqL.of (s2 _ _ (sT _ _ hS10)), SqL.of (s2 _ _ (sT _ _ hP10))⟩) (fun i2 x H2 H' hi2 s2 hy2 R hR => ?_) (fun H2 s2 hb => ?_)
      · obtain ⟨T2, x2, y2, rfl, hT2, rfl, hx2, hy2⟩ := hy2
        obtain ⟨ms, hms, hSy⟩ := ES.at hx2
        obtain ⟨ms', hms', hPy⟩ := EP.at hy2
        rw [hms] at hms'
        cases hms'
        have s11 : L2.Same H9 (upd H2 T2 (.tup [x2, y2])) := s10.trans (sT.trans (s2.trans (same_new hT2)))
        have q1 := hSx.same s11
        have q2 := hSy.same s11
        have q3 := hPx.same s11
        have q4 := hPy.same s11
        walk_at "go"
        rename_i H14 s14
        exact hR _ ((same_new hT2).trans s14)
      rw [range_bls] at hb
      walk_at "go"
      show Hold _
      exact Hold.mk ⟨_, _, rfl, s10.trans (sT.trans s2)⟩
    obtain ⟨a', b', es, s10⟩ := hh.out
    clear hh
    subst es
    have hS10 := s10 _ _ hS9
    have hP10 := s10 _ _ hP9
    have fD10 := s10 _ _ fD9
    have ES10 : SigsAt ad ks H10 ys lss := ES.imp fun v k h => h.same s10
    have EP10 : Each (fun v ls => PlaceAt H10 v ks ls) ys2 lss := EP.imp fun v k h => h.same s10
    have st010 : Stay p H H10 := Stay.trans st09 (UL.Same.stay s10 p)
    have hp10 := hp9.same s10
    clear ES EP hS9 hP9 fD9 st09 hp9 s10
    walk_at "go"
    rename_i D3 ws mss H11 hD3 ES3 pm pw s11
    have lm : mss.length = lss.length := pm.length_eq
    have lw : ws.length = mss.length := ES3.1
    refine ⟨⟨ws, SqL.of hD3⟩, fun DT hDT => lc_made (walk_list (xs := ws)) hDT (fun i v H' => ∃ ls t r, mss[i]? = some ls ∧ v = .ref t ∧ r ≠ DT ∧ t ≠ DT ∧ H' t = some (.tup [.int ((ls.length : Nat) : Int), .ref r]) ∧ H' r = some (.lst ((ranks ks ls).map V.int))) (fun i v H H' ⟨ls, t, r, e, e2, n1, n2, h1, h2⟩ s => ⟨ls, t, r, e, e2, n1, n2, s _ _ n2 h1, s _ _ n1 h2⟩) (by omega) (fun H2 s2 => SqL.of (s2 _ _ hD3)) (fun i x H12 H' hi s2 hx hy Z hZ => ?_) (fun H12 ys3 ly3 ry s12 hT12 => ?_)⟩
    · obtain ⟨rfl, hy⟩ := hy
      obtain ⟨ls, hls, hSx⟩ := ES3.at hy
      obtain ⟨xs0, hx0⟩ := hx
      have hSx2 := hSx.same s2
      obtain ⟨xa, xdx, xb, xlt, xkt, xrt, xpt, xpvs, rfl, x1, x2, x3, okl, _⟩ := id hSx2
      have fD12 : H' D = some (.lst ((ks.map KD.n).map V.str)) := s2 _ _ (s11 _ _ fD10)
      walk_at "go"
      rename_i l9 hl9 t r2 H13 ht hr2 ht13 hr13 s13
      have hx9 : upd H' l9 (.lst (ls.map V.str)) DT = some (.lst xs0) := by walk_at "look"
      exact hZ _ _ ⟨ls, t, r2, hls, rfl, ne_new hr2 hx9, ne_new ht hx9, ht13, hr13⟩ ((same_new hl9).trans s13)
    have EP3 : Each (fun v ls => PlaceAt H12 v ks ls) ys3 mss := ⟨by rw [ly3]; exact lw, fun i v ls h1 h2 => by
      obtain ⟨ls', t, r, e, e2, _, _, a1, a2⟩ := ry i v h1
      rw [h2] at e
      cases e
      exact ⟨t, r, e2, a1, a2⟩⟩
    have l3 : ys3.length = mss.length := EP3.1
    have hP12 : H12 DP = some (.lst ys2) := s12 _ _ (s11 _ _ hP10)
    have EP12 : Each (fun v ls => PlaceAt H12 v ks ls) ys2 lss := EP10.imp fun v k h => (h.same s11).same s12
    have EA := Each.app EP3 EP12
    have st012 : Stay p H H12 := Stay.trans st010 (UL.Same.stay (s11.trans s12) p)
    have hp12 := (hp10.same s11).same s12
    have cnt : ∀ d, (mss.map (placeD ks)).countP (fun y => PyData.eqv y d) = (lss.map (placeD ks)).countP (fun y => PyData.eqv y d) := fun d => (pm.map _).countP_eq _
    clear ry EP10 ES10 ES3 hS10 hP10 fD10 st010 hp10 hD3 s11 s12 hDT ly3
    walk_at "go"
    rename_i D5 hD5
    refine ⟨⟨ys3 ++ ys2, SqL.of upd_same⟩, fun DA hDA => lc_same (walk_list (xs := ys3 ++ ys2)) hDA (fun _ => .bl false) (by simp; omega) (fun H2 s2 => SqL.of (s2 _ _ upd_same)) (fun i x H13 H' hi s2 hy R hR => ?_) (fun H13 s13 hA => ?_)⟩
    · obtain ⟨rfl, hy⟩ := hy
      obtain ⟨ls, hls, hx⟩ := EA.at hy
      have s5 : L2.Same H12 H' := (same_new hD5).trans s2
      have hT5 : H' DT = some (.lst ys3) := s5 _ _ hT12
      have hP5 : H' DP = some (.lst ys2) := s5 _ _ hP12
      have x5 := hx.same s5
      have d1 : Dp K H' x (placeD ks ls) := x5.dp
      have d2 : DpAll K H' ys3 (mss.map (placeD ks)) := dp_places (EP3.imp fun v k h => h.same s5)
      have d3 : DpAll K H' ys2 (lss.map (placeD ks)) := dp_places (EP12.imp fun v k h => h.same s5)
      have p1 := plain_place ks ls
      have p2 := plain_places ks mss
      have p3 := plain_places ks lss
      have p4 : (placeD ks ls).depth ≤ 40 := Nat.le_trans (depth_place ks ls) (by decide)
      walk_at "go"
      rw [cnt, decide_eq_true rfl]
      exact hR _ (L2.Same.refl _)
    rw [range_bls] at hA
    have hT13 : H13 DT = some (.lst ys3) := s13 _ _ (same_new hD5 _ _ hT12)
    have EP13 : Each (fun v ls => PlaceAt H13 v ks ls) ys3 mss := EP3.imp fun v k h => (h.same (same_new hD5)).same s13
    have st013 : Stay p H H13 := Stay.trans st012 (UL.Same.stay ((same_new hD5).trans s13) p)
    have hp13 : Pot H13 p := (hp12.same (same_new hD5)).same s13
    have an := @any_false (ys3 ++ ys2).length
    have c1 : cutV ys3 (some 1) none = ys3.drop 1 := by have := cut_from ys3 1; simpa using this
    clear EP3 EP12 EA cnt hP12 hT12 st012 hp12 s13 hDA
    walk_at "go"
    rename_i D6 hD6 D7 hD7
    rw [c1] at hD7 ⊢
    have s6 := same_new (o := .lst (ys3.drop 1)) hD6
    refine lc_same (walk_zip (xs := ys3) (ys := ys3.drop 1) (n := ys3.length - 1) (by rw [List.length_drop]; omega)) hD7 (fun _ => .bl true) (by omega) (fun H2 s2 => ⟨SqL.of (s2 _ _ (s6 _ _ hT13)), SqL.of (s2 _ _ upd_same)⟩) (fun i x H14 H' hi s2 hy R hR => ?_) (fun H14 s14 hb => ?_)
    · obtain ⟨T2, x2, y2, rfl, hT2, rfl, hx2, hy2⟩ := hy
      have hy3 : ys3[1 + i]? = some y2 := by
        have z : (ys3.drop 1)[i]? = some y2 := hy2
        rw [List.getElem?_drop] at z
        exact z
      obtain ⟨ls, hls, hPx⟩ := EP13.at hx2
      obtain ⟨ms, hms, hPy⟩ := EP13.at hy3
      obtain ⟨m1, m2⟩ := List.getElem?_eq_some_iff.mp hls
      obtain ⟨m3, m4⟩ := List.getElem?_eq_some_iff.mp hms
      have kk : kL ks ls ≤ kL ks ms := by
        have := (List.pairwise_iff_getElem.mp pw) i (1 + i) m1 m3 (by omega)
        rw [m2, m4] at this
        exact this
      have s15 : L2.Same H13 (upd H14 T2 (.tup [x2, y2])) := s6.trans (s2.trans (same_new hT2))
      have d1 : Dp K (upd H14 T2 (.tup [x2, y2])) x2 (placeD ks ls) := (hPx.same s15).dp
      have d2 : Dp K (upd H14 T2 (.tup [x2, y2])) y2 (placeD ks ms) := (hPy.same s15).dp
      have oo := ord_place ks ls ms
      have c1 := lay_place ks ls
      have c2 := lay_place ks ms
      have dd : (placeD ks ls).depth ≤ 60 := Nat.le_trans (depth_place ks ls) (by decide)
      walk_at "go"
      rw [place_le, decide_eq_true kk]
      exact hR _ (same_new hT2)
    rw [range_bls] at hb
    have al := @all_true (ys3.length - 1)
    walk_at "go"
    rw [al]
    exact q _ (hp13.same (s6.trans s14)) (Stay.trans st013 (UL.Same.stay (s6.trans s14) p))
end
end K23
set_option Elab.async false
set_option linter.all false
set_option maxRecDepth 100000
set_option maxHeartbeats 4000000


namespace K23
open PySem L2 UL ClX
local macro_rules | `(tactic| walk_at "txt") => `(tactic| first
  | ((with_reducible show L2.SqT _ _ _ _); first | exact Txt.t_GROUPS (by assumption) _ | exact Txt.t_ALIGNMENTS (by assumption) _ | exact Txt.t_SIZES (by assumption) _)
  | ((with_reducible show L2.Cls _ _); first | exact UL.CIsi.cl (Txt.i_Kind (by assumption)) | exact UL.CIsi.cl (Txt.i_Book (by assumption)) | exact UL.CIsi.cl (Txt.i_Signature (by assumption)))
  | ((with_reducible show UL.CIsi _ _); first | exact Txt.i_Kind (by assumption) | exact Txt.i_Book (by assumption) | exact Txt.i_Signature (by assumption))
  | ((with_reducible show L2.NoAttr _ _ _); first | exact Txt.n_Kind_name (by assumption) | exact Txt.n_Kind_group (by assumption) | exact Txt.n_Kind_size (by assumption) | exact Txt.n_Kind_width (by assumption) | exact Txt.n_Kind_align (by assumption) | exact Txt.n_Kind_parts (by assumption) | exact Txt.n_Book_kinds (by assumption) | exact Txt.n_Book_names (by assumption) | exact Txt.n_Book_parts (by assumption) | exact Txt.n_Signature_book (by assumption) | exact Txt.n_Signature_letters (by assumption) | exact Txt.n_Signature_key (by assumption))
  | ((with_reducible show L2.TyX _ _ _ _); first | exact UL.CIsi.ty (Txt.i_Kind (by assumption)) (by walk_at "look") | exact UL.CIsi.ty (Txt.i_Book (by assumption)) (by walk_at "look") | exact UL.CIsi.ty (Txt.i_Signature (by assumption)) (by walk_at "look"))
  | ((with_reducible show PySem.W.kitOne _ (.type _) (.ref _) = _); first | exact ((Txt.k_Kind (by assumption)) _ (by simp)).1 | exact ((Txt.k_Book (by assumption)) _ (by simp)).1 | exact ((Txt.k_Signature (by assumption)) _ (by simp)).1)
  | ((with_reducible show _ = PySem.Value.ref _ ∨ _); first | exact .inl rfl | exact .inr ⟨_, rfl, Txt.no_Kind (by assumption)⟩)
  | fail)
theorem three {z : Int} : (if (if z < 3 then z else 3) > 1 then (if z < 3 then z else 3) else 1) ≤ 3 ∧ 1 ≤ (if (if z < 3 then z else 3) > 1 then (if z < 3 then z else 3) else 1) := by
  by_cases c : z < 3
  · rw [if_pos c]
    by_cases d : z > 1
    · rw [if_pos d]
      omega
    · rw [if_neg d]
      decide
  · rw [if_neg c, if_pos (by decide)]
    decide
theorem relB {vs ds mz zs : List V} {us its mv ws : List Value} (r1 : Vals vs us) (r2 : Vals ds its) (r3 : Vals mz mv) (r4 : Vals zs ws) : Vals (gB vs ds mz zs) (gB us its mv ws) := by
  cases r4 with
  | nil => exact .nil
  | cons a r4 => cases r4 with
    | nil => exact .nil
    | cons b r4 => cases r4 with
      | nil => exact .nil
      | cons c r4 => cases r4 with
        | nil => exact .nil
        | cons d r4 => cases r4 with
          | nil => exact ((r1.append (.cons a .nil)).append r2).append (.cons d (.cons c (.cons b .nil)))
          | cons e r4 => exact .nil
section
variable {P : Program} {w : World} {K : PySem.W.Frag} {mg : Str → Option Value} {base : Heap} {ad : Ad}
/-- law(script) -/
def spLaw (K : PySem.W.Frag) : Sp := fun vs H Q _ => ∃ (a : Addr) (ns : List Int), vs = [.ref a] ∧ SqL K H a (ns.map V.int) ∧ ns.length ≤ 63 ∧ ∀ H' : Hp, Q (.bl true) H'
abbrev st_law : Stmt := top 54
theorem sc_law : FnScope ["_law_script", "_law_k"] ["_law_script"] (defScope st_law) := ⟨rfl, rfl, rfl, by decide +kernel, rfl, by decide +kernel, by decide +kernel⟩
theorem ok_law {f : Addr} {fd : FuncData} (F : Fun K "law" "law" st_law f fd) (T : Txt K mg ad) (c_l_right : CalG P w K mg base 7 "_law_right" spRight) (c_l_pot : Cal P w K mg base 1 "_law_pot" (spPot K)) :
    FnG P w K mg base 8 f fd ["_law_script"] (spLaw K) := by
  refine FnG.mk' F sc_law (fun vs H Q E h => ?_) (fun cdv A outer s H vs Q E hgd hr h => ?_)
  · obtain (⟨a, ns, rfl, hS, hn, q⟩) := h
    rfl
  · obtain (⟨a, ns, rfl, hS, hn, q⟩) := h
    refine ⟨_, pss_one (ps_ret (pe_callB (cr_all rfl) (by rfl) T.bi.all (by decide +kernel) (pa_cons (pe_lc (own := [("_law_k", 1)]) (g := gName 1) (tt := tYes) rfl sc_law.nd (pi_range1 (by rfl) T.bi.range (pa_cons (pe_callB (call_max2 rfl) (by rfl) T.bi.max (by decide +kernel) (pa_cons pe_int (pa_cons (pe_callB (call_min2 rfl) (by rfl) T.bi.min (by decide +kernel) (pa_cons pe_int (pa_cons (pe_callB call_len_seq (by rfl) T.bi.len (by decide +kernel) (pa_cons (pv 0) pa_nil)) pa_nil))) pa_nil))) pa_nil)) (blkOk_by (N := ["_law_script", "_law_k"]) (sc := defScope st_law) (by decide +kernel)) (fun _ _ _ _ _ => pg_name (i := 1) sc_law.nd rfl (Or.inl rfl)) (fun _ _ _ _ _ => pts_nil) (fun _ _ _ _ _ => UL.pe_conv (pe_cG hgd c_l_right hr (by decide) (by rfl) (pa_cons (pe_c c_l_pot hr (by decide) (by rfl) (pa_cons (pv 0) (pa_cons (pv 1) pa_nil))) pa_nil)) (by walk_at "unk"))) pa_nil))), ?_⟩
    refine ⟨_, rfl, a, _, rfl, .inl hS, ?_⟩
    refine ⟨_, _, rfl, _, _, rfl, ?_⟩
    obtain ⟨m3, m1⟩ := three (z := ((ns.map V.int).length : Int))
    generalize (if (if ((ns.map V.int).length : Int) < 3 then ((ns.map V.int).length : Int) else 3) > 1 then (if ((ns.map V.int).length : Int) < 3 then ((ns.map V.int).length : Int) else 3) else 1) = m at m3 m1
    refine ⟨m, rfl, by omega, by omega, fun D hD => ?_⟩
    refine lc_it (walk_range (lo := 0) (n := m.toNat)) (fun i H' => H' D = some (.lst ((List.replicate i true).map V.bl)) ∧ SqL K H' a (ns.map V.int)) ⟨upd_same, sq_same hS (same_new hD)⟩ (fun _ _ _ _ => trivial) (fun i x H1 H' hi ⟨d1, s1⟩ hy => ?_) (fun H' ⟨d1, s1⟩ => ?_)
    · obtain ⟨rfl, rfl⟩ := hy
      refine ⟨rfl, _, rfl, _, rfl, a, ns, _, rfl, s1, by omega, by omega, fun p H1 np hp sm => ?_⟩
      refine ⟨p, rfl, hp, fun H2 hp2 st => ⟨_, st _ _ (ne_of_none d1 np) (sm _ _ d1), line_gt (by rw [List.length_map, List.length_replicate]; omega), ?_, ?_⟩⟩
      · rw [List.replicate_succ', List.map_append]
        exact upd_same
      · have sS := sq_past s1 np sm st
        exact sq_off hS hD _ _ sS
    · refine ⟨D, _, rfl, SqL.of d1, ?_⟩
      rw [all_true]
      exact q H'
end
end K23
set_option Elab.async false
set_option linter.all false
set_option maxRecDepth 100000
set_option maxHeartbeats 4000000
namespace K23
open PySem PySem.Spec PyProof.Rows L2 UL ClX
theorem du_add : PySem.dunder "add" = ("__add__" : Str) := by decide +kernel
theorem core {l : PySem.W.OpenLaw} {w : World} {K : PySem.W.Frag} {h : Heap} {mg : Str → Option Value} {ad : Ad} {f_law : Addr} {f_is_integer f_is_count f_is_between f_is_one_of f_is_word_of f_is_name f_Kind_init T0_Kind D0_Kind p_Kind_name f_Kind_name f_Kind_parts f_Book_init f_Book_names f_Book_parts f_Book_add f_first_wrong_letter f_Signature_init f_Signature_letters f_Signature_add f_Signature_radd f_Signature_lt f_Signature_le f_Signature_gt f_Signature_ge f_Signature_eq f_l_draw f_l_pick f_l_pot f_l_row f_l_kind f_l_named f_l_rows f_l_book f_l_spelled f_l_letters f_l_near f_l_place f_l_pair_right f_l_sorted f_l_right : Addr} {od_is_integer an_is_integer od_is_count an_is_count od_is_between an_is_between od_is_one_of an_is_one_of od_is_word_of an_is_word_of od_is_name an_is_name od_Kind_init an_Kind_init odT_Kind od_Kind_name an_Kind_name od_Kind_parts an_Kind_parts od_Book_init an_Book_init od_Book_names an_Book_names od_Book_parts an_Book_parts od_Book_add an_Book_add od_first_wrong_letter an_first_wrong_letter od_Signature_init an_Signature_init od_Signature_letters an_Signature_letters od_Signature_add an_Signature_add od_Signature_radd an_Signature_radd od_Signature_lt an_Signature_lt od_Signature_le an_Signature_le od_Signature_gt an_Signature_gt od_Signature_ge an_Signature_ge od_Signature_eq an_Signature_eq od_l_draw an_l_draw od_l_pick an_l_pick od_l_pot an_l_pot od_l_row an_l_row od_l_kind an_l_kind od_l_named an_l_named od_l_rows an_l_rows od_l_book an_l_book od_l_spelled an_l_spelled od_l_letters an_l_letters od_l_near an_l_near od_l_place an_l_place od_l_pair_right an_l_pair_right od_l_sorted an_l_sorted od_l_right an_l_right od_law an_law : Option Addr} {slGROUPS slALIGNMENTS slSIZES sl_is_integer sl_is_count sl_is_between sl_is_one_of sl_is_word_of sl_is_name sl_Kind_init slT_Kind sl_Kind_name sl_Kind_parts sl_Book_init sl_Book_names sl_Book_parts sl_Book_add sl_first_wrong_letter sl_Signature_init sl_Signature_letters sl_Signature_add sl_Signature_radd sl_Signature_lt sl_Signature_le sl_Signature_gt sl_Signature_ge sl_Signature_eq sl_l_draw sl_l_pick sl_l_pot sl_l_row sl_l_kind sl_l_named sl_l_rows sl_l_book sl_l_spelled sl_l_letters sl_l_near sl_l_place sl_l_pair_right sl_l_sorted sl_l_right sl_law : Array (Option Value)} {cu_Signature_MARK u_LONGEST_NAME u_NAME_LETTERS u_DOUBLE_SIZE u_LEAST_WIDTH u_LEAST_DOUBLE_WIDTH u_MOST_KINDS u_MOST_LETTERS oc_is_integer dc_is_integer pm_is_integer cd_is_integer ct_is_integer kV_is_integer oc_is_count dc_is_count pm_is_count cd_is_count ct_is_count kV_is_count oc_is_between dc_is_between pm_is_between cd_is_between ct_is_between kV_is_between oc_is_one_of dc_is_one_of pm_is_one_of cd_is_one_of ct_is_one_of kV_is_one_of oc_is_word_of dc_is_word_of pm_is_word_of cd_is_word_of ct_is_word_of kV_is_word_of oc_is_name dc_is_name pm_is_name cd_is_name ct_is_name kV_is_name oc_Kind_init dc_Kind_init pm_Kind_init cd_Kind_init ct_Kind_init ocT_Kind uk_Kind_size uk_Kind_width uk_Kind_align oc_Kind_name dc_Kind_name pm_Kind_name cd_Kind_name ct_Kind_name kV_Kind_name oc_Kind_parts dc_Kind_parts pm_Kind_parts cd_Kind_parts ct_Kind_parts kV_Kind_parts oc_Book_init dc_Book_init pm_Book_init cd_Book_init ct_Book_init kV_Book_init oc_Book_names dc_Book_names pm_Book_names cd_Book_names ct_Book_names kV_Book_names oc_Book_parts dc_Book_parts pm_Book_parts cd_Book_parts ct_Book_parts kV_Book_parts oc_Book_add dc_Book_add pm_Book_add cd_Book_add ct_Book_add kV_Book_add oc_first_wrong_letter dc_first_wrong_letter pm_first_wrong_letter cd_first_wrong_letter ct_first_wrong_letter kV_first_wrong_letter oc_Signature_init dc_Signature_init pm_Signature_init cd_Signature_init ct_Signature_init kV_Signature_init oc_Signature_letters dc_Signature_letters pm_Signature_letters cd_Signature_letters ct_Signature_letters kV_Signature_letters oc_Signature_add dc_Signature_add pm_Signature_add cd_Signature_add ct_Signature_add kV_Signature_add oc_Signature_radd dc_Signature_radd pm_Signature_radd cd_Signature_radd ct_Signature_radd kV_Signature_radd oc_Signature_lt dc_Signature_lt pm_Signature_lt cd_Signature_lt ct_Signature_lt kV_Signature_lt oc_Signature_le dc_Signature_le pm_Signature_le cd_Signature_le ct_Signature_le kV_Signature_le oc_Signature_gt dc_Signature_gt pm_Signature_gt cd_Signature_gt ct_Signature_gt kV_Signature_gt oc_Signature_ge dc_Signature_ge pm_Signature_ge cd_Signature_ge ct_Signature_ge kV_Signature_ge oc_Signature_eq dc_Signature_eq pm_Signature_eq cd_Signature_eq ct_Signature_eq kV_Signature_eq oc_l_draw dc_l_draw pm_l_draw cd_l_draw ct_l_draw kV_l_draw oc_l_pick dc_l_pick pm_l_pick cd_l_pick ct_l_pick kV_l_pick oc_l_pot dc_l_pot pm_l_pot cd_l_pot ct_l_pot kV_l_pot oc_l_row dc_l_row pm_l_row cd_l_row ct_l_row kV_l_row oc_l_kind dc_l_kind pm_l_kind cd_l_kind ct_l_kind kV_l_kind oc_l_named dc_l_named pm_l_named cd_l_named ct_l_named kV_l_named oc_l_rows dc_l_rows pm_l_rows cd_l_rows ct_l_rows kV_l_rows oc_l_book dc_l_book pm_l_book cd_l_book ct_l_book kV_l_book oc_l_spelled dc_l_spelled pm_l_spelled cd_l_spelled ct_l_spelled kV_l_spelled oc_l_letters dc_l_letters pm_l_letters cd_l_letters ct_l_letters kV_l_letters oc_l_near dc_l_near pm_l_near cd_l_near ct_l_near kV_l_near oc_l_place dc_l_place pm_l_place cd_l_place ct_l_place kV_l_place oc_l_pair_right dc_l_pair_right pm_l_pair_right cd_l_pair_right ct_l_pair_right kV_l_pair_right oc_l_sorted dc_l_sorted pm_l_sorted cd_l_sorted ct_l_sorted kV_l_sorted oc_l_right dc_l_right pm_l_right cd_l_right ct_l_right kV_l_right oc_law dc_law pm_law cd_law ct_law kV_law : Value} {re_Kind_name : List Value} {itGROUPS itALIGNMENTS itSIZES itT_Kind : Array Value} {ntGROUPS ntALIGNMENTS ntSIZES nT_Kind : Nat} {cldKind : ClassData} {fo_str ro_str : Option Value} (X : K.In h) (G : h.Ns mainGlobals mg)
    (cn : PySem.W.specialIn K (.builtin "object.__class__") "__get__" = some (some (.builtin "getset_descriptor.__get__")))
    (ctk : PySem.W.takesIn K (.builtin "object.__class__") = some true)
    (g_Kind : PySem.W.nsIn K mainGlobals "Kind" = some (some (.ref ad.c_Kind)))
    (pgKind : PySem.W.plainGet K ad.c_Kind Str.empty = true)
    (hdKind : PySem.W.hasDictIn K ad.c_Kind = true)
    (poKind : PySem.W.plainOver K ad.c_Kind = true)
    (saKind : PySem.W.findIn K (.ref ad.c_Kind) "__setattr__" = some (some (.builtin "object.__setattr__")))
    (caKind : PySem.W.findIn K (.ref ad.c_Kind) "__class__" = some (some (.builtin "object.__class__")))
    (cmKind : PySem.W.mroIn K ad.c_Kind (.type "object") = some true)
    (icKind : PySem.W.isClsIn K ad.c_Kind = true)
    (tyKind : PySem.W.typeIn K (.ref ad.c_Kind) = some (.type "type"))
    (mkKind : PySem.W.makesIn K ad.c_Kind = true)
    (kcKind : PySem.W.keepIn K (.ref ad.c_Kind) = true)
    (suKind_NoneType : PySem.W.subIn K (.type "NoneType") (.ref ad.c_Kind) = some false)
    (suKind_tuple : PySem.W.subIn K (.type "tuple") (.ref ad.c_Kind) = some false)
    (suKind_str : PySem.W.subIn K (.type "str") (.ref ad.c_Kind) = some false)
    (suKind_int : PySem.W.subIn K (.type "int") (.ref ad.c_Kind) = some false)
    (suKind_list : PySem.W.subIn K (.type "list") (.ref ad.c_Kind) = some false)
    (suKind_bool : PySem.W.subIn K (.type "bool") (.ref ad.c_Kind) = some false)
    (suKind_dict : PySem.W.subIn K (.type "dict") (.ref ad.c_Kind) = some false)
    (neKind : PySem.W.findIn K (.ref ad.c_Kind) "__ne__" = some (some (.builtin "object.__ne__")))
    (nKind_name : PySem.W.findIn K (.ref ad.c_Kind) "_name" = some none)
    (nKind_group : PySem.W.findIn K (.ref ad.c_Kind) "_group" = some none)
    (nKind_size : PySem.W.findIn K (.ref ad.c_Kind) "_size" = some none)
    (nKind_width : PySem.W.findIn K (.ref ad.c_Kind) "_width" = some none)
    (nKind_align : PySem.W.findIn K (.ref ad.c_Kind) "_align" = some none)
    (nKind_parts : PySem.W.findIn K (.ref ad.c_Kind) "_parts" = some none)
    (clKind : PySem.W.clsIn K ad.c_Kind = some cldKind)
    (mrKind : cldKind.mro = [.ref ad.c_Kind, .type "object"])
    (cadKind : PySem.W.findIn K (.ref ad.c_Kind) "__add__" = some none)
    (crdKind : PySem.W.findIn K (.ref ad.c_Kind) "__radd__" = some none)
    (oad : PySem.W.findIn K (.type "object") "__add__" = some none)
    (ord_ : PySem.W.findIn K (.type "object") "__radd__" = some none)
    (g_Book : PySem.W.nsIn K mainGlobals "Book" = some (some (.ref ad.c_Book)))
    (pgBook : PySem.W.plainGet K ad.c_Book Str.empty = true)
    (hdBook : PySem.W.hasDictIn K ad.c_Book = true)
    (poBook : PySem.W.plainOver K ad.c_Book = true)
    (saBook : PySem.W.findIn K (.ref ad.c_Book) "__setattr__" = some (some (.builtin "object.__setattr__")))
    (caBook : PySem.W.findIn K (.ref ad.c_Book) "__class__" = some (some (.builtin "object.__class__")))
    (cmBook : PySem.W.mroIn K ad.c_Book (.type "object") = some true)
    (icBook : PySem.W.isClsIn K ad.c_Book = true)
    (tyBook : PySem.W.typeIn K (.ref ad.c_Book) = some (.type "type"))
    (mkBook : PySem.W.makesIn K ad.c_Book = true)
    (kcBook : PySem.W.keepIn K (.ref ad.c_Book) = true)
    (suBook_NoneType : PySem.W.subIn K (.type "NoneType") (.ref ad.c_Book) = some false)
    (suBook_tuple : PySem.W.subIn K (.type "tuple") (.ref ad.c_Book) = some false)
    (suBook_str : PySem.W.subIn K (.type "str") (.ref ad.c_Book) = some false)
    (suBook_int : PySem.W.subIn K (.type "int") (.ref ad.c_Book) = some false)
    (suBook_list : PySem.W.subIn K (.type "list") (.ref ad.c_Book) = some false)
    (suBook_bool : PySem.W.subIn K (.type "bool") (.ref ad.c_Book) = some false)
    (suBook_dict : PySem.W.subIn K (.type "dict") (.ref ad.c_Book) = some false)
    (neBook : PySem.W.findIn K (.ref ad.c_Book) "__ne__" = some (some (.builtin "object.__ne__")))
    (nBook_kinds : PySem.W.findIn K (.ref ad.c_Book) "_kinds" = some none)
    (nBook_names : PySem.W.findIn K (.ref ad.c_Book) "_names" = some none)
    (nBook_parts : PySem.W.findIn K (.ref ad.c_Book) "_parts" = some none)
    (sfBook : PySem.W.selfFirst K ad.c_Book = true)
    (sta : PySem.W.findIn K (.type "str") "__add__" = some fo_str)
    (str_ : PySem.W.findIn K (.type "str") "__radd__" = some ro_str)
    (nrBook : PySem.W.findIn K (.ref ad.c_Book) "__radd__" = some none)
    (g_Signature : PySem.W.nsIn K mainGlobals "Signature" = some (some (.ref ad.c_Signature)))
    (pgSignature : PySem.W.plainGet K ad.c_Signature Str.empty = true)
    (hdSignature : PySem.W.hasDictIn K ad.c_Signature = true)
    (poSignature : PySem.W.plainOver K ad.c_Signature = true)
    (saSignature : PySem.W.findIn K (.ref ad.c_Signature) "__setattr__" = some (some (.builtin "object.__setattr__")))
    (caSignature : PySem.W.findIn K (.ref ad.c_Signature) "__class__" = some (some (.builtin "object.__class__")))
    (cmSignature : PySem.W.mroIn K ad.c_Signature (.type "object") = some true)
    (icSignature : PySem.W.isClsIn K ad.c_Signature = true)
    (tySignature : PySem.W.typeIn K (.ref ad.c_Signature) = some (.type "type"))
    (mkSignature : PySem.W.makesIn K ad.c_Signature = true)
    (kcSignature : PySem.W.keepIn K (.ref ad.c_Signature) = true)
    (suSignature_NoneType : PySem.W.subIn K (.type "NoneType") (.ref ad.c_Signature) = some false)
    (suSignature_tuple : PySem.W.subIn K (.type "tuple") (.ref ad.c_Signature) = some false)
    (suSignature_str : PySem.W.subIn K (.type "str") (.ref ad.c_Signature) = some false)
    (suSignature_int : PySem.W.subIn K (.type "int") (.ref ad.c_Signature) = some false)
    (suSignature_list : PySem.W.subIn K (.type "list") (.ref ad.c_Signature) = some false)
    (suSignature_bool : PySem.W.subIn K (.type "bool") (.ref ad.c_Signature) = some false)
    (suSignature_dict : PySem.W.subIn K (.type "dict") (.ref ad.c_Signature) = some false)
    (neSignature : PySem.W.findIn K (.ref ad.c_Signature) "__ne__" = some (some (.builtin "object.__ne__")))
    (nSignature_book : PySem.W.findIn K (.ref ad.c_Signature) "_book" = some none)
    (nSignature_letters : PySem.W.findIn K (.ref ad.c_Signature) "_letters" = some none)
    (nSignature_key : PySem.W.findIn K (.ref ad.c_Signature) "_key" = some none)
    (sfSignature : PySem.W.selfFirst K ad.c_Signature = true)
    (st3 : ((fo_str.isSome && !isSeqSlot fo_str) || (ro_str.isSome && !isSeqSlot ro_str)) = false)
    (rdSignature : PySem.W.readsIn K ad.c_Signature (.type "type") = true)
    (gaSignature : PySem.W.specialIn K (.ref ad.c_Signature) "__getattribute__" = some (some (.builtin "type.__getattribute__")))
    (cv_Signature_MARK : PySem.W.findCls K (.ref ad.c_Signature) (.type "type") "MARK" = some (.val cu_Signature_MARK))
    (cr_Signature_MARK : RelV (.str "...") cu_Signature_MARK)
    (ga_LONGEST_NAME : PySem.W.nsIn K mainGlobals "LONGEST_NAME" = some (some u_LONGEST_NAME))
    (v_LONGEST_NAME : RelV (.int 8) u_LONGEST_NAME)
    (ga_NAME_LETTERS : PySem.W.nsIn K mainGlobals "NAME_LETTERS" = some (some u_NAME_LETTERS))
    (v_NAME_LETTERS : RelV (.str "abcdefghijklmnopqrstuvwxyz") u_NAME_LETTERS)
    (ga_GROUPS : PySem.W.nsIn K mainGlobals "GROUPS" = some (some (.ref ad.a_GROUPS)))
    (o_GROUPS : K.lookup ad.a_GROUPS = some ⟨.type "tuple", none, .seq itGROUPS ntGROUPS, slGROUPS⟩)
    (v_GROUPS : Vals [.str "whole", .str "float"] itGROUPS.toList)
    (ga_ALIGNMENTS : PySem.W.nsIn K mainGlobals "ALIGNMENTS" = some (some (.ref ad.a_ALIGNMENTS)))
    (o_ALIGNMENTS : K.lookup ad.a_ALIGNMENTS = some ⟨.type "tuple", none, .seq itALIGNMENTS ntALIGNMENTS, slALIGNMENTS⟩)
    (v_ALIGNMENTS : Vals [.int 1, .int 2, .int 4, .int 8, .int 16] itALIGNMENTS.toList)
    (ga_SIZES : PySem.W.nsIn K mainGlobals "SIZES" = some (some (.ref ad.a_SIZES)))
    (o_SIZES : K.lookup ad.a_SIZES = some ⟨.type "tuple", none, .seq itSIZES ntSIZES, slSIZES⟩)
    (v_SIZES : Vals [.int 1, .int 2, .int 4, .int 8, .int 16] itSIZES.toList)
    (ga_DOUBLE_SIZE : PySem.W.nsIn K mainGlobals "DOUBLE_SIZE" = some (some u_DOUBLE_SIZE))
    (v_DOUBLE_SIZE : RelV (.int 16) u_DOUBLE_SIZE)
    (ga_LEAST_WIDTH : PySem.W.nsIn K mainGlobals "LEAST_WIDTH" = some (some u_LEAST_WIDTH))
    (v_LEAST_WIDTH : RelV (.int 2) u_LEAST_WIDTH)
    (ga_LEAST_DOUBLE_WIDTH : PySem.W.nsIn K mainGlobals "LEAST_DOUBLE_WIDTH" = some (some u_LEAST_DOUBLE_WIDTH))
    (v_LEAST_DOUBLE_WIDTH : RelV (.int 65) u_LEAST_DOUBLE_WIDTH)
    (ga_MOST_KINDS : PySem.W.nsIn K mainGlobals "MOST_KINDS" = some (some u_MOST_KINDS))
    (v_MOST_KINDS : RelV (.int 5) u_MOST_KINDS)
    (ga_MOST_LETTERS : PySem.W.nsIn K mainGlobals "MOST_LETTERS" = some (some u_MOST_LETTERS))
    (v_MOST_LETTERS : RelV (.int 1000) u_MOST_LETTERS)
    (b_ArithmeticError : PySem.W.nsIn K mainGlobals "ArithmeticError" = some none)
    (b_LookupError : PySem.W.nsIn K mainGlobals "LookupError" = some none)
    (b_NotImplemented : PySem.W.nsIn K mainGlobals "NotImplemented" = some none)
    (b_RuntimeError : PySem.W.nsIn K mainGlobals "RuntimeError" = some none)
    (b_TypeError : PySem.W.nsIn K mainGlobals "TypeError" = some none)
    (b_ValueError : PySem.W.nsIn K mainGlobals "ValueError" = some none)
    (b_abs : PySem.W.nsIn K mainGlobals "abs" = some none)
    (b_all : PySem.W.nsIn K mainGlobals "all" = some none)
    (b_any : PySem.W.nsIn K mainGlobals "any" = some none)
    (b_bool : PySem.W.nsIn K mainGlobals "bool" = some none)
    (b_divmod : PySem.W.nsIn K mainGlobals "divmod" = some none)
    (b_enumerate : PySem.W.nsIn K mainGlobals "enumerate" = some none)
    (b_int : PySem.W.nsIn K mainGlobals "int" = some none)
    (b_isinstance : PySem.W.nsIn K mainGlobals "isinstance" = some none)
    (b_len : PySem.W.nsIn K mainGlobals "len" = some none)
    (b_list : PySem.W.nsIn K mainGlobals "list" = some none)
    (b_max : PySem.W.nsIn K mainGlobals "max" = some none)
    (b_min : PySem.W.nsIn K mainGlobals "min" = some none)
    (b_property : PySem.W.nsIn K mainGlobals "property" = some none)
    (b_range : PySem.W.nsIn K mainGlobals "range" = some none)
    (b_repr : PySem.W.nsIn K mainGlobals "repr" = some none)
    (b_str : PySem.W.nsIn K mainGlobals "str" = some none)
    (b_tuple : PySem.W.nsIn K mainGlobals "tuple" = some none)
    (b_zip : PySem.W.nsIn K mainGlobals "zip" = some none)
    (a_is_integer : PySem.W.nsIn K mainGlobals "is_integer" = some (some (.ref f_is_integer)))
    (l_is_integer : K.lookup f_is_integer = some ⟨oc_is_integer, od_is_integer, .func (PySem.W.fnOf "is_integer" "is_integer" (defArgs st_is_integer) (defBody st_is_integer) (defScope st_is_integer) .none kV_is_integer dc_is_integer pm_is_integer an_is_integer cd_is_integer ct_is_integer), sl_is_integer⟩)
    (c_is_integer : PySem.W.codeIn K cd_is_integer "is_integer" = true)
    (k_is_integer : PySem.W.keepIn K (.ref f_is_integer) = true)
    (a_is_count : PySem.W.nsIn K mainGlobals "is_count" = some (some (.ref f_is_count)))
    (l_is_count : K.lookup f_is_count = some ⟨oc_is_count, od_is_count, .func (PySem.W.fnOf "is_count" "is_count" (defArgs st_is_count) (defBody st_is_count) (defScope st_is_count) .none kV_is_count dc_is_count pm_is_count an_is_count cd_is_count ct_is_count), sl_is_count⟩)
    (c_is_count : PySem.W.codeIn K cd_is_count "is_count" = true)
    (k_is_count : PySem.W.keepIn K (.ref f_is_count) = true)
    (a_is_between : PySem.W.nsIn K mainGlobals "is_between" = some (some (.ref f_is_between)))
    (l_is_between : K.lookup f_is_between = some ⟨oc_is_between, od_is_between, .func (PySem.W.fnOf "is_between" "is_between" (defArgs st_is_between) (defBody st_is_between) (defScope st_is_between) .none kV_is_between dc_is_between pm_is_between an_is_between cd_is_between ct_is_between), sl_is_between⟩)
    (c_is_between : PySem.W.codeIn K cd_is_between "is_between" = true)
    (k_is_between : PySem.W.keepIn K (.ref f_is_between) = true)
    (a_is_one_of : PySem.W.nsIn K mainGlobals "is_one_of" = some (some (.ref f_is_one_of)))
    (l_is_one_of : K.lookup f_is_one_of = some ⟨oc_is_one_of, od_is_one_of, .func (PySem.W.fnOf "is_one_of" "is_one_of" (defArgs st_is_one_of) (defBody st_is_one_of) (defScope st_is_one_of) .none kV_is_one_of dc_is_one_of pm_is_one_of an_is_one_of cd_is_one_of ct_is_one_of), sl_is_one_of⟩)
    (c_is_one_of : PySem.W.codeIn K cd_is_one_of "is_one_of" = true)
    (k_is_one_of : PySem.W.keepIn K (.ref f_is_one_of) = true)
    (a_is_word_of : PySem.W.nsIn K mainGlobals "is_word_of" = some (some (.ref f_is_word_of)))
    (l_is_word_of : K.lookup f_is_word_of = some ⟨oc_is_word_of, od_is_word_of, .func (PySem.W.fnOf "is_word_of" "is_word_of" (defArgs st_is_word_of) (defBody st_is_word_of) (defScope st_is_word_of) .none kV_is_word_of dc_is_word_of pm_is_word_of an_is_word_of cd_is_word_of ct_is_word_of), sl_is_word_of⟩)
    (c_is_word_of : PySem.W.codeIn K cd_is_word_of "is_word_of" = true)
    (k_is_word_of : PySem.W.keepIn K (.ref f_is_word_of) = true)
    (a_is_name : PySem.W.nsIn K mainGlobals "is_name" = some (some (.ref f_is_name)))
    (l_is_name : K.lookup f_is_name = some ⟨oc_is_name, od_is_name, .func (PySem.W.fnOf "is_name" "is_name" (defArgs st_is_name) (defBody st_is_name) (defScope st_is_name) .none kV_is_name dc_is_name pm_is_name an_is_name cd_is_name ct_is_name), sl_is_name⟩)
    (c_is_name : PySem.W.codeIn K cd_is_name "is_name" = true)
    (k_is_name : PySem.W.keepIn K (.ref f_is_name) = true)
    (a_Kind_init : PySem.W.findIn K (.ref ad.c_Kind) "__init__" = some (some (.ref f_Kind_init)))
    (i_Kind_init : PySem.W.isFn K (.ref f_Kind_init) = true)
    (l_Kind_init : K.lookup f_Kind_init = some ⟨oc_Kind_init, od_Kind_init, .func (PySem.W.fnOf "__init__" "Kind.__init__" (defArgs st_Kind_init) (defBody st_Kind_init) (defScope st_Kind_init) (.ref T0_Kind) (.ref D0_Kind) dc_Kind_init pm_Kind_init an_Kind_init cd_Kind_init ct_Kind_init), sl_Kind_init⟩)
    (c_Kind_init : PySem.W.codeIn K cd_Kind_init "Kind.__init__" = true)
    (k_Kind_init : PySem.W.keepIn K (.ref f_Kind_init) = true)
    (tO_Kind : K.lookup T0_Kind = some ⟨ocT_Kind, odT_Kind, .seq itT_Kind nT_Kind, slT_Kind⟩)
    (vT_Kind : Vals [.str "whole"] itT_Kind.toList)
    (kq_Kind_size : PySem.W.nsIn K D0_Kind "size" = some (some uk_Kind_size))
    (kr_Kind_size : RelV (.int 8) uk_Kind_size)
    (kq_Kind_width : PySem.W.nsIn K D0_Kind "width" = some (some uk_Kind_width))
    (kr_Kind_width : RelV (.non) uk_Kind_width)
    (kq_Kind_align : PySem.W.nsIn K D0_Kind "align" = some (some uk_Kind_align))
    (kr_Kind_align : RelV (.non) uk_Kind_align)
    (a_Kind_name : PySem.W.findIn K (.ref ad.c_Kind) "name" = some (some (.ref p_Kind_name)))
    (g_Kind_name : PySem.W.specialIn K (.ref p_Kind_name) "__get__" = some (some (.builtin "property.__get__")))
    (t_Kind_name : PySem.W.takesIn K (.ref p_Kind_name) = some true)
    (r_Kind_name : PySem.W.recIn K p_Kind_name "property" = some (.ref f_Kind_name :: re_Kind_name))
    (l_Kind_name : K.lookup f_Kind_name = some ⟨oc_Kind_name, od_Kind_name, .func (PySem.W.fnOf "name" "Kind.name" (defArgs st_Kind_name) (defBody st_Kind_name) (defScope st_Kind_name) .none kV_Kind_name dc_Kind_name pm_Kind_name an_Kind_name cd_Kind_name ct_Kind_name), sl_Kind_name⟩)
    (c_Kind_name : PySem.W.codeIn K cd_Kind_name "Kind.name" = true)
    (k_Kind_name : PySem.W.keepIn K (.ref f_Kind_name) = true)
    (a_Kind_parts : PySem.W.findIn K (.ref ad.c_Kind) "parts" = some (some (.ref f_Kind_parts)))
    (i_Kind_parts : PySem.W.isFn K (.ref f_Kind_parts) = true)
    (l_Kind_parts : K.lookup f_Kind_parts = some ⟨oc_Kind_parts, od_Kind_parts, .func (PySem.W.fnOf "parts" "Kind.parts" (defArgs st_Kind_parts) (defBody st_Kind_parts) (defScope st_Kind_parts) .none kV_Kind_parts dc_Kind_parts pm_Kind_parts an_Kind_parts cd_Kind_parts ct_Kind_parts), sl_Kind_parts⟩)
    (c_Kind_parts : PySem.W.codeIn K cd_Kind_parts "Kind.parts" = true)
    (k_Kind_parts : PySem.W.keepIn K (.ref f_Kind_parts) = true)
    (a_Book_init : PySem.W.findIn K (.ref ad.c_Book) "__init__" = some (some (.ref f_Book_init)))
    (i_Book_init : PySem.W.isFn K (.ref f_Book_init) = true)
    (l_Book_init : K.lookup f_Book_init = some ⟨oc_Book_init, od_Book_init, .func (PySem.W.fnOf "__init__" "Book.__init__" (defArgs st_Book_init) (defBody st_Book_init) (defScope st_Book_init) .none kV_Book_init dc_Book_init pm_Book_init an_Book_init cd_Book_init ct_Book_init), sl_Book_init⟩)
    (c_Book_init : PySem.W.codeIn K cd_Book_init "Book.__init__" = true)
    (k_Book_init : PySem.W.keepIn K (.ref f_Book_init) = true)
    (a_Book_names : PySem.W.findIn K (.ref ad.c_Book) "names" = some (some (.ref f_Book_names)))
    (i_Book_names : PySem.W.isFn K (.ref f_Book_names) = true)
    (l_Book_names : K.lookup f_Book_names = some ⟨oc_Book_names, od_Book_names, .func (PySem.W.fnOf "names" "Book.names" (defArgs st_Book_names) (defBody st_Book_names) (defScope st_Book_names) .none kV_Book_names dc_Book_names pm_Book_names an_Book_names cd_Book_names ct_Book_names), sl_Book_names⟩)
    (c_Book_names : PySem.W.codeIn K cd_Book_names "Book.names" = true)
    (k_Book_names : PySem.W.keepIn K (.ref f_Book_names) = true)
    (a_Book_parts : PySem.W.findIn K (.ref ad.c_Book) "parts" = some (some (.ref f_Book_parts)))
    (i_Book_parts : PySem.W.isFn K (.ref f_Book_parts) = true)
    (l_Book_parts : K.lookup f_Book_parts = some ⟨oc_Book_parts, od_Book_parts, .func (PySem.W.fnOf "parts" "Book.parts" (defArgs st_Book_parts) (defBody st_Book_parts) (defScope st_Book_parts) .none kV_Book_parts dc_Book_parts pm_Book_parts an_Book_parts cd_Book_parts ct_Book_parts), sl_Book_parts⟩)
    (c_Book_parts : PySem.W.codeIn K cd_Book_parts "Book.parts" = true)
    (k_Book_parts : PySem.W.keepIn K (.ref f_Book_parts) = true)
    (a_Book_add : PySem.W.findIn K (.ref ad.c_Book) "__add__" = some (some (.ref f_Book_add)))
    (i_Book_add : PySem.W.isFn K (.ref f_Book_add) = true)
    (l_Book_add : K.lookup f_Book_add = some ⟨oc_Book_add, od_Book_add, .func (PySem.W.fnOf "__add__" "Book.__add__" (defArgs st_Book_add) (defBody st_Book_add) (defScope st_Book_add) .none kV_Book_add dc_Book_add pm_Book_add an_Book_add cd_Book_add ct_Book_add), sl_Book_add⟩)
    (c_Book_add : PySem.W.codeIn K cd_Book_add "Book.__add__" = true)
    (k_Book_add : PySem.W.keepIn K (.ref f_Book_add) = true)
    (a_first_wrong_letter : PySem.W.nsIn K mainGlobals "first_wrong_letter" = some (some (.ref f_first_wrong_letter)))
    (l_first_wrong_letter : K.lookup f_first_wrong_letter = some ⟨oc_first_wrong_letter, od_first_wrong_letter, .func (PySem.W.fnOf "first_wrong_letter" "first_wrong_letter" (defArgs st_first_wrong_letter) (defBody st_first_wrong_letter) (defScope st_first_wrong_letter) .none kV_first_wrong_letter dc_first_wrong_letter pm_first_wrong_letter an_first_wrong_letter cd_first_wrong_letter ct_first_wrong_letter), sl_first_wrong_letter⟩)
    (c_first_wrong_letter : PySem.W.codeIn K cd_first_wrong_letter "first_wrong_letter" = true)
    (k_first_wrong_letter : PySem.W.keepIn K (.ref f_first_wrong_letter) = true)
    (a_Signature_init : PySem.W.findIn K (.ref ad.c_Signature) "__init__" = some (some (.ref f_Signature_init)))
    (i_Signature_init : PySem.W.isFn K (.ref f_Signature_init) = true)
    (l_Signature_init : K.lookup f_Signature_init = some ⟨oc_Signature_init, od_Signature_init, .func (PySem.W.fnOf "__init__" "Signature.__init__" (defArgs st_Signature_init) (defBody st_Signature_init) (defScope st_Signature_init) .none kV_Signature_init dc_Signature_init pm_Signature_init an_Signature_init cd_Signature_init ct_Signature_init), sl_Signature_init⟩)
    (c_Signature_init : PySem.W.codeIn K cd_Signature_init "Signature.__init__" = true)
    (k_Signature_init : PySem.W.keepIn K (.ref f_Signature_init) = true)
    (a_Signature_letters : PySem.W.findIn K (.ref ad.c_Signature) "letters" = some (some (.ref f_Signature_letters)))
    (i_Signature_letters : PySem.W.isFn K (.ref f_Signature_letters) = true)
    (l_Signature_letters : K.lookup f_Signature_letters = some ⟨oc_Signature_letters, od_Signature_letters, .func (PySem.W.fnOf "letters" "Signature.letters" (defArgs st_Signature_letters) (defBody st_Signature_letters) (defScope st_Signature_letters) .none kV_Signature_letters dc_Signature_letters pm_Signature_letters an_Signature_letters cd_Signature_letters ct_Signature_letters), sl_Signature_letters⟩)
    (c_Signature_letters : PySem.W.codeIn K cd_Signature_letters "Signature.letters" = true)
    (k_Signature_letters : PySem.W.keepIn K (.ref f_Signature_letters) = true)
    (a_Signature_add : PySem.W.findIn K (.ref ad.c_Signature) "__add__" = some (some (.ref f_Signature_add)))
    (i_Signature_add : PySem.W.isFn K (.ref f_Signature_add) = true)
    (l_Signature_add : K.lookup f_Signature_add = some ⟨oc_Signature_add, od_Signature_add, .func (PySem.W.fnOf "__add__" "Signature.__add__" (defArgs st_Signature_add) (defBody st_Signature_add) (defScope st_Signature_add) .none kV_Signature_add dc_Signature_add pm_Signature_add an_Signature_add cd_Signature_add ct_Signature_add), sl_Signature_add⟩)
    (c_Signature_add : PySem.W.codeIn K cd_Signature_add "Signature.__add__" = true)
    (k_Signature_add : PySem.W.keepIn K (.ref f_Signature_add) = true)
    (a_Signature_radd : PySem.W.findIn K (.ref ad.c_Signature) "__radd__" = some (some (.ref f_Signature_radd)))
    (i_Signature_radd : PySem.W.isFn K (.ref f_Signature_radd) = true)
    (l_Signature_radd : K.lookup f_Signature_radd = some ⟨oc_Signature_radd, od_Signature_radd, .func (PySem.W.fnOf "__radd__" "Signature.__radd__" (defArgs st_Signature_radd) (defBody st_Signature_radd) (defScope st_Signature_radd) .none kV_Signature_radd dc_Signature_radd pm_Signature_radd an_Signature_radd cd_Signature_radd ct_Signature_radd), sl_Signature_radd⟩)
    (c_Signature_radd : PySem.W.codeIn K cd_Signature_radd "Signature.__radd__" = true)
    (k_Signature_radd : PySem.W.keepIn K (.ref f_Signature_radd) = true)
    (a_Signature_lt : PySem.W.findIn K (.ref ad.c_Signature) "__lt__" = some (some (.ref f_Signature_lt)))
    (i_Signature_lt : PySem.W.isFn K (.ref f_Signature_lt) = true)
    (l_Signature_lt : K.lookup f_Signature_lt = some ⟨oc_Signature_lt, od_Signature_lt, .func (PySem.W.fnOf "__lt__" "Signature.__lt__" (defArgs st_Signature_lt) (defBody st_Signature_lt) (defScope st_Signature_lt) .none kV_Signature_lt dc_Signature_lt pm_Signature_lt an_Signature_lt cd_Signature_lt ct_Signature_lt), sl_Signature_lt⟩)
    (c_Signature_lt : PySem.W.codeIn K cd_Signature_lt "Signature.__lt__" = true)
    (k_Signature_lt : PySem.W.keepIn K (.ref f_Signature_lt) = true)
    (a_Signature_le : PySem.W.findIn K (.ref ad.c_Signature) "__le__" = some (some (.ref f_Signature_le)))
    (i_Signature_le : PySem.W.isFn K (.ref f_Signature_le) = true)
    (l_Signature_le : K.lookup f_Signature_le = some ⟨oc_Signature_le, od_Signature_le, .func (PySem.W.fnOf "__le__" "Signature.__le__" (defArgs st_Signature_le) (defBody st_Signature_le) (defScope st_Signature_le) .none kV_Signature_le dc_Signature_le pm_Signature_le an_Signature_le cd_Signature_le ct_Signature_le), sl_Signature_le⟩)
    (c_Signature_le : PySem.W.codeIn K cd_Signature_le "Signature.__le__" = true)
    (k_Signature_le : PySem.W.keepIn K (.ref f_Signature_le) = true)
    (a_Signature_gt : PySem.W.findIn K (.ref ad.c_Signature) "__gt__" = some (some (.ref f_Signature_gt)))
    (i_Signature_gt : PySem.W.isFn K (.ref f_Signature_gt) = true)
    (l_Signature_gt : K.lookup f_Signature_gt = some ⟨oc_Signature_gt, od_Signature_gt, .func (PySem.W.fnOf "__gt__" "Signature.__gt__" (defArgs st_Signature_gt) (defBody st_Signature_gt) (defScope st_Signature_gt) .none kV_Signature_gt dc_Signature_gt pm_Signature_gt an_Signature_gt cd_Signature_gt ct_Signature_gt), sl_Signature_gt⟩)
    (c_Signature_gt : PySem.W.codeIn K cd_Signature_gt "Signature.__gt__" = true)
    (k_Signature_gt : PySem.W.keepIn K (.ref f_Signature_gt) = true)
    (a_Signature_ge : PySem.W.findIn K (.ref ad.c_Signature) "__ge__" = some (some (.ref f_Signature_ge)))
    (i_Signature_ge : PySem.W.isFn K (.ref f_Signature_ge) = true)
    (l_Signature_ge : K.lookup f_Signature_ge = some ⟨oc_Signature_ge, od_Signature_ge, .func (PySem.W.fnOf "__ge__" "Signature.__ge__" (defArgs st_Signature_ge) (defBody st_Signature_ge) (defScope st_Signature_ge) .none kV_Signature_ge dc_Signature_ge pm_Signature_ge an_Signature_ge cd_Signature_ge ct_Signature_ge), sl_Signature_ge⟩)
    (c_Signature_ge : PySem.W.codeIn K cd_Signature_ge "Signature.__ge__" = true)
    (k_Signature_ge : PySem.W.keepIn K (.ref f_Signature_ge) = true)
    (a_Signature_eq : PySem.W.findIn K (.ref ad.c_Signature) "__eq__" = some (some (.ref f_Signature_eq)))
    (i_Signature_eq : PySem.W.isFn K (.ref f_Signature_eq) = true)
    (l_Signature_eq : K.lookup f_Signature_eq = some ⟨oc_Signature_eq, od_Signature_eq, .func (PySem.W.fnOf "__eq__" "Signature.__eq__" (defArgs st_Signature_eq) (defBody st_Signature_eq) (defScope st_Signature_eq) .none kV_Signature_eq dc_Signature_eq pm_Signature_eq an_Signature_eq cd_Signature_eq ct_Signature_eq), sl_Signature_eq⟩)
    (c_Signature_eq : PySem.W.codeIn K cd_Signature_eq "Signature.__eq__" = true)
    (k_Signature_eq : PySem.W.keepIn K (.ref f_Signature_eq) = true)
    (a_l_draw : PySem.W.nsIn K mainGlobals "_law_draw" = some (some (.ref f_l_draw)))
    (l_l_draw : K.lookup f_l_draw = some ⟨oc_l_draw, od_l_draw, .func (PySem.W.fnOf "_law_draw" "_law_draw" (defArgs st_l_draw) (defBody st_l_draw) (defScope st_l_draw) .none kV_l_draw dc_l_draw pm_l_draw an_l_draw cd_l_draw ct_l_draw), sl_l_draw⟩)
    (c_l_draw : PySem.W.codeIn K cd_l_draw "_law_draw" = true)
    (k_l_draw : PySem.W.keepIn K (.ref f_l_draw) = true)
    (a_l_pick : PySem.W.nsIn K mainGlobals "_law_pick" = some (some (.ref f_l_pick)))
    (l_l_pick : K.lookup f_l_pick = some ⟨oc_l_pick, od_l_pick, .func (PySem.W.fnOf "_law_pick" "_law_pick" (defArgs st_l_pick) (defBody st_l_pick) (defScope st_l_pick) .none kV_l_pick dc_l_pick pm_l_pick an_l_pick cd_l_pick ct_l_pick), sl_l_pick⟩)
    (c_l_pick : PySem.W.codeIn K cd_l_pick "_law_pick" = true)
    (k_l_pick : PySem.W.keepIn K (.ref f_l_pick) = true)
    (a_l_pot : PySem.W.nsIn K mainGlobals "_law_pot" = some (some (.ref f_l_pot)))
    (l_l_pot : K.lookup f_l_pot = some ⟨oc_l_pot, od_l_pot, .func (PySem.W.fnOf "_law_pot" "_law_pot" (defArgs st_l_pot) (defBody st_l_pot) (defScope st_l_pot) .none kV_l_pot dc_l_pot pm_l_pot an_l_pot cd_l_pot ct_l_pot), sl_l_pot⟩)
    (c_l_pot : PySem.W.codeIn K cd_l_pot "_law_pot" = true)
    (k_l_pot : PySem.W.keepIn K (.ref f_l_pot) = true)
    (a_l_row : PySem.W.nsIn K mainGlobals "_law_row" = some (some (.ref f_l_row)))
    (l_l_row : K.lookup f_l_row = some ⟨oc_l_row, od_l_row, .func (PySem.W.fnOf "_law_row" "_law_row" (defArgs st_l_row) (defBody st_l_row) (defScope st_l_row) .none kV_l_row dc_l_row pm_l_row an_l_row cd_l_row ct_l_row), sl_l_row⟩)
    (c_l_row : PySem.W.codeIn K cd_l_row "_law_row" = true)
    (k_l_row : PySem.W.keepIn K (.ref f_l_row) = true)
    (a_l_kind : PySem.W.nsIn K mainGlobals "_law_kind" = some (some (.ref f_l_kind)))
    (l_l_kind : K.lookup f_l_kind = some ⟨oc_l_kind, od_l_kind, .func (PySem.W.fnOf "_law_kind" "_law_kind" (defArgs st_l_kind) (defBody st_l_kind) (defScope st_l_kind) .none kV_l_kind dc_l_kind pm_l_kind an_l_kind cd_l_kind ct_l_kind), sl_l_kind⟩)
    (c_l_kind : PySem.W.codeIn K cd_l_kind "_law_kind" = true)
    (k_l_kind : PySem.W.keepIn K (.ref f_l_kind) = true)
    (a_l_named : PySem.W.nsIn K mainGlobals "_law_named" = some (some (.ref f_l_named)))
    (l_l_named : K.lookup f_l_named = some ⟨oc_l_named, od_l_named, .func (PySem.W.fnOf "_law_named" "_law_named" (defArgs st_l_named) (defBody st_l_named) (defScope st_l_named) .none kV_l_named dc_l_named pm_l_named an_l_named cd_l_named ct_l_named), sl_l_named⟩)
    (c_l_named : PySem.W.codeIn K cd_l_named "_law_named" = true)
    (k_l_named : PySem.W.keepIn K (.ref f_l_named) = true)
    (a_l_rows : PySem.W.nsIn K mainGlobals "_law_rows" = some (some (.ref f_l_rows)))
    (l_l_rows : K.lookup f_l_rows = some ⟨oc_l_rows, od_l_rows, .func (PySem.W.fnOf "_law_rows" "_law_rows" (defArgs st_l_rows) (defBody st_l_rows) (defScope st_l_rows) .none kV_l_rows dc_l_rows pm_l_rows an_l_rows cd_l_rows ct_l_rows), sl_l_rows⟩)
    (c_l_rows : PySem.W.codeIn K cd_l_rows "_law_rows" = true)
    (k_l_rows : PySem.W.keepIn K (.ref f_l_rows) = true)
    (a_l_book : PySem.W.nsIn K mainGlobals "_law_book" = some (some (.ref f_l_book)))
    (l_l_book : K.lookup f_l_book = some ⟨oc_l_book, od_l_book, .func (PySem.W.fnOf "_law_book" "_law_book" (defArgs st_l_book) (defBody st_l_book) (defScope st_l_book) .none kV_l_book dc_l_book pm_l_book an_l_book cd_l_book ct_l_book), sl_l_book⟩)
    (c_l_book : PySem.W.codeIn K cd_l_book "_law_book" = true)
    (k_l_book : PySem.W.keepIn K (.ref f_l_book) = true)
    (a_l_spelled : PySem.W.nsIn K mainGlobals "_law_spelled" = some (some (.ref f_l_spelled)))
    (l_l_spelled : K.lookup f_l_spelled = some ⟨oc_l_spelled, od_l_spelled, .func (PySem.W.fnOf "_law_spelled" "_law_spelled" (defArgs st_l_spelled) (defBody st_l_spelled) (defScope st_l_spelled) .none kV_l_spelled dc_l_spelled pm_l_spelled an_l_spelled cd_l_spelled ct_l_spelled), sl_l_spelled⟩)
    (c_l_spelled : PySem.W.codeIn K cd_l_spelled "_law_spelled" = true)
    (k_l_spelled : PySem.W.keepIn K (.ref f_l_spelled) = true)
    (a_l_letters : PySem.W.nsIn K mainGlobals "_law_letters" = some (some (.ref f_l_letters)))
    (l_l_letters : K.lookup f_l_letters = some ⟨oc_l_letters, od_l_letters, .func (PySem.W.fnOf "_law_letters" "_law_letters" (defArgs st_l_letters) (defBody st_l_letters) (defScope st_l_letters) .none kV_l_letters dc_l_letters pm_l_letters an_l_letters cd_l_letters ct_l_letters), sl_l_letters⟩)
    (c_l_letters : PySem.W.codeIn K cd_l_letters "_law_letters" = true)
    (k_l_letters : PySem.W.keepIn K (.ref f_l_letters) = true)
    (a_l_near : PySem.W.nsIn K mainGlobals "_law_near" = some (some (.ref f_l_near)))
    (l_l_near : K.lookup f_l_near = some ⟨oc_l_near, od_l_near, .func (PySem.W.fnOf "_law_near" "_law_near" (defArgs st_l_near) (defBody st_l_near) (defScope st_l_near) .none kV_l_near dc_l_near pm_l_near an_l_near cd_l_near ct_l_near), sl_l_near⟩)
    (c_l_near : PySem.W.codeIn K cd_l_near "_law_near" = true)
    (k_l_near : PySem.W.keepIn K (.ref f_l_near) = true)
    (a_l_place : PySem.W.nsIn K mainGlobals "_law_place" = some (some (.ref f_l_place)))
    (l_l_place : K.lookup f_l_place = some ⟨oc_l_place, od_l_place, .func (PySem.W.fnOf "_law_place" "_law_place" (defArgs st_l_place) (defBody st_l_place) (defScope st_l_place) .none kV_l_place dc_l_place pm_l_place an_l_place cd_l_place ct_l_place), sl_l_place⟩)
    (c_l_place : PySem.W.codeIn K cd_l_place "_law_place" = true)
    (k_l_place : PySem.W.keepIn K (.ref f_l_place) = true)
    (a_l_pair_right : PySem.W.nsIn K mainGlobals "_law_pair_right" = some (some (.ref f_l_pair_right)))
    (l_l_pair_right : K.lookup f_l_pair_right = some ⟨oc_l_pair_right, od_l_pair_right, .func (PySem.W.fnOf "_law_pair_right" "_law_pair_right" (defArgs st_l_pair_right) (defBody st_l_pair_right) (defScope st_l_pair_right) .none kV_l_pair_right dc_l_pair_right pm_l_pair_right an_l_pair_right cd_l_pair_right ct_l_pair_right), sl_l_pair_right⟩)
    (c_l_pair_right : PySem.W.codeIn K cd_l_pair_right "_law_pair_right" = true)
    (k_l_pair_right : PySem.W.keepIn K (.ref f_l_pair_right) = true)
    (a_l_sorted : PySem.W.nsIn K mainGlobals "_law_sorted" = some (some (.ref f_l_sorted)))
    (l_l_sorted : K.lookup f_l_sorted = some ⟨oc_l_sorted, od_l_sorted, .func (PySem.W.fnOf "_law_sorted" "_law_sorted" (defArgs st_l_sorted) (defBody st_l_sorted) (defScope st_l_sorted) .none kV_l_sorted dc_l_sorted pm_l_sorted an_l_sorted cd_l_sorted ct_l_sorted), sl_l_sorted⟩)
    (c_l_sorted : PySem.W.codeIn K cd_l_sorted "_law_sorted" = true)
    (k_l_sorted : PySem.W.keepIn K (.ref f_l_sorted) = true)
    (a_l_right : PySem.W.nsIn K mainGlobals "_law_right" = some (some (.ref f_l_right)))
    (l_l_right : K.lookup f_l_right = some ⟨oc_l_right, od_l_right, .func (PySem.W.fnOf "_law_right" "_law_right" (defArgs st_l_right) (defBody st_l_right) (defScope st_l_right) .none kV_l_right dc_l_right pm_l_right an_l_right cd_l_right ct_l_right), sl_l_right⟩)
    (c_l_right : PySem.W.codeIn K cd_l_right "_law_right" = true)
    (k_l_right : PySem.W.keepIn K (.ref f_l_right) = true)
    (l_law : K.lookup f_law = some ⟨oc_law, od_law, .func (PySem.W.fnOf "law" "law" (defArgs st_law) (defBody st_law) (defScope st_law) .none kV_law dc_law pm_law an_law cd_law ct_law), sl_law⟩)
    (c_law : PySem.W.codeIn K cd_law "law" = true)
    (k_law : PySem.W.keepIn K (.ref f_law) = true) :
    ∃ fd : FuncData, (∀ (s : Shared) (v : Value), BindsTo s fd ⟨[v], []⟩ [("_law_script", v)]) ∧ ∀ base : Heap, K.In base → base.Ns mainGlobals mg → FnG l.prog w K mg base 8 f_law fd ["_law_script"] (spLaw K) := by
  refine ⟨PySem.W.fnOf "law" "law" (defArgs st_law) (defBody st_law) (defScope st_law) .none kV_law dc_law pm_law an_law cd_law ct_law, fun s v => .of_eq rfl, fun base _ _ => ?_⟩
  have cl_Kind : Cls K ad.c_Kind := ⟨pgKind, hdKind, poKind, saKind⟩
  have cl_Book : Cls K ad.c_Book := ⟨pgBook, hdBook, poBook, saBook⟩
  have cl_Signature : Cls K ad.c_Signature := ⟨pgSignature, hdSignature, poSignature, saSignature⟩
  have B : Bi mg := ⟨PySem.W.mg_none_of X G b_ArithmeticError, PySem.W.mg_none_of X G b_LookupError, PySem.W.mg_none_of X G b_NotImplemented, PySem.W.mg_none_of X G b_RuntimeError, PySem.W.mg_none_of X G b_TypeError, PySem.W.mg_none_of X G b_ValueError, PySem.W.mg_none_of X G b_abs, PySem.W.mg_none_of X G b_all, PySem.W.mg_none_of X G b_any, PySem.W.mg_none_of X G b_bool, PySem.W.mg_none_of X G b_divmod, PySem.W.mg_none_of X G b_enumerate, PySem.W.mg_none_of X G b_int, PySem.W.mg_none_of X G b_isinstance, PySem.W.mg_none_of X G b_len, PySem.W.mg_none_of X G b_list, PySem.W.mg_none_of X G b_max, PySem.W.mg_none_of X G b_min, PySem.W.mg_none_of X G b_property, PySem.W.mg_none_of X G b_range, PySem.W.mg_none_of X G b_repr, PySem.W.mg_none_of X G b_str, PySem.W.mg_none_of X G b_tuple, PySem.W.mg_none_of X G b_zip⟩
  have szGROUPS : itGROUPS.toList.length ≤ sizeLine := by have := v_GROUPS.length; rw [← this]; exact line_ge (by show 2 ≤ 16000000; decide)
  have szALIGNMENTS : itALIGNMENTS.toList.length ≤ sizeLine := by have := v_ALIGNMENTS.length; rw [← this]; exact line_ge (by show 5 ≤ 16000000; decide)
  have szSIZES : itSIZES.toList.length ≤ sizeLine := by have := v_SIZES.length; rw [← this]; exact line_ge (by show 5 ≤ 16000000; decide)
  have T : Txt K mg ad := ⟨B, ⟨_, PySem.W.mg_of X G ga_LONGEST_NAME, v_LONGEST_NAME⟩, ⟨_, PySem.W.mg_of X G ga_NAME_LETTERS, v_NAME_LETTERS⟩, PySem.W.mg_of X G ga_GROUPS, fun H => .inr ⟨_, _, _, o_GROUPS, rfl, rfl, by rw [← Array.length_toList]; exact szGROUPS, v_GROUPS⟩, PySem.W.mg_of X G ga_ALIGNMENTS, fun H => .inr ⟨_, _, _, o_ALIGNMENTS, rfl, rfl, by rw [← Array.length_toList]; exact szALIGNMENTS, v_ALIGNMENTS⟩, PySem.W.mg_of X G ga_SIZES, fun H => .inr ⟨_, _, _, o_SIZES, rfl, rfl, by rw [← Array.length_toList]; exact szSIZES, v_SIZES⟩, ⟨_, PySem.W.mg_of X G ga_DOUBLE_SIZE, v_DOUBLE_SIZE⟩, ⟨_, PySem.W.mg_of X G ga_LEAST_WIDTH, v_LEAST_WIDTH⟩, ⟨_, PySem.W.mg_of X G ga_LEAST_DOUBLE_WIDTH, v_LEAST_DOUBLE_WIDTH⟩, ⟨_, PySem.W.mg_of X G ga_MOST_KINDS, v_MOST_KINDS⟩, ⟨_, PySem.W.mg_of X G ga_MOST_LETTERS, v_MOST_LETTERS⟩, ⟨_, ⟨rdSignature, gaSignature⟩, _, cv_Signature_MARK, cr_Signature_MARK⟩, PySem.W.mg_of X G g_Kind, ⟨cl_Kind, caKind, cn, ctk, cmKind⟩, ⟨⟨_, clKind, mrKind⟩, by rw [du_add]; exact cadKind, by rw [dr_add]; exact crdKind, by rw [du_add]; exact oad, by rw [dr_add]; exact ord_⟩, neKind, nKind_name, nKind_group, nKind_size, nKind_width, nKind_align, nKind_parts, (fun T hT => by
      simp only [List.mem_cons, List.not_mem_nil, or_false] at hT
      rcases hT with rfl | rfl | rfl | rfl | rfl | rfl | rfl
      · exact kt_of icKind tyKind suKind_NoneType
      · exact kt_of icKind tyKind suKind_tuple
      · exact kt_of icKind tyKind suKind_str
      · exact kt_of icKind tyKind suKind_int
      · exact kt_of icKind tyKind suKind_list
      · exact kt_of icKind tyKind suKind_bool
      · exact kt_of icKind tyKind suKind_dict), PySem.W.mg_of X G g_Book, ⟨cl_Book, caBook, cn, ctk, cmBook⟩, sfBook, ⟨sfBook, ⟨_, by rw [dr_add]; exact nrBook, .inl rfl⟩, ⟨_, by rw [du_add]; exact sta⟩, ⟨_, by rw [dr_add]; exact str_⟩, suBook_str⟩, neBook, nBook_kinds, nBook_names, nBook_parts, (fun T hT => by
      simp only [List.mem_cons, List.not_mem_nil, or_false] at hT
      rcases hT with rfl | rfl | rfl | rfl | rfl | rfl | rfl
      · exact kt_of icBook tyBook suBook_NoneType
      · exact kt_of icBook tyBook suBook_tuple
      · exact kt_of icBook tyBook suBook_str
      · exact kt_of icBook tyBook suBook_int
      · exact kt_of icBook tyBook suBook_list
      · exact kt_of icBook tyBook suBook_bool
      · exact kt_of icBook tyBook suBook_dict), PySem.W.mg_of X G g_Signature, ⟨cl_Signature, caSignature, cn, ctk, cmSignature⟩, sfSignature, ⟨sfSignature, ⟨_, by rw [dr_add]; exact a_Signature_radd, .inr ⟨_, rfl⟩⟩, ⟨_, by rw [du_add]; exact sta⟩, ⟨_, by rw [dr_add]; exact str_⟩, suSignature_str⟩, ⟨sfSignature, ⟨_, a_Signature_add⟩, ⟨_, _, by rw [du_add]; exact sta, by rw [dr_add]; exact str_, st3⟩⟩, neSignature, nSignature_book, nSignature_letters, nSignature_key, (fun T hT => by
      simp only [List.mem_cons, List.not_mem_nil, or_false] at hT
      rcases hT with rfl | rfl | rfl | rfl | rfl | rfl | rfl
      · exact kt_of icSignature tySignature suSignature_NoneType
      · exact kt_of icSignature tySignature suSignature_tuple
      · exact kt_of icSignature tySignature suSignature_str
      · exact kt_of icSignature tySignature suSignature_int
      · exact kt_of icSignature tySignature suSignature_list
      · exact kt_of icSignature tySignature suSignature_bool
      · exact kt_of icSignature tySignature suSignature_dict)⟩
  have nil_ : Vals ([] : List V) [] := .nil
  have F_is_integer := fun_mk (st := st_is_integer) l_is_integer c_is_integer k_is_integer
  have B_is_integer := F_is_integer.binds (ps := ["value"]) fun _ _ _ _ _ _ us hl => match us, hl with | [_], _ => rfl
  have h_c_is_integer : Cal l.prog w K mg base 1 "is_integer" spIsInt := ⟨_, _, _, ok_is_integer F_is_integer T , k_is_integer, B_is_integer, PySem.W.mg_of X G a_is_integer⟩
  have F_is_count := fun_mk (st := st_is_count) l_is_count c_is_count k_is_count
  have B_is_count := F_is_count.binds (ps := ["value"]) fun _ _ _ _ _ _ us hl => match us, hl with | [_], _ => rfl
  have h_c_is_count : Cal l.prog w K mg base 1 "is_count" spCount := ⟨_, _, _, ok_is_count F_is_count T , k_is_count, B_is_count, PySem.W.mg_of X G a_is_count⟩
  have F_is_between := fun_mk (st := st_is_between) l_is_between c_is_between k_is_between
  have B_is_between := F_is_between.binds (ps := ["value", "least", "most"]) fun _ _ _ _ _ _ us hl => match us, hl with | [_, _, _], _ => rfl
  have h_c_is_between : Cal l.prog w K mg base 1 "is_between" spBetw := ⟨_, _, _, ok_is_between F_is_between T , k_is_between, B_is_between, PySem.W.mg_of X G a_is_between⟩
  have F_is_one_of := fun_mk (st := st_is_one_of) l_is_one_of c_is_one_of k_is_one_of
  have B_is_one_of := F_is_one_of.binds (ps := ["value", "numbers"]) fun _ _ _ _ _ _ us hl => match us, hl with | [_, _], _ => rfl
  have h_c_is_one_of : Cal l.prog w K mg base 2 "is_one_of" (spOneOf K) := ⟨_, _, _, ok_is_one_of F_is_one_of T h_c_is_integer, k_is_one_of, B_is_one_of, PySem.W.mg_of X G a_is_one_of⟩
  have F_is_word_of := fun_mk (st := st_is_word_of) l_is_word_of c_is_word_of k_is_word_of
  have B_is_word_of := F_is_word_of.binds (ps := ["value", "words"]) fun _ _ _ _ _ _ us hl => match us, hl with | [_, _], _ => rfl
  have h_c_is_word_of : Cal l.prog w K mg base 1 "is_word_of" (spWordOf K) := ⟨_, _, _, ok_is_word_of F_is_word_of T , k_is_word_of, B_is_word_of, PySem.W.mg_of X G a_is_word_of⟩
  have F_is_name := fun_mk (st := st_is_name) l_is_name c_is_name k_is_name
  have B_is_name := F_is_name.binds (ps := ["value"]) fun _ _ _ _ _ _ us hl => match us, hl with | [_], _ => rfl
  have h_c_is_name : Cal l.prog w K mg base 1 "is_name" spName := ⟨_, _, _, ok_is_name F_is_name T , k_is_name, B_is_name, PySem.W.mg_of X G a_is_name⟩
  have F_Kind_init : FunD K "__init__" "Kind.__init__" (defArgs st_Kind_init) (defBody st_Kind_init) (defScope st_Kind_init) [.str "whole"] [("size", .int 8), ("width", .non), ("align", .non)] f_Kind_init _ := ⟨⟨_, _, _, _, _, _, _, _, _, _, rfl, l_Kind_init, c_Kind_init, .inr ⟨by simp, T0_Kind, _, itT_Kind.toList, nT_Kind, rfl, tO_Kind, by simp, vT_Kind⟩, .inr ⟨D0_Kind, rfl, fun q hq => by
      simp only [List.mem_cons, List.not_mem_nil, or_false] at hq
      rcases hq with rfl | rfl | rfl
      · exact ⟨_, kq_Kind_size, kr_Kind_size⟩
      · exact ⟨_, kq_Kind_width, kr_Kind_width⟩
      · exact ⟨_, kq_Kind_align, kr_Kind_align⟩⟩⟩, k_Kind_init⟩
  have O_Kind_init : FnOk l.prog w K mg base CX0 _ _ _ _ _ := ok_Kind_init F_Kind_init T h_c_is_name h_c_is_word_of h_c_is_one_of h_c_is_between
  have mk_Kind : Mk K ad.c_Kind f_Kind_init := ⟨mkKind, a_Kind_init, i_Kind_init, kcKind⟩
  obtain ⟨ki_h_m_Kind_2_size, kv_h_m_Kind_2_size, KB_h_m_Kind_2_size⟩ := F_Kind_init.kbinds (ps := ["self", "name", "group", "size", "width", "align"]) 3 ["size"] [("width", .non), ("align", .non)] (fun us ds mv ws => us ++ ws ++ mv) (by simp) (by simp) (by simp) (fun r1 r2 r3 r4 => (r1.append r4).append r3) (fun _ _ _ _ _ _ _ us its mv ws h1 h2 h3 h4 => match us, its, mv, ws, h1, h2, h3, h4 with | [a0, a1, a2], [b0], [c0, c1], [d0], _, _, _, _ => by (refine ⟨_, rfl, ?_⟩; refine ⟨_, _, _, _, _, _, rfl, rfl, ?_⟩; refine ⟨_, _, _, _, _, _, rfl, rfl, ?_⟩; rfl))
  have h_m_Kind_2_size : MakN l.prog w K mg base 3 "Kind" ad.c_Kind 2 ["size"] gKA (spKindI ad) := ⟨_, _, _, _, O_Kind_init, mk_Kind, PySem.W.mg_of X G g_Kind, KB_h_m_Kind_2_size⟩
  obtain ⟨ki_h_m_Kind_0_name_align_width_size, kv_h_m_Kind_0_name_align_width_size, KB_h_m_Kind_0_name_align_width_size⟩ := F_Kind_init.kbinds (ps := ["self", "name", "group", "size", "width", "align"]) 1 ["name", "align", "width", "size"] [] (fun us ds mv ws => gB us ds mv ws) (by simp) (by simp) (by simp) (fun r1 r2 r3 r4 => relB r1 r2 r3 r4) (fun _ _ _ _ _ _ _ us its mv ws h1 h2 h3 h4 => match us, its, mv, ws, h1, h2, h3, h4 with | [a0], [b0], [], [d0, d1, d2, d3], _, _, _, _ => by (refine ⟨_, rfl, ?_⟩; rfl))
  have h_m_Kind_0_name_align_width_size : MakK l.prog w K mg base 3 "Kind" ad.c_Kind ["name", "align", "width", "size"] gKB (spKindI ad) := ⟨_, _, _, _, O_Kind_init, mk_Kind, PySem.W.mg_of X G g_Kind, KB_h_m_Kind_0_name_align_width_size⟩
  obtain ⟨ki_h_m_Kind_2_size_width_align, kv_h_m_Kind_2_size_width_align, KB_h_m_Kind_2_size_width_align⟩ := F_Kind_init.kbinds (ps := ["self", "name", "group", "size", "width", "align"]) 3 ["size", "width", "align"] [] (fun us ds mv ws => us ++ ws) (by simp) (by simp) (by simp) (fun r1 r2 r3 r4 => r1.append r4) (fun _ _ _ _ _ _ _ us its mv ws h1 h2 h3 h4 => match us, its, mv, ws, h1, h2, h3, h4 with | [a0, a1, a2], [b0], [], [d0, d1, d2], _, _, _, _ => by (refine ⟨_, rfl, ?_⟩; rfl))
  have h_m_Kind_2_size_width_align : MakN l.prog w K mg base 3 "Kind" ad.c_Kind 2 ["size", "width", "align"] gKC (spKindI ad) := ⟨_, _, _, _, O_Kind_init, mk_Kind, PySem.W.mg_of X G g_Kind, KB_h_m_Kind_2_size_width_align⟩
  have F_Kind_name := fun_mk (st := st_Kind_name) l_Kind_name c_Kind_name k_Kind_name
  have B_Kind_name := F_Kind_name.binds (ps := ["self"]) fun _ _ _ _ _ _ us hl => match us, hl with | [_], _ => rfl
  have h_c_Kind_name : CalP l.prog w K mg base 1 ad.c_Kind "name" (spKGet ad fun k => .str k.n) := ⟨_, _, _, _, ok_Kind_name F_Kind_name T , cl_Kind, ⟨a_Kind_name, g_Kind_name, t_Kind_name, ⟨_, r_Kind_name⟩⟩, B_Kind_name⟩
  have F_Kind_parts := fun_mk (st := st_Kind_parts) l_Kind_parts c_Kind_parts k_Kind_parts
  have B_Kind_parts := F_Kind_parts.binds (ps := ["self"]) fun _ _ _ _ _ _ us hl => match us, hl with | [_], _ => rfl
  have h_c_Kind_parts : CalM l.prog w K mg base 1 ad.c_Kind "parts" (spKParts ad) := ⟨_, _, _, ok_Kind_parts F_Kind_parts T , cl_Kind, ⟨a_Kind_parts, i_Kind_parts, k_Kind_parts⟩, B_Kind_parts⟩
  have mk_Book : Mk K ad.c_Book f_Book_init := ⟨mkBook, a_Book_init, i_Book_init, kcBook⟩
  have h_m_Book : MakR l.prog w K mg base 3 "Book" ad.c_Book (spBookR ad) := ⟨_, r_Book_init l_Book_init c_Book_init h_c_Kind_name h_c_Kind_parts T, mk_Book, PySem.W.mg_of X G g_Book⟩
  have F_Book_names := fun_mk (st := st_Book_names) l_Book_names c_Book_names k_Book_names
  have B_Book_names := F_Book_names.binds (ps := ["self"]) fun _ _ _ _ _ _ us hl => match us, hl with | [_], _ => rfl
  have h_c_Book_names : CalM l.prog w K mg base 1 ad.c_Book "names" (spBNames ad) := ⟨_, _, _, ok_Book_names F_Book_names T , cl_Book, ⟨a_Book_names, i_Book_names, k_Book_names⟩, B_Book_names⟩
  have F_Book_parts := fun_mk (st := st_Book_parts) l_Book_parts c_Book_parts k_Book_parts
  have B_Book_parts := F_Book_parts.binds (ps := ["self"]) fun _ _ _ _ _ _ us hl => match us, hl with | [_], _ => rfl
  have h_c_Book_parts : CalM l.prog w K mg base 1 ad.c_Book "parts" (spBParts ad) := ⟨_, _, _, ok_Book_parts F_Book_parts T , cl_Book, ⟨a_Book_parts, i_Book_parts, k_Book_parts⟩, B_Book_parts⟩
  have F_Book_add := fun_mk (st := st_Book_add) l_Book_add c_Book_add k_Book_add
  have B_Book_add := F_Book_add.binds (ps := ["self", "other"]) fun _ _ _ _ _ _ us hl => match us, hl with | [_, _], _ => rfl
  have h_c_Book_add : CalS l.prog w K mg base 5 ad.c_Book "__add__" (spBAdd ad) := ⟨_, ((ok_Book_add F_Book_add T h_m_Book).raw B_Book_add nil_).imp fun vs H Q E h => by rw [List.append_nil]; exact h, a_Book_add, i_Book_add⟩
  have F_first_wrong_letter := fun_mk (st := st_first_wrong_letter) l_first_wrong_letter c_first_wrong_letter k_first_wrong_letter
  have B_first_wrong_letter := F_first_wrong_letter.binds (ps := ["alphabet", "letters"]) fun _ _ _ _ _ _ us hl => match us, hl with | [_, _], _ => rfl
  have h_c_first_wrong_letter : Cal l.prog w K mg base 2 "first_wrong_letter" (spFWL K) := ⟨_, _, _, ok_first_wrong_letter F_first_wrong_letter T h_c_is_word_of, k_first_wrong_letter, B_first_wrong_letter, PySem.W.mg_of X G a_first_wrong_letter⟩
  have mk_Signature : Mk K ad.c_Signature f_Signature_init := ⟨mkSignature, a_Signature_init, i_Signature_init, kcSignature⟩
  have h_m_Signature : MakR l.prog w K mg base 3 "Signature" ad.c_Signature (spSigR ad) := ⟨_, r_Signature_init l_Signature_init c_Signature_init h_c_Book_names h_c_first_wrong_letter h_c_Book_parts T, mk_Signature, PySem.W.mg_of X G g_Signature⟩
  have h_m_Signature_book : MakW l.prog w K mg base 3 "Signature" ad.c_Signature ["book"] (spW 1 (spSigI ad)) := ⟨_, w_Signature_init l_Signature_init c_Signature_init h_c_Book_names h_c_first_wrong_letter h_c_Book_parts T, mk_Signature, PySem.W.mg_of X G g_Signature⟩
  have F_Signature_letters := fun_mk (st := st_Signature_letters) l_Signature_letters c_Signature_letters k_Signature_letters
  have B_Signature_letters := F_Signature_letters.binds (ps := ["self"]) fun _ _ _ _ _ _ us hl => match us, hl with | [_], _ => rfl
  have h_c_Signature_letters : CalM l.prog w K mg base 1 ad.c_Signature "letters" (spSLetters ad) := ⟨_, _, _, ok_Signature_letters F_Signature_letters T , cl_Signature, ⟨a_Signature_letters, i_Signature_letters, k_Signature_letters⟩, B_Signature_letters⟩
  have F_Signature_add := fun_mk (st := st_Signature_add) l_Signature_add c_Signature_add k_Signature_add
  have B_Signature_add := F_Signature_add.binds (ps := ["self", "other"]) fun _ _ _ _ _ _ us hl => match us, hl with | [_, _], _ => rfl
  have h_c_Signature_add : CalS l.prog w K mg base 5 ad.c_Signature "__add__" (spSAddT ad) := ⟨_, ((ok_Signature_add F_Signature_add T h_m_Signature).raw B_Signature_add nil_).imp fun vs H Q E h => by rw [List.append_nil]; exact h, a_Signature_add, i_Signature_add⟩
  have F_Signature_radd := fun_mk (st := st_Signature_radd) l_Signature_radd c_Signature_radd k_Signature_radd
  have B_Signature_radd := F_Signature_radd.binds (ps := ["self", "other"]) fun _ _ _ _ _ _ us hl => match us, hl with | [_, _], _ => rfl
  have h_c_Signature_radd : CalS l.prog w K mg base 5 ad.c_Signature "__radd__" (spSRadd ad) := ⟨_, ((ok_Signature_radd F_Signature_radd T h_m_Signature).raw B_Signature_radd nil_).imp fun vs H Q E h => by rw [List.append_nil]; exact h, a_Signature_radd, i_Signature_radd⟩
  have F_Signature_lt := fun_mk (st := st_Signature_lt) l_Signature_lt c_Signature_lt k_Signature_lt
  have B_Signature_lt := F_Signature_lt.binds (ps := ["self", "other"]) fun _ _ _ _ _ _ us hl => match us, hl with | [_, _], _ => rfl
  have h_c_Signature_lt : CalS l.prog w K mg base 1 ad.c_Signature "__lt__" (spSCmp ad .Lt) := ⟨_, ((ok_Signature_lt F_Signature_lt T ).raw B_Signature_lt nil_).imp fun vs H Q E h => by rw [List.append_nil]; exact h, a_Signature_lt, i_Signature_lt⟩
  have F_Signature_le := fun_mk (st := st_Signature_le) l_Signature_le c_Signature_le k_Signature_le
  have B_Signature_le := F_Signature_le.binds (ps := ["self", "other"]) fun _ _ _ _ _ _ us hl => match us, hl with | [_, _], _ => rfl
  have h_c_Signature_le : CalS l.prog w K mg base 1 ad.c_Signature "__le__" (spSCmp ad .LtE) := ⟨_, ((ok_Signature_le F_Signature_le T ).raw B_Signature_le nil_).imp fun vs H Q E h => by rw [List.append_nil]; exact h, a_Signature_le, i_Signature_le⟩
  have F_Signature_gt := fun_mk (st := st_Signature_gt) l_Signature_gt c_Signature_gt k_Signature_gt
  have B_Signature_gt := F_Signature_gt.binds (ps := ["self", "other"]) fun _ _ _ _ _ _ us hl => match us, hl with | [_, _], _ => rfl
  have h_c_Signature_gt : CalS l.prog w K mg base 1 ad.c_Signature "__gt__" (spSCmp ad .Gt) := ⟨_, ((ok_Signature_gt F_Signature_gt T ).raw B_Signature_gt nil_).imp fun vs H Q E h => by rw [List.append_nil]; exact h, a_Signature_gt, i_Signature_gt⟩
  have F_Signature_ge := fun_mk (st := st_Signature_ge) l_Signature_ge c_Signature_ge k_Signature_ge
  have B_Signature_ge := F_Signature_ge.binds (ps := ["self", "other"]) fun _ _ _ _ _ _ us hl => match us, hl with | [_, _], _ => rfl
  have h_c_Signature_ge : CalS l.prog w K mg base 1 ad.c_Signature "__ge__" (spSCmp ad .GtE) := ⟨_, ((ok_Signature_ge F_Signature_ge T ).raw B_Signature_ge nil_).imp fun vs H Q E h => by rw [List.append_nil]; exact h, a_Signature_ge, i_Signature_ge⟩
  have F_Signature_eq := fun_mk (st := st_Signature_eq) l_Signature_eq c_Signature_eq k_Signature_eq
  have B_Signature_eq := F_Signature_eq.binds (ps := ["self", "other"]) fun _ _ _ _ _ _ us hl => match us, hl with | [_, _], _ => rfl
  have h_c_Signature_eq : CalS l.prog w K mg base 1 ad.c_Signature "__eq__" (spSEq ad) := ⟨_, ((ok_Signature_eq F_Signature_eq T ).raw B_Signature_eq nil_).imp fun vs H Q E h => by rw [List.append_nil]; exact h, a_Signature_eq, i_Signature_eq⟩
  have F_l_draw := fun_mk (st := st_l_draw) l_l_draw c_l_draw k_l_draw
  have B_l_draw := F_l_draw.binds (ps := ["_law_pot_here", "_law_much"]) fun _ _ _ _ _ _ us hl => match us, hl with | [_, _], _ => rfl
  have h_c_l_draw : Cal l.prog w K mg base 1 "_law_draw" spDraw := ⟨_, _, _, ok_l_draw F_l_draw T , k_l_draw, B_l_draw, PySem.W.mg_of X G a_l_draw⟩
  have F_l_pick := fun_mk (st := st_l_pick) l_l_pick c_l_pick k_l_pick
  have B_l_pick := F_l_pick.binds (ps := ["_law_pot_here", "_law_some"]) fun _ _ _ _ _ _ us hl => match us, hl with | [_, _], _ => rfl
  have h_c_l_pick : Cal l.prog w K mg base 2 "_law_pick" (spPick1 K) := ⟨_, _, _, ok_l_pick F_l_pick T h_c_l_draw, k_l_pick, B_l_pick, PySem.W.mg_of X G a_l_pick⟩
  have F_l_pot := fun_mk (st := st_l_pot) l_l_pot c_l_pot k_l_pot
  have B_l_pot := F_l_pot.binds (ps := ["_law_script", "_law_k"]) fun _ _ _ _ _ _ us hl => match us, hl with | [_, _], _ => rfl
  have h_c_l_pot : Cal l.prog w K mg base 1 "_law_pot" (spPot K) := ⟨_, _, _, ok_l_pot F_l_pot T , k_l_pot, B_l_pot, PySem.W.mg_of X G a_l_pot⟩
  have F_l_row := fun_mk (st := st_l_row) l_l_row c_l_row k_l_row
  have B_l_row := F_l_row.binds (ps := ["_law_pot_here", "_law_label"]) fun _ _ _ _ _ _ us hl => match us, hl with | [_, _], _ => rfl
  have h_c_l_row : Cal l.prog w K mg base 3 "_law_row" spRow := ⟨_, _, _, ok_l_row F_l_row T h_c_l_pick h_c_l_draw, k_l_row, B_l_row, PySem.W.mg_of X G a_l_row⟩
  have F_l_kind := fun_mk (st := st_l_kind) l_l_kind c_l_kind k_l_kind
  have B_l_kind := F_l_kind.binds (ps := ["_law_pot_here", "_law_row_here"]) fun _ _ _ _ _ _ us hl => match us, hl with | [_, _], _ => rfl
  have h_c_l_kind : Cal l.prog w K mg base 5 "_law_kind" (spKindL ad) := ⟨_, _, _, ok_l_kind F_l_kind T h_c_l_draw h_m_Kind_2_size h_m_Kind_0_name_align_width_size h_m_Kind_2_size_width_align, k_l_kind, B_l_kind, PySem.W.mg_of X G a_l_kind⟩
  have F_l_named := fun_mk (st := st_l_named) l_l_named c_l_named k_l_named
  have B_l_named := F_l_named.binds (ps := ["_law_pot_here", "_law_much", "_law_taken"]) fun _ _ _ _ _ _ us hl => match us, hl with | [_, _, _], _ => rfl
  have h_c_l_named : Cal l.prog w K mg base 3 "_law_named" spNamed := ⟨_, _, _, ok_l_named F_l_named T h_c_l_pick h_c_l_draw, k_l_named, B_l_named, PySem.W.mg_of X G a_l_named⟩
  have F_l_rows := fun_mk (st := st_l_rows) l_l_rows c_l_rows k_l_rows
  have B_l_rows := F_l_rows.binds (ps := ["_law_pot_here", "_law_much"]) fun _ _ _ _ _ _ us hl => match us, hl with | [_, _], _ => rfl
  have h_c_l_rows : Cal l.prog w K mg base 4 "_law_rows" spRows := ⟨_, _, _, ok_l_rows F_l_rows T h_c_l_named h_c_l_row, k_l_rows, B_l_rows, PySem.W.mg_of X G a_l_rows⟩
  have F_l_book := fun_mk (st := st_l_book) l_l_book c_l_book k_l_book
  have B_l_book := F_l_book.binds (ps := ["_law_pot_here", "_law_rows_here"]) fun _ _ _ _ _ _ us hl => match us, hl with | [_, _], _ => rfl
  have h_c_l_book : Cal l.prog w K mg base 6 "_law_book" (spBookL ad) := ⟨_, _, _, ok_l_book F_l_book T h_c_l_kind h_c_l_draw h_m_Book h_c_Book_add, k_l_book, B_l_book, PySem.W.mg_of X G a_l_book⟩
  have F_l_spelled := fun_mk (st := st_l_spelled) l_l_spelled c_l_spelled k_l_spelled
  have B_l_spelled := F_l_spelled.binds (ps := ["_law_pot_here", "_law_made", "_law_row_here"]) fun _ _ _ _ _ _ us hl => match us, hl with | [_, _, _], _ => rfl
  have h_c_l_spelled : Cal l.prog w K mg base 6 "_law_spelled" (spSpell ad) := ⟨_, _, _, ok_l_spelled F_l_spelled T h_c_l_draw h_m_Signature h_m_Signature_book h_c_Signature_add h_c_Signature_radd, k_l_spelled, B_l_spelled, PySem.W.mg_of X G a_l_spelled⟩
  have F_l_letters := fun_mk (st := st_l_letters) l_l_letters c_l_letters k_l_letters
  have B_l_letters := F_l_letters.binds (ps := ["_law_pot_here", "_law_labels", "_law_top"]) fun _ _ _ _ _ _ us hl => match us, hl with | [_, _, _], _ => rfl
  have h_c_l_letters : Cal l.prog w K mg base 3 "_law_letters" spLetters := ⟨_, _, _, ok_l_letters F_l_letters T h_c_l_draw h_c_l_pick, k_l_letters, B_l_letters, PySem.W.mg_of X G a_l_letters⟩
  have F_l_near := fun_mk (st := st_l_near) l_l_near c_l_near k_l_near
  have B_l_near := F_l_near.binds (ps := ["_law_pot_here", "_law_labels", "_law_row_here"]) fun _ _ _ _ _ _ us hl => match us, hl with | [_, _, _], _ => rfl
  have h_c_l_near : Cal l.prog w K mg base 3 "_law_near" spNear := ⟨_, _, _, ok_l_near F_l_near T h_c_l_draw h_c_l_pick, k_l_near, B_l_near, PySem.W.mg_of X G a_l_near⟩
  have F_l_place := fun_mk (st := st_l_place) l_l_place c_l_place k_l_place
  have B_l_place := F_l_place.binds (ps := ["_law_labels", "_law_row_here"]) fun _ _ _ _ _ _ us hl => match us, hl with | [_, _], _ => rfl
  have h_c_l_place : Cal l.prog w K mg base 1 "_law_place" spPlace := ⟨_, _, _, ok_l_place F_l_place T , k_l_place, B_l_place, PySem.W.mg_of X G a_l_place⟩
  have F_l_pair_right := fun_mk (st := st_l_pair_right) l_l_pair_right c_l_pair_right k_l_pair_right
  have B_l_pair_right := F_l_pair_right.binds (ps := ["_law_one", "_law_other", "_law_this", "_law_mate"]) fun _ _ _ _ _ _ us hl => match us, hl with | [_, _, _, _], _ => rfl
  have h_c_l_pair_right : CalG l.prog w K mg base 3 "_law_pair_right" (spPairR ad K) := ⟨_, _, _, ok_l_pair_right F_l_pair_right T h_c_Signature_lt h_c_Signature_le h_c_Signature_gt h_c_Signature_ge h_c_Signature_eq, k_l_pair_right, B_l_pair_right, PySem.W.mg_of X G a_l_pair_right⟩
  have F_l_sorted := fun_mk (st := st_l_sorted) l_l_sorted c_l_sorted k_l_sorted
  have B_l_sorted := F_l_sorted.binds (ps := ["_law_some"]) fun _ _ _ _ _ _ us hl => match us, hl with | [_], _ => rfl
  have h_c_l_sorted : Cal l.prog w K mg base 2 "_law_sorted" (spSorted ad) := ⟨_, _, _, ok_l_sorted F_l_sorted T h_c_Signature_lt, k_l_sorted, B_l_sorted, PySem.W.mg_of X G a_l_sorted⟩
  have F_l_right := fun_mk (st := st_l_right) l_l_right c_l_right k_l_right
  have B_l_right := F_l_right.binds (ps := ["_law_pot_here"]) fun _ _ _ _ _ _ us hl => match us, hl with | [_], _ => rfl
  have h_c_l_right : CalG l.prog w K mg base 7 "_law_right" spRight := ⟨_, _, _, ok_l_right F_l_right T h_c_l_rows h_c_l_draw h_c_l_book h_c_l_letters h_c_l_near h_c_l_pick h_c_l_spelled h_c_l_place h_c_l_pair_right h_c_l_sorted h_c_Signature_letters, k_l_right, B_l_right, PySem.W.mg_of X G a_l_right⟩
  have F_law := fun_mk (st := st_law) l_law c_law k_law
  have B_law := F_law.binds (ps := ["_law_script"]) fun _ _ _ _ _ _ us hl => match us, hl with | [_], _ => rfl
  exact ok_law F_law T h_c_l_right h_c_l_pot
theorem all_mk {l : PySem.W.OpenLaw} {w : World} {K : PySem.W.Frag} {h : Heap} {mg : Str → Option Value} {zz_c_CallError zz_c_InvalidNumber zz_c_InvalidName zz_c_InvalidKind zz_c_InvalidBook zz_c_InvalidLetter zz_c_InvalidSignature zz_c_MissingError zz_c_UnknownKind zz_c_StateError zz_c_OtherBook zz_c_LimitError zz_c_TooMany c_Kind c_Book c_Signature a_GROUPS a_ALIGNMENTS a_SIZES : Addr} {f_law fa : Addr} {f_is_integer f_is_count f_is_between f_is_one_of f_is_word_of f_is_name f_Kind_init T0_Kind D0_Kind p_Kind_name f_Kind_name f_Kind_parts f_Book_init f_Book_names f_Book_parts f_Book_add f_first_wrong_letter f_Signature_init f_Signature_letters f_Signature_add f_Signature_radd f_Signature_lt f_Signature_le f_Signature_gt f_Signature_ge f_Signature_eq f_l_draw f_l_pick f_l_pot f_l_row f_l_kind f_l_named f_l_rows f_l_book f_l_spelled f_l_letters f_l_near f_l_place f_l_pair_right f_l_sorted f_l_right : Addr} {od_is_integer an_is_integer od_is_count an_is_count od_is_between an_is_between od_is_one_of an_is_one_of od_is_word_of an_is_word_of od_is_name an_is_name od_Kind_init an_Kind_init odT_Kind od_Kind_name an_Kind_name od_Kind_parts an_Kind_parts od_Book_init an_Book_init od_Book_names an_Book_names od_Book_parts an_Book_parts od_Book_add an_Book_add od_first_wrong_letter an_first_wrong_letter od_Signature_init an_Signature_init od_Signature_letters an_Signature_letters od_Signature_add an_Signature_add od_Signature_radd an_Signature_radd od_Signature_lt an_Signature_lt od_Signature_le an_Signature_le od_Signature_gt an_Signature_gt od_Signature_ge an_Signature_ge od_Signature_eq an_Signature_eq od_l_draw an_l_draw od_l_pick an_l_pick od_l_pot an_l_pot od_l_row an_l_row od_l_kind an_l_kind od_l_named an_l_named od_l_rows an_l_rows od_l_book an_l_book od_l_spelled an_l_spelled od_l_letters an_l_letters od_l_near an_l_near od_l_place an_l_place od_l_pair_right an_l_pair_right od_l_sorted an_l_sorted od_l_right an_l_right od_law an_law : Option Addr} {slGROUPS slALIGNMENTS slSIZES sl_is_integer sl_is_count sl_is_between sl_is_one_of sl_is_word_of sl_is_name sl_Kind_init slT_Kind sl_Kind_name sl_Kind_parts sl_Book_init sl_Book_names sl_Book_parts sl_Book_add sl_first_wrong_letter sl_Signature_init sl_Signature_letters sl_Signature_add sl_Signature_radd sl_Signature_lt sl_Signature_le sl_Signature_gt sl_Signature_ge sl_Signature_eq sl_l_draw sl_l_pick sl_l_pot sl_l_row sl_l_kind sl_l_named sl_l_rows sl_l_book sl_l_spelled sl_l_letters sl_l_near sl_l_place sl_l_pair_right sl_l_sorted sl_l_right sl_law : Array (Option Value)} {cu_Signature_MARK u_LONGEST_NAME u_NAME_LETTERS u_DOUBLE_SIZE u_LEAST_WIDTH u_LEAST_DOUBLE_WIDTH u_MOST_KINDS u_MOST_LETTERS oc_is_integer dc_is_integer pm_is_integer cd_is_integer ct_is_integer kV_is_integer oc_is_count dc_is_count pm_is_count cd_is_count ct_is_count kV_is_count oc_is_between dc_is_between pm_is_between cd_is_between ct_is_between kV_is_between oc_is_one_of dc_is_one_of pm_is_one_of cd_is_one_of ct_is_one_of kV_is_one_of oc_is_word_of dc_is_word_of pm_is_word_of cd_is_word_of ct_is_word_of kV_is_word_of oc_is_name dc_is_name pm_is_name cd_is_name ct_is_name kV_is_name oc_Kind_init dc_Kind_init pm_Kind_init cd_Kind_init ct_Kind_init ocT_Kind uk_Kind_size uk_Kind_width uk_Kind_align oc_Kind_name dc_Kind_name pm_Kind_name cd_Kind_name ct_Kind_name kV_Kind_name oc_Kind_parts dc_Kind_parts pm_Kind_parts cd_Kind_parts ct_Kind_parts kV_Kind_parts oc_Book_init dc_Book_init pm_Book_init cd_Book_init ct_Book_init kV_Book_init oc_Book_names dc_Book_names pm_Book_names cd_Book_names ct_Book_names kV_Book_names oc_Book_parts dc_Book_parts pm_Book_parts cd_Book_parts ct_Book_parts kV_Book_parts oc_Book_add dc_Book_add pm_Book_add cd_Book_add ct_Book_add kV_Book_add oc_first_wrong_letter dc_first_wrong_letter pm_first_wrong_letter cd_first_wrong_letter ct_first_wrong_letter kV_first_wrong_letter oc_Signature_init dc_Signature_init pm_Signature_init cd_Signature_init ct_Signature_init kV_Signature_init oc_Signature_letters dc_Signature_letters pm_Signature_letters cd_Signature_letters ct_Signature_letters kV_Signature_letters oc_Signature_add dc_Signature_add pm_Signature_add cd_Signature_add ct_Signature_add kV_Signature_add oc_Signature_radd dc_Signature_radd pm_Signature_radd cd_Signature_radd ct_Signature_radd kV_Signature_radd oc_Signature_lt dc_Signature_lt pm_Signature_lt cd_Signature_lt ct_Signature_lt kV_Signature_lt oc_Signature_le dc_Signature_le pm_Signature_le cd_Signature_le ct_Signature_le kV_Signature_le oc_Signature_gt dc_Signature_gt pm_Signature_gt cd_Signature_gt ct_Signature_gt kV_Signature_gt oc_Signature_ge dc_Signature_ge pm_Signature_ge cd_Signature_ge ct_Signature_ge kV_Signature_ge oc_Signature_eq dc_Signature_eq pm_Signature_eq cd_Signature_eq ct_Signature_eq kV_Signature_eq oc_l_draw dc_l_draw pm_l_draw cd_l_draw ct_l_draw kV_l_draw oc_l_pick dc_l_pick pm_l_pick cd_l_pick ct_l_pick kV_l_pick oc_l_pot dc_l_pot pm_l_pot cd_l_pot ct_l_pot kV_l_pot oc_l_row dc_l_row pm_l_row cd_l_row ct_l_row kV_l_row oc_l_kind dc_l_kind pm_l_kind cd_l_kind ct_l_kind kV_l_kind oc_l_named dc_l_named pm_l_named cd_l_named ct_l_named kV_l_named oc_l_rows dc_l_rows pm_l_rows cd_l_rows ct_l_rows kV_l_rows oc_l_book dc_l_book pm_l_book cd_l_book ct_l_book kV_l_book oc_l_spelled dc_l_spelled pm_l_spelled cd_l_spelled ct_l_spelled kV_l_spelled oc_l_letters dc_l_letters pm_l_letters cd_l_letters ct_l_letters kV_l_letters oc_l_near dc_l_near pm_l_near cd_l_near ct_l_near kV_l_near oc_l_place dc_l_place pm_l_place cd_l_place ct_l_place kV_l_place oc_l_pair_right dc_l_pair_right pm_l_pair_right cd_l_pair_right ct_l_pair_right kV_l_pair_right oc_l_sorted dc_l_sorted pm_l_sorted cd_l_sorted ct_l_sorted kV_l_sorted oc_l_right dc_l_right pm_l_right cd_l_right ct_l_right kV_l_right oc_law dc_law pm_law cd_law ct_law kV_law : Value} {re_Kind_name : List Value} {itGROUPS itALIGNMENTS itSIZES itT_Kind : Array Value} {ntGROUPS ntALIGNMENTS ntSIZES nT_Kind : Nat} {cldKind : ClassData} {fo_str ro_str : Option Value} (X : K.In h) (G : h.Ns mainGlobals mg) (hfa : mg "law" = some (.ref fa))
    (cn : PySem.W.specialIn K (.builtin "object.__class__") "__get__" = some (some (.builtin "getset_descriptor.__get__")))
    (ctk : PySem.W.takesIn K (.builtin "object.__class__") = some true)
    (g_Kind : PySem.W.nsIn K mainGlobals "Kind" = some (some (.ref c_Kind)))
    (pgKind : PySem.W.plainGet K c_Kind Str.empty = true)
    (hdKind : PySem.W.hasDictIn K c_Kind = true)
    (poKind : PySem.W.plainOver K c_Kind = true)
    (saKind : PySem.W.findIn K (.ref c_Kind) "__setattr__" = some (some (.builtin "object.__setattr__")))
    (caKind : PySem.W.findIn K (.ref c_Kind) "__class__" = some (some (.builtin "object.__class__")))
    (cmKind : PySem.W.mroIn K c_Kind (.type "object") = some true)
    (icKind : PySem.W.isClsIn K c_Kind = true)
    (tyKind : PySem.W.typeIn K (.ref c_Kind) = some (.type "type"))
    (mkKind : PySem.W.makesIn K c_Kind = true)
    (kcKind : PySem.W.keepIn K (.ref c_Kind) = true)
    (suKind_NoneType : PySem.W.subIn K (.type "NoneType") (.ref c_Kind) = some false)
    (suKind_tuple : PySem.W.subIn K (.type "tuple") (.ref c_Kind) = some false)
    (suKind_str : PySem.W.subIn K (.type "str") (.ref c_Kind) = some false)
    (suKind_int : PySem.W.subIn K (.type "int") (.ref c_Kind) = some false)
    (suKind_list : PySem.W.subIn K (.type "list") (.ref c_Kind) = some false)
    (suKind_bool : PySem.W.subIn K (.type "bool") (.ref c_Kind) = some false)
    (suKind_dict : PySem.W.subIn K (.type "dict") (.ref c_Kind) = some false)
    (neKind : PySem.W.findIn K (.ref c_Kind) "__ne__" = some (some (.builtin "object.__ne__")))
    (nKind_name : PySem.W.findIn K (.ref c_Kind) "_name" = some none)
    (nKind_group : PySem.W.findIn K (.ref c_Kind) "_group" = some none)
    (nKind_size : PySem.W.findIn K (.ref c_Kind) "_size" = some none)
    (nKind_width : PySem.W.findIn K (.ref c_Kind) "_width" = some none)
    (nKind_align : PySem.W.findIn K (.ref c_Kind) "_align" = some none)
    (nKind_parts : PySem.W.findIn K (.ref c_Kind) "_parts" = some none)
    (clKind : PySem.W.clsIn K c_Kind = some cldKind)
    (mrKind : cldKind.mro = [.ref c_Kind, .type "object"])
    (cadKind : PySem.W.findIn K (.ref c_Kind) "__add__" = some none)
    (crdKind : PySem.W.findIn K (.ref c_Kind) "__radd__" = some none)
    (oad : PySem.W.findIn K (.type "object") "__add__" = some none)
    (ord_ : PySem.W.findIn K (.type "object") "__radd__" = some none)
    (g_Book : PySem.W.nsIn K mainGlobals "Book" = some (some (.ref c_Book)))
    (pgBook : PySem.W.plainGet K c_Book Str.empty = true)
    (hdBook : PySem.W.hasDictIn K c_Book = true)
    (poBook : PySem.W.plainOver K c_Book = true)
    (saBook : PySem.W.findIn K (.ref c_Book) "__setattr__" = some (some (.builtin "object.__setattr__")))
    (caBook : PySem.W.findIn K (.ref c_Book) "__class__" = some (some (.builtin "object.__class__")))
    (cmBook : PySem.W.mroIn K c_Book (.type "object") = some true)
    (icBook : PySem.W.isClsIn K c_Book = true)
    (tyBook : PySem.W.typeIn K (.ref c_Book) = some (.type "type"))
    (mkBook : PySem.W.makesIn K c_Book = true)
    (kcBook : PySem.W.keepIn K (.ref c_Book) = true)
    (suBook_NoneType : PySem.W.subIn K (.type "NoneType") (.ref c_Book) = some false)
    (suBook_tuple : PySem.W.subIn K (.type "tuple") (.ref c_Book) = some false)
    (suBook_str : PySem.W.subIn K (.type "str") (.ref c_Book) = some false)
    (suBook_int : PySem.W.subIn K (.type "int") (.ref c_Book) = some false)
    (suBook_list : PySem.W.subIn K (.type "list") (.ref c_Book) = some false)
    (suBook_bool : PySem.W.subIn K (.type "bool") (.ref c_Book) = some false)
    (suBook_dict : PySem.W.subIn K (.type "dict") (.ref c_Book) = some false)
    (neBook : PySem.W.findIn K (.ref c_Book) "__ne__" = some (some (.builtin "object.__ne__")))
    (nBook_kinds : PySem.W.findIn K (.ref c_Book) "_kinds" = some none)
    (nBook_names : PySem.W.findIn K (.ref c_Book) "_names" = some none)
    (nBook_parts : PySem.W.findIn K (.ref c_Book) "_parts" = some none)
    (sfBook : PySem.W.selfFirst K c_Book = true)
    (sta : PySem.W.findIn K (.type "str") "__add__" = some fo_str)
    (str_ : PySem.W.findIn K (.type "str") "__radd__" = some ro_str)
    (nrBook : PySem.W.findIn K (.ref c_Book) "__radd__" = some none)
    (g_Signature : PySem.W.nsIn K mainGlobals "Signature" = some (some (.ref c_Signature)))
    (pgSignature : PySem.W.plainGet K c_Signature Str.empty = true)
    (hdSignature : PySem.W.hasDictIn K c_Signature = true)
    (poSignature : PySem.W.plainOver K c_Signature = true)
    (saSignature : PySem.W.findIn K (.ref c_Signature) "__setattr__" = some (some (.builtin "object.__setattr__")))
    (caSignature : PySem.W.findIn K (.ref c_Signature) "__class__" = some (some (.builtin "object.__class__")))
    (cmSignature : PySem.W.mroIn K c_Signature (.type "object") = some true)
    (icSignature : PySem.W.isClsIn K c_Signature = true)
    (tySignature : PySem.W.typeIn K (.ref c_Signature) = some (.type "type"))
    (mkSignature : PySem.W.makesIn K c_Signature = true)
    (kcSignature : PySem.W.keepIn K (.ref c_Signature) = true)
    (suSignature_NoneType : PySem.W.subIn K (.type "NoneType") (.ref c_Signature) = some false)
    (suSignature_tuple : PySem.W.subIn K (.type "tuple") (.ref c_Signature) = some false)
    (suSignature_str : PySem.W.subIn K (.type "str") (.ref c_Signature) = some false)
    (suSignature_int : PySem.W.subIn K (.type "int") (.ref c_Signature) = some false)
    (suSignature_list : PySem.W.subIn K (.type "list") (.ref c_Signature) = some false)
    (suSignature_bool : PySem.W.subIn K (.type "bool") (.ref c_Signature) = some false)
    (suSignature_dict : PySem.W.subIn K (.type "dict") (.ref c_Signature) = some false)
    (neSignature : PySem.W.findIn K (.ref c_Signature) "__ne__" = some (some (.builtin "object.__ne__")))
    (nSignature_book : PySem.W.findIn K (.ref c_Signature) "_book" = some none)
    (nSignature_letters : PySem.W.findIn K (.ref c_Signature) "_letters" = some none)
    (nSignature_key : PySem.W.findIn K (.ref c_Signature) "_key" = some none)
    (sfSignature : PySem.W.selfFirst K c_Signature = true)
    (st3 : ((fo_str.isSome && !isSeqSlot fo_str) || (ro_str.isSome && !isSeqSlot ro_str)) = false)
    (rdSignature : PySem.W.readsIn K c_Signature (.type "type") = true)
    (gaSignature : PySem.W.specialIn K (.ref c_Signature) "__getattribute__" = some (some (.builtin "type.__getattribute__")))
    (cv_Signature_MARK : PySem.W.findCls K (.ref c_Signature) (.type "type") "MARK" = some (.val cu_Signature_MARK))
    (cr_Signature_MARK : RelV (.str "...") cu_Signature_MARK)
    (ga_LONGEST_NAME : PySem.W.nsIn K mainGlobals "LONGEST_NAME" = some (some u_LONGEST_NAME))
    (v_LONGEST_NAME : RelV (.int 8) u_LONGEST_NAME)
    (ga_NAME_LETTERS : PySem.W.nsIn K mainGlobals "NAME_LETTERS" = some (some u_NAME_LETTERS))
    (v_NAME_LETTERS : RelV (.str "abcdefghijklmnopqrstuvwxyz") u_NAME_LETTERS)
    (ga_GROUPS : PySem.W.nsIn K mainGlobals "GROUPS" = some (some (.ref a_GROUPS)))
    (o_GROUPS : K.lookup a_GROUPS = some ⟨.type "tuple", none, .seq itGROUPS ntGROUPS, slGROUPS⟩)
    (v_GROUPS : Vals [.str "whole", .str "float"] itGROUPS.toList)
    (ga_ALIGNMENTS : PySem.W.nsIn K mainGlobals "ALIGNMENTS" = some (some (.ref a_ALIGNMENTS)))
    (o_ALIGNMENTS : K.lookup a_ALIGNMENTS = some ⟨.type "tuple", none, .seq itALIGNMENTS ntALIGNMENTS, slALIGNMENTS⟩)
    (v_ALIGNMENTS : Vals [.int 1, .int 2, .int 4, .int 8, .int 16] itALIGNMENTS.toList)
    (ga_SIZES : PySem.W.nsIn K mainGlobals "SIZES" = some (some (.ref a_SIZES)))
    (o_SIZES : K.lookup a_SIZES = some ⟨.type "tuple", none, .seq itSIZES ntSIZES, slSIZES⟩)
    (v_SIZES : Vals [.int 1, .int 2, .int 4, .int 8, .int 16] itSIZES.toList)
    (ga_DOUBLE_SIZE : PySem.W.nsIn K mainGlobals "DOUBLE_SIZE" = some (some u_DOUBLE_SIZE))
    (v_DOUBLE_SIZE : RelV (.int 16) u_DOUBLE_SIZE)
    (ga_LEAST_WIDTH : PySem.W.nsIn K mainGlobals "LEAST_WIDTH" = some (some u_LEAST_WIDTH))
    (v_LEAST_WIDTH : RelV (.int 2) u_LEAST_WIDTH)
    (ga_LEAST_DOUBLE_WIDTH : PySem.W.nsIn K mainGlobals "LEAST_DOUBLE_WIDTH" = some (some u_LEAST_DOUBLE_WIDTH))
    (v_LEAST_DOUBLE_WIDTH : RelV (.int 65) u_LEAST_DOUBLE_WIDTH)
    (ga_MOST_KINDS : PySem.W.nsIn K mainGlobals "MOST_KINDS" = some (some u_MOST_KINDS))
    (v_MOST_KINDS : RelV (.int 5) u_MOST_KINDS)
    (ga_MOST_LETTERS : PySem.W.nsIn K mainGlobals "MOST_LETTERS" = some (some u_MOST_LETTERS))
    (v_MOST_LETTERS : RelV (.int 1000) u_MOST_LETTERS)
    (b_ArithmeticError : PySem.W.nsIn K mainGlobals "ArithmeticError" = some none)
    (b_LookupError : PySem.W.nsIn K mainGlobals "LookupError" = some none)
    (b_NotImplemented : PySem.W.nsIn K mainGlobals "NotImplemented" = some none)
    (b_RuntimeError : PySem.W.nsIn K mainGlobals "RuntimeError" = some none)
    (b_TypeError : PySem.W.nsIn K mainGlobals "TypeError" = some none)
    (b_ValueError : PySem.W.nsIn K mainGlobals "ValueError" = some none)
    (b_abs : PySem.W.nsIn K mainGlobals "abs" = some none)
    (b_all : PySem.W.nsIn K mainGlobals "all" = some none)
    (b_any : PySem.W.nsIn K mainGlobals "any" = some none)
    (b_bool : PySem.W.nsIn K mainGlobals "bool" = some none)
    (b_divmod : PySem.W.nsIn K mainGlobals "divmod" = some none)
    (b_enumerate : PySem.W.nsIn K mainGlobals "enumerate" = some none)
    (b_int : PySem.W.nsIn K mainGlobals "int" = some none)
    (b_isinstance : PySem.W.nsIn K mainGlobals "isinstance" = some none)
    (b_len : PySem.W.nsIn K mainGlobals "len" = some none)
    (b_list : PySem.W.nsIn K mainGlobals "list" = some none)
    (b_max : PySem.W.nsIn K mainGlobals "max" = some none)
    (b_min : PySem.W.nsIn K mainGlobals "min" = some none)
    (b_property : PySem.W.nsIn K mainGlobals "property" = some none)
    (b_range : PySem.W.nsIn K mainGlobals "range" = some none)
    (b_repr : PySem.W.nsIn K mainGlobals "repr" = some none)
    (b_str : PySem.W.nsIn K mainGlobals "str" = some none)
    (b_tuple : PySem.W.nsIn K mainGlobals "tuple" = some none)
    (b_zip : PySem.W.nsIn K mainGlobals "zip" = some none)
    (a_is_integer : PySem.W.nsIn K mainGlobals "is_integer" = some (some (.ref f_is_integer)))
    (l_is_integer : K.lookup f_is_integer = some ⟨oc_is_integer, od_is_integer, .func (PySem.W.fnOf "is_integer" "is_integer" (defArgs st_is_integer) (defBody st_is_integer) (defScope st_is_integer) .none kV_is_integer dc_is_integer pm_is_integer an_is_integer cd_is_integer ct_is_integer), sl_is_integer⟩)
    (c_is_integer : PySem.W.codeIn K cd_is_integer "is_integer" = true)
    (k_is_integer : PySem.W.keepIn K (.ref f_is_integer) = true)
    (a_is_count : PySem.W.nsIn K mainGlobals "is_count" = some (some (.ref f_is_count)))
    (l_is_count : K.lookup f_is_count = some ⟨oc_is_count, od_is_count, .func (PySem.W.fnOf "is_count" "is_count" (defArgs st_is_count) (defBody st_is_count) (defScope st_is_count) .none kV_is_count dc_is_count pm_is_count an_is_count cd_is_count ct_is_count), sl_is_count⟩)
    (c_is_count : PySem.W.codeIn K cd_is_count "is_count" = true)
    (k_is_count : PySem.W.keepIn K (.ref f_is_count) = true)
    (a_is_between : PySem.W.nsIn K mainGlobals "is_between" = some (some (.ref f_is_between)))
    (l_is_between : K.lookup f_is_between = some ⟨oc_is_between, od_is_between, .func (PySem.W.fnOf "is_between" "is_between" (defArgs st_is_between) (defBody st_is_between) (defScope st_is_between) .none kV_is_between dc_is_between pm_is_between an_is_between cd_is_between ct_is_between), sl_is_between⟩)
    (c_is_between : PySem.W.codeIn K cd_is_between "is_between" = true)
    (k_is_between : PySem.W.keepIn K (.ref f_is_between) = true)
    (a_is_one_of : PySem.W.nsIn K mainGlobals "is_one_of" = some (some (.ref f_is_one_of)))
    (l_is_one_of : K.lookup f_is_one_of = some ⟨oc_is_one_of, od_is_one_of, .func (PySem.W.fnOf "is_one_of" "is_one_of" (defArgs st_is_one_of) (defBody st_is_one_of) (defScope st_is_one_of) .none kV_is_one_of dc_is_one_of pm_is_one_of an_is_one_of cd_is_one_of ct_is_one_of), sl_is_one_of⟩)
    (c_is_one_of : PySem.W.codeIn K cd_is_one_of "is_one_of" = true)
    (k_is_one_of : PySem.W.keepIn K (.ref f_is_one_of) = true)
    (a_is_word_of : PySem.W.nsIn K mainGlobals "is_word_of" = some (some (.ref f_is_word_of)))
    (l_is_word_of : K.lookup f_is_word_of = some ⟨oc_is_word_of, od_is_word_of, .func (PySem.W.fnOf "is_word_of" "is_word_of" (defArgs st_is_word_of) (defBody st_is_word_of) (defScope st_is_word_of) .none kV_is_word_of dc_is_word_of pm_is_word_of an_is_word_of cd_is_word_of ct_is_word_of), sl_is_word_of⟩)
    (c_is_word_of : PySem.W.codeIn K cd_is_word_of "is_word_of" = true)
    (k_is_word_of : PySem.W.keepIn K (.ref f_is_word_of) = true)
    (a_is_name : PySem.W.nsIn K mainGlobals "is_name" = some (some (.ref f_is_name)))
    (l_is_name : K.lookup f_is_name = some ⟨oc_is_name, od_is_name, .func (PySem.W.fnOf "is_name" "is_name" (defArgs st_is_name) (defBody st_is_name) (defScope st_is_name) .none kV_is_name dc_is_name pm_is_name an_is_name cd_is_name ct_is_name), sl_is_name⟩)
    (c_is_name : PySem.W.codeIn K cd_is_name "is_name" = true)
    (k_is_name : PySem.W.keepIn K (.ref f_is_name) = true)
    (a_Kind_init : PySem.W.findIn K (.ref c_Kind) "__init__" = some (some (.ref f_Kind_init)))
    (i_Kind_init : PySem.W.isFn K (.ref f_Kind_init) = true)
    (l_Kind_init : K.lookup f_Kind_init = some ⟨oc_Kind_init, od_Kind_init, .func (PySem.W.fnOf "__init__" "Kind.__init__" (defArgs st_Kind_init) (defBody st_Kind_init) (defScope st_Kind_init) (.ref T0_Kind) (.ref D0_Kind) dc_Kind_init pm_Kind_init an_Kind_init cd_Kind_init ct_Kind_init), sl_Kind_init⟩)
    (c_Kind_init : PySem.W.codeIn K cd_Kind_init "Kind.__init__" = true)
    (k_Kind_init : PySem.W.keepIn K (.ref f_Kind_init) = true)
    (tO_Kind : K.lookup T0_Kind = some ⟨ocT_Kind, odT_Kind, .seq itT_Kind nT_Kind, slT_Kind⟩)
    (vT_Kind : Vals [.str "whole"] itT_Kind.toList)
    (kq_Kind_size : PySem.W.nsIn K D0_Kind "size" = some (some uk_Kind_size))
    (kr_Kind_size : RelV (.int 8) uk_Kind_size)
    (kq_Kind_width : PySem.W.nsIn K D0_Kind "width" = some (some uk_Kind_width))
    (kr_Kind_width : RelV (.non) uk_Kind_width)
    (kq_Kind_align : PySem.W.nsIn K D0_Kind "align" = some (some uk_Kind_align))
    (kr_Kind_align : RelV (.non) uk_Kind_align)
    (a_Kind_name : PySem.W.findIn K (.ref c_Kind) "name" = some (some (.ref p_Kind_name)))
    (g_Kind_name : PySem.W.specialIn K (.ref p_Kind_name) "__get__" = some (some (.builtin "property.__get__")))
    (t_Kind_name : PySem.W.takesIn K (.ref p_Kind_name) = some true)
    (r_Kind_name : PySem.W.recIn K p_Kind_name "property" = some (.ref f_Kind_name :: re_Kind_name))
    (l_Kind_name : K.lookup f_Kind_name = some ⟨oc_Kind_name, od_Kind_name, .func (PySem.W.fnOf "name" "Kind.name" (defArgs st_Kind_name) (defBody st_Kind_name) (defScope st_Kind_name) .none kV_Kind_name dc_Kind_name pm_Kind_name an_Kind_name cd_Kind_name ct_Kind_name), sl_Kind_name⟩)
    (c_Kind_name : PySem.W.codeIn K cd_Kind_name "Kind.name" = true)
    (k_Kind_name : PySem.W.keepIn K (.ref f_Kind_name) = true)
    (a_Kind_parts : PySem.W.findIn K (.ref c_Kind) "parts" = some (some (.ref f_Kind_parts)))
    (i_Kind_parts : PySem.W.isFn K (.ref f_Kind_parts) = true)
    (l_Kind_parts : K.lookup f_Kind_parts = some ⟨oc_Kind_parts, od_Kind_parts, .func (PySem.W.fnOf "parts" "Kind.parts" (defArgs st_Kind_parts) (defBody st_Kind_parts) (defScope st_Kind_parts) .none kV_Kind_parts dc_Kind_parts pm_Kind_parts an_Kind_parts cd_Kind_parts ct_Kind_parts), sl_Kind_parts⟩)
    (c_Kind_parts : PySem.W.codeIn K cd_Kind_parts "Kind.parts" = true)
    (k_Kind_parts : PySem.W.keepIn K (.ref f_Kind_parts) = true)
    (a_Book_init : PySem.W.findIn K (.ref c_Book) "__init__" = some (some (.ref f_Book_init)))
    (i_Book_init : PySem.W.isFn K (.ref f_Book_init) = true)
    (l_Book_init : K.lookup f_Book_init = some ⟨oc_Book_init, od_Book_init, .func (PySem.W.fnOf "__init__" "Book.__init__" (defArgs st_Book_init) (defBody st_Book_init) (defScope st_Book_init) .none kV_Book_init dc_Book_init pm_Book_init an_Book_init cd_Book_init ct_Book_init), sl_Book_init⟩)
    (c_Book_init : PySem.W.codeIn K cd_Book_init "Book.__init__" = true)
    (k_Book_init : PySem.W.keepIn K (.ref f_Book_init) = true)
    (a_Book_names : PySem.W.findIn K (.ref c_Book) "names" = some (some (.ref f_Book_names)))
    (i_Book_names : PySem.W.isFn K (.ref f_Book_names) = true)
    (l_Book_names : K.lookup f_Book_names = some ⟨oc_Book_names, od_Book_names, .func (PySem.W.fnOf "names" "Book.names" (defArgs st_Book_names) (defBody st_Book_names) (defScope st_Book_names) .none kV_Book_names dc_Book_names pm_Book_names an_Book_names cd_Book_names ct_Book_names), sl_Book_names⟩)
    (c_Book_names : PySem.W.codeIn K cd_Book_names "Book.names" = true)
    (k_Book_names : PySem.W.keepIn K (.ref f_Book_names) = true)
    (a_Book_parts : PySem.W.findIn K (.ref c_Book) "parts" = some (some (.ref f_Book_parts)))
    (i_Book_parts : PySem.W.isFn K (.ref f_Book_parts) = true)
    (l_Book_parts : K.lookup f_Book_parts = some ⟨oc_Book_parts, od_Book_parts, .func (PySem.W.fnOf "parts" "Book.parts" (defArgs st_Book_parts) (defBody st_Book_parts) (defScope st_Book_parts) .none kV_Book_parts dc_Book_parts pm_Book_parts an_Book_parts cd_Book_parts ct_Book_parts), sl_Book_parts⟩)
    (c_Book_parts : PySem.W.codeIn K cd_Book_parts "Book.parts" = true)
    (k_Book_parts : PySem.W.keepIn K (.ref f_Book_parts) = true)
    (a_Book_add : PySem.W.findIn K (.ref c_Book) "__add__" = some (some (.ref f_Book_add)))
    (i_Book_add : PySem.W.isFn K (.ref f_Book_add) = true)
    (l_Book_add : K.lookup f_Book_add = some ⟨oc_Book_add, od_Book_add, .func (PySem.W.fnOf "__add__" "Book.__add__" (defArgs st_Book_add) (defBody st_Book_add) (defScope st_Book_add) .none kV_Book_add dc_Book_add pm_Book_add an_Book_add cd_Book_add ct_Book_add), sl_Book_add⟩)
    (c_Book_add : PySem.W.codeIn K cd_Book_add "Book.__add__" = true)
    (k_Book_add : PySem.W.keepIn K (.ref f_Book_add) = true)
    (a_first_wrong_letter : PySem.W.nsIn K mainGlobals "first_wrong_letter" = some (some (.ref f_first_wrong_letter)))
    (l_first_wrong_letter : K.lookup f_first_wrong_letter = some ⟨oc_first_wrong_letter, od_first_wrong_letter, .func (PySem.W.fnOf "first_wrong_letter" "first_wrong_letter" (defArgs st_first_wrong_letter) (defBody st_first_wrong_letter) (defScope st_first_wrong_letter) .none kV_first_wrong_letter dc_first_wrong_letter pm_first_wrong_letter an_first_wrong_letter cd_first_wrong_letter ct_first_wrong_letter), sl_first_wrong_letter⟩)
    (c_first_wrong_letter : PySem.W.codeIn K cd_first_wrong_letter "first_wrong_letter" = true)
    (k_first_wrong_letter : PySem.W.keepIn K (.ref f_first_wrong_letter) = true)
    (a_Signature_init : PySem.W.findIn K (.ref c_Signature) "__init__" = some (some (.ref f_Signature_init)))
    (i_Signature_init : PySem.W.isFn K (.ref f_Signature_init) = true)
    (l_Signature_init : K.lookup f_Signature_init = some ⟨oc_Signature_init, od_Signature_init, .func (PySem.W.fnOf "__init__" "Signature.__init__" (defArgs st_Signature_init) (defBody st_Signature_init) (defScope st_Signature_init) .none kV_Signature_init dc_Signature_init pm_Signature_init an_Signature_init cd_Signature_init ct_Signature_init), sl_Signature_init⟩)
    (c_Signature_init : PySem.W.codeIn K cd_Signature_init "Signature.__init__" = true)
    (k_Signature_init : PySem.W.keepIn K (.ref f_Signature_init) = true)
    (a_Signature_letters : PySem.W.findIn K (.ref c_Signature) "letters" = some (some (.ref f_Signature_letters)))
    (i_Signature_letters : PySem.W.isFn K (.ref f_Signature_letters) = true)
    (l_Signature_letters : K.lookup f_Signature_letters = some ⟨oc_Signature_letters, od_Signature_letters, .func (PySem.W.fnOf "letters" "Signature.letters" (defArgs st_Signature_letters) (defBody st_Signature_letters) (defScope st_Signature_letters) .none kV_Signature_letters dc_Signature_letters pm_Signature_letters an_Signature_letters cd_Signature_letters ct_Signature_letters), sl_Signature_letters⟩)
    (c_Signature_letters : PySem.W.codeIn K cd_Signature_letters "Signature.letters" = true)
    (k_Signature_letters : PySem.W.keepIn K (.ref f_Signature_letters) = true)
    (a_Signature_add : PySem.W.findIn K (.ref c_Signature) "__add__" = some (some (.ref f_Signature_add)))
    (i_Signature_add : PySem.W.isFn K (.ref f_Signature_add) = true)
    (l_Signature_add : K.lookup f_Signature_add = some ⟨oc_Signature_add, od_Signature_add, .func (PySem.W.fnOf "__add__" "Signature.__add__" (defArgs st_Signature_add) (defBody st_Signature_add) (defScope st_Signature_add) .none kV_Signature_add dc_Signature_add pm_Signature_add an_Signature_add cd_Signature_add ct_Signature_add), sl_Signature_add⟩)
    (c_Signature_add : PySem.W.codeIn K cd_Signature_add "Signature.__add__" = true)
    (k_Signature_add : PySem.W.keepIn K (.ref f_Signature_add) = true)
    (a_Signature_radd : PySem.W.findIn K (.ref c_Signature) "__radd__" = some (some (.ref f_Signature_radd)))
    (i_Signature_radd : PySem.W.isFn K (.ref f_Signature_radd) = true)
    (l_Signature_radd : K.lookup f_Signature_radd = some ⟨oc_Signature_radd, od_Signature_radd, .func (PySem.W.fnOf "__radd__" "Signature.__radd__" (defArgs st_Signature_radd) (defBody st_Signature_radd) (defScope st_Signature_radd) .none kV_Signature_radd dc_Signature_radd pm_Signature_radd an_Signature_radd cd_Signature_radd ct_Signature_radd), sl_Signature_radd⟩)
    (c_Signature_radd : PySem.W.codeIn K cd_Signature_radd "Signature.__radd__" = true)
    (k_Signature_radd : PySem.W.keepIn K (.ref f_Signature_radd) = true)
    (a_Signature_lt : PySem.W.findIn K (.ref c_Signature) "__lt__" = some (some (.ref f_Signature_lt)))
    (i_Signature_lt : PySem.W.isFn K (.ref f_Signature_lt) = true)
    (l_Signature_lt : K.lookup f_Signature_lt = some ⟨oc_Signature_lt, od_Signature_lt, .func (PySem.W.fnOf "__lt__" "Signature.__lt__" (defArgs st_Signature_lt) (defBody st_Signature_lt) (defScope st_Signature_lt) .none kV_Signature_lt dc_Signature_lt pm_Signature_lt an_Signature_lt cd_Signature_lt ct_Signature_lt), sl_Signature_lt⟩)
    (c_Signature_lt : PySem.W.codeIn K cd_Signature_lt "Signature.__lt__" = true)
    (k_Signature_lt : PySem.W.keepIn K (.ref f_Signature_lt) = true)
    (a_Signature_le : PySem.W.findIn K (.ref c_Signature) "__le__" = some (some (.ref f_Signature_le)))
    (i_Signature_le : PySem.W.isFn K (.ref f_Signature_le) = true)
    (l_Signature_le : K.lookup f_Signature_le = some ⟨oc_Signature_le, od_Signature_le, .func (PySem.W.fnOf "__le__" "Signature.__le__" (defArgs st_Signature_le) (defBody st_Signature_le) (defScope st_Signature_le) .none kV_Signature_le dc_Signature_le pm_Signature_le an_Signature_le cd_Signature_le ct_Signature_le), sl_Signature_le⟩)
    (c_Signature_le : PySem.W.codeIn K cd_Signature_le "Signature.__le__" = true)
    (k_Signature_le : PySem.W.keepIn K (.ref f_Signature_le) = true)
    (a_Signature_gt : PySem.W.findIn K (.ref c_Signature) "__gt__" = some (some (.ref f_Signature_gt)))
    (i_Signature_gt : PySem.W.isFn K (.ref f_Signature_gt) = true)
    (l_Signature_gt : K.lookup f_Signature_gt = some ⟨oc_Signature_gt, od_Signature_gt, .func (PySem.W.fnOf "__gt__" "Signature.__gt__" (defArgs st_Signature_gt) (defBody st_Signature_gt) (defScope st_Signature_gt) .none kV_Signature_gt dc_Signature_gt pm_Signature_gt an_Signature_gt cd_Signature_gt ct_Signature_gt), sl_Signature_gt⟩)
    (c_Signature_gt : PySem.W.codeIn K cd_Signature_gt "Signature.__gt__" = true)
    (k_Signature_gt : PySem.W.keepIn K (.ref f_Signature_gt) = true)
    (a_Signature_ge : PySem.W.findIn K (.ref c_Signature) "__ge__" = some (some (.ref f_Signature_ge)))
    (i_Signature_ge : PySem.W.isFn K (.ref f_Signature_ge) = true)
    (l_Signature_ge : K.lookup f_Signature_ge = some ⟨oc_Signature_ge, od_Signature_ge, .func (PySem.W.fnOf "__ge__" "Signature.__ge__" (defArgs st_Signature_ge) (defBody st_Signature_ge) (defScope st_Signature_ge) .none kV_Signature_ge dc_Signature_ge pm_Signature_ge an_Signature_ge cd_Signature_ge ct_Signature_ge), sl_Signature_ge⟩)
    (c_Signature_ge : PySem.W.codeIn K cd_Signature_ge "Signature.__ge__" = true)
    (k_Signature_ge : PySem.W.keepIn K (.ref f_Signature_ge) = true)
    (a_Signature_eq : PySem.W.findIn K (.ref c_Signature) "__eq__" = some (some (.ref f_Signature_eq)))
    (i_Signature_eq : PySem.W.isFn K (.ref f_Signature_eq) = true)
    (l_Signature_eq : K.lookup f_Signature_eq = some ⟨oc_Signature_eq, od_Signature_eq, .func (PySem.W.fnOf "__eq__" "Signature.__eq__" (defArgs st_Signature_eq) (defBody st_Signature_eq) (defScope st_Signature_eq) .none kV_Signature_eq dc_Signature_eq pm_Signature_eq an_Signature_eq cd_Signature_eq ct_Signature_eq), sl_Signature_eq⟩)
    (c_Signature_eq : PySem.W.codeIn K cd_Signature_eq "Signature.__eq__" = true)
    (k_Signature_eq : PySem.W.keepIn K (.ref f_Signature_eq) = true)
    (a_l_draw : PySem.W.nsIn K mainGlobals "_law_draw" = some (some (.ref f_l_draw)))
    (l_l_draw : K.lookup f_l_draw = some ⟨oc_l_draw, od_l_draw, .func (PySem.W.fnOf "_law_draw" "_law_draw" (defArgs st_l_draw) (defBody st_l_draw) (defScope st_l_draw) .none kV_l_draw dc_l_draw pm_l_draw an_l_draw cd_l_draw ct_l_draw), sl_l_draw⟩)
    (c_l_draw : PySem.W.codeIn K cd_l_draw "_law_draw" = true)
    (k_l_draw : PySem.W.keepIn K (.ref f_l_draw) = true)
    (a_l_pick : PySem.W.nsIn K mainGlobals "_law_pick" = some (some (.ref f_l_pick)))
    (l_l_pick : K.lookup f_l_pick = some ⟨oc_l_pick, od_l_pick, .func (PySem.W.fnOf "_law_pick" "_law_pick" (defArgs st_l_pick) (defBody st_l_pick) (defScope st_l_pick) .none kV_l_pick dc_l_pick pm_l_pick an_l_pick cd_l_pick ct_l_pick), sl_l_pick⟩)
    (c_l_pick : PySem.W.codeIn K cd_l_pick "_law_pick" = true)
    (k_l_pick : PySem.W.keepIn K (.ref f_l_pick) = true)
    (a_l_pot : PySem.W.nsIn K mainGlobals "_law_pot" = some (some (.ref f_l_pot)))
    (l_l_pot : K.lookup f_l_pot = some ⟨oc_l_pot, od_l_pot, .func (PySem.W.fnOf "_law_pot" "_law_pot" (defArgs st_l_pot) (defBody st_l_pot) (defScope st_l_pot) .none kV_l_pot dc_l_pot pm_l_pot an_l_pot cd_l_pot ct_l_pot), sl_l_pot⟩)
    (c_l_pot : PySem.W.codeIn K cd_l_pot "_law_pot" = true)
    (k_l_pot : PySem.W.keepIn K (.ref f_l_pot) = true)
    (a_l_row : PySem.W.nsIn K mainGlobals "_law_row" = some (some (.ref f_l_row)))
    (l_l_row : K.lookup f_l_row = some ⟨oc_l_row, od_l_row, .func (PySem.W.fnOf "_law_row" "_law_row" (defArgs st_l_row) (defBody st_l_row) (defScope st_l_row) .none kV_l_row dc_l_row pm_l_row an_l_row cd_l_row ct_l_row), sl_l_row⟩)
    (c_l_row : PySem.W.codeIn K cd_l_row "_law_row" = true)
    (k_l_row : PySem.W.keepIn K (.ref f_l_row) = true)
    (a_l_kind : PySem.W.nsIn K mainGlobals "_law_kind" = some (some (.ref f_l_kind)))
    (l_l_kind : K.lookup f_l_kind = some ⟨oc_l_kind, od_l_kind, .func (PySem.W.fnOf "_law_kind" "_law_kind" (defArgs st_l_kind) (defBody st_l_kind) (defScope st_l_kind) .none kV_l_kind dc_l_kind pm_l_kind an_l_kind cd_l_kind ct_l_kind), sl_l_kind⟩)
    (c_l_kind : PySem.W.codeIn K cd_l_kind "_law_kind" = true)
    (k_l_kind : PySem.W.keepIn K (.ref f_l_kind) = true)
    (a_l_named : PySem.W.nsIn K mainGlobals "_law_named" = some (some (.ref f_l_named)))
    (l_l_named : K.lookup f_l_named = some ⟨oc_l_named, od_l_named, .func (PySem.W.fnOf "_law_named" "_law_named" (defArgs st_l_named) (defBody st_l_named) (defScope st_l_named) .none kV_l_named dc_l_named pm_l_named an_l_named cd_l_named ct_l_named), sl_l_named⟩)
    (c_l_named : PySem.W.codeIn K cd_l_named "_law_named" = true)
    (k_l_named : PySem.W.keepIn K (.ref f_l_named) = true)
    (a_l_rows : PySem.W.nsIn K mainGlobals "_law_rows" = some (some (.ref f_l_rows)))
    (l_l_rows : K.lookup f_l_rows = some ⟨oc_l_rows, od_l_rows, .func (PySem.W.fnOf "_law_rows" "_law_rows" (defArgs st_l_rows) (defBody st_l_rows) (defScope st_l_rows) .none kV_l_rows dc_l_rows pm_l_rows an_l_rows cd_l_rows ct_l_rows), sl_l_rows⟩)
    (c_l_rows : PySem.W.codeIn K cd_l_rows "_law_rows" = true)
    (k_l_rows : PySem.W.keepIn K (.ref f_l_rows) = true)
    (a_l_book : PySem.W.nsIn K mainGlobals "_law_book" = some (some (.ref f_l_book)))
    (l_l_book : K.lookup f_l_book = some ⟨oc_l_book, od_l_book, .func (PySem.W.fnOf "_law_book" "_law_book" (defArgs st_l_book) (defBody st_l_book) (defScope st_l_book) .none kV_l_book dc_l_book pm_l_book an_l_book cd_l_book ct_l_book), sl_l_book⟩)
    (c_l_book : PySem.W.codeIn K cd_l_book "_law_book" = true)
    (k_l_book : PySem.W.keepIn K (.ref f_l_book) = true)
    (a_l_spelled : PySem.W.nsIn K mainGlobals "_law_spelled" = some (some (.ref f_l_spelled)))
    (l_l_spelled : K.lookup f_l_spelled = some ⟨oc_l_spelled, od_l_spelled, .func (PySem.W.fnOf "_law_spelled" "_law_spelled" (defArgs st_l_spelled) (defBody st_l_spelled) (defScope st_l_spelled) .none kV_l_spelled dc_l_spelled pm_l_spelled an_l_spelled cd_l_spelled ct_l_spelled), sl_l_spelled⟩)
    (c_l_spelled : PySem.W.codeIn K cd_l_spelled "_law_spelled" = true)
    (k_l_spelled : PySem.W.keepIn K (.ref f_l_spelled) = true)
    (a_l_letters : PySem.W.nsIn K mainGlobals "_law_letters" = some (some (.ref f_l_letters)))
    (l_l_letters : K.lookup f_l_letters = some ⟨oc_l_letters, od_l_letters, .func (PySem.W.fnOf "_law_letters" "_law_letters" (defArgs st_l_letters) (defBody st_l_letters) (defScope st_l_letters) .none kV_l_letters dc_l_letters pm_l_letters an_l_letters cd_l_letters ct_l_letters), sl_l_letters⟩)
    (c_l_letters : PySem.W.codeIn K cd_l_letters "_law_letters" = true)
    (k_l_letters : PySem.W.keepIn K (.ref f_l_letters) = true)
    (a_l_near : PySem.W.nsIn K mainGlobals "_law_near" = some (some (.ref f_l_near)))
    (l_l_near : K.lookup f_l_near = some ⟨oc_l_near, od_l_near, .func (PySem.W.fnOf "_law_near" "_law_near" (defArgs st_l_near) (defBody st_l_near) (defScope st_l_near) .none kV_l_near dc_l_near pm_l_near an_l_near cd_l_near ct_l_near), sl_l_near⟩)
    (c_l_near : PySem.W.codeIn K cd_l_near "_law_near" = true)
    (k_l_near : PySem.W.keepIn K (.ref f_l_near) = true)
    (a_l_place : PySem.W.nsIn K mainGlobals "_law_place" = some (some (.ref f_l_place)))
    (l_l_place : K.lookup f_l_place = some ⟨oc_l_place, od_l_place, .func (PySem.W.fnOf "_law_place" "_law_place" (defArgs st_l_place) (defBody st_l_place) (defScope st_l_place) .none kV_l_place dc_l_place pm_l_place an_l_place cd_l_place ct_l_place), sl_l_place⟩)
    (c_l_place : PySem.W.codeIn K cd_l_place "_law_place" = true)
    (k_l_place : PySem.W.keepIn K (.ref f_l_place) = true)
    (a_l_pair_right : PySem.W.nsIn K mainGlobals "_law_pair_right" = some (some (.ref f_l_pair_right)))
    (l_l_pair_right : K.lookup f_l_pair_right = some ⟨oc_l_pair_right, od_l_pair_right, .func (PySem.W.fnOf "_law_pair_right" "_law_pair_right" (defArgs st_l_pair_right) (defBody st_l_pair_right) (defScope st_l_pair_right) .none kV_l_pair_right dc_l_pair_right pm_l_pair_right an_l_pair_right cd_l_pair_right ct_l_pair_right), sl_l_pair_right⟩)
    (c_l_pair_right : PySem.W.codeIn K cd_l_pair_right "_law_pair_right" = true)
    (k_l_pair_right : PySem.W.keepIn K (.ref f_l_pair_right) = true)
    (a_l_sorted : PySem.W.nsIn K mainGlobals "_law_sorted" = some (some (.ref f_l_sorted)))
    (l_l_sorted : K.lookup f_l_sorted = some ⟨oc_l_sorted, od_l_sorted, .func (PySem.W.fnOf "_law_sorted" "_law_sorted" (defArgs st_l_sorted) (defBody st_l_sorted) (defScope st_l_sorted) .none kV_l_sorted dc_l_sorted pm_l_sorted an_l_sorted cd_l_sorted ct_l_sorted), sl_l_sorted⟩)
    (c_l_sorted : PySem.W.codeIn K cd_l_sorted "_law_sorted" = true)
    (k_l_sorted : PySem.W.keepIn K (.ref f_l_sorted) = true)
    (a_l_right : PySem.W.nsIn K mainGlobals "_law_right" = some (some (.ref f_l_right)))
    (l_l_right : K.lookup f_l_right = some ⟨oc_l_right, od_l_right, .func (PySem.W.fnOf "_law_right" "_law_right" (defArgs st_l_right) (defBody st_l_right) (defScope st_l_right) .none kV_l_right dc_l_right pm_l_right an_l_right cd_l_right ct_l_right), sl_l_right⟩)
    (c_l_right : PySem.W.codeIn K cd_l_right "_law_right" = true)
    (k_l_right : PySem.W.keepIn K (.ref f_l_right) = true)
    (a_law : PySem.W.nsIn K mainGlobals "law" = some (some (.ref f_law)))
    (l_law : K.lookup f_law = some ⟨oc_law, od_law, .func (PySem.W.fnOf "law" "law" (defArgs st_law) (defBody st_law) (defScope st_law) .none kV_law dc_law pm_law an_law cd_law ct_law), sl_law⟩)
    (c_law : PySem.W.codeIn K cd_law "law" = true)
    (k_law : PySem.W.keepIn K (.ref f_law) = true) :
    ∃ fd : FuncData, (∀ (s : Shared) (v : Value), BindsTo s fd ⟨[v], []⟩ [("_law_script", v)]) ∧ ∀ base : Heap, K.In base → base.Ns mainGlobals mg → FnG l.prog w K mg base 8 fa fd ["_law_script"] (spLaw K) := by
  have e := hfa.symm.trans (PySem.W.mg_of X G a_law)
  cases e
  exact core (ad := ⟨zz_c_CallError, zz_c_InvalidNumber, zz_c_InvalidName, zz_c_InvalidKind, zz_c_InvalidBook, zz_c_InvalidLetter, zz_c_InvalidSignature, zz_c_MissingError, zz_c_UnknownKind, zz_c_StateError, zz_c_OtherBook, zz_c_LimitError, zz_c_TooMany, c_Kind, c_Book, c_Signature, a_GROUPS, a_ALIGNMENTS, a_SIZES⟩) X G cn ctk g_Kind pgKind hdKind poKind saKind caKind cmKind icKind tyKind mkKind kcKind suKind_NoneType suKind_tuple suKind_str suKind_int suKind_list suKind_bool suKind_dict neKind nKind_name nKind_group nKind_size nKind_width nKind_align nKind_parts clKind mrKind cadKind crdKind oad ord_ g_Book pgBook hdBook poBook saBook caBook cmBook icBook tyBook mkBook kcBook suBook_NoneType suBook_tuple suBook_str suBook_int suBook_list suBook_bool suBook_dict neBook nBook_kinds nBook_names nBook_parts sfBook sta str_ nrBook g_Signature pgSignature hdSignature poSignature saSignature caSignature cmSignature icSignature tySignature mkSignature kcSignature suSignature_NoneType suSignature_tuple suSignature_str suSignature_int suSignature_list suSignature_bool suSignature_dict neSignature nSignature_book nSignature_letters nSignature_key sfSignature st3 rdSignature gaSignature cv_Signature_MARK cr_Signature_MARK ga_LONGEST_NAME v_LONGEST_NAME ga_NAME_LETTERS v_NAME_LETTERS ga_GROUPS o_GROUPS v_GROUPS ga_ALIGNMENTS o_ALIGNMENTS v_ALIGNMENTS ga_SIZES o_SIZES v_SIZES ga_DOUBLE_SIZE v_DOUBLE_SIZE ga_LEAST_WIDTH v_LEAST_WIDTH ga_LEAST_DOUBLE_WIDTH v_LEAST_DOUBLE_WIDTH ga_MOST_KINDS v_MOST_KINDS ga_MOST_LETTERS v_MOST_LETTERS b_ArithmeticError b_LookupError b_NotImplemented b_RuntimeError b_TypeError b_ValueError b_abs b_all b_any b_bool b_divmod b_enumerate b_int b_isinstance b_len b_list b_max b_min b_property b_range b_repr b_str b_tuple b_zip a_is_integer l_is_integer c_is_integer k_is_integer a_is_count l_is_count c_is_count k_is_count a_is_between l_is_between c_is_between k_is_between a_is_one_of l_is_one_of c_is_one_of k_is_one_of a_is_word_of l_is_word_of c_is_word_of k_is_word_of a_is_name l_is_name c_is_name k_is_name a_Kind_init i_Kind_init l_Kind_init c_Kind_init k_Kind_init tO_Kind vT_Kind kq_Kind_size kr_Kind_size kq_Kind_width kr_Kind_width kq_Kind_align kr_Kind_align a_Kind_name g_Kind_name t_Kind_name r_Kind_name l_Kind_name c_Kind_name k_Kind_name a_Kind_parts i_Kind_parts l_Kind_parts c_Kind_parts k_Kind_parts a_Book_init i_Book_init l_Book_init c_Book_init k_Book_init a_Book_names i_Book_names l_Book_names c_Book_names k_Book_names a_Book_parts i_Book_parts l_Book_parts c_Book_parts k_Book_parts a_Book_add i_Book_add l_Book_add c_Book_add k_Book_add a_first_wrong_letter l_first_wrong_letter c_first_wrong_letter k_first_wrong_letter a_Signature_init i_Signature_init l_Signature_init c_Signature_init k_Signature_init a_Signature_letters i_Signature_letters l_Signature_letters c_Signature_letters k_Signature_letters a_Signature_add i_Signature_add l_Signature_add c_Signature_add k_Signature_add a_Signature_radd i_Signature_radd l_Signature_radd c_Signature_radd k_Signature_radd a_Signature_lt i_Signature_lt l_Signature_lt c_Signature_lt k_Signature_lt a_Signature_le i_Signature_le l_Signature_le c_Signature_le k_Signature_le a_Signature_gt i_Signature_gt l_Signature_gt c_Signature_gt k_Signature_gt a_Signature_ge i_Signature_ge l_Signature_ge c_Signature_ge k_Signature_ge a_Signature_eq i_Signature_eq l_Signature_eq c_Signature_eq k_Signature_eq a_l_draw l_l_draw c_l_draw k_l_draw a_l_pick l_l_pick c_l_pick k_l_pick a_l_pot l_l_pot c_l_pot k_l_pot a_l_row l_l_row c_l_row k_l_row a_l_kind l_l_kind c_l_kind k_l_kind a_l_named l_l_named c_l_named k_l_named a_l_rows l_l_rows c_l_rows k_l_rows a_l_book l_l_book c_l_book k_l_book a_l_spelled l_l_spelled c_l_spelled k_l_spelled a_l_letters l_l_letters c_l_letters k_l_letters a_l_near l_l_near c_l_near k_l_near a_l_place l_l_place c_l_place k_l_place a_l_pair_right l_l_pair_right c_l_pair_right k_l_pair_right a_l_sorted l_l_sorted c_l_sorted k_l_sorted a_l_right l_l_right c_l_right k_l_right l_law c_law k_law
end K23
set_option Elab.async false
set_option linter.all false
open PySem PySem.W PyProof.Rows L2
set_option maxRecDepth 100000 in
set_option maxHeartbeats 0 in
theorem PySem.Challenge.cw_unlikecalls_k23_signatures_in_order_holds : PySem.Challenge.rw_unlikecalls_k23_signatures_in_order.Holds := by
  w_on; o_law; k_head; (case hw => w_witness2)
  k_fill
  refine UL.walkG (l := PySem.Challenge.rw_unlikecalls_k23_signatures_in_order) (n := 63) (k := 8) (x := "_law_script") (sp := fun w => K23.spLaw _) rfl (by decide) rfl ⟨rfl, by decide, by decide⟩ (fun w h Y => PySem.W.kIn_of Y) ?F (fun _ _ a ns hl _ hS => ⟨a, ns, rfl, hS, hl, fun _ => rfl⟩)
  case F =>
    intro w mg fa h KX G hmg
    refine' K23.all_mk (zz_c_CallError := 0) (zz_c_InvalidNumber := 0) (zz_c_InvalidName := 0) (zz_c_InvalidKind := 0) (zz_c_InvalidBook := 0) (zz_c_InvalidLetter := 0) (zz_c_InvalidSignature := 0) (zz_c_MissingError := 0) (zz_c_UnknownKind := 0) (zz_c_StateError := 0) (zz_c_OtherBook := 0) (zz_c_LimitError := 0) (zz_c_TooMany := 0) KX G hmg ?cn ?ctk ?g_Kind ?pgKind ?hdKind ?poKind ?saKind ?caKind ?cmKind ?icKind ?tyKind ?mkKind ?kcKind ?suKind_NoneType ?suKind_tuple ?suKind_str ?suKind_int ?suKind_list ?suKind_bool ?suKind_dict ?neKind ?nKind_name ?nKind_group ?nKind_size ?nKind_width ?nKind_align ?nKind_parts ?clKind ?mrKind ?cadKind ?crdKind ?oad ?ord_ ?g_Book ?pgBook ?hdBook ?poBook ?saBook ?caBook ?cmBook ?icBook ?tyBook ?mkBook ?kcBook ?suBook_NoneType ?suBook_tuple ?suBook_str ?suBook_int ?suBook_list ?suBook_bool ?suBook_dict ?neBook ?nBook_kinds ?nBook_names ?nBook_parts ?sfBook ?sta ?str_ ?nrBook ?g_Signature ?pgSignature ?hdSignature ?poSignature ?saSignature ?caSignature ?cmSignature ?icSignature ?tySignature ?mkSignature ?kcSignature ?suSignature_NoneType ?suSignature_tuple ?suSignature_str ?suSignature_int ?suSignature_list ?suSignature_bool ?suSignature_dict ?neSignature ?nSignature_book ?nSignature_letters ?nSignature_key ?sfSignature ?st3 ?rdSignature ?gaSignature ?cv_Signature_MARK ?cr_Signature_MARK ?ga_LONGEST_NAME ?v_LONGEST_NAME ?ga_NAME_LETTERS ?v_NAME_LETTERS ?ga_GROUPS ?o_GROUPS ?v_GROUPS ?ga_ALIGNMENTS ?o_ALIGNMENTS ?v_ALIGNMENTS ?ga_SIZES ?o_SIZES ?v_SIZES ?ga_DOUBLE_SIZE ?v_DOUBLE_SIZE ?ga_LEAST_WIDTH ?v_LEAST_WIDTH ?ga_LEAST_DOUBLE_WIDTH ?v_LEAST_DOUBLE_WIDTH ?ga_MOST_KINDS ?v_MOST_KINDS ?ga_MOST_LETTERS ?v_MOST_LETTERS ?b_ArithmeticError ?b_LookupError ?b_NotImplemented ?b_RuntimeError ?b_TypeError ?b_ValueError ?b_abs ?b_all ?b_any ?b_bool ?b_divmod ?b_enumerate ?b_int ?b_isinstance ?b_len ?b_list ?b_max ?b_min ?b_property ?b_range ?b_repr ?b_str ?b_tuple ?b_zip ?a_is_integer ?l_is_integer ?c_is_integer ?k_is_integer ?a_is_count ?l_is_count ?c_is_count ?k_is_count ?a_is_between ?l_is_between ?c_is_between ?k_is_between ?a_is_one_of ?l_is_one_of ?c_is_one_of ?k_is_one_of ?a_is_word_of ?l_is_word_of ?c_is_word_of ?k_is_word_of ?a_is_name ?l_is_name ?c_is_name ?k_is_name ?a_Kind_init ?i_Kind_init ?l_Kind_init ?c_Kind_init ?k_Kind_init ?tO_Kind ?vT_Kind ?kq_Kind_size ?kr_Kind_size ?kq_Kind_width ?kr_Kind_width ?kq_Kind_align ?kr_Kind_align ?a_Kind_name ?g_Kind_name ?t_Kind_name ?r_Kind_name ?l_Kind_name ?c_Kind_name ?k_Kind_name ?a_Kind_parts ?i_Kind_parts ?l_Kind_parts ?c_Kind_parts ?k_Kind_parts ?a_Book_init ?i_Book_init ?l_Book_init ?c_Book_init ?k_Book_init ?a_Book_names ?i_Book_names ?l_Book_names ?c_Book_names ?k_Book_names ?a_Book_parts ?i_Book_parts ?l_Book_parts ?c_Book_parts ?k_Book_parts ?a_Book_add ?i_Book_add ?l_Book_add ?c_Book_add ?k_Book_add ?a_first_wrong_letter ?l_first_wrong_letter ?c_first_wrong_letter ?k_first_wrong_letter ?a_Signature_init ?i_Signature_init ?l_Signature_init ?c_Signature_init ?k_Signature_init ?a_Signature_letters ?i_Signature_letters ?l_Signature_letters ?c_Signature_letters ?k_Signature_letters ?a_Signature_add ?i_Signature_add ?l_Signature_add ?c_Signature_add ?k_Signature_add ?a_Signature_radd ?i_Signature_radd ?l_Signature_radd ?c_Signature_radd ?k_Signature_radd ?a_Signature_lt ?i_Signature_lt ?l_Signature_lt ?c_Signature_lt ?k_Signature_lt ?a_Signature_le ?i_Signature_le ?l_Signature_le ?c_Signature_le ?k_Signature_le ?a_Signature_gt ?i_Signature_gt ?l_Signature_gt ?c_Signature_gt ?k_Signature_gt ?a_Signature_ge ?i_Signature_ge ?l_Signature_ge ?c_Signature_ge ?k_Signature_ge ?a_Signature_eq ?i_Signature_eq ?l_Signature_eq ?c_Signature_eq ?k_Signature_eq ?a_l_draw ?l_l_draw ?c_l_draw ?k_l_draw ?a_l_pick ?l_l_pick ?c_l_pick ?k_l_pick ?a_l_pot ?l_l_pot ?c_l_pot ?k_l_pot ?a_l_row ?l_l_row ?c_l_row ?k_l_row ?a_l_kind ?l_l_kind ?c_l_kind ?k_l_kind ?a_l_named ?l_l_named ?c_l_named ?k_l_named ?a_l_rows ?l_l_rows ?c_l_rows ?k_l_rows ?a_l_book ?l_l_book ?c_l_book ?k_l_book ?a_l_spelled ?l_l_spelled ?c_l_spelled ?k_l_spelled ?a_l_letters ?l_l_letters ?c_l_letters ?k_l_letters ?a_l_near ?l_l_near ?c_l_near ?k_l_near ?a_l_place ?l_l_place ?c_l_place ?k_l_place ?a_l_pair_right ?l_l_pair_right ?c_l_pair_right ?k_l_pair_right ?a_l_sorted ?l_l_sorted ?c_l_sorted ?k_l_sorted ?a_l_right ?l_l_right ?c_l_right ?k_l_right ?a_law ?l_law ?c_law ?k_law
    (case cn => k_is)
    (case ctk => k_is)
    (case g_Kind => k_is)
    (case pgKind => k_is)
    (case hdKind => k_is)
    (case poKind => k_is)
    (case saKind => k_is)
    (case caKind => k_is)
    (case cmKind => k_is)
    (case icKind => k_is)
    (case tyKind => k_is)
    (case mkKind => k_is)
    (case kcKind => k_is)
    (case suKind_NoneType => k_is)
    (case suKind_tuple => k_is)
    (case suKind_str => k_is)
    (case suKind_int => k_is)
    (case suKind_list => k_is)
    (case suKind_bool => k_is)
    (case suKind_dict => k_is)
    (case neKind => k_is)
    (case nKind_name => k_is)
    (case nKind_group => k_is)
    (case nKind_size => k_is)
    (case nKind_width => k_is)
    (case nKind_align => k_is)
    (case nKind_parts => k_is)
    (case clKind => k_is)
    (case mrKind => rfl)
    (case cadKind => k_is)
    (case crdKind => k_is)
    (case oad => k_is)
    (case ord_ => k_is)
    (case g_Book => k_is)
    (case pgBook => k_is)
    (case hdBook => k_is)
    (case poBook => k_is)
    (case saBook => k_is)
    (case caBook => k_is)
    (case cmBook => k_is)
    (case icBook => k_is)
    (case tyBook => k_is)
    (case mkBook => k_is)
    (case kcBook => k_is)
    (case suBook_NoneType => k_is)
    (case suBook_tuple => k_is)
    (case suBook_str => k_is)
    (case suBook_int => k_is)
    (case suBook_list => k_is)
    (case suBook_bool => k_is)
    (case suBook_dict => k_is)
    (case neBook => k_is)
    (case nBook_kinds => k_is)
    (case nBook_names => k_is)
    (case nBook_parts => k_is)
    (case sfBook => k_is)
    (case sta => k_is)
    (case str_ => k_is)
    (case nrBook => k_is)
    (case g_Signature => k_is)
    (case pgSignature => k_is)
    (case hdSignature => k_is)
    (case poSignature => k_is)
    (case saSignature => k_is)
    (case caSignature => k_is)
    (case cmSignature => k_is)
    (case icSignature => k_is)
    (case tySignature => k_is)
    (case mkSignature => k_is)
    (case kcSignature => k_is)
    (case suSignature_NoneType => k_is)
    (case suSignature_tuple => k_is)
    (case suSignature_str => k_is)
    (case suSignature_int => k_is)
    (case suSignature_list => k_is)
    (case suSignature_bool => k_is)
    (case suSignature_dict => k_is)
    (case neSignature => k_is)
    (case nSignature_book => k_is)
    (case nSignature_letters => k_is)
    (case nSignature_key => k_is)
    (case sfSignature => k_is)
    (case st3 => rfl)
    (case rdSignature => k_is)
    (case gaSignature => k_is)
    (case cv_Signature_MARK => k_is)
    (case cr_Signature_MARK => exact ⟨_, rfl⟩)
    (case ga_LONGEST_NAME => k_is)
    (case v_LONGEST_NAME => exact ⟨_, rfl⟩)
    (case ga_NAME_LETTERS => k_is)
    (case v_NAME_LETTERS => exact ⟨_, rfl⟩)
    (case ga_GROUPS => k_is)
    (case o_GROUPS => k_is)
    (case v_GROUPS => exact .cons ⟨_, rfl⟩ (.cons ⟨_, rfl⟩ .nil))
    (case ga_ALIGNMENTS => k_is)
    (case o_ALIGNMENTS => k_is)
    (case v_ALIGNMENTS => exact .cons ⟨_, rfl⟩ (.cons ⟨_, rfl⟩ (.cons ⟨_, rfl⟩ (.cons ⟨_, rfl⟩ (.cons ⟨_, rfl⟩ .nil)))))
    (case ga_SIZES => k_is)
    (case o_SIZES => k_is)
    (case v_SIZES => exact .cons ⟨_, rfl⟩ (.cons ⟨_, rfl⟩ (.cons ⟨_, rfl⟩ (.cons ⟨_, rfl⟩ (.cons ⟨_, rfl⟩ .nil)))))
    (case ga_DOUBLE_SIZE => k_is)
    (case v_DOUBLE_SIZE => exact ⟨_, rfl⟩)
    (case ga_LEAST_WIDTH => k_is)
    (case v_LEAST_WIDTH => exact ⟨_, rfl⟩)
    (case ga_LEAST_DOUBLE_WIDTH => k_is)
    (case v_LEAST_DOUBLE_WIDTH => exact ⟨_, rfl⟩)
    (case ga_MOST_KINDS => k_is)
    (case v_MOST_KINDS => exact ⟨_, rfl⟩)
    (case ga_MOST_LETTERS => k_is)
    (case v_MOST_LETTERS => exact ⟨_, rfl⟩)
    (case b_ArithmeticError => k_is)
    (case b_LookupError => k_is)
    (case b_NotImplemented => k_is)
    (case b_RuntimeError => k_is)
    (case b_TypeError => k_is)
    (case b_ValueError => k_is)
    (case b_abs => k_is)
    (case b_all => k_is)
    (case b_any => k_is)
    (case b_bool => k_is)
    (case b_divmod => k_is)
    (case b_enumerate => k_is)
    (case b_int => k_is)
    (case b_isinstance => k_is)
    (case b_len => k_is)
    (case b_list => k_is)
    (case b_max => k_is)
    (case b_min => k_is)
    (case b_property => k_is)
    (case b_range => k_is)
    (case b_repr => k_is)
    (case b_str => k_is)
    (case b_tuple => k_is)
    (case b_zip => k_is)
    (case a_is_integer => k_is)
    (case l_is_integer => k_is)
    (case c_is_integer => k_is)
    (case k_is_integer => k_is)
    (case a_is_count => k_is)
    (case l_is_count => k_is)
    (case c_is_count => k_is)
    (case k_is_count => k_is)
    (case a_is_between => k_is)
    (case l_is_between => k_is)
    (case c_is_between => k_is)
    (case k_is_between => k_is)
    (case a_is_one_of => k_is)
    (case l_is_one_of => k_is)
    (case c_is_one_of => k_is)
    (case k_is_one_of => k_is)
    (case a_is_word_of => k_is)
    (case l_is_word_of => k_is)
    (case c_is_word_of => k_is)
    (case k_is_word_of => k_is)
    (case a_is_name => k_is)
    (case l_is_name => k_is)
    (case c_is_name => k_is)
    (case k_is_name => k_is)
    (case a_Kind_init => k_is)
    (case i_Kind_init => k_is)
    (case l_Kind_init => k_is)
    (case c_Kind_init => k_is)
    (case k_Kind_init => k_is)
    (case tO_Kind => k_is)
    (case vT_Kind => exact .cons ⟨_, rfl⟩ .nil)
    (case kq_Kind_size => k_is)
    (case kr_Kind_size => exact ⟨_, rfl⟩)
    (case kq_Kind_width => k_is)
    (case kr_Kind_width => exact rfl)
    (case kq_Kind_align => k_is)
    (case kr_Kind_align => exact rfl)
    (case a_Kind_name => k_is)
    (case g_Kind_name => k_is)
    (case t_Kind_name => k_is)
    (case r_Kind_name => k_is)
    (case l_Kind_name => k_is)
    (case c_Kind_name => k_is)
    (case k_Kind_name => k_is)
    (case a_Kind_parts => k_is)
    (case i_Kind_parts => k_is)
    (case l_Kind_parts => k_is)
    (case c_Kind_parts => k_is)
    (case k_Kind_parts => k_is)
    (case a_Book_init => k_is)
    (case i_Book_init => k_is)
    (case l_Book_init => k_is)
    (case c_Book_init => k_is)
    (case k_Book_init => k_is)
    (case a_Book_names => k_is)
    (case i_Book_names => k_is)
    (case l_Book_names => k_is)
    (case c_Book_names => k_is)
    (case k_Book_names => k_is)
    (case a_Book_parts => k_is)
    (case i_Book_parts => k_is)
    (case l_Book_parts => k_is)
    (case c_Book_parts => k_is)
    (case k_Book_parts => k_is)
    (case a_Book_add => k_is)
    (case i_Book_add => k_is)
    (case l_Book_add => k_is)
    (case c_Book_add => k_is)
    (case k_Book_add => k_is)
    (case a_first_wrong_letter => k_is)
    (case l_first_wrong_letter => k_is)
    (case c_first_wrong_letter => k_is)
    (case k_first_wrong_letter => k_is)
    (case a_Signature_init => k_is)
    (case i_Signature_init => k_is)
    (case l_Signature_init => k_is)
    (case c_Signature_init => k_is)
    (case k_Signature_init => k_is)
    (case a_Signature_letters => k_is)
    (case i_Signature_letters => k_is)
    (case l_Signature_letters => k_is)
    (case c_Signature_letters => k_is)
    (case k_Signature_letters => k_is)
    (case a_Signature_add => k_is)
    (case i_Signature_add => k_is)
    (case l_Signature_add => k_is)
    (case c_Signature_add => k_is)
    (case k_Signature_add => k_is)
    (case a_Signature_radd => k_is)
    (case i_Signature_radd => k_is)
    (case l_Signature_radd => k_is)
    (case c_Signature_radd => k_is)
    (case k_Signature_radd => k_is)
    (case a_Signature_lt => k_is)
    (case i_Signature_lt => k_is)
    (case l_Signature_lt => k_is)
    (case c_Signature_lt => k_is)
    (case k_Signature_lt => k_is)
    (case a_Signature_le => k_is)
    (case i_Signature_le => k_is)
    (case l_Signature_le => k_is)
    (case c_Signature_le => k_is)
    (case k_Signature_le => k_is)
    (case a_Signature_gt => k_is)
    (case i_Signature_gt => k_is)
    (case l_Signature_gt => k_is)
    (case c_Signature_gt => k_is)
    (case k_Signature_gt => k_is)
    (case a_Signature_ge => k_is)
    (case i_Signature_ge => k_is)
    (case l_Signature_ge => k_is)
    (case c_Signature_ge => k_is)
    (case k_Signature_ge => k_is)
    (case a_Signature_eq => k_is)
    (case i_Signature_eq => k_is)
    (case l_Signature_eq => k_is)
    (case c_Signature_eq => k_is)
    (case k_Signature_eq => k_is)
    (case a_l_draw => k_is)
    (case l_l_draw => k_is)
    (case c_l_draw => k_is)
    (case k_l_draw => k_is)
    (case a_l_pick => k_is)
    (case l_l_pick => k_is)
    (case c_l_pick => k_is)
    (case k_l_pick => k_is)
    (case a_l_pot => k_is)
    (case l_l_pot => k_is)
    (case c_l_pot => k_is)
    (case k_l_pot => k_is)
    (case a_l_row => k_is)
    (case l_l_row => k_is)
    (case c_l_row => k_is)
    (case k_l_row => k_is)
    (case a_l_kind => k_is)
    (case l_l_kind => k_is)
    (case c_l_kind => k_is)
    (case k_l_kind => k_is)
    (case a_l_named => k_is)
    (case l_l_named => k_is)
    (case c_l_named => k_is)
    (case k_l_named => k_is)
    (case a_l_rows => k_is)
    (case l_l_rows => k_is)
    (case c_l_rows => k_is)
    (case k_l_rows => k_is)
    (case a_l_book => k_is)
    (case l_l_book => k_is)
    (case c_l_book => k_is)
    (case k_l_book => k_is)
    (case a_l_spelled => k_is)
    (case l_l_spelled => k_is)
    (case c_l_spelled => k_is)
    (case k_l_spelled => k_is)
    (case a_l_letters => k_is)
    (case l_l_letters => k_is)
    (case c_l_letters => k_is)
    (case k_l_letters => k_is)
    (case a_l_near => k_is)
    (case l_l_near => k_is)
    (case c_l_near => k_is)
    (case k_l_near => k_is)
    (case a_l_place => k_is)
    (case l_l_place => k_is)
    (case c_l_place => k_is)
    (case k_l_place => k_is)
    (case a_l_pair_right => k_is)
    (case l_l_pair_right => k_is)
    (case c_l_pair_right => k_is)
    (case k_l_pair_right => k_is)
    (case a_l_sorted => k_is)
    (case l_l_sorted => k_is)
    (case c_l_sorted => k_is)
    (case k_l_sorted => k_is)
    (case a_l_right => k_is)
    (case l_l_right => k_is)
    (case c_l_right => k_is)
    (case k_l_right => k_is)
    (case a_law => k_is)
    (case l_law => k_is)
    (case c_law => k_is)
    (case k_law => k_is)
#print axioms PySem.Challenge.cw_unlikecalls_k23_signatures_in_order_holds
