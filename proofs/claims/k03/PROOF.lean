import PyProof.Rows.All
import Wide.All
import OpenK.AllK
import Wide.FinOn
import HandS.ForMost
import HandS.Gcd
import HandS.FStr
import HandS.Style
import HandS.Wide
import HandS.Codes
import HandS.More
import HandS.IsInst
import HandS.RaiseMore
import HandS.Defaults
import HandS.WordsExc
import HandS.ExcOwn
import KE.KCallOwn
import KE.KOpsOwn
import HandS.Ends
import HandS.Exc
import HandS.ExcValue
import HandS.ExcIs
import HandS.TryOnly
import HandS.Head0
import HandS.Head1
import HandS.Head2
import HandS.Head3
import HandS.HeadHook1
import HandS.HeadHook2
import HandS.OwnEq
import PyProof.EqKinds
import PyProof.EqAt
import PyProof.NeKinds
import HandS.FStrTup
import HandS.Zip
import PySem.Challenge.RW_foldparts_k03_equal_ratios
set_option Elab.async false
set_option linter.all false
set_option maxRecDepth 100000
set_option maxHeartbeats 2000000
/-! Generic rules of my own: floor division by great divisors of either sign, own operators of plain instances, str() by an own __str__, repr of tuples where nothing is being written out, and promises that know of that. -/
namespace GL
open PySem PySem.Spec PyProof.Rows L2
/-! ### floor division, any divisor below 9000 bits -/
def FdC (_ j : Int) : Prop := j ≠ 0 ∧ j.natAbs.log2 < 9000
section
variable {X : Cx}
theorem op_fd : OpR X (binaryOp .FloorDiv) (rI FdC fun i j => .int (i.fdiv j)) :=
  opI fun _ _ _ _ _ _ _ hc q => floordiv_int hc.1 q (.inl (PyProof.noPylong_of_log2 hc.2))
end
/-! ### room, with nothing being written out -/
structure RG (k : Nat) (A : Around) : Prop where
  rm : Room k A
  gd : A.guards = some []
theorem RG.le {j k : Nat} {A : Around} (r : RG k A) (h : j ≤ k) : RG j A := ⟨r.rm.mono h, r.gd⟩
theorem RG.deep {k : Nat} {A : Around} (r : RG (k + 1) A) (env : Env) : RG k (A.deeper env) := ⟨r.rm.deeper env, r.gd⟩
/-- a promise that may lean on that; nothing is raised -/
def FnG (P : Program) (w : World) (K : PySem.W.Frag) (mg : Str → Option Value) (base : Heap) (k : Nat) (f : Addr) (sp : Sp) : Prop :=
  ∀ (A : Around) (out : List Env) (s : Shared) (H : Hp) (us : List Value) (vs : List V) (Q : VK), RG k A → Env0 P w K mg base A out s H → Vals vs us →
    sp vs H Q E0 → codeAny (model P w) A (.call (.ref f) ⟨us, []⟩) (CR CX0 out P w H s Q E0) s
section
variable {P : Program} {w : World} {K : PySem.W.Frag} {mg : Str → Option Value} {base : Heap} {k j : Nat} {f : Addr} {sp : Sp}
theorem FnG.le (F : FnG P w K mg base j f sp) (h : j ≤ k) : FnG P w K mg base k f sp :=
  fun A out s H us vs Q hr => F A out s H us vs Q (hr.le h)
/-- the rule for a def's body -/
theorem fng_of {name qual : Str} {params : Arguments} {body : List Stmt} {scope : Scope} {dvs : List V} {kws : List (Str × V)} {fd : FuncData} {N ps : List Str}
    (F : FunD K name qual params body scope dvs kws f fd) (S : FnScope N ps scope) (len : ∀ vs H Q E, sp vs H Q E → vs.length = ps.length) (bd : Binds K fd ps [])
    (go : ∀ (cdv : Value) (A : Around) (out : List Env) (s : Shared) (H : Hp) (vs : List V) (Q : VK), RG k (A.deeper (envOfC qual scope s.heap.objs.size f cdv)) → sp vs H Q E0 →
      ∃ t, PSs (cxOf CX0 P w K mg base N qual scope f cdv A out s H E0) body t ∧ t { nx := fun _ H' => Q .non H', rt := Q } (start N vs) H) :
    FnG P w K mg base (k + 1) f sp := by
  intro A out s H us vs Q hr e0 rv hsp
  obtain ⟨oc, od, dV, kV, doc, pm, an, cdv, ct, osl, efd, lk, hcd, _, _⟩ := F.ex
  subst efd
  have hl := len _ _ _ _ hsp
  have inK : K.In s.heap := e0.mod.kin.keeps fun b o e => (e0.bs b o e).1
  have lim : s.heap.NoLimit := e0.mod.nolimit.keeps fun b o e => (e0.bs b o e).1
  have kinds : ∀ y ∈ ps.zip us, scope.names.lookup y.1 = some .local ∨ (scope.names.lookup y.1 = some .cell ∧ ((cellsFrom (s.heap.objs.size + 1) scope.names []).lookup y.1).isSome = true) := by
    rintro ⟨n, v⟩ hy
    rcases S.par n (List.of_mem_zip hy).1 with q | q
    · exact Or.inl q
    · exact Or.inr ⟨q, PySem.W.cellsFrom_some _ _ _ (Or.inl q)⟩
  have bnd := bd s us inK (by rw [List.append_nil, ← rv.length]; exact hl)
  rw [List.append_nil] at bnd
  refine codeAny_call_function hr.rm.depth (inK _ _ lk) rfl S.co S.gen rfl (PySem.W.codeRec_of inK hcd) (bnd _ _ _ _ ?_)
  refine wpAny_newFunctionEnv_cells S.kind kinds fun env he s1 x => ?_
  subst he
  refine ⟨lim.keeps x.toInCall.keep, codeAny_func ?_⟩
  obtain ⟨t, ht, hq⟩ := go cdv A out s H vs Q (hr.deep _) hsp
  have I := inv_start (CX := CX0) (P := P) (E := E0) S hr.rm.hd e0 hl rv x
  refine wpAny_mono (ht.run [] s1 (start N vs) H _ I hq) (fun fl s' hs => ?_) (fun _ _ hs => hs)
  cases fl with
  | ret u =>
    obtain ⟨v, σ', H', J, r2, q2⟩ := hs
    exact (⟨v, H', J.os, J.bare, J.base, J.hok, r2, q2⟩ : CE out P w H s Q u s')
  | next =>
    obtain ⟨σ', H', J, q2⟩ := hs
    exact (⟨V.non, H', J.os, J.bare, J.base, J.hok, rfl, q2⟩ : CE out P w H s Q Value.none s')
  | brk =>
    obtain ⟨_, _, _, q2⟩ := hs
    exact q2.elim
  | cont =>
    obtain ⟨_, _, _, q2⟩ := hs
    exact q2.elim
end
/-! ### calls of such defs -/
section
variable {X : Cx} {k : Nat} {f : Addr} {sp : Sp} {x : Str} {p pos : Pos} {e : Expr} {es : List Expr} {t : TA}
theorem run_g {pins : List (Addr × Obj)} {σ : L2.St} {H : Hp} {s : Shared} {Q : VK} {us : List Value} {vs : List V} (F : FnG X.prog X.w X.K X.mg X.base k f sp) (hr : RG k X.A)
    (I : Inv X pins σ H s) (r : Vals vs us) (h : sp vs H Q E0) : wpAny (model X.prog X.w) X.A (call (.ref f) us) (EP X pins σ Q) X.xe s := by
  refine wpAny_call (codeAny_mono (F X.A X.stack s H us vs Q hr I.env0 r h) fun res s' hq => ?_)
  cases res with
  | error er => exact (show False from hq).elim
  | ok fl =>
    cases fl with
    | ret u => exact I.after hq
    | next => exact (show False from hq).elim
    | brk => exact (show False from hq).elim
    | cont => exact (show False from hq).elim
def tCallG (sp : Sp) (t : TA) : TE := fun σ H Q => t σ H fun vs H1 => sp vs H1 Q E0
theorem pe_callG (F : FnG X.prog X.w X.K X.mg X.base k f sp) (hr : RG k X.A) (hg : Gl X x) (hm : X.mg x = some (.ref f)) (hk : PySem.W.keepIn X.K (.ref f) = true) (ha : PA X (e :: es) t)
    (hdb : (x == ("__debug__" : Str)) = false := by decide) (he : starEach (e :: es) X.env = (false, eval e X.env) :: starEach es X.env := by rfl)
    (hpl : (backTo pos (starEach es X.env)).any (·.1) = false := by rfl) : PE X (.Call (.Name x p) (e :: es) [] pos) (tCallG sp t) := by
  refine ⟨fun pins s σ H Q I h => ?_⟩
  refine wpAny_Call_Name_kw (ld_glob I hg hm ?_ hdb)
  refine PySem.W.callWith_K (h₀ := X.base) I.ok.mod.kin hk ?_ he hpl
  refine thn (ha.run pos pins s σ H _ I h) fun us s1 hh => ?_
  obtain ⟨vs, H1, I1, r, q⟩ := hh
  exact ⟨I1.kIn, run_g F hr I1 r q⟩
end
/-! ### repr of a tuple of data -/
section
variable {X : Cx}
def rReprD (K : PySem.W.Frag) : List V → Hp → VK → Prop := fun xs H Q => ∃ (a : Addr) (d : PyData), xs = [.ref a] ∧ Dp K H (.ref a) d ∧ d.showable = true ∧ d.hasDict = false ∧ d.depth ≤ 60 ∧ d.shown.length ≤ sizeLine ∧ Q (.str d.shown) H
theorem call_reprD {k : Nat} (hr : RG k X.A) : CallR X (.builtin "repr") (rReprD X.K) := by
  intro pins s σ H xs us Q I r h
  obtain ⟨a, d, rfl, hd, hs, hn, h60, hz, q⟩ := h
  obtain ⟨u, rfl, ru⟩ := r.one
  cases (show u = Value.ref a from ru)
  obtain ⟨as, rd⟩ := Dp.reads I d (.ref a) (.ref a) hd rfl
  have hu := hr.rm.units
  refine repr_of_reads' rd hs (PyData.noDict_hsm hn) hr.gd (by omega) (fun _ _ e => e) (fun h' u tk hk => ?_) hz
  exact ⟨.str d.shown, H, I.kept hk, ⟨u, rfl⟩, q⟩
end
/-! ### own operators of plain instances -/
theorem back_ok {P : Value → Shared → Prop} {z : V} {v : Value} {s' : Shared} (r : RelV z v) (h : P v s') : PySem.W.CmpBack P v s' := by
  cases z with
  | non => cases (show v = Value.none from r); exact h
  | bl b => cases (show v = Value.bool b from r); exact h
  | int i => obtain ⟨t, rfl⟩ := (show ∃ t, v = Value.int i t from r); exact h
  | str x => obtain ⟨t, rfl⟩ := (show ∃ t, v = Value.str x t from r); exact h
  | byt b => obtain ⟨t, rfl⟩ := (show ∃ t, v = Value.bytes b t from r); exact h
  | flt b => obtain ⟨t, rfl⟩ := (show ∃ t, v = Value.float b t from r); exact h
  | ref a => cases (show v = Value.ref a from r); exact h
  | ty n => cases (show v = Value.type n from r); exact h
section
variable {X : Cx} {pins : List (Addr × Obj)} {σ : L2.St} {H : Hp} {s : Shared} {a C dx : Addr} {fs : List (Str × V)}
theorem inst_of (I : Inv X pins σ H s) (ha : H a = some (.ins C dx fs)) : ∃ ox od, PySem.W.InstAt s.heap a ox C od := by
  obtain ⟨mA, O, _⟩ := ins_get I.hok ha
  obtain ⟨od, J, _⟩ := O.look
  exact ⟨_, _, J⟩
variable {CX : CXT} {n : Nat} {g : Addr} {sp : Sp} {E : XK} {m : Str}
/-- x op y of two instances of the class at C by C's own def -/
def rOwn2 (C : Addr) (sp : Sp) (E : XK) : R2 := fun x y H Q => ∃ a dx fs b dy gs, x = .ref a ∧ y = .ref b ∧ H a = some (.ins C dx fs) ∧ H b = some (.ins C dy gs) ∧ sp [x, y] H Q E
theorem op_ownBin {op : Operator} (hc : PySem.W.selfFirst X.K C = true) (hm : Meth X.K C (PySem.dunder op.info.2) g) (F : FnR X.prog X.w X.K X.mg X.base CX n g sp) (hr : Room n X.A) (hx : Passes CX X E) :
    OpR X (binaryOp op) (rOwn2 C sp E) := by
  intro pins s σ H x y v u Q I rx ry h
  obtain ⟨a, dx, fs, b, dy, gs, rfl, rfl, ha, hb, q⟩ := h
  cases (show v = Value.ref a from rx)
  cases (show u = Value.ref b from ry)
  obtain ⟨ox, od, J⟩ := inst_of I ha
  obtain ⟨oy, oe, J'⟩ := inst_of I hb
  obtain ⟨mm, hF⟩ := I.fr
  refine PySem.W.binop_K hF I.ok.mod.kin J J'.type hc hm.at_ hm.fn ?_
  refine wpAny_mono (wpAny_call (run_fnR (us := [.ref a, .ref b]) (vs := [.ref a, .ref b]) F hr hx I (.cons rfl (.cons rfl .nil)) q)) (fun w' s' z => ?_) (fun _ _ z => z)
  obtain ⟨z', H', I', rz, qz⟩ := z
  exact back_ok rz ⟨z', H', I', rz, qz⟩
theorem op_ownCmp {op : CmpOp} (hop : ∀ a b, compareOp op a b = richCompare op a b) (hnf : PySem.W.notFirst X.K C (.ref C) = true) (hm : Meth X.K C (cmpInfo op).2.1 g)
    (F : FnR X.prog X.w X.K X.mg X.base CX n g sp) (hr : Room n X.A) (hx : Passes CX X E) : OpR X (compareOp op) (rOwn2 C sp E) := by
  intro pins s σ H x y v u Q I rx ry h
  obtain ⟨a, dx, fs, b, dy, gs, rfl, rfl, ha, hb, q⟩ := h
  cases (show v = Value.ref a from rx)
  cases (show u = Value.ref b from ry)
  obtain ⟨ox, od, J⟩ := inst_of I ha
  obtain ⟨oy, oe, J'⟩ := inst_of I hb
  obtain ⟨mm, hF⟩ := I.fr
  rw [hop]
  refine PySem.W.cmp_K (op := op) (tb := .ref C) hr.units0 hF I.ok.mod.kin J J'.type hnf hm.at_ hm.fn ?_
  refine wpAny_mono (wpAny_call (run_fnR (us := [.ref a, .ref b]) (vs := [.ref a, .ref b]) F hr hx I (.cons rfl (.cons rfl .nil)) q)) (fun w' s' z => ?_) (fun _ _ z => z)
  obtain ⟨z', H', I', rz, qz⟩ := z
  exact back_ok rz ⟨z', H', I', rz, qz⟩
/-- -x by an own def -/
def rOwn1 (C : Addr) (sp : Sp) (E : XK) : V → Hp → VK → Prop := fun x H Q => ∃ a dx fs, x = .ref a ∧ H a = some (.ins C dx fs) ∧ sp [x] H Q E
theorem un_ownNeg (hm : Meth X.K C "__neg__" g) (F : FnR X.prog X.w X.K X.mg X.base CX n g sp) (hr : Room n X.A) (hx : Passes CX X E) : UnR X (unaryOp .USub) (rOwn1 C sp E) := by
  intro pins s σ H x v Q I rx h
  obtain ⟨a, dx, fs, rfl, ha, q⟩ := h
  cases (show v = Value.ref a from rx)
  obtain ⟨ox, od, J⟩ := inst_of I ha
  obtain ⟨mm, hF⟩ := I.fr
  refine PySem.W.ksp_neg hF I.ok.mod.kin J hm.at_ hm.fn ?_
  exact wpAny_call (run_fnR (us := [.ref a]) (vs := [.ref a]) F hr hx I (.cons rfl .nil) q)
/-- str(x) by an own __str__ that gives a text -/
def rStrOwn (C : Addr) (sp : Sp) (E : XK) : List V → Hp → VK → Prop := fun xs H Q => ∃ a dx fs, xs = [.ref a] ∧ H a = some (.ins C dx fs) ∧ sp [.ref a] H (fun z H' => ∃ y, z = .str y ∧ Q z H') E
theorem env0_in2 {P : Program} {w : World} {K : PySem.W.Frag} {mg : Str → Option Value} {base : Heap} {A : Around} {out : List Env} {s : Shared} {H : Hp} (e : Env0 P w K mg base A out s H) : Env0 P w K mg base A.in1.in1 out s H := e.in1.in1
theorem call_strOwn (hm : Meth X.K C "__str__" g) (F : FnR X.prog X.w X.K X.mg X.base CX n g sp) (hr : Room (n + 2) X.A) (hx : Passes CX X E) : CallR X (.type "str") (rStrOwn C sp E) := by
  intro pins s σ H xs us Q I r h
  obtain ⟨a, dx, fs, rfl, ha, q⟩ := h
  obtain ⟨u, rfl, ru⟩ := r.one
  cases (show u = Value.ref a from ru)
  obtain ⟨ox, od, J⟩ := inst_of I ha
  have hr2 : Room n X.A.in1.in1 := (show Room (n + 1) X.A.in1 from Room.in1 hr).in1
  have hu : X.A.in1.in1.units < cLine := hr2.units0
  refine PySem.W.kso_call hu I.kIn J hm.at_ hm.fn (wpAny_call (codeAny_mono (F X.A.in1.in1 X.stack s H [.ref a] [.ref a] _ E hr2 (env0_in2 I.env0) (.cons rfl .nil) q) fun res s' hq => ?_))
  cases res with
  | error er => exact hx pins σ H s er s' I hq
  | ok fl =>
    cases fl with
    | ret u =>
      obtain ⟨v, H', I', rv, y, ey, qq⟩ := I.after hq
      subst ey
      obtain ⟨t, rfl⟩ := (show ∃ t, u = Value.str y t from rv)
      exact ⟨.str y, H', I', ⟨t, rfl⟩, qq⟩
    | next => exact (show False from hq).elim
    | brk => exact (show False from hq).elim
    | cont => exact (show False from hq).elim
end
end GL
set_option maxRecDepth 100000
set_option maxHeartbeats 2000000
namespace GL
open PySem PySem.Spec PyProof.Rows L2
/-! ### the law's call, by such a promise -/
section
variable {P : Program} {w : World} {K : PySem.W.Frag} {mg mb : Str → Option Value} {k : Nat} {fa a : Addr} {sp : Sp} {s₁ : Shared} {vs : List Value} {ns : List Int}
abbrev Done (fa : Addr) (s₁ : Shared) (r : Result) (s' : Shared) : Prop := r = .ok (.ret (.bool true)) ∧ OldK s₁.heap s'.heap ∧ s'.os = s₁.os ∧ AllBare s'.gens
/-- from an abstract heap that tracks the script at most -/
theorem law_core (KX : K.In s₁.heap) (hns : s₁.heap.Ns mainGlobals mg) (hb : s₁.heap.Ns builtinsNs mb) (hbb : ∀ x : Str, x ≠ "__name__" → mb x = bootBuiltins x) (hlim : s₁.heap.NoLimit)
    (hg : s₁.gens = #[]) (ha : s₁.heap.get? a = some { cls := .type "list", data := .seq vs.toArray }) (hr : RG k PySem.callerA)
    (F : ∀ base : Heap, K.In base → base.Ns mainGlobals mg → FnG P w K mg base k fa sp) (H : Hp) (hO : Only H) (hS : sp [.ref a] H (fun v _ => v = .bl true) E0)
    (hok : HOk P w H s₁.heap) (only : ∀ b, H b ≠ none → b = a) (hK : H a ≠ none → K.lookup a = none) :
    codeAny (model P w) PySem.callerA (.call (.ref fa) ⟨[.ref a], []⟩) (Done fa s₁) s₁ := by
  have untracked : ∀ {b : Addr} {o : Obj}, s₁.heap.get? b = some o → b ≠ a → H b = none := fun {b o} _ hba => by
    cases q : H b with
    | none => rfl
    | some u => exact absurd (only b (by rw [q]; exact Option.some_ne_none _)) hba
  have dictNe : ∀ {b : Addr} {o : Obj} {es : Array DictEntry} {ep : Nat}, s₁.heap.get? b = some o → o.data = .dict es ep → b ≠ a := fun {b o es ep} e d hba => by
    rw [hba, ha] at e
    cases e
    exact Data.noConfusion (show Data.seq vs.toArray _ = Data.dict es ep from d)
  have keepNs : ∀ {b : Addr} {m : Str → Option Value}, s₁.heap.Ns b m → (hidT s₁.heap H).Ns b m := by
    rintro b m ⟨o, es, ep, e, d, r⟩
    exact ⟨o, es, ep, hidT_get e (untracked e (dictNe e d)), d, r⟩
  have keepK : K.In (hidT s₁.heap H) := fun b o e => hidT_get (KX b o e) (by
    cases q : H b with
    | none => rfl
    | some u =>
      have hn : H b ≠ none := by rw [q]; exact Option.some_ne_none _
      have eb := only b hn
      subst eb
      rw [hK hn] at e
      cases e)
  have M : Mod K mg (hidT s₁.heap H) := by
    obtain ⟨mc, l1, l2⟩ := hlim
    exact ⟨keepK, keepNs hns, ⟨mb, keepNs hb, hbb⟩, ⟨mc, keepNs l1, l2⟩⟩
  have e0 : Env0 P w K mg (hidT s₁.heap H) PySem.callerA [] s₁ H :=
    { frames := rfl, mod := M, bs := fun b o e => of_hidT e, bsz := Nat.le_of_eq (hidT_size _ _), funs := trivial, frf := (fun b hb => nomatch (show b ∈ ([] : List Addr) from hb)), hok := hok, bare := .of_eq hg }
  refine codeAny_mono (F _ keepK (keepNs hns) PySem.callerA [] s₁ H [.ref a] [.ref a] _ hr e0 (.cons rfl .nil) hS) fun r s' h => ?_
  cases r with
  | error e => exact (show False from h).elim
  | ok fl =>
    cases fl with
    | next => exact (show False from h).elim
    | brk => exact (show False from h).elim
    | cont => exact (show False from h).elim
    | ret u =>
      obtain ⟨v, H', os, bare, un, hok', r', q⟩ := h
      have q' : v = .bl true := q
      subst q'
      cases (show u = Value.bool true from r')
      refine ⟨rfl, OldK.of_keep fun b o e => ?_, os, bare⟩
      cases q : H b with
      | none => exact un.keep b o e q (fun z => nomatch z) (fun z => nomatch z)
      | some u =>
        rcases hO b with z | ⟨ob, xs, z⟩
        · rw [q] at z
          cases z
        · have e1 := (hok b _ z).1
          have e2 := (hok' b _ (un.frzs b ob _ z)).1
          rw [e] at e1
          cases e1
          exact e2
theorem law_callG (KX : K.In s₁.heap) (hns : s₁.heap.Ns mainGlobals mg) (hb : s₁.heap.Ns builtinsNs mb) (hbb : ∀ x : Str, x ≠ "__name__" → mb x = bootBuiltins x) (hlim : s₁.heap.NoLimit)
    (hg : s₁.gens = #[]) (ha : s₁.heap.get? a = some { cls := .type "list", data := .seq vs.toArray }) (hi : IntsAre vs ns) (hl : ns.length ≤ sizeLine) (hr : RG k PySem.callerA)
    (F : ∀ base : Heap, K.In base → base.Ns mainGlobals mg → FnG P w K mg base k fa sp)
    (hsp : ∀ H : Hp, Only H → SqL K H a (ns.map V.int) → sp [.ref a] H (fun v _ => v = .bl true) E0) :
    codeAny (model P w) PySem.callerA (.call (.ref fa) ⟨[.ref a], []⟩) (Done fa s₁) s₁ := by
  have rv := vals_ints hi
  have lenV := hi.length
  cases hk : K.lookup a with
  | some o =>
    have e := KX a o hk
    rw [ha] at e
    cases e
    have sq : SqL K (fun _ => none) a (ns.map V.int) := .inr ⟨_, vs.toArray, _, hk, rfl, rfl, rfl, by rw [List.size_toArray, lenV]; exact hl, by simpa using rv⟩
    have on : Only (fun _ => none) := fun _ => .inl rfl
    exact law_core KX hns hb hbb hlim hg ha hr F (fun _ => none) on (hsp _ on sq) (fun b u z => by cases (show (none : Option HO) = some u from z)) (fun b z => absurd rfl z) (fun z => absurd rfl z)
  | none =>
    let H : Hp := fun b => if b = a then some (.frz { cls := .type "list", data := .seq vs.toArray } (.lst (ns.map V.int))) else none
    have Ha : H a = some (.frz { cls := .type "list", data := .seq vs.toArray } (.lst (ns.map V.int))) := if_pos rfl
    have Hb : ∀ b, b ≠ a → H b = none := fun b hb => if_neg hb
    have on : Only H := fun b => by
      by_cases h : b = a
      · subst h
        exact .inr ⟨_, _, Ha⟩
      · exact .inl (Hb b h)
    have sq : SqL K H a (ns.map V.int) := .inl (.inr ⟨_, Ha⟩)
    refine law_core KX hns hb hbb hlim hg ha hr F H on (hsp _ on sq) (fun b u z => ?_) (fun b z => ?_) (fun _ => hk)
    · by_cases h : b = a
      · subst h
        rw [Ha] at z
        cases z
        exact ⟨ha, by rw [List.length_map]; exact hl, vs, _, rv, ha⟩
      · rw [Hb b h] at z
        cases z
    · by_cases h : b = a
      · exact h
      · exact absurd (Hb b h) z
end
/-- the law's walk behind a head by facts -/
theorem walk_G {l : PySem.W.OpenLaw} {n k : Nat} {q : Program} {loose : List Str} {XP : (Str → Option Value) → Heap → Prop} {YP : World → Heap → Prop} {d : DefRec}
    (hn : l.most = some n) (hn2 : n ≤ sizeLine) (hdf : d.params.defaults = []) (hr : RG k PySem.callerA)
    (F : ∀ (w : World) (mg : Str → Option Value) (fa : Addr) (h : Heap), YP w h → h.Ns mainGlobals mg → mg d.name = some (.ref fa) →
      ∃ (K : PySem.W.Frag) (sp : Sp), K.In h ∧ (∀ (H : Hp) (a : Addr) (ns : List Int), ns.length ≤ n → Only H → SqL K H a (ns.map V.int) → sp [.ref a] H (fun v _ => v = .bl true) E0) ∧
        ∀ base : Heap, K.In base → base.Ns mainGlobals mg → FnG l.prog w K mg base k fa sp) :
    PySem.W.WalkO q loose XP YP l.row.toRowW d [] (fun f vs => PySem.call f vs) := by
  refine Att.attach_call hn hdf fun w s₀ s₁ mg mb fa o pm cd doc a vs ns G Y ho hd hcd hmg hobj hints hlen hg => ?_
  obtain ⟨K, sp, KX, hsp, hF⟩ := F w mg fa _ Y G.T.g hmg
  exact law_callG KX G.T.g G.T.b G.T.builtins G.T.nolimit hg hobj hints (Nat.le_trans hlen hn2) hr hF fun H hO hS => hsp H a ns hlen hO hS
theorem rg_caller : RG 60 PySem.callerA := ⟨⟨rfl, by decide, by decide⟩, rfl⟩
end GL
set_option maxRecDepth 100000
set_option maxHeartbeats 2000000
namespace GL
open PySem PySem.Spec PyProof.Rows L2 PySem.W
/-! ### x op= y where the class has no in-place def: as x op y -/
section
variable {prog : Program} {w : World} {A : Around} {E : Value → Shared → Prop} {s : Shared} {K : Frag} {x C f : Addr} {ox : Obj} {od : Option Obj}
/-- the class's order of bases is itself and object, and neither has the name -/
structure NoIn (K : Frag) (C : Addr) (nm : String) : Prop where
  mro : (clsIn K C).any (fun cd => decide (cd.mro = [.ref C, .type "object"])) = true
  no : findIn K (.ref C) (dunderI nm) = some none
  noO : findIn K (.type "object") (dunderI nm) = some none
theorem noin_looks {M : Model} {h : Heap} {nm : String} {add : Bool} (X : K.In h) (N : NoIn K C nm) : Looks M h (fillsInplaceSlot (.ref C) nm add) false := by
  obtain ⟨cd, hc, hm⟩ := any_some N.mro
  have hm := of_decide_eq_true hm
  intro A Q E s k q
  have Lm : Looks M h (mroOf (.ref C)) cd.mro := (looks_clsIn X hc).andThen (f := fun cd => pure cd.mro) .now
  unfold fillsInplaceSlot
  refine wpAny_bind (Lm A _ E s k ?_)
  rw [hm, List.anyM_cons]
  refine wpAny_bind (wpAny_bind (looks_findIn X N.no A _ E s k (wpAny_pure ?_)))
  rw [if_neg Bool.false_ne_true, List.anyM_cons]
  refine wpAny_bind (wpAny_bind (looks_findIn X N.noO A _ E s k (wpAny_pure ?_)))
  rw [if_neg Bool.false_ne_true]
  exact wpAny_pure q
theorem bin1_own {nm : String} {b : Value} {Q : Value → Shared → Prop} (X : K.In s.heap) (I : InstAt s.heap x ox C od) (hb : Looks (model prog w) s.heap (typeOf b) (.ref C)) (hc : selfFirst K C = true)
    (hs : findIn K (.ref C) (PySem.dunder nm) = some (some (.ref f))) (hf : isFn K (.ref f) = true) (h : wpAny (model prog w) A (call (.ref f) [.ref x, b]) (PySem.W.CmpBack Q) E s) :
    wpAny (model prog w) A (binaryOp1 nm (.ref x) b) (fun r s' => ∃ v, r = some v ∧ Q v s') E s := by
  obtain ⟨cd, rest, hcd, hm⟩ := ksp_first hc
  unfold binaryOp1
  refine wpAny_bind (I.type.here (wpAny_bind (hb.here (wpAny_bind ((fills_K X hcd hm hs).here ?_)))))
  simp only [beq_self_eq_true, if_true]
  refine wpAny_bind (wpAny_pure ?_)
  simp only [Bool.and_false, Bool.false_eq_true, if_false, Bool.false_and]
  refine wpAny_bind (wpAny_pure ?_)
  simp only [Bool.false_eq_true, if_false]
  refine wpAny_bind (m := tryMethod (.ref x) _ b) (wpAny_mono (ksp_try X I hs hf h) (fun r s' hr => ?_) fun _ _ e => e)
  obtain ⟨v, rfl, hq⟩ := hr
  exact wpAny_pure ⟨v, rfl, hq⟩
theorem inplace_own {op : Operator} {b : Value} {Q : Value → Shared → Prop} (X : K.In s.heap) (I : InstAt s.heap x ox C od) (hb : Looks (model prog w) s.heap (typeOf b) (.ref C)) (hc : selfFirst K C = true)
    (N : NoIn K C op.info.2) (hs : findIn K (.ref C) (PySem.dunder op.info.2) = some (some (.ref f))) (hf : isFn K (.ref f) = true) (h : wpAny (model prog w) A (call (.ref f) [.ref x, b]) (PySem.W.CmpBack Q) E s) :
    wpAny (model prog w) A (inplaceOp op (.ref x) b) Q E s := by
  unfold inplaceOp
  refine wpAny_holding (wpAny_bind (I.type.here (wpAny_bind ((noin_looks X N).here ?_))))
  simp only [Bool.false_eq_true, if_false]
  refine wpAny_bind (m := binaryOp1 _ (.ref x) b) (wpAny_mono (bin1_own X I hb hc hs hf h) (fun r s' hr => ?_) fun _ _ e => e)
  obtain ⟨v, rfl, hq⟩ := hr
  exact wpAny_pure hq
end
section
variable {X : Cx} {CX : CXT} {n : Nat} {C g : Addr} {sp : Sp} {E : XK}
theorem ip_own {op : Operator} (hc : selfFirst X.K C = true) (N : NoIn X.K C op.info.2) (hm : Meth X.K C (PySem.dunder op.info.2) g) (F : FnR X.prog X.w X.K X.mg X.base CX n g sp) (hr : Room n X.A) (hx : Passes CX X E) :
    OpR X (inplaceOp op) (rOwn2 C sp E) := by
  intro pins s σ H x y v u Q I rx ry h
  obtain ⟨a, dx, fs, b, dy, gs, rfl, rfl, ha, hb, q⟩ := h
  cases (show v = Value.ref a from rx)
  cases (show u = Value.ref b from ry)
  obtain ⟨ox, od, J⟩ := inst_of I ha
  obtain ⟨oy, oe, J'⟩ := inst_of I hb
  refine inplace_own I.kIn J J'.type hc N hm.at_ hm.fn ?_
  refine wpAny_mono (wpAny_call (run_fnR (us := [.ref a, .ref b]) (vs := [.ref a, .ref b]) F hr hx I (.cons rfl (.cons rfl .nil)) q)) (fun w' s' z => ?_) (fun _ _ z => z)
  obtain ⟨z', H', I', rz, qz⟩ := z
  exact back_ok rz ⟨z', H', I', rz, qz⟩
end
end GL
set_option maxRecDepth 100000
set_option maxHeartbeats 2000000
/-! «except X as e: v = e»: the exception is kept in v, and what it is is known behind the try. -/
namespace GL
open PySem PySem.Spec PyProof.Rows L2
/-- an exception of the class cls, its own dict at d, caught and kept -/
def ExV (cls : Value) (d : Option Addr) (a : Addr) : HO := .ext fun h => ∃ (ob : Obj) (flds : Array Value), h.get? a = some ob ∧ Zc cls d ob ∧ ob.data = .fields flds
theorem exV_ok {P : Program} {w : World} {H : Hp} {h : Heap} {a : Addr} {cls : Value} {d : Option Addr} {ob : Obj} {flds : Array Value} (e : h.get? a = some ob) (z : Zc cls d ob) (hd : ob.data = .fields flds) : ObjOk P w H h a (ExV cls d a) :=
  ⟨⟨ob, flds, e, z, hd⟩, ⟨ob, e⟩, fun _ _ ⟨o, v, q, r, t⟩ k => ⟨o, v, k o q, r, t⟩⟩
section
variable {X : Cx} {pins : List (Addr × Obj)} {σ : L2.St} {H : Hp} {s : Shared}
/-- an object that is not tracked and was not there at the entry may be left out -/
theorem inv_less {a : Addr} {ob : Obj} {flds : Array Value} (I : Inv X pins σ H s) (na : H a = none) (n0 : X.s_0.heap.get? a = none) (ho : s.heap.get? a = some ob) (hd : ob.data = .fields flds) (nL : a ≠ X.env.locals)
    (np : ∀ p ∈ X.pn ++ pins, p.1 ≠ a) : ∃ G : Heap, (∀ b o, G.get? b = some o → s.heap.get? b = some o) ∧ G.get? a = none ∧ Inv X pins σ H { s with heap := G } := by
  obtain ⟨G, g1, g2⟩ := restrict s.heap fun b => decide (b ≠ a)
  have ga : G.get? a = none := g2 a (decide_eq_false fun z => z rfl)
  have up : ∀ b o, b ≠ a → s.heap.get? b = some o → G.get? b = some o := fun b o hb e => (g1 b (decide_eq_true hb)).trans e
  have down : ∀ b o, G.get? b = some o → s.heap.get? b = some o := fun b o e => by
    by_cases hb : b = a
    · subst hb
      rw [ga] at e
      cases e
    · exact (g1 b (decide_eq_true hb)).symm.trans e
  have old : ∀ b o, X.s_0.heap.get? b = some o → b ≠ a := by
    rintro b o e rfl
    rw [n0] at e
    cases e
  have trk : ∀ b o, H b = some o → b ≠ a := by
    rintro b o e rfl
    rw [na] at e
    cases e
  have cellNe : ∀ c v, s.heap.IsCell c v → c ≠ a := by
    rintro c v ⟨o, e, dd⟩ rfl
    rw [ho] at e
    cases e
    rw [hd] at dd
    cases dd
  have cells : ∀ c v, s.heap.IsCell c v → G.IsCell c v := fun c v z => by
    have ne := cellNe c v z
    obtain ⟨o, e, dd⟩ := z
    exact ⟨o, up c o ne e, dd⟩
  refine ⟨G, down, ga, ⟨I.ok, I.os, I.bare, ?base, ?loc, ?cell, I.free, I.freeC, ?pin, ?hok, I.len⟩⟩
  case base =>
    exact { keep := fun b o e n hb hx => up b o (old b o e) (I.base.keep b o e n hb hx)
            slot := fun b o e n hb hx => by
              obtain ⟨sl, q⟩ := I.base.slot b o e n hb hx
              exact ⟨sl, up b _ (old b o e) q⟩
            free := I.base.free
            there := fun b o e hx => by
              obtain ⟨o', q⟩ := I.base.there b o e hx
              exact ⟨o', up b o' (old b o e) q⟩
            tups := I.base.tups
            frzs := I.base.frzs
            tbls := I.base.tbls }
  case loc =>
    obtain ⟨m, ⟨o, es, ep, e, r⟩, hl⟩ := I.loc
    refine ⟨m, ⟨o, es, ep, up _ _ nL.symm e, r⟩, fun i x v e1 e2 e3 => ?_⟩
    obtain ⟨u, r', l⟩ := hl i x v e1 e2 e3
    rcases l with l | ⟨k, c, ec, z⟩
    · exact ⟨u, r', Or.inl l⟩
    · exact ⟨u, r', Or.inr ⟨k, c, ec, cells c _ z⟩⟩
  case cell =>
    intro x c e
    obtain ⟨v, z⟩ := I.cell x c e
    exact ⟨v, cells c v z⟩
  case pin =>
    intro p hp
    obtain ⟨e, n, ne, nf, dd⟩ := I.pin p hp
    exact ⟨up _ _ (np p hp) e, n, ne, nf, dd⟩
  case hok =>
    intro b o e
    refine (I.hok b o e).stay (fun c u hc q => up c u ?_ q) (fun _ q => q) (fun _ _ q => q)
    rcases hc with hc | hc
    · rw [hc]
      exact trk b o e
    · exact trk c _ hc
/-- .. and be tracked from then on -/
theorem inv_more {a : Addr} {ob : Obj} {flds : Array Value} {cls : Value} {d : Option Addr} (I : Inv X pins σ H s) (na : H a = none) (n0 : X.s_0.heap.get? a = none) (ho : s.heap.get? a = some ob) (hz : Zc cls d ob) (hd : ob.data = .fields flds)
    (nL : a ≠ X.env.locals) (np : ∀ p ∈ X.pn ++ pins, p.1 ≠ a) : Inv X pins σ (upd H a (ExV cls d a)) s := by
  obtain ⟨G, down, ga, J⟩ := inv_less I na n0 ho hd nL np
  have J2 := J.laidN (h' := s.heap) (t' := s.toks) down ga na (exV_ok ho hz hd)
  exact J2
/-- what is kept of a pin when the suite ends -/
theorem inv_unsuite {a : Addr} {q : Addr × Obj} (I : Inv (X.suite a (q :: (X.pn ++ pins))) [] σ H s) (ok : X.Ok) : Inv X (q :: pins) σ H s := by
  refine ⟨ok, I.os, I.bare, I.base, I.loc, I.cell, I.free, I.freeC, fun p hp => I.pin p ?_, I.hok, I.len⟩
  rcases List.mem_append.mp hp with h | h
  · exact List.mem_append_left _ (List.mem_cons_of_mem _ (List.mem_append_left _ h))
  · rcases List.mem_cons.mp h with h | h
    · rw [h]
      exact List.mem_append_left _ List.mem_cons_self
    · exact List.mem_append_left _ (List.mem_cons_of_mem _ (List.mem_append_right _ h))
theorem inv_unpin {q : Addr × Obj} (I : Inv X (q :: pins) σ H s) : Inv X pins σ H s := by
  refine ⟨I.ok, I.os, I.bare, I.base, I.loc, I.cell, I.free, I.freeC, fun p hp => I.pin p ?_, I.hok, I.len⟩
  rcases List.mem_append.mp hp with h | h
  · exact List.mem_append_left _ h
  · exact List.mem_append_right _ (List.mem_cons_of_mem _ h)
end
/-- what «except x as n: v = n» wishes of an exception of the body: i is n's slot, j is v's -/
def wKeep (K : PySem.W.Frag) (c : Value) (i j : Nat) (Wout : WX) (D : Ends) : WX := fun cls d σ H => ∃ b, PySem.W.exmOne K cls c = some b ∧
  (b = true → ∀ a, H a = none → D.nx (((σ.set i (some (.ref a))).set j (some (.ref a))).set i none) (upd H a (ExV cls d a))) ∧ (b = false → Wout cls d σ H)
section
variable {X : Cx} {x n v : Str} {c : Value} {i j : Nat} {body : List Stmt} {np pos pos' p1 p2 p3 : Pos} {tb : WX → TS} {Wout : WX}
theorem ps_try_keep (hs : X.stack = X.env :: X.outer) (hf : X.env.frame = some X.env.locals) (hN : X.N.Nodup) (hi : X.N[i]? = some n) (hj : X.N[j]? = some v) (hne : i ≠ j) (hln : X.env.kindOf n = some .local) (hlv : X.env.kindOf v = some .local)
    (hex : X.ex = []) (hdn : (n == ("__debug__" : Str)) = false) (hcn : (n == ("__classdict__" : Str)) = false) (hc : Names X x c) (tk : Takes X Wout)
    (hb : ∀ (W : WX) (pn : List (Addr × Obj)) (xe : Value → Shared → Prop), Takes (X.tr pn xe) W → PassesOwn (model X.prog X.w) X.A X.env xe → PSs (X.tr pn xe) body (tb W)) :
    PS X (.Try body [.ExceptHandler (some (.Name x np)) (some n) [.Assign [.Name v p1] (.Name n p2) p3] pos'] [] [] pos) (fun D σ H => tb (wKeep X.K c i j Wout D) D σ H) := by
  refine ⟨fun pins s σ H D I h => ?_⟩
  have ok := I.ok
  have frm : X.A.frames = some (X.env :: X.outer) := by rw [ok.frames, hs]
  have locn : Loc X.env.scope n := Or.inl hln
  have locv : Loc X.env.scope v := Or.inl hlv
  refine wpAny_Try_except ?_
  let wish : Value → Shared → Prop := fun e s₁ => wpAny (model X.prog X.w) X.A (noteFrame e X.env) (fun _ s₂ => wpAny (model X.prog X.w) X.A (setFlight e none)
    (fun _ s₃ => wpAny (model X.prog X.w) X.A (handleBy e X.env [.ExceptHandler (some (.Name x np)) (some n) [.Assign [.Name v p1] (.Name n p2) p3] pos']) (SP X pins D) X.xe s₃) X.xe s₂) X.xe s₁
  have caught : Takes (X.tr (X.pn ++ pins) wish) (wKeep X.K c i j Wout D) := by
    intro u s' air
    obtain ⟨a, B, sI, pins', σ', H', cls, d, rfl, J', nb, upS, sky, na, os, ag, b, hb1, yes, no⟩ := air
    have J : Inv X pins σ' H' sI := J'.ofTry ok
    have sky2 : Sky B (X.env :: X.outer) a (Zc cls d) X.env.locals s'.heap := by rw [← hs]; exact sky
    have nB : B.get? a = none := by
      rcases sky2 with ⟨_, q, _⟩ | ⟨_, q, _⟩ | ⟨_, q, _⟩ <;> exact q
    show wpAny (model X.prog X.w) X.A (noteFrame (.ref a) X.env) _ _ _
    refine Sky.land Zc.steady frm hf sky2 fun h3 fl3 up3 => ?_
    have J3 : Inv X pins σ' H' { s' with heap := h3 } := J.landed nb fl3.1 (upS.trans up3) os ag
    obtain ⟨o3, v3, e3, z3, d3⟩ := fl3.there
    have nfr : a ∉ frs (X.env :: X.outer) := fun hm => by
      obtain ⟨_, o', e', hnf⟩ := fl3.2.2.1.mem hm
      rw [e3] at e'
      cases e'
      exact hnf _ d3
    have nL : a ≠ X.env.locals := fun z => nfr (List.mem_filterMap.mpr ⟨X.env, List.mem_cons_self, by rw [hf, z]⟩)
    have nF : a ∉ X.fs := fun hm => by
      obtain ⟨e, he, q⟩ := List.mem_filterMap.mp hm
      exact nfr (List.mem_filterMap.mpr ⟨e, List.mem_cons_of_mem _ he, q⟩)
    have n0 : X.s_0.heap.get? a = none := by
      cases q : X.s_0.heap.get? a with
      | none => rfl
      | some o =>
        obtain ⟨o', q'⟩ := J.base.there a o q (by rw [hex]; exact fun z => nomatch z)
        have q2 := nb a o' q' (by rw [hs]; exact nfr)
        rw [nB] at q2
        cases q2
    have S3 := J3.suite e3 d3 na nL nF
    refine wpAny_handleBy_cons (codeAny_handlers_test ?_) (by intro q; cases q)
    have LT : PySem.W.Looks (model X.prog X.w) h3 (typeOf (.ref a)) cls := fun A Q E s k q => wpAny_typeOf_ref (k _ _ e3) (by rw [z3.1]; exact q)
    have LM := PySem.W.exm_one (M := model X.prog X.w) (J3.kIn) LT hb1
    have clause : ∀ {Q : Value → Shared → Prop} {E : Value → Shared → Prop}, Q c { s' with heap := h3 } → wpAny (model X.prog X.w) (X.A.mark (some (.ref a))) (eval (.Name x np) X.env) Q E { s' with heap := h3 } := by
      intro Q E q
      obtain ⟨hg, hdbg, hm | ⟨hm, hv, hnn⟩⟩ := hc
      · exact ld_glob (X := X.suite a ((a, o3) :: (X.pn ++ pins))) S3 hg hm q hdbg
      · exact ld_blt (X := X.suite a ((a, o3) :: (X.pn ++ pins))) S3 hg hm hv q hnn hdbg
    refine clause (LM.here ?_)
    cases b with
    | true =>
      refine codeAny_handlers_suite_as ?_
      refine HandSPX.lands_againZ fl3 fun h4 fl4 up4 => ?_
      have J4 : Inv X pins σ' H' { s' with heap := h4 } := J.landed nb fl4.1 ((upS.trans up3).trans up4) os ag
      obtain ⟨o4, v4, e4, z4, d4⟩ := fl4.there
      have S4 := J4.suite e4 d4 na nL nF
      refine store_ok (X := X.suite a ((a, o4) :: (X.pn ++ pins))) (v := .ref a) S4 hN hi locn rfl (fun s5 S5 => ?_) (Or.inr hln)
      have hl5 : i < σ'.length := by
        have := J.len
        rw [this]
        exact (List.getElem?_eq_some_iff.mp hi).1
      have term : PSs (X.suite a ((a, o4) :: (X.pn ++ pins))) [.Assign [.Name v p1] (.Name n p2) p3] _ := pss_one (ps_asg (pe_var (X := X.suite a ((a, o4) :: (X.pn ++ pins))) hi (Or.inl hln) hdn hcn) (pg_name (X := X.suite a ((a, o4) :: (X.pn ++ pins))) hN hj locv (Or.inr hlv)))
      refine wpAny_mono (term.run [] s5 _ H' { nx := fun σ6 H6 => σ6 = (σ'.set i (some (.ref a))).set j (some (.ref a)) ∧ H6 = H', rt := fun _ _ => False, bk := fun _ _ => False, ct := fun _ _ => False } S5 ?_) (fun f s6 hsp => ?_) (fun _ _ z => z.elim)
      · exact ⟨_, by rw [List.getElem?_set_self hl5], rfl, rfl⟩
      · cases f with
        | next =>
          obtain ⟨σ6, H6, S6, e6, e7⟩ := hsp
          subst e6 e7
          refine gone_ok (inv_unsuite S6 ok) hN hi hln fun s7 J7 => ?_
          obtain ⟨p7, n7, _⟩ := J7.pin (a, o4) (List.mem_append_right _ List.mem_cons_self)
          have np : ∀ p ∈ X.pn ++ pins, p.1 ≠ a := fun p hp e => by
            have q1 := (J.pin p hp).1
            rw [e] at q1
            have q2 := nb a _ q1 (by rw [hs]; exact nfr)
            rw [nB] at q2
            cases q2
          exact ⟨_, _, inv_more (inv_unpin J7) na n0 p7 z4 d4 nL np, yes rfl a na⟩
        | ret u => obtain ⟨_, _, _, _, _, q⟩ := hsp; exact q.elim
        | brk => obtain ⟨_, _, _, q⟩ := hsp; exact q.elim
        | cont => obtain ⟨_, _, _, q⟩ := hsp; exact q.elim
    | false =>
      show wpAny _ X.A (handleBy (.ref a) X.env []) _ _ _
      refine wpAny_handleBy_nil ?_
      obtain ⟨k1, k2, k3, ob, fl, T, oT, ts', he, hz, hd, h1, hr⟩ := id fl3
      unfold PySem.passOn
      refine wpAny_bind (wpAny_field he hd h1 ?_)
      rw [if_neg (show ¬ ((Value.ref T == Value.none) = true) from by simp)]
      have go : wpAny (model X.prog X.w) X.A (setFlight (.ref a) X.env.frame) (fun _ s4 => wpAny (model X.prog X.w) X.A (throw (.ref a) : Sem Flow) (SP X pins D) X.xe s4) X.xe { s' with heap := h3 } := by
        rw [hf]
        refine HandSPX.setFlight_upZ fl3 fun h4 hh4 up4 => wpAny_throw (tk _ _ ?_)
        exact ⟨a, B, sI, pins, σ', H', cls, d, rfl, J, nb, (upS.trans up3).trans up4, Or.inr (Or.inr (by rw [hs]; exact hh4)), na, os, ag, no rfl⟩
      first
        | exact wpAny_bind (wpAny_pure (wpAny_bind go))
        | exact wpAny_bind go
  refine wpAny_mono ((hb _ (X.pn ++ pins) wish caught PassesOwn.looking).run [] s σ H D (I.toTry _) h) (fun f s1 hsp => ?_) (fun e s1 he => he)
  cases f with
  | next =>
    obtain ⟨σ', H', J', q⟩ := hsp
    exact wpAny_execs_nil ⟨σ', H', J'.ofTry ok, q⟩
  | brk =>
    obtain ⟨σ', H', J', q⟩ := hsp
    exact ⟨σ', H', J'.ofTry ok, q⟩
  | cont =>
    obtain ⟨σ', H', J', q⟩ := hsp
    exact ⟨σ', H', J'.ofTry ok, q⟩
  | ret u =>
    obtain ⟨vv, σ', H', J', r, q⟩ := hsp
    exact ⟨vv, σ', H', J'.ofTry ok, r, q⟩
end
end GL
set_option maxRecDepth 100000
set_option maxHeartbeats 2000000
namespace GL
open PySem PySem.Spec PyProof.Rows L2
section
variable {X : Cx}
/-- Z(), an own exception class without own __init__ -/
theorem pmk_bare {C : Addr} {bmB : List Value} {B newId initId : String} {x : Str} {p pos : Pos} (F : ExcBaseFacts B newId initId bmB) (q : PySem.W.excIn X.K C bmB newId = true) (gC : X.mg x = some (.ref C)) (kC : PySem.W.keepIn X.K (.ref C) = true)
    (r : Raises X (.ref C)) (hg : Gl X x) (hdb : (x == ("__debug__" : Str)) = false := by decide) : PMk X (.Call (.Name x p) [] [] pos) (fun _ H Q => Q (.ref C) none H) := by
  intro pins s σ H Q I h
  refine wpAny_Call_Name_kw (ld_glob I hg gC ?_ hdb)
  refine PySem.W.callWith_K0 I.kIn kC ?_
  obtain ⟨bm, N, nm, qn, bs, hdct, sn, sub, ab, col, dd, k0, k1, k2, k3, k5, mN, hC, hN, hni, T⟩ := exc_obj I.kIn q
  refine wpAny_call_exc_subT F T hC hN hni (fun h' e hm => ?_) (by show 0 ≤ sizeLine; exact Nat.zero_le _)
  exact mk_of I hm r h (I.hok.gone hm.new)
/-- isinstance(v, c), v a kept exception without a dict of its own -/
def rIsV (K : PySem.W.Frag) : List V → Hp → VK → Prop := fun xs H Q => ∃ (a D : Addr) (c : V) (u : Value) (b : Bool), xs = [.ref a, c] ∧ ExcC K D ∧ H a = some (ExV (.ref D) none a) ∧ ClsV c u ∧ PySem.W.kitOne K (.ref D) u = some b ∧ Q (.bl b) H
theorem call_isV : CallR X (.builtin "isinstance") (rIsV X.K) := by
  intro pins s σ H xs us Q I r h
  obtain ⟨a, D, c, u, b, rfl, hD, ha, hc, e, q⟩ := h
  cases r with
  | cons rx rr =>
    cases rr with
    | cons rt rr =>
      cases rr
      cases rx
      have ec := hc.eq rt
      subst ec
      obtain ⟨⟨ob, flds, hget, hz, hd⟩, _, _⟩ := I.hok a _ ha
      have J : PySem.W.InstAt s.heap a ob D none := by
        obtain ⟨oc, od, oda, osl⟩ := ob
        obtain ⟨h1, h2⟩ := hz
        dsimp only at h1 h2 hd
        subst h1 h2 hd
        exact ⟨hget, rfl, rfl, trivial⟩
      exact PySem.W.kia_one (PySem.W.handS_kitx_exc hD.hg hD.hk hD.hs hD.hd hD.ha hD.hn hD.ht hD.hm) I.kIn J e (fun z => nomatch z) fun tk => ⟨.bl b, H, I.tok tk, rfl, q⟩
/-- o.m() that may raise, the wish by the slots -/
def tMethX0 (C : Addr) (m : Str) (sp : Sp) (E : L2.St → XK) (ta : TE) : TE := fun σ H Q => ta σ H fun x H1 => ∃ a dx fs, x = .ref a ∧ H1 a = some (.ins C dx fs) ∧ fs.lookup m = none ∧ sp [x] H1 Q (E σ)
variable {CX : CXT} {k : Nat} {f C : Addr} {fd : FuncData} {ps : List Str} {sp : Sp} {E : L2.St → XK} {m : Str} {p pos apos : Pos} {o : Expr} {ta : TE}
theorem pe_methX0 {pl : Sem Bool} (he : PE X o ta) (c : Cls X.K C) (hm : Meth X.K C m f) (F : FnOk X.prog X.w X.K X.mg X.base CX k f fd ps sp) (hr : Room k X.A) (hb : L2.Binds X.K fd ps []) (hx : ∀ σ, PassesAt CX X σ (E σ))
    (ht : eval (.Call (.Attribute o m apos) [] [] pos) X.env = (do
      let obj ← eval o X.env
      standAt apos.atName
      let (g, first) ← holding [obj] (getMethod obj m pl)
      callWith pos g first (backTo pos (starEach [] X.env)) (backToKw pos (keywordEach [] X.env))) := by rfl) :
    PE X (.Call (.Attribute o m apos) [] [] pos) (tMethX0 C m sp E ta) := by
  refine ⟨fun pins s σ H Q I h => ?_⟩
  refine PySem.W.methodCall_KW (pl := pl) (thn (he.run pins s σ H _ I h) fun u s1 hh => ?_) ht
  obtain ⟨x, H1, I1, rx, a, dx, fs, ex, ea, l, q⟩ := hh
  subst ex
  obtain rfl : u = Value.ref a := rx
  refine getmeth_ok I1 ea c hm l ?_
  exact PySem.W.callWith_K0 (first := [.ref a]) I1.kIn hm.kp (run_fnS (us := [.ref a]) (vs := [.ref a]) F hr hb (hx σ) I1 (.cons rfl .nil) q)
end
end GL
namespace MX
/-- the divisor with the bottom's sign -/
def sg (a b : Int) : Int := if b < 0 then -((Nat.gcd a.natAbs b.natAbs : Nat) : Int) else ((Nat.gcd a.natAbs b.natAbs : Nat) : Int)
def nt (a b : Int) : Int := a.fdiv (sg a b)
def nb (a b : Int) : Int := b.fdiv (sg a b)
theorem gpos {a b : Int} (h : b ≠ 0) : 0 < Nat.gcd a.natAbs b.natAbs := Nat.gcd_pos_of_pos_right _ (by omega)
theorem sg_abs (a b : Int) : (sg a b).natAbs = Nat.gcd a.natAbs b.natAbs := by
  unfold sg
  split <;> omega
theorem sg_ne {a b : Int} (h : b ≠ 0) : sg a b ≠ 0 := by
  have := gpos (a := a) h
  have := sg_abs a b
  omega
theorem sg_dvd_left (a b : Int) : sg a b ∣ a := Int.natAbs_dvd_natAbs.mp (by rw [sg_abs]; exact Nat.gcd_dvd_left _ _)
theorem sg_dvd_right (a b : Int) : sg a b ∣ b := Int.natAbs_dvd_natAbs.mp (by rw [sg_abs]; exact Nat.gcd_dvd_right _ _)
theorem nt_mul {a b : Int} (h : b ≠ 0) : nt a b * sg a b = a := by
  unfold nt
  rw [Int.fdiv_eq_ediv_of_dvd (sg_dvd_left a b)]
  exact Int.ediv_mul_cancel (sg_dvd_left a b)
theorem nb_mul {a b : Int} (h : b ≠ 0) : nb a b * sg a b = b := by
  unfold nb
  rw [Int.fdiv_eq_ediv_of_dvd (sg_dvd_right a b)]
  exact Int.ediv_mul_cancel (sg_dvd_right a b)
theorem nb_pos {a b : Int} (h : b ≠ 0) : 0 < nb a b := by
  have e := nb_mul (a := a) h
  have g := gpos (a := a) h
  by_cases hb : b < 0
  · have s : sg a b < 0 := by unfold sg; rw [if_pos hb]; omega
    apply Int.lt_of_not_ge
    intro q
    have := Int.mul_nonneg_of_nonpos_of_nonpos q (Int.le_of_lt s)
    omega
  · have s : 0 < sg a b := by unfold sg; rw [if_neg hb]; omega
    apply Int.lt_of_not_ge
    intro q
    have := Int.mul_nonpos_of_nonpos_of_nonneg q (Int.le_of_lt s)
    omega
theorem cop {a b : Int} (h : b ≠ 0) : Nat.gcd (nt a b).natAbs (nb a b).natAbs = 1 := by
  have e1 : (nt a b).natAbs * Nat.gcd a.natAbs b.natAbs = a.natAbs := by
    rw [← sg_abs, ← Int.natAbs_mul, nt_mul h]
  have e2 : (nb a b).natAbs * Nat.gcd a.natAbs b.natAbs = b.natAbs := by
    rw [← sg_abs, ← Int.natAbs_mul, nb_mul h]
  have g := gpos (a := a) h
  have e3 : Nat.gcd ((nt a b).natAbs * Nat.gcd a.natAbs b.natAbs) ((nb a b).natAbs * Nat.gcd a.natAbs b.natAbs) = Nat.gcd a.natAbs b.natAbs := by
    rw [e1, e2]
  rw [Nat.gcd_mul_right] at e3
  have e4 : Nat.gcd (nt a b).natAbs (nb a b).natAbs * Nat.gcd a.natAbs b.natAbs = 1 * Nat.gcd a.natAbs b.natAbs := by rw [e3, Nat.one_mul]
  exact Nat.eq_of_mul_eq_mul_right g e4
theorem low_cross {a b : Int} (h : b ≠ 0) : nt a b * b = a * nb a b := by
  have e1 := nt_mul (a := a) h
  have e2 := nb_mul (a := a) h
  calc nt a b * b = nt a b * (nb a b * sg a b) := by rw [e2]
    _ = (nt a b * sg a b) * nb a b := by grind
    _ = a * nb a b := by rw [e1]
/-- what is in lowest terms is told by the cross product -/
theorem uniq {p q r s : Int} (hq : 0 < q) (hs : 0 < s) (h1 : Nat.gcd p.natAbs q.natAbs = 1) (h2 : Nat.gcd r.natAbs s.natAbs = 1) (e : p * s = r * q) : p = r ∧ q = s := by
  have e' : p.natAbs * s.natAbs = r.natAbs * q.natAbs := by rw [← Int.natAbs_mul, ← Int.natAbs_mul, e]
  have d1 : q.natAbs ∣ s.natAbs := by
    have c : Nat.Coprime q.natAbs p.natAbs := by
      show Nat.gcd _ _ = 1
      rw [Nat.gcd_comm]; exact h1
    exact c.dvd_of_dvd_mul_left ⟨r.natAbs, by rw [e', Nat.mul_comm]⟩
  have d2 : s.natAbs ∣ q.natAbs := by
    have c : Nat.Coprime s.natAbs r.natAbs := by
      show Nat.gcd _ _ = 1
      rw [Nat.gcd_comm]; exact h2
    exact c.dvd_of_dvd_mul_left ⟨p.natAbs, by rw [← e', Nat.mul_comm]⟩
  have eq : q = s := by
    have := Nat.dvd_antisymm d1 d2
    omega
  subst eq
  exact ⟨Int.eq_of_mul_eq_mul_right (by omega) e, rfl⟩
theorem low_eq {a b c d : Int} (hb : b ≠ 0) (hd : d ≠ 0) (e : a * d = c * b) : nt a b = nt c d ∧ nb a b = nb c d := by
  refine uniq (nb_pos hb) (nb_pos hd) (cop hb) (cop hd) ?_
  have e1 := low_cross (a := a) hb
  have e2 := low_cross (a := c) hd
  have n1 := nb_pos (a := a) hb
  have n2 := nb_pos (a := c) hd
  -- nt a b * nb c d * (b * d) = nt c d * nb a b * (b * d)
  have k : (nt a b * nb c d) * (b * d) = (nt c d * nb a b) * (b * d) := by
    calc (nt a b * nb c d) * (b * d) = (nt a b * b) * (nb c d * d) := by grind
      _ = (a * nb a b) * (nb c d * d) := by rw [e1]
      _ = (a * d) * (nb a b * nb c d) := by grind
      _ = (c * b) * (nb a b * nb c d) := by rw [e]
      _ = (c * nb c d) * (nb a b * b) := by grind
      _ = (nt c d * d) * (nb a b * b) := by rw [e2]
      _ = (nt c d * nb a b) * (b * d) := by grind
  exact Int.eq_of_mul_eq_mul_right (Int.mul_ne_zero hb hd) k
/-- what is in lowest terms stays -/
theorem low_self {p q : Int} (hq : 0 < q) (h : Nat.gcd p.natAbs q.natAbs = 1) : nt p q = p ∧ nb p q = q := by
  have hq' : q ≠ 0 := by omega
  exact uniq (nb_pos hq') hq (cop hq') h (low_cross hq')
theorem low_low {a b : Int} (h : b ≠ 0) : nt (nt a b) (nb a b) = nt a b ∧ nb (nt a b) (nb a b) = nb a b := low_self (nb_pos h) (cop h)
theorem low_add {a b c d : Int} (hb : b ≠ 0) (hd : d ≠ 0) : nt (nt a b * nb c d + nt c d * nb a b) (nb a b * nb c d) = nt (a * d + c * b) (b * d) ∧ nb (nt a b * nb c d + nt c d * nb a b) (nb a b * nb c d) = nb (a * d + c * b) (b * d) := by
  have n1 := nb_pos (a := a) hb
  have n2 := nb_pos (a := c) hd
  have e1 := low_cross (a := a) hb
  have e2 := low_cross (a := c) hd
  refine low_eq (Int.mul_ne_zero (by omega) (by omega)) (Int.mul_ne_zero hb hd) ?_
  grind
theorem low_sub {a b c d : Int} (hb : b ≠ 0) (hd : d ≠ 0) : nt (nt a b * nb c d - nt c d * nb a b) (nb a b * nb c d) = nt (a * d - c * b) (b * d) ∧ nb (nt a b * nb c d - nt c d * nb a b) (nb a b * nb c d) = nb (a * d - c * b) (b * d) := by
  have n1 := nb_pos (a := a) hb
  have n2 := nb_pos (a := c) hd
  have e1 := low_cross (a := a) hb
  have e2 := low_cross (a := c) hd
  refine low_eq (Int.mul_ne_zero (by omega) (by omega)) (Int.mul_ne_zero hb hd) ?_
  grind
theorem low_mul {a b c d : Int} (hb : b ≠ 0) (hd : d ≠ 0) : nt (nt a b * nt c d) (nb a b * nb c d) = nt (a * c) (b * d) ∧ nb (nt a b * nt c d) (nb a b * nb c d) = nb (a * c) (b * d) := by
  have n1 := nb_pos (a := a) hb
  have n2 := nb_pos (a := c) hd
  have e1 := low_cross (a := a) hb
  have e2 := low_cross (a := c) hd
  refine low_eq (Int.mul_ne_zero (by omega) (by omega)) (Int.mul_ne_zero hb hd) ?_
  grind
theorem low_neg {a b : Int} (hb : b ≠ 0) : nt (-(nt a b)) (nb a b) = nt (0 - a) b ∧ nb (-(nt a b)) (nb a b) = nb (0 - a) b := by
  have n1 := nb_pos (a := a) hb
  have e1 := low_cross (a := a) hb
  refine low_eq (by omega) hb ?_
  grind
/-- sizes -/
theorem nt_le {a b : Int} (h : b ≠ 0) : (nt a b).natAbs ≤ a.natAbs := by
  have e : (nt a b).natAbs * Nat.gcd a.natAbs b.natAbs = a.natAbs := by rw [← sg_abs, ← Int.natAbs_mul, nt_mul h]
  rw [← e]
  exact Nat.le_mul_of_pos_right _ (gpos h)
theorem nb_le {a b : Int} (h : b ≠ 0) : (nb a b).natAbs ≤ b.natAbs := by
  have e : (nb a b).natAbs * Nat.gcd a.natAbs b.natAbs = b.natAbs := by rw [← sg_abs, ← Int.natAbs_mul, nb_mul h]
  rw [← e]
  exact Nat.le_mul_of_pos_right _ (gpos h)
theorem sg_le {a b : Int} (h : b ≠ 0) : (sg a b).natAbs ≤ b.natAbs := by
  rw [sg_abs]
  exact Nat.le_of_dvd (by omega) (Nat.gcd_dvd_right _ _)
end MX
set_option maxRecDepth 100000
set_option maxHeartbeats 2000000
namespace MX
open PySem PySem.Spec PyProof.Rows L2
/-! ### texts of ints -/
def tx (i : Int) : Str := Str.ofString (toString i)
theorem ofString_add (a b : String) : Str.ofString (a ++ b) = Str.ofString a ++ Str.ofString b := by
  rw [Str.ofString_eq_toList, Str.ofString_eq_toList, Str.ofString_eq_toList]
  show _ = Str.append _ _
  unfold Str.append
  simp [String.toList_append]
theorem tx_neg {i : Int} (h : i < 0) : Str.ofString "-" ++ tx (-i) = tx i := by
  cases i with
  | ofNat n => exact absurd h (by simp)
  | negSucc m =>
    unfold tx
    rw [← ofString_add]
    rfl
theorem join1 (a : Str) : Txt.join Str.empty [a] = a := by
  first
    | rfl
    | simp [Txt.join, glued]
theorem join2 (a b : Str) : Txt.join Str.empty [a, b] = a ++ b := by
  have e : a ++ Str.empty = a := Str.append_empty a
  have e2 : Str.empty ++ a = a := Str.empty_append a
  first
    | rfl
    | (show a ++ Str.empty ++ b = a ++ b; rw [e])
    | (simp [Txt.join, glued, e, e2])
theorem tx_len {i : Int} (h : i.natAbs.log2 < 1920) : (tx i).length ≤ sizeLine := int_text_fits h
theorem tx_len' {i : Int} (h : i.natAbs.log2 < 1920) : (tx i).length ≤ 1000000 := by
  have e := int_text_length_le (k := 1920) (by decide) h
  unfold tx
  rw [PySem.ofString_length]
  omega
/-- a ratio's text -/
def rt (t b : Int) : Str := if b = 1 then tx t else tx t ++ Str.ofString "/" ++ tx b
/-! ### sizes -/
def Bd (n : Nat) (i : Int) : Prop := i.natAbs < 2 ^ n
theorem Bd.le {m n : Nat} {i : Int} (h : Bd m i) (l : m ≤ n) : Bd n i := Nat.lt_of_lt_of_le h (Nat.pow_le_pow_right (by decide) l)
theorem Bd.mul {m n : Nat} {i j : Int} (h : Bd m i) (g : Bd n j) : Bd (m + n) (i * j) := wide_lt h g
theorem Bd.add {n : Nat} {i j : Int} (h : Bd n i) (g : Bd n j) : Bd (n + 1) (i + j) := by
  unfold Bd at *
  rw [Nat.pow_succ]
  omega
theorem Bd.neg {n : Nat} {i : Int} (h : Bd n i) : Bd n (-i) := by
  unfold Bd at *
  omega
theorem Bd.sub {n : Nat} {i j : Int} (h : Bd n i) (g : Bd n j) : Bd (n + 1) (i - j) := by
  unfold Bd at *
  rw [Nat.pow_succ]
  omega
theorem Bd.log {n m : Nat} {i : Int} (h : Bd n i) (h0 : 0 < n) (l : n ≤ m) : i.natAbs.log2 < m := Nat.lt_of_lt_of_le (PySem.Flt.log2_lt_of h0 h) l
theorem Bd.of_le {n : Nat} {i j : Int} (h : Bd n j) (l : i.natAbs ≤ j.natAbs) : Bd n i := Nat.lt_of_le_of_lt l h
theorem Bd.nt {n : Nat} {a b : Int} (h : Bd n a) (hb : b ≠ 0) : Bd n (nt a b) := h.of_le (nt_le hb)
theorem Bd.nb {n : Nat} {a b : Int} (h : Bd n b) (hb : b ≠ 0) : Bd n (nb a b) := h.of_le (nb_le hb)
theorem Bd.sg {n : Nat} {a b : Int} (h : Bd n b) (hb : b ≠ 0) : Bd n (sg a b) := h.of_le (sg_le hb)
theorem Bd.cmul {m n : Nat} {i j : Int} (h : Bd m i) (g : Bd n j) (hm : 0 < m) (hn : 0 < n) (l : m + n ≤ 1000000) : CMulW i j := wide_mul h g hm hn l
theorem Bd.lit {n : Nat} {i : Int} (h : i.natAbs < 2 ^ n) : Bd n i := h
end MX
set_option maxRecDepth 100000
set_option maxHeartbeats 0
/-! a head's facts, with a Bool of one's own beside them -/
namespace HX
open PySem PySem.Spec PyProof.Rows L2 GL MX
def eqV (a : Option (Option Value)) (b : Value) : Bool := decide (a = some (some b))
def noV (a : Option (Option Value)) : Bool := decide (a = some none)
def noInB (K : PySem.W.Frag) (C : Addr) (nm : String) : Bool := (PySem.W.clsIn K C).any (fun cd => decide (cd.mro = [.ref C, .type "object"])) && (noV (PySem.W.findIn K (.ref C) (dunderI nm)) && noV (PySem.W.findIn K (.type "object") (dunderI nm)))
theorem noInB_ok {K : PySem.W.Frag} {C : Addr} {nm : String} (h : noInB K C nm = true) : NoIn K C nm := by
  obtain ⟨h1, h2⟩ := He.ba h
  obtain ⟨h3, h4⟩ := He.ba h2
  exact ⟨h1, of_decide_eq_true h3, of_decide_eq_true h4⟩
/-- more of the class at C -/
def moreB (K : PySem.W.Frag) (C : Addr) : Bool := PySem.W.selfFirst K C && (PySem.W.notFirst K C (.ref C) && (eqV (PySem.W.findIn K (.ref C) "__class__") (.builtin "object.__class__") &&
  (eqV (PySem.W.specialIn K (.builtin "object.__class__") "__get__") (.builtin "getset_descriptor.__get__") && (decide (PySem.W.takesIn K (.builtin "object.__class__") = some true) &&
  (decide (PySem.W.mroIn K C (.type "object") = some true) && decide (PySem.W.kitOne K (.ref C) (.ref C) = some true))))))
theorem more_ok {K : PySem.W.Frag} {C : Addr} (cl : Cls K C) (c : moreB K C = true) : PySem.W.selfFirst K C = true ∧ PySem.W.notFirst K C (.ref C) = true ∧ C8.InsC K C := by
  obtain ⟨c1, c⟩ := He.ba c
  obtain ⟨c2, c⟩ := He.ba c
  obtain ⟨c3, c⟩ := He.ba c
  obtain ⟨c4, c⟩ := He.ba c
  obtain ⟨c5, c⟩ := He.ba c
  obtain ⟨c6, c7⟩ := He.ba c
  exact ⟨c1, c2, ⟨cl, of_decide_eq_true c3, of_decide_eq_true c4, of_decide_eq_true c5, of_decide_eq_true c6, of_decide_eq_true c7⟩⟩
/-- gcd and the class Ratio -/
def extraR (K : PySem.W.Frag) : Bool := eqV (PySem.W.nsIn K mainGlobals "gcd") (.builtin "math.gcd") && moreB K (He.ga K "Ratio")
theorem extraR_ok {K : PySem.W.Frag} {h : Heap} {mg : Str → Option Value} (X : K.In h) (G : h.Ns mainGlobals mg) (c : extraR K = true) : mg "gcd" = some (.builtin "math.gcd") ∧ moreB K (He.ga K "Ratio") = true := by
  obtain ⟨c1, c2⟩ := He.ba c
  exact ⟨PySem.W.mg_of X G (of_decide_eq_true c1), c2⟩
/-- an error's class at D, for isinstance -/
def excB (K : PySem.W.Frag) (D : Addr) : Bool := eqV (PySem.W.findIn K (.ref D) "__getattribute__") (.builtin "BaseException.__getattribute__") && (noV (PySem.W.findIn K (.ref D) "__getattr__") && (decide (PySem.W.subIn K (.ref D) (.type "BaseException") = some true) &&
  (PySem.W.hasDictIn K D && (eqV (PySem.W.findIn K (.ref D) "__class__") (.builtin "object.__class__") && (eqV (PySem.W.specialIn K (.builtin "object.__class__") "__get__") (.builtin "getset_descriptor.__get__") &&
  (decide (PySem.W.takesIn K (.builtin "object.__class__") = some true) && decide (PySem.W.mroIn K D (.type "object") = some true)))))))
theorem excB_ok {K : PySem.W.Frag} {D : Addr} (c : excB K D = true) : ExcC K D := by
  obtain ⟨c1, c⟩ := He.ba c
  obtain ⟨c2, c⟩ := He.ba c
  obtain ⟨c3, c⟩ := He.ba c
  obtain ⟨c4, c⟩ := He.ba c
  obtain ⟨c5, c⟩ := He.ba c
  obtain ⟨c6, c⟩ := He.ba c
  obtain ⟨c7, c8⟩ := He.ba c
  exact ⟨of_decide_eq_true c1, of_decide_eq_true c2, of_decide_eq_true c3, c4, of_decide_eq_true c5, of_decide_eq_true c6, of_decide_eq_true c7, of_decide_eq_true c8⟩
/-- isinstance's answer for the classes of two names -/
def kitB2 (K : PySem.W.Frag) (x y : Str) (b : Bool) : Bool := decide (PySem.W.kitOne K (.ref (He.ga K x)) (.ref (He.ga K y)) = some b)
abbrev AlX : Type := Bool × He.AlD
def frX (n : Nat) (g : Addr → Option Obj) : PySem.W.Frag := He.frG g (He.asD g n)
def obsX (ex : PySem.W.Frag → Bool) (n : Nat) (fa : List He.Fa) (fn : List He.DefD) (g : Addr → Option Obj) : AlX := (ex (frX n g), He.obsD fa fn (frX n g))
def hookX (ex : PySem.W.Frag → Bool) (n : Nat) (fa : List He.Fa) (fn : List He.DefD) : PySem.W.Hook where
  α := AlX
  obs := fun s => obsX ex n fa fn s.heap.get?
  val := fun _ => (true, He.valD fn)
  says := fun _ h => ∃ K : PySem.W.Frag, K.In h ∧ ex K = true ∧ He.SaysD fa fn K
  of := fun _ _ e => ⟨_, He.frG_in, congrArg (fun z : AlX => z.1) e, congrArg (fun z : AlX => z.2) e⟩
  keeps := fun _ _ _ ⟨K, hK, c, d⟩ k => ⟨K, PySem.W.Frag.In.keeps hK k, c, d⟩
theorem obsX_eq {ex : PySem.W.Frag → Bool} {n : Nat} {fa : List He.Fa} {fn : List He.DefD} {g : Addr → Option Obj} {s : Shared} (h : ∀ a, g a = s.heap.get? a) : obsX ex n fa fn g = (hookX ex n fa fn).obs s := by
  have e : g = s.heap.get? := funext h
  rw [e] <;> rfl
end HX
namespace MX
abbrev QQ := _root_.Rat
theorem den_pos' (q : QQ) : (0 : Int) < (q.den : Int) := by
  have := q.den_pos
  omega
theorem den_ne (q : QQ) : (q.den : Int) ≠ 0 := Int.ne_of_gt (den_pos' q)
theorem nt_div {a b : Int} (h : b ≠ 0) : nt a b = (Rat.divInt a b).num ∧ nb a b = ((Rat.divInt a b).den : Int) := by
  have hd := den_pos' (Rat.divInt a b)
  have e := Rat.divInt_eq_divInt_iff (n₁ := (Rat.divInt a b).num) (n₂ := a) (Int.ne_of_gt hd) h
  have e2 := e.mp (Rat.num_divInt_den _)
  refine uniq (nb_pos h) hd (cop h) ?_ ?_
  · exact (Rat.divInt a b).reduced
  · have e3 := low_cross (a := a) h
    have : (nt a b * (Rat.divInt a b).den) * b = ((Rat.divInt a b).num * nb a b) * b := by grind
    exact Int.eq_of_mul_eq_mul_right h this
/-- both below 2 ^ n -/
def Bq (n : Nat) (q : QQ) : Prop := Bd n q.num ∧ Bd n (q.den : Int)
theorem Bq.le {m n : Nat} {q : QQ} (h : Bq m q) (l : m ≤ n) : Bq n q := ⟨h.1.le l, h.2.le l⟩
theorem Bq.div {n : Nat} {a b : Int} (h : b ≠ 0) (ha : Bd n a) (hb : Bd n b) : Bq n (Rat.divInt a b) := by
  obtain ⟨e1, e2⟩ := nt_div (a := a) h
  exact ⟨e1 ▸ ha.nt h, e2 ▸ hb.nb h⟩
theorem q_eq (q : QQ) : q = Rat.divInt q.num q.den := (Rat.num_divInt_den q).symm
theorem low_qadd (q r : QQ) : nt (q.num * r.den + r.num * q.den) (q.den * r.den) = (q + r).num ∧ nb (q.num * r.den + r.num * q.den) (q.den * r.den) = ((q + r).den : Int) := by
  have e : q + r = Rat.divInt (q.num * r.den + r.num * q.den) (q.den * r.den) := by
    rw [← Rat.divInt_add_divInt _ _ (den_ne q) (den_ne r), ← q_eq, ← q_eq]
  rw [e]
  exact nt_div (Int.mul_ne_zero (den_ne q) (den_ne r))
theorem low_qsub (q r : QQ) : nt (q.num * r.den - r.num * q.den) (q.den * r.den) = (q - r).num ∧ nb (q.num * r.den - r.num * q.den) (q.den * r.den) = ((q - r).den : Int) := by
  have e : q - r = Rat.divInt (q.num * r.den - r.num * q.den) (q.den * r.den) := by
    rw [← Rat.divInt_sub_divInt _ _ (den_ne q) (den_ne r), ← q_eq, ← q_eq]
  rw [e]
  exact nt_div (Int.mul_ne_zero (den_ne q) (den_ne r))
theorem low_qmul (q r : QQ) : nt (q.num * r.num) (q.den * r.den) = (q * r).num ∧ nb (q.num * r.num) (q.den * r.den) = ((q * r).den : Int) := by
  have e : q * r = Rat.divInt (q.num * r.num) (q.den * r.den) := by
    rw [← Rat.divInt_mul_divInt, ← q_eq, ← q_eq]
  rw [e]
  exact nt_div (Int.mul_ne_zero (den_ne q) (den_ne r))
theorem low_qneg (q : QQ) : nt (-q.num) q.den = (-q).num ∧ nb (-q.num) q.den = ((-q).den : Int) := by
  have e : -q = Rat.divInt (-q.num) q.den := by
    rw [← Rat.neg_divInt, ← q_eq]
  rw [e]
  exact nt_div (den_ne q)
theorem num_ne {q : QQ} (h : q ≠ 0) : q.num ≠ 0 := fun e => h (by
  have := q_eq q
  rw [e, Rat.zero_divInt] at this
  exact this)
theorem low_qinv {q : QQ} (h : q ≠ 0) : nt q.den q.num = (q⁻¹).num ∧ nb q.den q.num = ((q⁻¹).den : Int) := by
  have e : q⁻¹ = Rat.divInt q.den q.num := Rat.inv_def q
  rw [e]
  exact nt_div (num_ne h)
theorem Bq.add {m n : Nat} {q r : QQ} (h : Bq m q) (g : Bq n r) : Bq (m + n + 1) (q + r) := by
  obtain ⟨e1, e2⟩ := low_qadd q r
  have hn := Int.mul_ne_zero (den_ne q) (den_ne r)
  have b2 : Bd (m + n + 1) ((q.den : Int) * r.den) := (h.2.mul g.2).le (by omega)
  have b1 : Bd (m + n + 1) (q.num * r.den + r.num * q.den) := (h.1.mul g.2).add ((g.1.mul h.2).le (by omega))
  exact ⟨e1 ▸ b1.nt hn, e2 ▸ b2.nb hn⟩
theorem Bq.sub {m n : Nat} {q r : QQ} (h : Bq m q) (g : Bq n r) : Bq (m + n + 1) (q - r) := by
  obtain ⟨e1, e2⟩ := low_qsub q r
  have hn := Int.mul_ne_zero (den_ne q) (den_ne r)
  have b2 : Bd (m + n + 1) ((q.den : Int) * r.den) := (h.2.mul g.2).le (by omega)
  have b1 : Bd (m + n + 1) (q.num * r.den - r.num * q.den) := (h.1.mul g.2).sub ((g.1.mul h.2).le (by omega))
  exact ⟨e1 ▸ b1.nt hn, e2 ▸ b2.nb hn⟩
theorem Bq.mul {m n : Nat} {q r : QQ} (h : Bq m q) (g : Bq n r) : Bq (m + n) (q * r) := by
  obtain ⟨e1, e2⟩ := low_qmul q r
  have hn := Int.mul_ne_zero (den_ne q) (den_ne r)
  have b2 : Bd (m + n) ((q.den : Int) * r.den) := h.2.mul g.2
  have b1 : Bd (m + n) (q.num * r.num) := h.1.mul g.1
  exact ⟨e1 ▸ b1.nt hn, e2 ▸ b2.nb hn⟩
theorem Bq.neg {m : Nat} {q : QQ} (h : Bq m q) : Bq m (-q) := by
  obtain ⟨e1, e2⟩ := low_qneg q
  exact ⟨e1 ▸ h.1.neg.nt (den_ne q), e2 ▸ h.2.nb (den_ne q)⟩
theorem Bq.inv {m : Nat} {q : QQ} (h0 : q ≠ 0) (h : Bq m q) : Bq m q⁻¹ := by
  obtain ⟨e1, e2⟩ := low_qinv h0
  exact ⟨e1 ▸ h.2.nt (num_ne h0), e2 ▸ h.1.nb (num_ne h0)⟩
/-- expressions of ratios -/
inductive Ex | v (i : Nat) | add (a b : Ex) | sub (a b : Ex) | mul (a b : Ex) | neg (a : Ex) | inv (a : Ex)
def Ex.val (ρ : Nat → QQ) : Ex → QQ
  | v i => ρ i
  | add a b => a.val ρ + b.val ρ
  | sub a b => a.val ρ - b.val ρ
  | mul a b => a.val ρ * b.val ρ
  | neg a => - a.val ρ
  | inv a => (a.val ρ)⁻¹
def Ex.bits (n : Nat → Nat) : Ex → Nat
  | v i => n i
  | add a b => a.bits n + b.bits n + 1
  | sub a b => a.bits n + b.bits n + 1
  | mul a b => a.bits n + b.bits n
  | neg a => a.bits n
  | inv a => a.bits n
def Ex.ok (n : Nat → Nat) : Ex → Bool
  | v _ => true
  | add a b => a.ok n && b.ok n && Nat.ble (a.bits n) 900 && Nat.ble (b.bits n) 900
  | sub a b => a.ok n && b.ok n && Nat.ble (a.bits n) 900 && Nat.ble (b.bits n) 900
  | mul a b => a.ok n && b.ok n && Nat.ble (a.bits n) 900 && Nat.ble (b.bits n) 900
  | neg a => a.ok n && Nat.ble (a.bits n) 900
  | inv a => a.ok n && Nat.ble (a.bits n) 900
def Ex.nz (ρ : Nat → QQ) : Ex → Prop
  | v _ => True
  | add a b => a.nz ρ ∧ b.nz ρ
  | sub a b => a.nz ρ ∧ b.nz ρ
  | mul a b => a.nz ρ ∧ b.nz ρ
  | neg a => a.nz ρ
  | inv a => a.nz ρ ∧ a.val ρ ≠ 0
def Ex.vars : Ex → List Nat
  | v i => [i]
  | add a b => a.vars ++ b.vars
  | sub a b => a.vars ++ b.vars
  | mul a b => a.vars ++ b.vars
  | neg a => a.vars
  | inv a => a.vars
theorem Ex.bnd {ρ : Nat → QQ} {n : Nat → Nat} : ∀ (e : Ex), (∀ i ∈ e.vars, Bq (n i) (ρ i)) → e.nz ρ → Bq (e.bits n) (e.val ρ)
  | v i, h, _ => h i (List.mem_singleton.mpr rfl)
  | add a b, h, z => (a.bnd (fun i m => h i (List.mem_append_left _ m)) z.1).add (b.bnd (fun i m => h i (List.mem_append_right _ m)) z.2)
  | sub a b, h, z => (a.bnd (fun i m => h i (List.mem_append_left _ m)) z.1).sub (b.bnd (fun i m => h i (List.mem_append_right _ m)) z.2)
  | mul a b, h, z => (a.bnd (fun i m => h i (List.mem_append_left _ m)) z.1).mul (b.bnd (fun i m => h i (List.mem_append_right _ m)) z.2)
  | neg a, h, z => (a.bnd h z).neg
  | inv a, h, z => (a.bnd h z.1).inv z.2
/-! ### a chain's sizes -/
theorem fib_big {x : Int} {t : Nat} (h0 : 0 ≤ x) (h : x * 1000 ^ t ≤ 1619 ^ t) (ht : t ≤ 1201) : Bd 900 x := by
  unfold Bd
  refine Nat.lt_of_not_le fun hx => ?_
  have h1 : x.natAbs * 1000 ^ t ≤ 1619 ^ t := by
    have e : (x.natAbs : Int) = x := Int.natAbs_of_nonneg h0
    have : ((x.natAbs * 1000 ^ t : Nat) : Int) ≤ ((1619 ^ t : Nat) : Int) := by
      simp only [Int.natCast_mul, Int.natCast_pow, e]
      exact h
    exact Int.ofNat_le.mp this
  have h2 : (1000 : Nat) ^ (1201 - t) ≤ 1619 ^ (1201 - t) := Nat.pow_le_pow_left (by decide) _
  have h3 : x.natAbs * 1000 ^ t * 1000 ^ (1201 - t) ≤ 1619 ^ t * 1619 ^ (1201 - t) := Nat.mul_le_mul h1 h2
  rw [Nat.mul_assoc, ← Nat.pow_add, ← Nat.pow_add, Nat.add_sub_cancel' ht] at h3
  have h4 : 2 ^ 900 * 1000 ^ 1201 ≤ 1619 ^ 1201 := Nat.le_trans (Nat.mul_le_mul_right _ hx) h3
  exact absurd h4 (by decide +kernel)
theorem fib_step {b c : Int} {t : Nat} (h1 : b * 1000 ^ t ≤ 1619 ^ t) (h2 : c * 1000 ^ (t + 1) ≤ 1619 ^ (t + 1)) : (b + c) * 1000 ^ (t + 1 + 1) ≤ 1619 ^ (t + 1 + 1) := by
  have e1 : (b + c) * 1000 ^ (t + 1 + 1) = (b * 1000 ^ t) * 1000000 + (c * 1000 ^ (t + 1)) * 1000 := by
    simp only [Int.pow_succ]
    grind
  have e2 : (1619 : Int) ^ (t + 1 + 1) = 1619 ^ t * 2621161 := by
    simp only [Int.pow_succ]
    grind
  have e3 : (1619 : Int) ^ (t + 1) = 1619 ^ t * 1619 := by
    simp only [Int.pow_succ]
  have p : (0 : Int) ≤ 1619 ^ t := Int.le_of_lt (Int.pow_pos (by decide))
  rw [e1, e2]
  rw [e3] at h2
  omega
end MX
namespace MX
theorem q_sq (q : QQ) : ¬ q * q < 0 := by
  by_cases h : 0 ≤ q
  · have := Rat.mul_nonneg h h
    grind
  · have h2 : 0 ≤ -q := by grind
    have := Rat.mul_nonneg h2 h2
    have e : -q * -q = q * q := by grind
    rw [e] at this
    grind
theorem q_inv_lt {q r : QQ} (hq : 0 < q) (hr : 0 < r) : (r⁻¹ < q⁻¹) ↔ q < r := by
  have h1 := Rat.inv_pos.mpr hq
  have h2 := Rat.inv_pos.mpr hr
  have e1 : q * q⁻¹ = 1 := Rat.mul_inv_cancel q (by grind)
  have e2 : r * r⁻¹ = 1 := Rat.mul_inv_cancel r (by grind)
  constructor
  · intro h
    have a := Rat.mul_pos (Rat.mul_pos hq hr) (by grind : 0 < q⁻¹ - r⁻¹)
    have e : q * r * (q⁻¹ - r⁻¹) = (q * q⁻¹) * r - (r * r⁻¹) * q := by grind
    rw [e, e1, e2] at a
    grind
  · intro h
    have a := Rat.mul_pos (Rat.mul_pos h1 h2) (by grind : 0 < r - q)
    have e : q⁻¹ * r⁻¹ * (r - q) = (r * r⁻¹) * q⁻¹ - (q * q⁻¹) * r⁻¹ := by grind
    rw [e, e1, e2] at a
    grind
theorem q_three (q r : QQ) : ([decide (q < r), decide (r < q), decide (q = r)].count true : Nat) = 1 := by
  by_cases h : q < r
  · have h1 : ¬ r < q := by grind
    have h2 : ¬ q = r := by grind
    simp [h, h1, h2]
  · by_cases g : r < q
    · have h2 : ¬ q = r := by grind
      simp [h, g, h2]
    · have h2 : q = r := by grind
      subst h2
      simp [h]
theorem q_shift (q r t : QQ) : decide (q + t < r + t) = decide (q < r) := decide_eq_decide.mpr (by grind)
theorem q_turn (q r : QQ) : decide (-r < -q) = decide (q < r) := decide_eq_decide.mpr (by grind)
theorem q_trans {q r t : QQ} (h : q < r) (g : r < t) : q < t := by grind
theorem lt_dec (q r : QQ) : decide (q.num * r.den < r.num * q.den) = decide (q < r) := decide_eq_decide.mpr (Rat.lt_iff q r).symm
end MX
namespace MX
theorem ch_sub {b c d : Int} (hc : 0 < c) (e : d = b + c) : Rat.divInt d c - 1 = Rat.divInt b c := by
  have hc' : (c : QQ) ≠ 0 := by
    have h1 : (0 : QQ) < c := Rat.intCast_pos.mpr hc
    grind
  rw [Rat.divInt_eq_div, Rat.divInt_eq_div, e, Rat.intCast_add]
  grind
theorem ch_pos {c d : Int} (hc : 0 < c) (hd : 0 < d) : 0 < Rat.divInt d c := by
  rw [Rat.divInt_eq_div]
  have h1 : (0 : QQ) < c := Rat.intCast_pos.mpr hc
  have h2 : (0 : QQ) < d := Rat.intCast_pos.mpr hd
  rw [Rat.lt_div_iff h1]
  grind
theorem ch_mul {c d : Int} (hc : 0 < c) (hd : 0 < d) : Rat.divInt d c * Rat.divInt c d = 1 := by
  have h := ch_pos hc hd
  have h2 : Rat.divInt d c ≠ 0 := by grind
  have e : Rat.divInt c d = (Rat.divInt d c)⁻¹ := (Rat.inv_divInt d c).symm
  rw [e]
  exact Rat.mul_inv_cancel _ h2
theorem ch_less {b c d : Int} (hb : 0 < b) (hc : 0 < c) (e : d = b + c) : 1 < Rat.divInt d c := by
  rw [Rat.divInt_eq_div]
  have h1 : (0 : QQ) < c := Rat.intCast_pos.mpr hc
  have h2 : (0 : QQ) < b := Rat.intCast_pos.mpr hb
  rw [Rat.lt_div_iff h1, e, Rat.intCast_add]
  grind
/-- s / (s + 1) + 1 / ((s + 1)(s + 2)) = (s + 1) / (s + 2) -/
theorem ch_sum {s : Int} (h : 0 ≤ s) : Rat.divInt s (s + 1) + Rat.divInt 1 ((1 + s) * ((1 + s) + 1)) = Rat.divInt (s + 1) ((s + 1) + 1) := by
  have h1 : (0 : QQ) ≤ s := Rat.intCast_nonneg.mpr h
  rw [Rat.divInt_eq_div, Rat.divInt_eq_div, Rat.divInt_eq_div]
  simp only [Rat.intCast_add, Rat.intCast_mul, Rat.intCast_one]
  have h2 : (s : QQ) + 1 ≠ 0 := by grind
  have h3 : (s : QQ) + 1 + 1 ≠ 0 := by grind
  have h4 : (1 : QQ) + s ≠ 0 := by grind
  grind
end MX
namespace MX
theorem fib_big2 {x : Int} {t : Nat} (h0 : 0 ≤ x) (h : x * 1000 ^ t ≤ 1619 ^ t) (ht : t ≤ 1501) : Bd 1100 x := by
  unfold Bd
  refine Nat.lt_of_not_le fun hx => ?_
  have h1 : x.natAbs * 1000 ^ t ≤ 1619 ^ t := by
    have e : (x.natAbs : Int) = x := Int.natAbs_of_nonneg h0
    have : ((x.natAbs * 1000 ^ t : Nat) : Int) ≤ ((1619 ^ t : Nat) : Int) := by
      simp only [Int.natCast_mul, Int.natCast_pow, e]
      exact h
    exact Int.ofNat_le.mp this
  have h2 : (1000 : Nat) ^ (1501 - t) ≤ 1619 ^ (1501 - t) := Nat.pow_le_pow_left (by decide) _
  have h3 : x.natAbs * 1000 ^ t * 1000 ^ (1501 - t) ≤ 1619 ^ t * 1619 ^ (1501 - t) := Nat.mul_le_mul h1 h2
  rw [Nat.mul_assoc, ← Nat.pow_add, ← Nat.pow_add, Nat.add_sub_cancel' ht] at h3
  have h4 : 2 ^ 1100 * 1000 ^ 1501 ≤ 1619 ^ 1501 := Nat.le_trans (Nat.mul_le_mul_right _ hx) h3
  exact absurd h4 (by decide +kernel)
theorem cop_step {c d : Int} (hc : 1 ≤ c) (hd : 1 ≤ d) (h : Nat.gcd c.natAbs d.natAbs = 1) : Nat.gcd d.natAbs (c + d).natAbs = 1 := by
  have e : (c + d).natAbs = c.natAbs + d.natAbs := by omega
  rw [e, Nat.gcd_add_self_right, Nat.gcd_comm]
  exact h
theorem eqv_two (i j : Int) : PySem.PyData.eqv (.tuple [.int i, .int j]) (.tuple [.int i, .int j]) = true := by
  simp [PySem.PyData.eqv, PySem.PyData.eqvAll]
end MX
set_option maxRecDepth 100000
set_option maxHeartbeats 1000000
namespace GL
open PySem PySem.Spec PyProof.Rows L2 PySem.SeqAt
open AutoSeq1 (wpAny_loadPart')
open MeetsSeq
theorem int_no (i : Int) (u : Tok) (b C dx : Addr) : Meets (Builtin.«int.__eq__» ⟨[.int i u, .ref b], []⟩) (fun _ R s => s.heap.get? b = some (PySem.W.instObj C dx) ∧ R (.ok (.ret .notImplemented)) s) :=
  .of_wp fun prog w A R s h => by
    obtain ⟨hp, g, d, tk, os⟩ := s
    obtain ⟨hl, h⟩ := h
    wp_walk using wpAny_loadPart' hl, wpAny_load hl
    exact ⟨_, rfl, h⟩
theorem bool_no (i : Bool) (b C dx : Addr) : Meets (Builtin.«int.__eq__» ⟨[.bool i, .ref b], []⟩) (fun _ R s => s.heap.get? b = some (PySem.W.instObj C dx) ∧ R (.ok (.ret .notImplemented)) s) :=
  .of_wp fun prog w A R s h => by
    obtain ⟨hp, g, d, tk, os⟩ := s
    obtain ⟨hl, h⟩ := h
    wp_walk using wpAny_loadPart' hl, wpAny_load hl
    exact ⟨_, rfl, h⟩
theorem str_no (i : Str) (u : Tok) (b C dx : Addr) : Meets (Builtin.«str.__eq__» ⟨[.str i u, .ref b], []⟩) (fun _ R s => s.heap.get? b = some (PySem.W.instObj C dx) ∧ R (.ok (.ret .notImplemented)) s) :=
  .of_wp fun prog w A R s h => by
    obtain ⟨hp, g, d, tk, os⟩ := s
    obtain ⟨hl, h⟩ := h
    wp_walk using wpAny_loadPart' hl, wpAny_load hl
    exact ⟨_, rfl, h⟩
theorem isi_no {K : PySem.W.Frag} {prog : Program} {w : World} {A : Around} {E : Value → Shared → Prop} {s : Shared} {b C : Addr} {ox : Obj} {od : Option Obj} {T : String} {Q : Bool → Shared → Prop} (X : K.In s.heap) (J : PySem.W.InstAt s.heap b ox C od)
    (e : PySem.W.subIn K (.ref C) (.type T) = some false) (h : Q false s) : wpAny (model prog w) A (isInstance (.ref b) (.type T)) Q E s := by
  unfold isInstance
  exact wpAny_bind (J.type.here ((PySem.W.looks_subIn X e).here h))
theorem list_no {K : PySem.W.Frag} (l b C : Addr) (ox : Obj) (od : Option Obj) (items : Array Value) (n : Nat) (e : PySem.W.subIn K (.ref C) (.type "list") = some false) :
    Meets (Builtin.«list.__eq__» ⟨[.ref l, .ref b], []⟩) (fun _ R s => K.In s.heap ∧ PySem.W.InstAt s.heap b ox C od ∧ s.heap.get? l = some { cls := .type "list", data := .seq items n } ∧ R (.ok (.ret .notImplemented)) s) :=
  .of_wp fun prog w A R s h => by
    obtain ⟨hp, g, d, tk, os⟩ := s
    obtain ⟨X, J, hl, h⟩ := h
    wp_walk using wpAny_loadPart' hl, isi_no X J e
    exact ⟨_, rfl, h⟩
theorem tuple_no {K : PySem.W.Frag} (l b C : Addr) (ox : Obj) (od : Option Obj) (e : PySem.W.subIn K (.ref C) (.type "tuple") = some false) :
    Meets (Builtin.«tuple.__eq__» ⟨[.ref l, .ref b], []⟩) (fun _ R s => K.In s.heap ∧ PySem.W.InstAt s.heap b ox C od ∧ R (.ok (.ret .notImplemented)) s) :=
  .of_wp fun prog w A R s h => by
    obtain ⟨hp, g, d, tk, os⟩ := s
    obtain ⟨X, J, h⟩ := h
    wp_walk using isi_no X J e
    exact ⟨_, rfl, h⟩
theorem dict_no {K : PySem.W.Frag} (l b C : Addr) (ox : Obj) (od : Option Obj) (ol : Obj) (e : PySem.W.subIn K (.ref C) (.type "dict") = some false) :
    Meets (Builtin.«dict.__eq__» ⟨[.ref l, .ref b], []⟩) (fun _ R s => K.In s.heap ∧ PySem.W.InstAt s.heap b ox C od ∧ s.heap.get? l = some ol ∧ R (.ok (.ret .notImplemented)) s) :=
  .of_wp fun prog w A R s h => by
    obtain ⟨hp, g, d, tk, os⟩ := s
    obtain ⟨X, J, hl, h⟩ := h
    wp_walk using isi_no X J e, wpAny_loadPart' hl
    exact ⟨_, rfl, h⟩
end GL
namespace GL
open PySem PySem.Spec PyProof.Rows L2 PySem.SeqAt
open AutoSeq1 (wpAny_loadPart')
open MeetsSeq MeetsSeq2 MeetsSeq3 SeqRoads2 GQ
section
variable {prog : Program} {w : World} {A : Around} {E : Value → Shared → Prop} {s : Shared} {R : Result → Shared → Prop}
theorem ne_loopG (l b : Addr) (N : Nat) (I : Nat → Shared → Prop) (hl : ListI prog w A (fun e s' => R (.error e) s') l b N I)
    (fin : ∀ s, I N s → R (.ok (.ret (.bool false))) s) (k : Nat) :
    ∀ i : Nat, N - i = k → i ≤ N → ∀ s, I i s →
      wpAny (model prog w) A.in1 (Builtin.«list.__eq__.loop» ⟨[.ref l, .ref b, rawInt i, rawInt 3], []⟩) (FinOf prog w A R) (fun e s' => R (.error e) s') s := by
  induction k with
  | zero =>
    intro i hk hi s h
    obtain ⟨items, items2, n, n2, hl1, hb1, hs1, hs2, _⟩ := hl _ _ h
    have hi' : i = N := by omega
    have hR : R (.ok (.ret (.bool false))) s := fin s (hi' ▸ h)
    obtain ⟨hp, g, d, tk, os⟩ := s
    wp_walk using wpAny_loadPart' hl1, wpAny_loadPart' hb1
    have hi1 : items[((i : Nat) : Int).toNat]? = none := by simp; omega
    have hi2 : items2[((i : Nat) : Int).toNat]? = none := by simp; omega
    rw [hi1, hi2]
    wp_walk using wpAny_loadPart' hl1, wpAny_loadPart' hb1
    show R (.ok (.ret (.bool (items.size != items2.size)))) _
    rw [hs1, hs2]
    simpa using hR
  | succ k ih =>
    intro i hk hi s h
    obtain ⟨items, items2, n, n2, hl1, hb1, hs1, hs2, turn⟩ := hl _ _ h
    have hlt : i < items.size := by omega
    have hlt2 : i < items2.size := by omega
    have ht := turn hlt hlt2
    obtain ⟨hp, g, d, tk, os⟩ := s
    wp_walk using wpAny_loadPart' hl1, wpAny_loadPart' hb1
    have hi1 : items[((i : Nat) : Int).toNat]? = some items[i] := by simp [hlt]
    have hi2 : items2[((i : Nat) : Int).toNat]? = some items2[i] := by simp [hlt2]
    have hc : ((i : Int) + 1) = ((i + 1 : Nat) : Int) := by omega
    rw [hi1, hi2]
    refine wpAny_bind (wpAny_mono ht (fun r s2 h2 => ?_) fun _ _ x => x)
    obtain ⟨hr, h2⟩ := h2
    subst hr
    have hrec := ih (i + 1) (by omega) (by omega) s2 h2
    obtain ⟨hp2, g2, d2, tk2, os2⟩ := s2
    wp_walk
    rw [hc]
    exact ⟨plainId_quiet plain_eq_loop _, codeAny_builtin entry_eq_loop (by
      rw [Around.under_plainId plain_eq_loop _]
      exact hrec)⟩
theorem list_neG (l b : Addr) (N : Nat) (I : Nat → Shared → Prop) (hl : ListI prog w A (fun e s' => R (.error e) s') l b N I)
    (fin : ∀ s, I N s → R (.ok (.ret (.bool false))) s) {s : Shared} (h : I 0 s) :
    wpAny (model prog w) A.in1 (Builtin.«list.__ne__» ⟨[.ref l, .ref b], []⟩) (FinOf prog w A R) (fun e s' => R (.error e) s') s := by
  obtain ⟨items, items2, n, n2, hl1, hb1, hs1, hs2, _⟩ := hl _ _ h
  have hrec := ne_loopG (A := A) (R := R) l b N I hl fin _ 0 rfl (Nat.zero_le _) s h
  obtain ⟨hp, g, d, tk, os⟩ := s
  have f3 := AutoSeq1.sub_list_list
  have hne : ¬ (items.size != items2.size) = true := by simp [hs1, hs2]
  wp_walk using wpAny_loadPart' hl1, wpAny_loadPart' hb1
  exact ⟨plainId_quiet plain_eq_loop _, codeAny_builtin entry_eq_loop (by
    rw [Around.under_plainId plain_eq_loop _]
    exact hrec)⟩
theorem rc_listNe {l b : Addr} {N : Nat} {Q : Value → Shared → Prop} (hu : A.units < cLine) (I : Nat → Shared → Prop) (hl : ListI prog w A E l b N I)
    (fin : ∀ s, I N s → Q (.bool false) s) (h : I 0 s) : wpAny (model prog w) A (richCompare .NotEq (.ref l) (.ref b)) Q E s := by
  obtain ⟨items, items2, n, n2, hl1, hb1, _, _, _⟩ := hl _ _ h
  refine wpAny_richCompare_same_room (op := .NotEq) ⟨_, hl1, rfl⟩ ⟨_, hb1, rfl⟩ F.slot_list_ne (call_here F.slot_list_ne ⟨_, hl1, rfl⟩ F.entry_list_ne (F.args_list_ne_2 _ _) ?_) hu
  exact list_neG (R := wants (fun v s' => v ≠ .notImplemented ∧ Q v s') E) l b N I hl (fun s' q => ⟨(fun x => nomatch x), fin s' q⟩) h
/-- x in a list whose i-th item is equal -/
theorem contains_loopG (l : Addr) (items : Array Value) (x : Value) (n i : Nat) (hi : i < items.size) {s : Shared} (hl : s.heap.get? l = some { cls := .type "list", data := .seq items n })
    (h : wpAny (model prog w) A.in1 (eqBool items[i] x) (fun r s' => r = true ∧ R (.ok (.ret (.bool true))) s') (fun e s' => R (.error e) s') s) :
    wpAny (model prog w) A.in1 (Builtin.«list.__contains__.loop» ⟨[.ref l, x, rawInt i], []⟩) (FinOf prog w A R) (fun e s' => R (.error e) s') s := by
  obtain ⟨hp, g, d, tk, os⟩ := s
  wp_walk using wpAny_loadPart' hl
  have hi' : items[((i : Nat) : Int).toNat]? = some items[i] := by simp [hi]
  rw [hi']
  refine wpAny_bind (wpAny_mono h (fun r s2 h2 => ?_) fun _ _ x => x)
  obtain ⟨hr, h2⟩ := h2
  subst hr
  obtain ⟨hp2, g2, d2, tk2, os2⟩ := s2
  wp_walk
  exact h2
/-- .. whose first item is equal -/
theorem contains_oneG (l : Addr) (items : Array Value) (x : Value) (n : Nat) (hi : 0 < items.size) {s : Shared} (hl : s.heap.get? l = some { cls := .type "list", data := .seq items n })
    (h : wpAny (model prog w) A.in1 (eqBool items[0] x) (fun r s' => r = true ∧ R (.ok (.ret (.bool true))) s') (fun e s' => R (.error e) s') s) :
    wpAny (model prog w) A.in1 (Builtin.«list.__contains__» ⟨[.ref l, x], []⟩) (FinOf prog w A R) (fun e s' => R (.error e) s') s := by
  have hrec := contains_loopG (A := A) (R := R) l items x n 0 hi hl h
  obtain ⟨hp, g, d, tk, os⟩ := s
  wp_walk using wpAny_loadPart' hl
  exact ⟨plainId_quiet plain_contains_loop _, codeAny_builtin entry_contains_loop (by
    rw [Around.under_plainId plain_contains_loop _]
    exact hrec)⟩
theorem notIn_oneG {l : Addr} {items : Array Value} {x : Value} {n : Nat} {Q : Value → Shared → Prop} (hi : 0 < items.size) (hl : s.heap.get? l = some { cls := .type "list", data := .seq items n })
    (h : wpAny (model prog w) A.in1 (eqBool items[0] x) (fun r s' => r = true ∧ Q (.bool false) s') E s) : wpAny (model prog w) A (compareOp .NotIn x (.ref l)) Q E s := by
  show wpAny _ A (do return .bool (!(← contains (.ref l) x))) Q E s
  refine wpAny_bind (wpAny_contains_slot ⟨_, hl, rfl⟩ F.slot_list_contains (wpAny_mono (call_here (Q := fun v s' => v = .bool true ∧ Q (.bool false) s') F.slot_list_contains ⟨_, hl, rfl⟩ F.entry_list_contains (F.args_list_contains_2 _ _)
    (contains_oneG (R := wants (fun v s' => v = .bool true ∧ Q (.bool false) s') E) l items x n hi hl (wpAny_mono h (fun r s' q => ⟨q.1, rfl, q.2⟩) fun _ _ x => x))) (fun v s' hv => ?_) fun _ _ e => e))
  obtain ⟨rfl, hq⟩ := hv
  exact wpAny_truthy_bool (wpAny_pure hq)
/-- y == b, y of a built-in type that declines, b an instance with its own == -/
theorem rc_refl {K : PySem.W.Frag} {h₀ : Heap} {L : Addr} {m : Str → Option Value} {y : Value} {T id : String} {b C f : Addr} {ox : Obj} {od : Option Obj} {Q : Value → Shared → Prop} (hu : A.units < cLine) (F : Fr h₀ L s.heap m) (X₀ : K.In h₀)
    (hy : s.TypeIs y T) (J : PySem.W.InstAt s.heap b ox C od) (e : PySem.W.subIn K (.ref C) (.type T) = some false) (h1 : Slot T (cmpInfo .Eq).2.1 id)
    (hc : ∀ Q' : Value → Shared → Prop, Q' .notImplemented s → wpAny (model prog w) A (call (.builtin id) [y, .ref b]) Q' E s)
    (hs : PySem.W.findIn K (.ref C) (cmpInfo .Eq).2.2 = some (some (.ref f))) (hf : PySem.W.isFn K (.ref f) = true)
    (h : wpAny (model prog w) A (call (.ref f) [.ref b, y]) (PySem.W.CmpBack Q) E s) : wpAny (model prog w) A (richCompare .Eq y (.ref b)) Q E s := by
  have X := X₀.keeps F.keep
  have one : wpAny (model prog w) A (tryCompare (.ref b) (cmpInfo .Eq).2.2 y) (fun r s' => ∃ v, r = some v ∧ Q v s') E s := by
    unfold tryCompare
    refine wpAny_bind (PySem.W.ifBound_K X J hs hf (wpAny_mono h (fun v s' hv => ?_) fun _ _ e => e))
    cases v <;> first | exact hv.elim | exact wpAny_pure ⟨_, rfl, hv⟩
  rcases hi : cmpInfo CmpOp.Eq with ⟨sym, fn, r⟩
  rw [hi] at h1 one
  simp only [richCompare, hi, hy.oneThing_none]
  try with_reducible refine wpAny_holding ?_
  refine wpAny_bind (wpAny_cRoomFor_or (.inr hu) ?_)
  refine wpAny_bind (wpAny_typeOf hy (wpAny_bind (J.type.here ?_)))
  have hne : (Value.type T != Value.ref C) = true := by simp
  simp only [hne, if_true]
  refine wpAny_bind ((PySem.W.looks_subIn X e).here ?_)
  simp only [Bool.false_eq_true, if_false, Bool.not_false, if_true]
  refine wpAny_bind (m := tryCompare y _ (.ref b)) (wpAny_tryCompare_declines hy h1 (hc _ ⟨rfl, ?_⟩))
  refine wpAny_bind (m := tryCompare (.ref b) _ y) (wpAny_mono one (fun r s' z => ?_) fun _ _ e => e)
  obtain ⟨v, rfl, hq⟩ := z
  exact wpAny_pure hq
end
end GL
set_option maxRecDepth 100000
set_option maxHeartbeats 1000000
namespace GL
open PySem PySem.Spec PyProof.Rows L2
/-- what of the types of other values the class at C must have -/
structure Alien (K : PySem.W.Frag) (C : Addr) (T : String) : Prop where
  nf : PySem.W.notFirst K C (.type T) = true
  ki : PySem.W.kitOne K (.type T) (.ref C) = some false
  su : PySem.W.subIn K (.ref C) (.type T) = some false
section
variable {X : Cx}
variable {CX : CXT} {n : Nat} {g C : Addr} {sp : Sp} {E : XK} {m : Str}
/-- x op y by x's own def, y any value whose type is known -/
def rOwnV (K : PySem.W.Frag) (C : Addr) (sp : Sp) (E : XK) : R2 := fun x y H Q => ∃ a dx fs t, x = .ref a ∧ H a = some (.ins C dx fs) ∧ TyX K H y t ∧ PySem.W.notFirst K C t = true ∧ sp [x, y] H Q E
theorem op_ownV {op : CmpOp} (hop : ∀ a b, compareOp op a b = richCompare op a b) (hm : Meth X.K C (cmpInfo op).2.1 g)
    (F : FnR X.prog X.w X.K X.mg X.base CX n g sp) (hr : Room n X.A) (hx : Passes CX X E) : OpR X (compareOp op) (rOwnV X.K C sp E) := by
  intro pins s σ H x y v u Q I rx ry h
  obtain ⟨a, dx, fs, t, rfl, ha, ty, hnf, q⟩ := h
  cases (show v = Value.ref a from rx)
  obtain ⟨ox, od, J⟩ := inst_of I ha
  obtain ⟨Pr, Z, p, _⟩ := kit_of I ry ty
  obtain ⟨mm, hF⟩ := I.fr
  rw [hop]
  refine PySem.W.cmp_K (op := op) (tb := t) hr.units0 hF I.ok.mod.kin J (Z.ty _ _ I.kIn p) hnf hm.at_ hm.fn ?_
  refine wpAny_mono (wpAny_call (run_fnR (us := [.ref a, u]) (vs := [.ref a, y]) F hr hx I (.cons rfl (.cons ry .nil)) q)) (fun w' s' z => ?_) (fun _ _ z => z)
  obtain ⟨z', H', I', rz, qz⟩ := z
  exact back_ok rz ⟨z', H', I', rz, qz⟩
/-- the kinds of values on the left of == that know no instance -/
inductive Kd (K : PySem.W.Frag) (H : Hp) : V → String → Prop where
  | int (i : Int) : Kd K H (.int i) "int"
  | bl (b : Bool) : Kd K H (.bl b) "bool"
  | str (z : Str) : Kd K H (.str z) "str"
  | non : Kd K H .non "NoneType"
  | lst {a : Addr} {xs : List V} (e : H a = some (.lst xs)) : Kd K H (.ref a) "list"
  | tup {a : Addr} {xs : List V} (e : H a = some (.tup xs)) : Kd K H (.ref a) "tuple"
  | dK {a : Addr} {kvs : List (Key × V)} (e : H a = some (.dK kvs)) : Kd K H (.ref a) "dict"
theorem Kd.ty {K : PySem.W.Frag} {H : Hp} {x : V} {T : String} (k : Kd K H x T) : TyX K H x (.type T) := by
  cases k with
  | int i => exact .base (.int i)
  | bl b => exact .base (.bl b)
  | str z => exact .base (.str z)
  | non => exact .base .non
  | lst e => exact .base (.lst e)
  | tup e => exact .base (.tup e)
  | dK e => exact .base (.dK e)
def rRefl (K : PySem.W.Frag) (C : Addr) (sp : Sp) (E : XK) : R2 := fun x y H Q => ∃ b dx fs T, y = .ref b ∧ H b = some (.ins C dx fs) ∧ Kd K H x T ∧ PySem.W.subIn K (.ref C) (.type T) = some false ∧ sp [y, x] H Q E
theorem ins_obj {pins : List (Addr × Obj)} {σ : L2.St} {H : Hp} {s : Shared} {a C dx : Addr} {fs : List (Str × V)} (I : Inv X pins σ H s) (ha : H a = some (.ins C dx fs)) : s.heap.get? a = some (PySem.W.instObj C dx) := by
  obtain ⟨mA, O, _⟩ := ins_get I.hok ha
  exact O.obj
theorem op_refl (hm : Meth X.K C "__eq__" g) (F : FnR X.prog X.w X.K X.mg X.base CX n g sp) (hr : Room n X.A) (hx : Passes CX X E) : OpR X (compareOp .Eq) (rRefl X.K C sp E) := by
  intro pins s σ H x y v u Q I rx ry h
  obtain ⟨b, dx, fs, T, rfl, hb, kd, su, q⟩ := h
  cases (show u = Value.ref b from ry)
  obtain ⟨ox, od, J⟩ := inst_of I hb
  have ho := ins_obj I hb
  obtain ⟨mm, hF⟩ := I.fr
  have fin : wpAny (model X.prog X.w) X.A (call (.ref g) [.ref b, v]) (PySem.W.CmpBack (EP X pins σ Q)) X.xe s := by
    refine wpAny_mono (wpAny_call (run_fnR (us := [.ref b, v]) (vs := [.ref b, x]) F hr hx I (.cons rfl (.cons rx .nil)) q)) (fun w' s' z => ?_) (fun _ _ z => z)
    obtain ⟨z', H', I', rz, qz⟩ := z
    exact back_ok rz ⟨z', H', I', rz, qz⟩
  show wpAny _ _ (richCompare .Eq v (.ref b)) _ _ _
  cases kd with
  | int i =>
    obtain ⟨t, rfl⟩ := (show ∃ t, v = Value.int i t from rx)
    exact rc_refl hr.units0 hF I.ok.mod.kin (typeIs_int s i t) J su PySem.F.slot_int_eq (fun Q' q' => call_meets PySem.F.slot_int_eq (typeIs_int s i t) PySem.F.entry_int_eq (PySem.F.args_int_eq_2 _ _) (int_no i t b C dx) ⟨ho, q'⟩) hm.at_ hm.fn fin
  | bl y =>
    cases (show v = Value.bool y from rx)
    exact rc_refl hr.units0 hF I.ok.mod.kin rfl J su PySem.F.slot_bool_eq (fun Q' q' => call_meets PySem.F.slot_bool_eq rfl PySem.F.entry_int_eq (PySem.F.args_int_eq_2 _ _) (bool_no y b C dx) ⟨ho, q'⟩) hm.at_ hm.fn fin
  | str z =>
    obtain ⟨t, rfl⟩ := (show ∃ t, v = Value.str z t from rx)
    exact rc_refl hr.units0 hF I.ok.mod.kin (typeIs_str s z t) J su PySem.F.slot_str_eq (fun Q' q' => call_meets PySem.F.slot_str_eq (typeIs_str s z t) PySem.F.entry_str_eq (PySem.F.args_str_eq_2 _ _) (str_no z t b C dx) ⟨ho, q'⟩) hm.at_ hm.fn fin
  | non =>
    cases (show v = Value.none from rx)
    exact rc_refl hr.units0 hF I.ok.mod.kin rfl J su PySem.F.slot_NoneType_eq (fun Q' q' => call_gives PySem.F.slot_NoneType_eq rfl PySem.F.entry_NoneType_eq (PySem.F.args_NoneType_eq_2 _ _) (SeqAt.NoneType___eq___none_ref_0 b) q') hm.at_ hm.fn fin
  | @lst a xs e =>
    cases (show v = Value.ref a from rx)
    obtain ⟨_, its, k, _, h1⟩ := (show ObjOk X.prog X.w H s.heap a (.lst xs) from I.hok a _ e)
    exact rc_refl hr.units0 hF I.ok.mod.kin ⟨_, h1, rfl⟩ J su PySem.F.slot_list_eq (fun Q' q' => call_meets PySem.F.slot_list_eq ⟨_, h1, rfl⟩ PySem.F.entry_list_eq (PySem.F.args_list_eq_2 _ _) (list_no a b C ox od _ _ su) ⟨I.kIn, J, h1, q'⟩) hm.at_ hm.fn fin
  | @tup a xs e =>
    cases (show v = Value.ref a from rx)
    obtain ⟨_, its, _, o, h1, h2, _⟩ := (show ObjOk X.prog X.w H s.heap a (.tup xs) from I.hok a _ e)
    exact rc_refl hr.units0 hF I.ok.mod.kin ⟨o, h1, h2⟩ J su PySem.F.slot_tuple_eq (fun Q' q' => call_meets PySem.F.slot_tuple_eq ⟨o, h1, h2⟩ PySem.F.entry_tuple_eq (PySem.F.args_tuple_eq_2 _ _) (tuple_no a b C ox od su) ⟨I.kIn, J, q'⟩) hm.at_ hm.fn fin
  | @dK a kvs e =>
    cases (show v = Value.ref a from rx)
    obtain ⟨_, _, vs, _, o, es, ep, h1, h2, _⟩ := (show ObjOk X.prog X.w H s.heap a (.dK kvs) from I.hok a _ e)
    exact rc_refl hr.units0 hF I.ok.mod.kin ⟨o, h1, h2.1⟩ J su PySem.F.slot_dict_eq (fun Q' q' => call_meets PySem.F.slot_dict_eq ⟨o, h1, h2.1⟩ PySem.F.entry_dict_eq (PySem.F.args_dict_eq_2 _ _) (dict_no a b C ox od o su) ⟨I.kIn, J, h1, q'⟩) hm.at_ hm.fn fin
/-- x not in [z], z and x equal as D says -/
def rNotIn1 (D : Eqv) : R2 := fun x y H Q => ∃ l z, y = .ref l ∧ H l = some (.lst [z]) ∧ D z x H ∧ ∀ H', Ext H H' → Q (.bl false) H'
theorem op_notIn1 {D : Eqv} (h : EqG X n D) (hr : Room (n + 1) X.A) : OpR X (compareOp .NotIn) (rNotIn1 D) := by
  intro pins s σ H x y v u Q I rx ry hq
  obtain ⟨l, z, rfl, hl, d, q⟩ := hq
  cases (show u = Value.ref l from ry)
  obtain ⟨_, its, k, r, h1⟩ := (show ObjOk X.prog X.w H s.heap l (.lst [z]) from I.hok l _ hl)
  obtain ⟨zv, rfl, rz⟩ := r.one
  refine notIn_oneG (items := #[zv]) (show 0 < 1 by decide) h1 ?_
  refine wpAny_mono (h X.A.in1 pins s σ H z x zv v (Sub.in1 ⟨hr, rfl⟩) I rz rx d) (fun r s' q2 => ?_) fun _ _ x => x
  obtain ⟨hr', H', I', e⟩ := q2
  exact ⟨hr', .bl false, H', I', rfl, q H' e⟩
/-- xs != ys, the items equal as D says -/
def rNeG (D : Eqv) : R2 := fun x y H Q => DList D x y H ∧ ∀ H', Ext H H' → Q (.bl false) H'
theorem op_neG {D : Eqv} (hD : Mon D) (h : EqG X n D) (hr : Room (n + 1) X.A) : OpR X (compareOp .NotEq) (rNeG D) := by
  intro pins s σ H x y v u Q I rx ry hq
  obtain ⟨⟨a, b, xs, ys, rfl, rfl, ha, hb, p⟩, q⟩ := hq
  cases (show v = Value.ref a from rx)
  cases (show u = Value.ref b from ry)
  have sb : Sub X (n + 1) X.A := ⟨hr, rfl⟩
  show wpAny _ _ (richCompare .NotEq (.ref a) (.ref b)) _ _ _
  refine rc_listNe (N := xs.length) hr.units0 (fun _ s' => LoopI X pins σ H s') (fun i s' q => ?_) (fun s' q' => ?_) ⟨H, I, Ext.rfl'⟩
  · obtain ⟨H1, I1, e1⟩ := id q
    obtain ⟨z, its, k, r, e⟩ := I1.hok a _ (e1 _ _ ha)
    obtain ⟨z2, its2, k2, r2, e2⟩ := I1.hok b _ (e1 _ _ hb)
    refine ⟨its.toArray, its2.toArray, k, k2, e, e2, by rw [List.size_toArray, ← r.length], by rw [List.size_toArray, ← r2.length, ← p.1], fun h1 h2 => ?_⟩
    exact turnG hD h sb p r r2 i h1 h2 s' q
  · obtain ⟨H', I', e⟩ := q'
    exact ⟨.bl false, H', I', rfl, q H' e⟩
end
end GL
set_option maxRecDepth 100000
set_option maxHeartbeats 4000000
namespace RT
open PySem PySem.Spec PyProof.Rows L2 GL MX
/-! ### the text -/
def top (i : Nat) : Stmt := PySem.Challenge.pw_foldparts_k03_equal_ratios.main.body.getD i (.Pass ⟨0, 0, 0, 0⟩)
abbrev sInit : Stmt := inClass (top 8) 0
abbrev sAdd : Stmt := inClass (top 8) 2
abbrev sSub : Stmt := inClass (top 8) 3
abbrev sMul : Stmt := inClass (top 8) 4
abbrev sNeg : Stmt := inClass (top 8) 5
abbrev sEq : Stmt := inClass (top 8) 6
abbrev sNe : Stmt := inClass (top 8) 7
abbrev sStr : Stmt := inClass (top 8) 8
abbrev sDig : Stmt := top 9
/-! ### an instance's fields -/
abbrev Rf (t b : Int) : List (Str × V) := putF "bottom" (.int b) (putF "top" (.int t) [])
theorem nbt : ¬ (("top" : Str) = "bottom") := by decide +kernel
theorem Rf_top (t b : Int) : (Rf t b).lookup ("top" : Str) = some (.int t) := by
  rw [lookup_putF, if_neg nbt, lookup_putF, if_pos rfl]
theorem Rf_bot (t b : Int) : (Rf t b).lookup ("bottom" : Str) = some (.int b) := by
  rw [lookup_putF, if_pos rfl]
theorem Rf_no (t b : Int) {m : Str} (h1 : ¬ m = "top") (h2 : ¬ m = "bottom") : (Rf t b).lookup m = none := by
  rw [lookup_putF, if_neg h2, lookup_putF, if_neg h1] <;> rfl
/-- at x stands a ratio with these fields -/
def Rat (C : Addr) (H : Hp) (x : Addr) (t b : Int) : Prop := ∃ dx, H x = some (.ins C dx (Rf t b))
theorem Rat.same {C : Addr} {H H' : Hp} {x : Addr} {t b : Int} (r : Rat C H x t b) (e : Same H H') : Rat C H' x t b := let ⟨dx, h⟩ := r; ⟨dx, e _ _ h⟩
theorem same_upd {H : Hp} {p : Addr} {o : HO} (h : H p = none) : Same H (upd H p o) := fun b u e => by
  rw [upd_ne (ne_of_none e h)]
  exact e
def Bk : Int := ((10 ^ 600 : Nat) : Int)
/-- what the written part says -/
structure Txt (K : PySem.W.Frag) (mg : Str → Option Value) (C : Addr) : Prop where
  cl : Cls K C
  nT : NoAttr K C "top"
  nB : NoAttr K C "bottom"
  mgC : mg "Ratio" = some (.ref C)
  gcd : mg "gcd" = some (.builtin "math.gcd")
  blk : ∃ t, mg "_BLOCK" = some (.int Bk t)
  len : mg "len" = none
  abs : mg "abs" = none
  max : mg "max" = none
  min : mg "min" = none
  isi : mg "isinstance" = none
  str : mg "str" = none
  repr : mg "repr" = none
  range : mg "range" = none
  sf : PySem.W.selfFirst K C = true
  nf : PySem.W.notFirst K C (.ref C) = true
  ins : C8.InsC K C
/-! ### promises -/
def spInit (C : Addr) : Sp := fun vs H Q _ => ∃ (p dx : Addr) (a b : Int), vs = [.ref p, .int a, .int b] ∧ b ≠ 0 ∧ Bd 8000 b ∧ H p = some (.ins C dx []) ∧
  Q .non (upd H p (.ins C dx (Rf (nt a b) (nb a b))))
def spDig : Sp := fun vs H Q _ => ∃ n : Int, vs = [.int n] ∧ Bd 1900 n ∧ ∀ H', Same H H' → Q (.str (tx n)) H'
def spStr (C : Addr) : Sp := fun vs H Q _ => ∃ (x : Addr) (t b : Int), vs = [.ref x] ∧ Rat C H x t b ∧ Bd 1900 t ∧ Bd 1900 b ∧ ∀ H', Same H H' → Q (.str (rt t b)) H'
section
variable {P : Program} {w : World} {K : PySem.W.Frag} {mg : Str → Option Value} {base : Heap} {C f : Addr} {fd : FuncData}
abbrev FnP (K : PySem.W.Frag) (x q : Str) (st : Stmt) (f : Addr) (fd : FuncData) : Prop := FunD K x q (defArgs st) (defBody st) (defScope st) [] [] f fd
theorem scI : FnScope ["self", "top", "bottom", "common"] ["self", "top", "bottom"] (defScope sInit) := ⟨rfl, rfl, rfl, by decide +kernel, rfl, by decide +kernel, by decide +kernel⟩
theorem ok_init (F : FnP K "__init__" "Ratio.__init__" sInit f fd) (T : Txt K mg C) : FnOk P w K mg base CX0 1 f fd ["self", "top", "bottom"] (spInit C) := by
  refine F.ok scI (fun vs H Q E h => ?_) (fun cdv A outer s H vs Q E hr h => ?_)
  · obtain ⟨p, dx, a, b, rfl, _⟩ := h
    rfl
  · obtain ⟨p, dx, a, b, rfl, hb, hz, hp, k⟩ := h
    refine ⟨_, pss_cons (ps_if (pt_cmpR op_eq (pv 2) pe_int (nomark _)) (pss_one ps_never) pss_nil)
      (pss_cons (ps_set (i := 3) scI.nd rfl (Or.inl rfl) (pe_callBfun cr_gcd rfl T.gcd (pa_cons (pv 1) (pa_cons (pv 2) pa_nil))))
      (pss_cons (ps_if (pt_cmpR op_lt (pv 2) pe_int (nomark _)) (pss_one (ps_set (i := 3) scI.nd rfl (Or.inl rfl) (pe_un un_neg (pv 3)))) pss_nil)
      (pss_cons (ps_fld (pv 0) (pe_op op_fd (pv 1) (pv 3)) rfl)
      (pss_one (ps_fld (pv 0) (pe_op op_fd (pv 2) (pv 3)) rfl))))), ?_⟩
    have hz2 := (hz.sg (a := a) hb).log (by decide) (show 8000 ≤ 9000 by decide)
    have hn := sg_ne (a := a) hb
    have fin : ∀ σ : L2.St, ∀ v : Option V, True := fun _ _ => trivial
    refine ⟨_, rfl, rfl, _, rfl, ?_⟩
    rw [decide_eq_false (show ¬ V.int b = V.int 0 from fun q => hb (V.int.inj q))]
    refine iteF ?_
    refine ⟨_, rfl, _, rfl, a, b, rfl, ?_⟩
    refine ⟨_, rfl, _, _, rfl, rfl, _, rfl, ?_⟩
    refine ite2 (fun hneg => ?_) (fun hpos => ?_)
    · have hneg := of_decide_eq_true hneg
      have es : sg a b = -((Nat.gcd a.natAbs b.natAbs : Nat) : Int) := by unfold sg; rw [if_pos hneg]
      rw [es] at hn hz2
      refine ⟨_, rfl, _, rfl, ?_⟩
      refine ⟨_, rfl, _, rfl, _, _, rfl, rfl, ⟨hn, hz2⟩, _, rfl, p, C, dx, [], rfl, hp, T.cl, T.nT, (by show 0 < 1000; decide), ?_⟩
      refine ⟨_, rfl, _, rfl, _, _, rfl, rfl, ⟨hn, hz2⟩, _, rfl, p, C, dx, _, rfl, upd_same, T.cl, T.nB, (by show 1 < 1000; decide), ?_⟩
      rw [upd_upd]
      have e1 : nt a b = a.fdiv (-((Nat.gcd a.natAbs b.natAbs : Nat) : Int)) := by unfold nt; rw [es]
      have e2 : nb a b = b.fdiv (-((Nat.gcd a.natAbs b.natAbs : Nat) : Int)) := by unfold nb; rw [es]
      rw [e1, e2] at k
      exact k
    · have hpos := of_decide_eq_false (Bool.eq_false_iff.mpr hpos)
      have es : sg a b = ((Nat.gcd a.natAbs b.natAbs : Nat) : Int) := by unfold sg; rw [if_neg hpos]
      rw [es] at hn hz2
      refine ⟨_, rfl, _, rfl, _, _, rfl, rfl, ⟨hn, hz2⟩, _, rfl, p, C, dx, [], rfl, hp, T.cl, T.nT, (by show 0 < 1000; decide), ?_⟩
      refine ⟨_, rfl, _, rfl, _, _, rfl, rfl, ⟨hn, hz2⟩, _, rfl, p, C, dx, _, rfl, upd_same, T.cl, T.nB, (by show 1 < 1000; decide), ?_⟩
      rw [upd_upd]
      have e1 : nt a b = a.fdiv ((Nat.gcd a.natAbs b.natAbs : Nat) : Int) := by unfold nt; rw [es]
      have e2 : nb a b = b.fdiv ((Nat.gcd a.natAbs b.natAbs : Nat) : Int) := by unfold nb; rw [es]
      rw [e1, e2] at k
      exact k
theorem scD : FnScope ["number", "rest", "blocks", "block"] ["number"] (defScope sDig) := ⟨rfl, rfl, rfl, by decide +kernel, rfl, by decide +kernel, by decide +kernel⟩
theorem bk_big {n : Int} (h : Bd 1900 n) : n < Bk := by
  have e : (2 : Nat) ^ 1900 ≤ 10 ^ 600 := by decide +kernel
  unfold Bd at h
  unfold Bk
  have h2 : n.natAbs < 10 ^ 600 := Nat.lt_of_lt_of_le h e
  exact Int.lt_of_le_of_lt Int.le_natAbs (Int.ofNat_lt.mpr h2)
theorem ok_dig (F : FnP K "_digits" "_digits" sDig f fd) (T : Txt K mg C) : FnOk P w K mg base CX0 1 f fd ["number"] spDig := by
  refine F.ok scD (fun vs H Q E h => ?_) (fun cdv A outer s H vs Q E hr h => ?_)
  · obtain ⟨n, rfl, _⟩ := h
    rfl
  · obtain ⟨n, rfl, hz, k⟩ := h
    obtain ⟨tb, hblk⟩ := T.blk
    refine ⟨_, PSs.nox <| pss_cons (ps_set (i := 1) scD.nd rfl (Or.inl rfl) (pe_callB call_abs (by rfl) T.abs (by decide +kernel) (pa_cons (pv 0) pa_nil)))
      (pss_cons (ps_set (i := 2) scD.nd rfl (Or.inl rfl) (pe_lst pa_nil))
      (pss_cons (ps_while PassesOwn.never (pt_cmpR op_ge (pv 1) (pe_glob (v := V.int Bk) rfl hblk ⟨_, rfl⟩) (nomark _)) (pss_cons ps_never (pss_one ps_never)))
      (pss_cons (ps_expr (pe_bm PySem.F.plainAttrs_list PySem.F.slot_list_append PySem.F.type_list_append mt_append (pv 2) (pa_cons (pe_callTy call_str_int (by rfl) T.str (by decide +kernel) (pa_cons (pv 1) pa_nil)) pa_nil)))
      (pss_cons (ps_if (pt_cmpR op_lt (pv 0) pe_int (nomark _)) (pss_one (ps_expr (pe_bm PySem.F.plainAttrs_list PySem.F.slot_list_append PySem.F.type_list_append mt_append (pv 2) (pa_cons pe_str pa_nil)))) pss_nil)
      (pss_one (ps_ret (pe_join pe_str (pe_revL (pv 2))))))))), ?_⟩
    refine ⟨_, rfl, n, rfl, Nat.zero_le _, fun l hl => ?_⟩
    have ha : Bd 1900 (if n < 0 then -n else n) := by
      split
      · exact hz.neg
      · exact hz
    have hL := bk_big ha
    have hlog := ha.log (by decide) (show 1900 ≤ 1920 by decide)
    refine while_by (fun σ H' => σ = [some (.int n), some (.int (if n < 0 then -n else n)), some (.ref l), none] ∧ H' = upd H l (.lst [])) (fun _ _ => 0) ⟨rfl, rfl⟩ ?_ ?_
    · rintro σ H' ⟨rfl, rfl⟩
      refine ⟨_, rfl, _, _, rfl, rfl, _, rfl, ?_⟩
      rw [decide_eq_false (show ¬ Bk ≤ (if n < 0 then -n else n) by omega)]
      refine iteF ?_
      refine ⟨_, rfl, .inl ⟨rfl, _, SqL.of upd_same⟩, _, rfl, _, rfl, hlog, l, _, _, rfl, rfl, upd_same, (by show 0 < sizeLine; decide), ?_⟩
      refine ⟨_, rfl, _, _, rfl, rfl, _, rfl, ?_⟩
      rw [upd_upd]
      refine ite2 (fun hneg => ?_) (fun hpos => ?_)
      · have hneg := of_decide_eq_true hneg
        have ha2 : (if n < 0 then -n else n) = -n := if_pos hneg
        refine ⟨_, rfl, .inl ⟨rfl, _, SqL.of upd_same⟩, l, _, _, rfl, rfl, upd_same, (by show 1 < sizeLine; decide), ?_⟩
        rw [upd_upd]
        refine ⟨⟨_, rfl⟩, _, rfl, l, _, rfl, SqL.of upd_same, fun p hp => ?_⟩
        have hlen := tx_len' (i := -n) (by rw [← ha2]; exact hlog)
        refine ⟨_, p, [Str.ofString "-", tx (-n)], rfl, rfl, .inl (SqL.of ?_), ?_, ?_⟩
        · rw [upd_same, ha2]
          rfl
        · show (Str.ofString "-").length + ((tx (-n)).length + 0) + 2 * 0 ≤ 16777216
          have : (Str.ofString "-").length = 1 := rfl
          omega
        · have e : Txt.join (Str.ofString "") [Str.ofString "-", tx (-n)] = tx n := (join2 _ _).trans (tx_neg hneg)
          have hs : Same H (upd (upd H l (.lst ([] ++ [V.str (tx (if n < 0 then -n else n))] ++ [V.str (Str.ofString "-")]))) p (.lst ([] ++ [V.str (tx (if n < 0 then -n else n))] ++ [V.str (Str.ofString "-")]).reverse)) :=
            (same_upd hl).trans (same_upd hp)
          rw [e]
          exact k _ hs
      · have hpos := of_decide_eq_false (Bool.eq_false_iff.mpr hpos)
        have ha2 : (if n < 0 then -n else n) = n := if_neg hpos
        refine ⟨⟨_, rfl⟩, _, rfl, l, _, rfl, SqL.of upd_same, fun p hp => ?_⟩
        have hlen := tx_len' (i := n) (by rw [← ha2]; exact hlog)
        refine ⟨_, p, [tx n], rfl, rfl, .inl (SqL.of ?_), ?_, ?_⟩
        · rw [upd_same, ha2]
          rfl
        · show (tx n).length + 0 + 1 * 0 ≤ 16777216
          omega
        · have e : Txt.join (Str.ofString "") [tx n] = tx n := join1 _
          have hs : Same H (upd (upd H l (.lst ([] ++ [V.str (tx (if n < 0 then -n else n))]))) p (.lst ([] ++ [V.str (tx (if n < 0 then -n else n))]).reverse)) :=
            (same_upd hl).trans (same_upd hp)
          rw [e]
          exact k _ hs
    · intro σ H' Q Q' hQ hc
      obtain ⟨v, hv, i, j, e1, e2, k2, e3, q⟩ := hc
      exact ⟨v, hv, i, j, e1, e2, k2, e3, hQ _ _ q⟩
/-- Ratio(a, b), a bottom that is not 0 -/
theorem made {H : Hp} {a b : Int} {Q : VK} {E : XK} (hb : b ≠ 0) (hz : Bd 8000 b) (k : ∀ x H', Same H H' → H x = none → Rat C H' x (nt a b) (nb a b) → Q (.ref x) H') :
    ∀ x dx, H x = none → H dx = none → dx ≠ x → spInit C (.ref x :: ([.int a, .int b] ++ [])) (upd (upd H dx (.own x)) x (.ins C dx [])) (fun v H2 => v = .non ∧ Q (.ref x) H2) E := by
  intro x dx hx hd hne
  refine ⟨x, dx, a, b, rfl, hb, hz, upd_same, rfl, ?_⟩
  rw [upd_upd]
  refine k x _ (fun c o e => ?_) hx ⟨dx, upd_same⟩
  rw [upd_ne (ne_of_none e hx), upd_ne (ne_of_none e hd)]
  exact e
theorem made1 {H : Hp} {a b : Int} {R : Hp → Prop} {E : XK} {x dx : Addr} (hx : H x = none) (hd : H dx = none) (hne : dx ≠ x) (hb : b ≠ 0) (hz : Bd 8000 b) (k : ∀ H', Same H H' → Rat C H' x (nt a b) (nb a b) → R H') :
    spInit C (.ref x :: ([.int a, .int b] ++ [])) (upd (upd H dx (.own x)) x (.ins C dx [])) (fun v H2 => v = .non ∧ R H2) E :=
  ⟨x, dx, a, b, rfl, hb, hz, upd_same, rfl, by
    rw [upd_upd]
    refine k _ (fun c o e => ?_) ⟨dx, upd_same⟩
    rw [upd_ne (ne_of_none e hx), upd_ne (ne_of_none e hd)]
    exact e⟩
theorem scS : FnScope ["self"] ["self"] (defScope sStr) := ⟨rfl, rfl, rfl, by decide +kernel, rfl, by decide +kernel, by decide +kernel⟩
theorem ok_str {fD : Addr} {fdD : FuncData} (F : FnP K "__str__" "Ratio.__str__" sStr f fd) (T : Txt K mg C) (gD : mg "_digits" = some (.ref fD)) (FD : FnP K "_digits" "_digits" sDig fD fdD) : FnOk P w K mg base CX0 2 f fd ["self"] (spStr C) := by
  have GD : FnOk P w K mg base CX0 1 fD fdD ["number"] spDig := ok_dig FD T
  have bD : Binds K fdD ["number"] [] := FD.bindsN fun _ _ _ _ _ _ us hl => match us, hl with | [_], _ => rfl
  refine F.ok scS (fun vs H Q E h => ?_) (fun cdv A outer s H vs Q E hr h => ?_)
  · obtain ⟨x, t, b, rfl, _⟩ := h
    rfl
  · obtain ⟨x, t, b, rfl, hx, ht, hb, k⟩ := h
    refine ⟨_, PSs.nox <| pss_cons (ps_if (pt_cmpR op_eq (pe_fld (pv 0) rfl) pe_int (nomark _))
        (pss_one (ps_ret (pe_callTy SkE.call_str_str (by rfl) T.str (by decide +kernel) (pa_cons (pe_call GD hr rfl gD FD.kp bD .nil pass0 (pa_cons (pe_fld (pv 0) rfl) pa_nil)) pa_nil)))) pss_nil)
      (pss_one (ps_ret (pe_joined (.cons (pe_fmt (pe_call GD hr rfl gD FD.kp bD .nil pass0 (pa_cons (pe_fld (pv 0) rfl) pa_nil)))
        (.cons pe_str (.cons (pe_fmt (pe_call GD hr rfl gD FD.kp bD .nil pass0 (pa_cons (pe_fld (pv 0) rfl) pa_nil))) .nil)))))), ?_⟩
    obtain ⟨dx, hX⟩ := id hx
    have lt' := ht.log (by decide) (show 1900 ≤ 1920 by decide)
    have lb' := hb.log (by decide) (show 1900 ≤ 1920 by decide)
    have zt := tx_len' lt'
    have zb := tx_len' lb'
    have zs := sizeLine_eq
    refine ⟨_, rfl, x, C, dx, _, _, rfl, hX, T.cl, T.nB, Rf_bot _ _, rfl, _, rfl, ?_⟩
    refine ite2 (fun h1 => ?_) (fun h1 => ?_)
    · have h1 := V.int.inj (of_decide_eq_true h1)
      refine ⟨_, rfl, x, C, dx, _, _, rfl, hX, T.cl, T.nT, Rf_top _ _, t, rfl, ht, fun H' hs => ?_⟩
      refine ⟨_, rfl, ?_⟩
      have e := k H' hs
      unfold rt at e
      rw [if_pos h1] at e
      exact e
    · have h1 : ¬ b = 1 := fun q => h1 (decide_eq_true (by rw [q]))
      refine ⟨_, rfl, x, C, dx, _, _, rfl, hX, T.cl, T.nT, Rf_top _ _, t, rfl, ht, fun H' hs => .inl ⟨_, rfl, by omega, ?_⟩⟩
      have e0 : Str.empty ++ tx t = tx t := Str.empty_append _
      refine ⟨_, rfl, by rw [e0]; omega, ?_⟩
      have l1 : (tx t ++ Str.ofString "/").length = (tx t).length + 1 := PySem.Str.length_append _ _
      refine ⟨_, rfl, by rw [e0]; show (tx t ++ Str.ofString "/").length ≤ _; omega, ?_⟩
      obtain ⟨dx', hX'⟩ := hx.same hs
      refine ⟨_, rfl, x, C, dx', _, _, rfl, hX', T.cl, T.nB, Rf_bot _ _, b, rfl, hb, fun H2 hs2 => .inl ⟨_, rfl, by omega, ?_⟩⟩
      have l2 : (tx t ++ Str.ofString "/" ++ tx b).length = (tx t).length + 1 + (tx b).length := (PySem.Str.length_append _ _).trans (by rw [l1])
      refine ⟨_, rfl, by rw [e0]; show (tx t ++ Str.ofString "/" ++ tx b).length ≤ _; omega, ?_⟩
      rw [e0]
      have e := k H2 (hs.trans hs2)
      unfold rt at e
      rw [if_neg h1] at e
      exact e
/-- two ratios, and what comes of them -/
def spTwo (C : Addr) (N D : Int → Int → Int → Int → Int) : Sp := fun vs H Q _ => ∃ (x y : Addr) (p q r s : Int), vs = [.ref x, .ref y] ∧ Rat C H x p q ∧ Rat C H y r s ∧ q ≠ 0 ∧ s ≠ 0 ∧ Bd 1000 p ∧ Bd 1000 q ∧ Bd 1000 r ∧ Bd 1000 s ∧
  ∀ z H', Same H H' → H z = none → Rat C H' z (nt (N p q r s) (D p q r s)) (nb (N p q r s) (D p q r s)) → Q (.ref z) H'
abbrev spAdd (C : Addr) : Sp := spTwo C (fun p q r s => p * s + r * q) (fun p q r s => q * s)
abbrev spSub (C : Addr) : Sp := spTwo C (fun p q r s => p * s - r * q) (fun p q r s => q * s)
abbrev spMul (C : Addr) : Sp := spTwo C (fun p q r s => p * r) (fun p q r s => q * s)
def spNeg (C : Addr) : Sp := fun vs H Q _ => ∃ (x : Addr) (p q : Int), vs = [.ref x] ∧ Rat C H x p q ∧ q ≠ 0 ∧ Bd 1000 q ∧
  ∀ z H', Same H H' → H z = none → Rat C H' z (nt (-p) q) (nb (-p) q) → Q (.ref z) H'
def spEq (C : Addr) : Sp := fun vs H Q _ => ∃ (x y : Addr) (p q r s : Int), vs = [.ref x, .ref y] ∧ Rat C H x p q ∧ Rat C H y r s ∧ Q (.bl (decide (p = r) && decide (q = s))) H
def spNe (C : Addr) : Sp := fun vs H Q _ => ∃ (x y : Addr) (p q r s : Int), vs = [.ref x, .ref y] ∧ Rat C H x p q ∧ Rat C H y r s ∧ Q (.bl (!(decide (p = r) && decide (q = s)))) H
theorem big8 {m n : Nat} {i j : Int} (h : Bd 1000 i) (g : Bd 1000 j) : Bd 8000 (i * j) := (h.mul g).le (by decide)
theorem cm {i j : Int} (h : Bd 1000 i) (g : Bd 1000 j) : CMulW i j := h.cmul g (by decide) (by decide) (by decide)
theorem scOp {st : Stmt} (h : FnScope ["self", "other"] ["self", "other"] (defScope st)) : FnScope ["self", "other"] ["self", "other"] (defScope st) := h
theorem scAdd : FnScope ["self", "other"] ["self", "other"] (defScope sAdd) := ⟨rfl, rfl, rfl, by decide +kernel, rfl, by decide +kernel, by decide +kernel⟩
theorem scSub : FnScope ["self", "other"] ["self", "other"] (defScope sSub) := ⟨rfl, rfl, rfl, by decide +kernel, rfl, by decide +kernel, by decide +kernel⟩
theorem scMul : FnScope ["self", "other"] ["self", "other"] (defScope sMul) := ⟨rfl, rfl, rfl, by decide +kernel, rfl, by decide +kernel, by decide +kernel⟩
theorem scNeg : FnScope ["self"] ["self"] (defScope sNeg) := ⟨rfl, rfl, rfl, by decide +kernel, rfl, by decide +kernel, by decide +kernel⟩
theorem scEq : FnScope ["self", "other"] ["self", "other"] (defScope sEq) := ⟨rfl, rfl, rfl, by decide +kernel, rfl, by decide +kernel, by decide +kernel⟩
theorem scNe : FnScope ["self", "other"] ["self", "other"] (defScope sNe) := ⟨rfl, rfl, rfl, by decide +kernel, rfl, by decide +kernel, by decide +kernel⟩
theorem ok_add {fI : Addr} {fdI : FuncData} (F : FnP K "__add__" "Ratio.__add__" sAdd f fd) (T : Txt K mg C) (M : Mk K C fI) (FI : FnP K "__init__" "Ratio.__init__" sInit fI fdI) : FnOk P w K mg base CX0 3 f fd ["self", "other"] (spAdd C) := by
  have GI : FnOk P w K mg base CX0 1 fI fdI ["self", "top", "bottom"] (spInit C) := ok_init FI T
  have bI : Binds K fdI ["self", "top", "bottom"] [] := FI.bindsN fun _ _ _ _ _ _ us hl => match us, hl with | [_, _, _], _ => rfl
  refine F.ok scAdd (fun vs H Q E h => ?_) (fun cdv A outer s H vs Q E hr h => ?_)
  · obtain ⟨x, y, p, q, r, s, rfl, _⟩ := h
    rfl
  · obtain ⟨x, y, p, q, r, s, rfl, hx, hy, hq, hs, bp, bq, br, bs, k⟩ := h
    obtain ⟨dx, hX⟩ := id hx
    obtain ⟨dy, hY⟩ := id hy
    refine ⟨_, PSs.nox <| pss_one (ps_ret (pe_make M GI hr rfl T.mgC bI .nil pass0 (pa_cons
      (pe_op op_add (pe_op op_mulW (pe_fld (pv 0) rfl) (pe_fld (pv 1) rfl)) (pe_op op_mulW (pe_fld (pv 1) rfl) (pe_fld (pv 0) rfl)))
      (pa_cons (pe_op op_mulW (pe_fld (pv 0) rfl) (pe_fld (pv 1) rfl)) pa_nil)))), ?_⟩
    refine ⟨_, rfl, x, C, dx, _, _, rfl, hX, T.cl, T.nT, Rf_top _ _, _, rfl, y, C, dy, _, _, rfl, hY, T.cl, T.nB, Rf_bot _ _, _, _, rfl, rfl, cm bp bs, ?_⟩
    refine ⟨_, rfl, y, C, dy, _, _, rfl, hY, T.cl, T.nT, Rf_top _ _, _, rfl, x, C, dx, _, _, rfl, hX, T.cl, T.nB, Rf_bot _ _, _, _, rfl, rfl, cm br bq, _, _, rfl, rfl, ?_⟩
    refine ⟨_, rfl, x, C, dx, _, _, rfl, hX, T.cl, T.nB, Rf_bot _ _, _, rfl, y, C, dy, _, _, rfl, hY, T.cl, T.nB, Rf_bot _ _, _, _, rfl, rfl, cm bq bs, ?_⟩
    exact made (Int.mul_ne_zero hq hs) (big8 (m := 0) (n := 0) bq bs) k
theorem ok_sub {fI : Addr} {fdI : FuncData} (F : FnP K "__sub__" "Ratio.__sub__" sSub f fd) (T : Txt K mg C) (M : Mk K C fI) (FI : FnP K "__init__" "Ratio.__init__" sInit fI fdI) : FnOk P w K mg base CX0 3 f fd ["self", "other"] (spSub C) := by
  have GI : FnOk P w K mg base CX0 1 fI fdI ["self", "top", "bottom"] (spInit C) := ok_init FI T
  have bI : Binds K fdI ["self", "top", "bottom"] [] := FI.bindsN fun _ _ _ _ _ _ us hl => match us, hl with | [_, _, _], _ => rfl
  refine F.ok scSub (fun vs H Q E h => ?_) (fun cdv A outer s H vs Q E hr h => ?_)
  · obtain ⟨x, y, p, q, r, s, rfl, _⟩ := h
    rfl
  · obtain ⟨x, y, p, q, r, s, rfl, hx, hy, hq, hs, bp, bq, br, bs, k⟩ := h
    obtain ⟨dx, hX⟩ := id hx
    obtain ⟨dy, hY⟩ := id hy
    refine ⟨_, PSs.nox <| pss_one (ps_ret (pe_make M GI hr rfl T.mgC bI .nil pass0 (pa_cons
      (pe_op op_sub (pe_op op_mulW (pe_fld (pv 0) rfl) (pe_fld (pv 1) rfl)) (pe_op op_mulW (pe_fld (pv 1) rfl) (pe_fld (pv 0) rfl)))
      (pa_cons (pe_op op_mulW (pe_fld (pv 0) rfl) (pe_fld (pv 1) rfl)) pa_nil)))), ?_⟩
    refine ⟨_, rfl, x, C, dx, _, _, rfl, hX, T.cl, T.nT, Rf_top _ _, _, rfl, y, C, dy, _, _, rfl, hY, T.cl, T.nB, Rf_bot _ _, _, _, rfl, rfl, cm bp bs, ?_⟩
    refine ⟨_, rfl, y, C, dy, _, _, rfl, hY, T.cl, T.nT, Rf_top _ _, _, rfl, x, C, dx, _, _, rfl, hX, T.cl, T.nB, Rf_bot _ _, _, _, rfl, rfl, cm br bq, _, _, rfl, rfl, ?_⟩
    refine ⟨_, rfl, x, C, dx, _, _, rfl, hX, T.cl, T.nB, Rf_bot _ _, _, rfl, y, C, dy, _, _, rfl, hY, T.cl, T.nB, Rf_bot _ _, _, _, rfl, rfl, cm bq bs, ?_⟩
    exact made (Int.mul_ne_zero hq hs) (big8 (m := 0) (n := 0) bq bs) k
theorem ok_mul {fI : Addr} {fdI : FuncData} (F : FnP K "__mul__" "Ratio.__mul__" sMul f fd) (T : Txt K mg C) (M : Mk K C fI) (FI : FnP K "__init__" "Ratio.__init__" sInit fI fdI) : FnOk P w K mg base CX0 3 f fd ["self", "other"] (spMul C) := by
  have GI : FnOk P w K mg base CX0 1 fI fdI ["self", "top", "bottom"] (spInit C) := ok_init FI T
  have bI : Binds K fdI ["self", "top", "bottom"] [] := FI.bindsN fun _ _ _ _ _ _ us hl => match us, hl with | [_, _, _], _ => rfl
  refine F.ok scMul (fun vs H Q E h => ?_) (fun cdv A outer s H vs Q E hr h => ?_)
  · obtain ⟨x, y, p, q, r, s, rfl, _⟩ := h
    rfl
  · obtain ⟨x, y, p, q, r, s, rfl, hx, hy, hq, hs, bp, bq, br, bs, k⟩ := h
    obtain ⟨dx, hX⟩ := id hx
    obtain ⟨dy, hY⟩ := id hy
    refine ⟨_, PSs.nox <| pss_one (ps_ret (pe_make M GI hr rfl T.mgC bI .nil pass0 (pa_cons
      (pe_op op_mulW (pe_fld (pv 0) rfl) (pe_fld (pv 1) rfl))
      (pa_cons (pe_op op_mulW (pe_fld (pv 0) rfl) (pe_fld (pv 1) rfl)) pa_nil)))), ?_⟩
    refine ⟨_, rfl, x, C, dx, _, _, rfl, hX, T.cl, T.nT, Rf_top _ _, _, rfl, y, C, dy, _, _, rfl, hY, T.cl, T.nT, Rf_top _ _, _, _, rfl, rfl, cm bp br, ?_⟩
    refine ⟨_, rfl, x, C, dx, _, _, rfl, hX, T.cl, T.nB, Rf_bot _ _, _, rfl, y, C, dy, _, _, rfl, hY, T.cl, T.nB, Rf_bot _ _, _, _, rfl, rfl, cm bq bs, ?_⟩
    exact made (Int.mul_ne_zero hq hs) (big8 (m := 0) (n := 0) bq bs) k
theorem ok_neg {fI : Addr} {fdI : FuncData} (F : FnP K "__neg__" "Ratio.__neg__" sNeg f fd) (T : Txt K mg C) (M : Mk K C fI) (FI : FnP K "__init__" "Ratio.__init__" sInit fI fdI) : FnOk P w K mg base CX0 3 f fd ["self"] (spNeg C) := by
  have GI : FnOk P w K mg base CX0 1 fI fdI ["self", "top", "bottom"] (spInit C) := ok_init FI T
  have bI : Binds K fdI ["self", "top", "bottom"] [] := FI.bindsN fun _ _ _ _ _ _ us hl => match us, hl with | [_, _, _], _ => rfl
  refine F.ok scNeg (fun vs H Q E h => ?_) (fun cdv A outer s H vs Q E hr h => ?_)
  · obtain ⟨x, p, q, rfl, _⟩ := h
    rfl
  · obtain ⟨x, p, q, rfl, hx, hq, bq, k⟩ := h
    obtain ⟨dx, hX⟩ := id hx
    refine ⟨_, PSs.nox <| pss_one (ps_ret (pe_make M GI hr rfl T.mgC bI .nil pass0 (pa_cons (pe_un un_neg (pe_fld (pv 0) rfl)) (pa_cons (pe_fld (pv 0) rfl) pa_nil)))), ?_⟩
    refine ⟨_, rfl, x, C, dx, _, _, rfl, hX, T.cl, T.nT, Rf_top _ _, _, rfl, ?_⟩
    refine ⟨_, rfl, x, C, dx, _, _, rfl, hX, T.cl, T.nB, Rf_bot _ _, ?_⟩
    exact made hq (bq.le (by decide)) k
theorem dec_int (p r : Int) : decide (V.int p = V.int r) = decide (p = r) := by
  by_cases h : p = r
  · rw [h]
    simp
  · rw [decide_eq_false h, decide_eq_false (fun q => h (V.int.inj q))]
theorem ok_eq (F : FnP K "__eq__" "Ratio.__eq__" sEq f fd) (T : Txt K mg C) : FnOk P w K mg base CX0 1 f fd ["self", "other"] (spEq C) := by
  refine F.ok scEq (fun vs H Q E h => ?_) (fun cdv A outer s H vs Q E hr h => ?_)
  · obtain ⟨x, y, p, q, r, s, rfl, _⟩ := h
    rfl
  · obtain ⟨x, y, p, q, r, s, rfl, hx, hy, k⟩ := h
    obtain ⟨dx, hX⟩ := id hx
    obtain ⟨dy, hY⟩ := id hy
    refine ⟨_, PSs.nox <| pss_one (ps_ret (pe_and (pe_callB (C8.call_isC T.ins) (by rfl) T.isi (by decide +kernel) (pa_cons (pv 1) (pa_cons (pe_glob (v := V.ref C) rfl T.mgC rfl) pa_nil)))
      (pe_and (pe_cmpR op_eq (pe_fld (pv 0) rfl) (pe_fld (pv 1) rfl) (nomark _)) (pe_one (pe_cmpR op_eq (pe_fld (pv 0) rfl) (pe_fld (pv 1) rfl) (nomark _)))))), ?_⟩
    refine ⟨_, rfl, y, dy, _, rfl, hY, _, rfl, ?_⟩
    refine iteT ?_
    refine ⟨_, rfl, x, C, dx, _, _, rfl, hX, T.cl, T.nT, Rf_top _ _, _, rfl, y, C, dy, _, _, rfl, hY, T.cl, T.nT, Rf_top _ _, rfl, _, rfl, ?_⟩
    rw [dec_int]
    cases e : decide (p = r) with
    | false =>
      rw [e] at k
      exact iteF k
    | true =>
      rw [e] at k
      refine iteT ?_
      refine ⟨_, rfl, x, C, dx, _, _, rfl, hX, T.cl, T.nB, Rf_bot _ _, _, rfl, y, C, dy, _, _, rfl, hY, T.cl, T.nB, Rf_bot _ _, rfl, ?_⟩
      rw [dec_int]
      exact k
theorem ok_ne {fE : Addr} {fdE : FuncData} (F : FnP K "__ne__" "Ratio.__ne__" sNe f fd) (T : Txt K mg C) (mE : Meth K C "__eq__" fE) (FE : FnP K "__eq__" "Ratio.__eq__" sEq fE fdE) : FnOk P w K mg base CX0 2 f fd ["self", "other"] (spNe C) := by
  have GE : FnOk P w K mg base CX0 1 fE fdE ["self", "other"] (spEq C) := ok_eq FE T
  have bE : Binds K fdE ["self", "other"] [] := FE.bindsN fun _ _ _ _ _ _ us hl => match us, hl with | [_, _], _ => rfl
  refine F.ok scNe (fun vs H Q E h => ?_) (fun cdv A outer s H vs Q E hr h => ?_)
  · obtain ⟨x, y, p, q, r, s, rfl, _⟩ := h
    rfl
  · obtain ⟨x, y, p, q, r, s, rfl, hx, hy, k⟩ := h
    obtain ⟨dx, hX⟩ := id hx
    obtain ⟨dy, hY⟩ := id hy
    refine ⟨_, PSs.nox <| pss_one (ps_ret (pe_not (pe_cmpR (op_ownCmp (op := .Eq) (fun _ _ => rfl) T.nf mE (GE.raw bE .nil) hr pass0) (pv 0) (pv 1) (nomark _)))), ?_⟩
    exact ⟨_, rfl, _, rfl, x, dx, _, y, dy, _, rfl, rfl, hX, hY, x, y, p, q, r, s, rfl, hx, hy, _, rfl, k⟩
end
end RT
set_option maxRecDepth 100000
set_option maxHeartbeats 4000000
namespace RT
open PySem PySem.Spec PyProof.Rows L2 GL MX
abbrev sFeed : Stmt := top 11
abbrev sTake : Stmt := top 12
abbrev sPick : Stmt := top 13
abbrev sInteger : Stmt := top 14
abbrev sPair : Stmt := top 15
abbrev sLowest : Stmt := top 16
abbrev sText : Stmt := top 17
abbrev sIs : Stmt := top 18
/-- the draws' list -/
def Feed (H : Hp) (a : Addr) : Prop := ∃ d s : Int, H a = some (.lst [.int d, .int s])
/-- all but a is as it was -/
def But (a : Addr) (H H' : Hp) : Prop := ∀ b o, b ≠ a → H b = some o → H' b = some o
theorem But.of {a : Addr} {H H' : Hp} (h : Same H H') : But a H H' := fun b o _ e => h b o e
theorem But.trans {a : Addr} {H H1 H2 : Hp} (x : But a H H1) (y : But a H1 H2) : But a H H2 := fun b o n e => y b o n (x b o n e)
theorem But.upd {a : Addr} {H : Hp} {o : HO} : But a H (upd H a o) := fun b u n e => by rw [upd_ne n]; exact e
theorem But.same {a : Addr} {H0 H H' : Hp} (x : But a H H') (s : Same H0 H) (n : H0 a = none) : Same H0 H' := fun b o e => x b o (ne_of_none e n) (s b o e)
def spFeed (K : PySem.W.Frag) : Sp := fun vs H Q _ => ∃ (a : Addr) (ns : List Int) (k : Nat), vs = [.ref a, .int k] ∧ SqL K H a (ns.map V.int) ∧ k < 1000 ∧
  ∀ p H', H p = none → Same H H' → Feed H' p → Q (.ref p) H'
def spTake : Sp := fun vs H Q _ => ∃ (a : Addr) (m : Int), vs = [.ref a, .int m] ∧ Feed H a ∧ 0 < m ∧ m.natAbs < 2 ^ 60 ∧ ∀ (r : Int) H', 0 ≤ r → r < m → But a H H' → Feed H' a → Q (.int r) H'
def spPick : Sp := fun vs H Q _ => ∃ (a l : Addr) (xs : List V), vs = [.ref a, .ref l] ∧ Feed H a ∧ l ≠ a ∧ H l = some (.lst xs) ∧ 0 < xs.length ∧ xs.length < 1000 ∧
  ∀ (v : V) H', v ∈ xs → But a H H' → Feed H' a → Q v H'
def spInteger : Sp := fun vs H Q _ => ∃ a : Addr, vs = [.ref a] ∧ Feed H a ∧ ∀ (n : Int) H', Bd 70 n → But a H H' → Feed H' a → Q (.int n) H'
def spPair : Sp := fun vs H Q _ => ∃ a : Addr, vs = [.ref a] ∧ Feed H a ∧ ∀ (x y : Int) p H', Bd 70 x → Bd 70 y → y ≠ 0 → But a H H' → Feed H' a → H' p = some (.tup [.int x, .int y]) → Q (.ref p) H'
def spLowest : Sp := fun vs H Q _ => ∃ a b : Int, vs = [.int a, .int b] ∧ b ≠ 0 ∧ Bd 8000 a ∧ Bd 8000 b ∧ ∀ p H', Same H H' → H' p = some (.tup [.int (nt a b), .int (nb a b)]) → Q (.ref p) H'
def spText : Sp := fun vs H Q _ => ∃ a b : Int, vs = [.int a, .int b] ∧ b ≠ 0 ∧ Bd 1900 a ∧ Bd 1900 b ∧ ∀ H', Same H H' → Q (.str (rt (nt a b) (nb a b))) H'
section
variable {P : Program} {w : World} {K : PySem.W.Frag} {mg : Str → Option Value} {base : Heap} {C f : Addr} {fd : FuncData}
theorem scFeed : FnScope ["script", "k", "cell", "digits", "state"] ["script", "k"] (defScope sFeed) := ⟨rfl, rfl, rfl, by decide +kernel, rfl, by decide +kernel, by decide +kernel⟩
theorem ok_feed (F : FnP K "_law_feed" "_law_feed" sFeed f fd) (T : Txt K mg C) : FnOk P w K mg base CX0 1 f fd ["script", "k"] (spFeed K) := by
  refine F.ok scFeed (fun vs H Q E h => ?_) (fun cdv A outer s H vs Q E hr h => ?_)
  · obtain ⟨a, ns, k, rfl, _⟩ := h
    rfl
  · obtain ⟨a, ns, k, rfl, hS, hk, q⟩ := h
    refine ⟨_, PSs.nox <| C8.pss_cut (ps_set (i := 2) scFeed.nd rfl (Or.inl rfl) (pe_ifExp (pt_cmpR op_lt (pv 1) (pe_callB call_len_seq (by rfl) T.len PySem.boot_len (pa_cons (pv 0) pa_nil)) (nomark _))
        (pe_ix ix_list (pv 0) (pv 1) (fun _ _ => rfl)) (pe_op op_add (pe_op op_mul pe_int (pv 1)) pe_int)))
      (pss_cons (ps_set (i := 3) scFeed.nd rfl (Or.inl rfl) (pe_callB (call_max2 rfl) (by rfl) T.max (by decide +kernel) (pa_cons pe_int (pa_cons (pe_op op_sub (pe_callB call_abs (by rfl) T.abs (by decide +kernel) (pa_cons (pv 2) pa_nil)) (pe_op op_pow pe_int pe_int)) pa_nil))))
      (pss_cons (ps_set (i := 4) scFeed.nd rfl (Or.inl rfl) (pe_op op_mod (pe_op op_add (pe_op op_add (pe_op op_mul (pv 2) pe_int) (pe_op op_mul pe_int (pv 1))) pe_int) pe_int))
      (pss_one (ps_ret (pe_lst (pa_cons (pv 3) (pa_cons (pv 4) pa_nil))))))), ?_⟩
    refine ⟨fun σ' H' => H' = H ∧ ∃ c : Int, σ' = [some (.ref a), some (.int k), some (.int c), none, none], ?_, ?_⟩
    · refine ⟨_, rfl, _, rfl, a, _, rfl, .inl hS, _, _, rfl, rfl, _, rfl, ?_⟩
      refine ite2 (fun h1 => ?_) (fun h1 => ?_)
      · have h1 := of_decide_eq_true h1
        rw [List.length_map] at h1
        have hk2 : k < ns.length := by omega
        have hi : (ns.map V.int)[k]? = some (V.int ns[k]) := by rw [List.getElem?_map, List.getElem?_eq_getElem hk2] <;> rfl
        exact ⟨_, rfl, _, rfl, a, _, _, _, rfl, rfl, hS, atI_nat hi, rfl, _, rfl⟩
      · exact ⟨_, rfl, _, _, rfl, rfl, (by right; constructor <;> omega), _, _, rfl, rfl, rfl, _, rfl⟩
    · rintro σ' H' ⟨rfl, c, rfl⟩
      refine ⟨_, rfl, _, rfl, ?_⟩
      refine ⟨_, _, rfl, rfl, (by refine ⟨by decide, by decide, by decide⟩), _, _, rfl, rfl, _, _, rfl, ?_⟩
      refine ⟨_, rfl, _, _, rfl, rfl, (by right; decide), ?_⟩
      refine ⟨_, rfl, _, _, rfl, rfl, (by left; decide), _, _, rfl, rfl, _, _, rfl, rfl, _, _, rfl, rfl, (by show (0 : Int) < 2305843009213693951; decide), ?_⟩
      refine ⟨_, rfl, _, rfl, (by show 2 ≤ sizeLine; decide), fun p hp => ?_⟩
      exact q p _ hp (same_upd hp) ⟨_, _, upd_same⟩
theorem scTake : FnScope ["feed", "many", "digit"] ["feed", "many"] (defScope sTake) := ⟨rfl, rfl, rfl, by decide +kernel, rfl, by decide +kernel, by decide +kernel⟩
theorem at0 {x y : V} : atI [x, y] 0 = some x := rfl
theorem at1 {x y : V} : atI [x, y] 1 = some y := rfl
theorem ok_take (F : FnP K "_law_take" "_law_take" sTake f fd) : FnOk P w K mg base CX0 1 f fd ["feed", "many"] spTake := by
  refine F.ok scTake (fun vs H Q E h => ?_) (fun cdv A outer s H vs Q E hr h => ?_)
  · obtain ⟨a, m, rfl, _⟩ := h
    rfl
  · obtain ⟨a, m, rfl, ⟨d, t, hF⟩, hm, hz, q⟩ := h
    have ix : ∀ j : Nat, True := fun _ => trivial
    refine ⟨_, PSs.nox <| pss_cons (ps_if (pt_cmpR op_gt (pe_ix ix_list (pv 0) pe_int (fun _ _ => rfl)) pe_int (nomark _))
        (pss_cons (ps_set (i := 2) scTake.nd rfl (Or.inl rfl) (pe_op op_mod (pe_ix ix_list (pv 0) pe_int (fun _ _ => rfl)) (pv 1)))
        (pss_cons (ps_asg (pe_op op_fdivW (pe_ix ix_list (pv 0) pe_int (fun _ _ => rfl)) (pv 1)) (pg_sub (pv 0) pe_int set_list))
        (pss_one (ps_ret (pv 2))))) pss_nil)
      (pss_cons (ps_asg (pe_op op_mod (pe_op op_add (pe_op op_mul (pe_ix ix_list (pv 0) pe_int (fun _ _ => rfl)) pe_int) pe_int) pe_int) (pg_sub (pv 0) pe_int set_list))
      (pss_one (ps_ret (pe_op op_mod (pe_op op_fdiv (pe_ix ix_list (pv 0) pe_int (fun _ _ => rfl)) pe_int) (pv 1))))), ?_⟩
    refine ⟨_, rfl, a, _, _, _, rfl, rfl, SqL.of hF, at0, _, _, rfl, rfl, _, rfl, ?_⟩
    refine ite2 (fun h1 => ?_) (fun h1 => ?_)
    · refine ⟨_, rfl, a, _, _, _, rfl, rfl, SqL.of hF, at0, _, rfl, _, _, rfl, rfl, hm, ?_⟩
      refine ⟨_, rfl, a, _, _, _, rfl, rfl, SqL.of hF, at0, _, rfl, _, _, rfl, rfl, wide_div hm hz (by decide) (by decide), _, rfl, a, _, _, 0, rfl, rfl, hF, rfl, ?_⟩
      exact ⟨_, rfl, q _ _ (Int.emod_nonneg _ (by omega)) (Int.emod_lt_of_pos _ hm) But.upd ⟨_, _, upd_same⟩⟩
    · refine ⟨_, rfl, a, _, _, _, rfl, rfl, SqL.of hF, at1, _, _, rfl, rfl, (by right; decide), _, _, rfl, rfl, _, _, rfl, rfl, (by show (0 : Int) < 2305843009213693951; decide), _, rfl, a, _, _, 1, rfl, rfl, hF, rfl, ?_⟩
      refine ⟨_, rfl, a, _, _, _, rfl, rfl, SqL.of upd_same, at1, _, _, rfl, rfl, ⟨by decide, by decide⟩, _, rfl, _, _, rfl, rfl, hm, ?_⟩
      exact q _ _ (Int.emod_nonneg _ (by omega)) (Int.emod_lt_of_pos _ hm) But.upd ⟨_, _, upd_same⟩
theorem scPick : FnScope ["feed", "some"] ["feed", "some"] (defScope sPick) := ⟨rfl, rfl, rfl, by decide +kernel, rfl, by decide +kernel, by decide +kernel⟩
theorem ok_pick {fT : Addr} {fdT : FuncData} (F : FnP K "_law_pick" "_law_pick" sPick f fd) (T : Txt K mg C) (gT : mg "_law_take" = some (.ref fT)) (FT : FnP K "_law_take" "_law_take" sTake fT fdT) : FnOk P w K mg base CX0 2 f fd ["feed", "some"] spPick := by
  have GT : FnOk P w K mg base CX0 1 fT fdT ["feed", "many"] spTake := ok_take FT
  have bT : Binds K fdT ["feed", "many"] [] := FT.bindsN fun _ _ _ _ _ _ us hl => match us, hl with | [_, _], _ => rfl
  refine F.ok scPick (fun vs H Q E h => ?_) (fun cdv A outer s H vs Q E hr h => ?_)
  · obtain ⟨a, l, xs, rfl, _⟩ := h
    rfl
  · obtain ⟨a, l, xs, rfl, hF, hne, hL, h0, h9, q⟩ := h
    refine ⟨_, PSs.nox <| pss_one (ps_ret (pe_ix ix_list (pv 1) (pe_call GT hr rfl gT FT.kp bT .nil pass0 (pa_cons (pv 0) (pa_cons (pe_callB call_len_seq (by rfl) T.len PySem.boot_len (pa_cons (pv 1) pa_nil)) pa_nil))) (fun _ _ => rfl))), ?_⟩
    refine ⟨_, rfl, _, rfl, _, rfl, l, xs, rfl, .inl (SqL.of hL), a, xs.length, rfl, hF, by omega, (by show (xs.length : Nat) < 2 ^ 60; omega), fun r H' hr0 hr1 hB hF' => ?_⟩
    obtain ⟨j, rfl⟩ : ∃ j : Nat, r = j := ⟨r.toNat, by omega⟩
    have hj : j < xs.length := by omega
    exact ⟨l, xs, _, xs[j], rfl, rfl, SqL.of (hB l _ hne hL), atI_nat (List.getElem?_eq_getElem hj), q _ _ (List.getElem_mem hj) hB hF'⟩
theorem scInteger : FnScope ["feed", "value"] ["feed"] (defScope sInteger) := ⟨rfl, rfl, rfl, by decide +kernel, rfl, by decide +kernel, by decide +kernel⟩
def eleven (n : Int) : List V := [.int 0, .int 1, .int 2, .int 3, .int 6, .int 12, .int 35, .int 360, .int (10 ^ (9 : Int).toNat), .int (10 ^ (20 : Int).toNat + 39), .int n]
theorem eleven_bd {n : Int} (h0 : 0 ≤ n) (h1 : n < 10 ^ (12 : Int).toNat) {v : V} (h : v ∈ eleven n) : ∃ i : Int, v = .int i ∧ i.natAbs < 2 ^ 69 := by
  have h2 : n < 1000000000000 := h1
  unfold eleven at h
  simp only [List.mem_cons, List.not_mem_nil, or_false] at h
  rcases h with h | h | h | h | h | h | h | h | h | h | h <;> subst h
  all_goals first
    | exact ⟨_, rfl, by decide⟩
    | exact ⟨_, rfl, by omega⟩
theorem signs_bd {v : V} (h : v ∈ ([.int 1, .int 1, .int (-1)] : List V)) : v = .int 1 ∨ v = .int (-1) := by
  simp only [List.mem_cons, List.not_mem_nil, or_false] at h
  rcases h with h | h | h
  · exact .inl h
  · exact .inl h
  · exact .inr h
theorem But.free {a : Addr} {H H' : Hp} {l : Addr} (x : But a H H') (h : H' l = none) (n : l ≠ a) : H l = none := by
  cases q : H l with
  | none => rfl
  | some o =>
    rw [x l o n q] at h
    cases h
theorem ok_integer {fT fP : Addr} {fdT fdP : FuncData} (F : FnP K "_law_integer" "_law_integer" sInteger f fd) (T : Txt K mg C) (gT : mg "_law_take" = some (.ref fT)) (FT : FnP K "_law_take" "_law_take" sTake fT fdT)
    (gP : mg "_law_pick" = some (.ref fP)) (FP : FnP K "_law_pick" "_law_pick" sPick fP fdP) : FnOk P w K mg base CX0 3 f fd ["feed"] spInteger := by
  have GT : FnOk P w K mg base CX0 1 fT fdT ["feed", "many"] spTake := ok_take FT
  have bT : Binds K fdT ["feed", "many"] [] := FT.bindsN fun _ _ _ _ _ _ us hl => match us, hl with | [_, _], _ => rfl
  have GP : FnOk P w K mg base CX0 2 fP fdP ["feed", "some"] spPick := ok_pick FP T gT FT
  have bP : Binds K fdP ["feed", "some"] [] := FP.bindsN fun _ _ _ _ _ _ us hl => match us, hl with | [_, _], _ => rfl
  refine F.ok scInteger (fun vs H Q E h => ?_) (fun cdv A outer s H vs Q E hr h => ?_)
  · obtain ⟨a, rfl, _⟩ := h
    rfl
  · obtain ⟨a, rfl, hF, q⟩ := h
    refine ⟨_, PSs.nox <| pss_cons (ps_set (i := 1) scInteger.nd rfl (Or.inl rfl) (pe_call GP hr rfl gP FP.kp bP .nil pass0 (pa_cons (pv 0) (pa_cons (pe_lst
        (pa_cons pe_int (pa_cons pe_int (pa_cons pe_int (pa_cons pe_int (pa_cons pe_int (pa_cons pe_int (pa_cons pe_int (pa_cons pe_int (pa_cons (pe_op op_pow pe_int pe_int)
          (pa_cons (pe_op op_add (pe_op op_pow pe_int pe_int) pe_int) (pa_cons (pe_call GT (hr.mono (by decide)) rfl gT FT.kp bT .nil pass0 (pa_cons (pv 0) (pa_cons (pe_op op_pow pe_int pe_int) pa_nil))) pa_nil)))))))))))) pa_nil))))
      (pss_one (ps_ret (pe_op op_mul (pe_call GP hr rfl gP FP.kp bP .nil pass0 (pa_cons (pv 0) (pa_cons (pe_lst (pa_cons pe_int (pa_cons pe_int (pa_cons (pe_un un_neg pe_int) pa_nil)))) pa_nil))) (pv 1)))), ?_⟩
    refine ⟨_, rfl, _, _, rfl, rfl, ⟨by decide, by decide, by decide⟩, _, _, rfl, rfl, ⟨by decide, by decide, by decide⟩, _, _, rfl, rfl, _, rfl, _, _, rfl, rfl, ⟨by decide, by decide, by decide⟩, ?_⟩
    refine ⟨a, _, rfl, hF, (by decide), (by decide), fun n H1 h0 h1 hB1 hF1 => ⟨(by show 11 ≤ sizeLine; decide), fun l hl => ?_⟩⟩
    have la : l ≠ a := by
      obtain ⟨d, t, e⟩ := hF1
      exact (ne_of_none e hl).symm
    have hF2 : Feed (upd H1 l (.lst (eleven n))) a := by
      obtain ⟨d, t, e⟩ := hF1
      exact ⟨d, t, by rw [upd_ne la.symm]; exact e⟩
    refine ⟨a, l, eleven n, rfl, hF2, la, upd_same, (by show 0 < 11; decide), (by show 11 < 1000; decide), fun v H2 hv hB2 hF3 => ?_⟩
    obtain ⟨i, rfl, hi⟩ := eleven_bd h0 h1 hv
    refine ⟨_, rfl, _, rfl, (by show 3 ≤ sizeLine; decide), fun l2 hl2 => ?_⟩
    have la2 : l2 ≠ a := by
      obtain ⟨d, t, e⟩ := hF3
      exact (ne_of_none e hl2).symm
    have hF4 : Feed (upd H2 l2 (.lst [.int 1, .int 1, .int (-1)])) a := by
      obtain ⟨d, t, e⟩ := hF3
      exact ⟨d, t, by rw [upd_ne la2.symm]; exact e⟩
    refine ⟨a, l2, [.int 1, .int 1, .int (-1)], rfl, hF4, la2, upd_same, (by show 0 < 3; decide), (by show 3 < 1000; decide), fun v H3 hv hB3 hF5 => ?_⟩
    have hB : But a H H3 := (((hB1.trans (But.of (same_upd hl))).trans hB2).trans (But.of (same_upd hl2))).trans hB3
    rcases signs_bd hv with rfl | rfl
    · refine ⟨_, rfl, _, _, rfl, rfl, (by left; decide), q _ _ ?_ hB hF5⟩
      unfold Bd
      omega
    · refine ⟨_, rfl, _, _, rfl, rfl, (by left; decide), q _ _ ?_ hB hF5⟩
      unfold Bd
      omega
theorem scPair : FnScope ["feed", "top", "bottom"] ["feed"] (defScope sPair) := ⟨rfl, rfl, rfl, by decide +kernel, rfl, by decide +kernel, by decide +kernel⟩
theorem ok_pair {fI : Addr} {fdI : FuncData} (F : FnP K "_law_pair" "_law_pair" sPair f fd) (gI : mg "_law_integer" = some (.ref fI)) (FI : FnP K "_law_integer" "_law_integer" sInteger fI fdI)
    (GI : FnOk P w K mg base CX0 3 fI fdI ["feed"] spInteger) : FnOk P w K mg base CX0 4 f fd ["feed"] spPair := by
  have bI : Binds K fdI ["feed"] [] := FI.bindsN fun _ _ _ _ _ _ us hl => match us, hl with | [_], _ => rfl
  refine F.ok scPair (fun vs H Q E h => ?_) (fun cdv A outer s H vs Q E hr h => ?_)
  · obtain ⟨a, rfl, _⟩ := h
    rfl
  · obtain ⟨a, rfl, hF, q⟩ := h
    refine ⟨_, PSs.nox <| pss_cons (ps_par (i := 1) (j := 2) (by rfl) scPair.nd rfl rfl (by decide) rfl rfl
        (pa_cons (pe_call GI hr rfl gI FI.kp bI .nil pass0 (pa_cons (pv 0) pa_nil)) (pa_cons (pe_call GI hr rfl gI FI.kp bI .nil pass0 (pa_cons (pv 0) pa_nil)) pa_nil)) (by rfl))
      (pss_one (ps_ret (pe_tup (pa_cons (pv 1) (pa_cons (pe_ifExp (pt_cmpR op_ne (pv 2) pe_int (nomark _)) (pv 2) pe_int) pa_nil))))), ?_⟩
    refine ⟨_, rfl, a, rfl, hF, fun x H1 hx hB1 hF1 => ?_⟩
    refine ⟨_, rfl, a, rfl, hF1, fun y H2 hy hB2 hF2 => ?_⟩
    refine ⟨_, _, rfl, ?_⟩
    refine ⟨_, rfl, _, rfl, rfl, _, rfl, ?_⟩
    have fin : ∀ z : Int, Bd 70 z → z ≠ 0 → ([V.int x, V.int z] : List V).length ≤ sizeLine ∧ ∀ p, H2 p = none → Q (.ref p) (upd H2 p (.tup [.int x, .int z])) := fun z hz h0 =>
      ⟨(by show 2 ≤ sizeLine; decide), fun p hp => q x z p _ hx hz h0 ((hB1.trans hB2).trans (But.of (same_upd hp))) (by
        obtain ⟨d, t, e⟩ := hF2
        exact ⟨d, t, by rw [upd_ne (ne_of_none e hp)]; exact e⟩) upd_same⟩
    refine ite2 (fun h1 => ?_) (fun h1 => ?_)
    · have h1 : y ≠ 0 := fun e => by
        rw [e] at h1
        exact absurd h1 (by decide)
      exact ⟨_, rfl, fin y hy h1⟩
    · exact fin 7 (by unfold Bd; decide) (by decide)
theorem scLowest : FnScope ["top", "bottom", "one", "other"] ["top", "bottom"] (defScope sLowest) := ⟨rfl, rfl, rfl, by decide +kernel, rfl, by decide +kernel, by decide +kernel⟩
theorem ok_lowest (F : FnP K "_law_lowest" "_law_lowest" sLowest f fd) (T : Txt K mg C) : FnOk P w K mg base CX0 1 f fd ["top", "bottom"] spLowest := by
  refine F.ok scLowest (fun vs H Q E h => ?_) (fun cdv A outer s H vs Q E hr h => ?_)
  · obtain ⟨a, b, rfl, _⟩ := h
    rfl
  · obtain ⟨a, b, rfl, hb, za, zb, q⟩ := h
    refine ⟨_, PSs.nox <| pss_cons (ps_par (i := 2) (j := 3) (by rfl) scLowest.nd rfl rfl (by decide) rfl rfl
        (pa_cons (pe_callB call_abs (by rfl) T.abs (by decide +kernel) (pa_cons (pv 0) pa_nil)) (pa_cons (pe_callB call_abs (by rfl) T.abs (by decide +kernel) (pa_cons (pv 1) pa_nil)) pa_nil)) (by rfl))
      (pss_cons (ps_while PassesOwn.never (pt_cmpR op_ne (pv 3) pe_int (nomark _)) (pss_one (ps_par (i := 2) (j := 3) (by rfl) scLowest.nd rfl rfl (by decide) rfl rfl
        (pa_cons (pv 3) (pa_cons (pe_op op_sub (pv 2) (pe_op op_mulW (pe_op op_fdivW (pv 2) (pv 3)) (pv 3))) pa_nil)) (by rfl))))
      (pss_cons (ps_if (pt_cmpR op_lt (pv 1) pe_int (nomark _)) (pss_one (ps_set (i := 2) scLowest.nd rfl (Or.inl rfl) (pe_op op_sub pe_int (pv 2)))) pss_nil)
      (pss_one (ps_ret (pe_tup (pa_cons (pe_op op_fd (pv 0) (pv 2)) (pa_cons (pe_op op_fd (pv 1) (pv 2)) pa_nil))))))), ?_⟩
    refine ⟨_, rfl, _, rfl, _, rfl, _, rfl, _, _, rfl, ?_⟩
    refine while_by (fun σ H' => H' = H ∧ ∃ u v : Nat, σ = [some (.int a), some (.int b), some (.int u), some (.int v)] ∧ Nat.gcd u v = Nat.gcd a.natAbs b.natAbs ∧ u < 2 ^ 8000 ∧ v < 2 ^ 8000)
      (fun σ _ => match σ with
        | [_, _, _, some (.int v)] => v.toNat
        | _ => 0) ?_ ?_ ?_
    · refine ⟨rfl, a.natAbs, b.natAbs, ?_, rfl, za, zb⟩
      have e1 : (if a < 0 then -a else a) = (a.natAbs : Int) := by split <;> omega
      have e2 : (if b < 0 then -b else b) = (b.natAbs : Int) := by split <;> omega
      show [some (V.int a), some (V.int b), some (V.int (if a < 0 then -a else a)), some (V.int (if b < 0 then -b else b))] = _
      rw [e1, e2]
    · rintro σ H' ⟨rfl, u, v, rfl, hg, hu, hv⟩
      refine ⟨_, rfl, rfl, _, rfl, ?_⟩
      refine ite2 (fun h1 => ?_) (fun h1 => ?_)
      · have h1 : (v : Int) ≠ 0 := fun e => by
          rw [e] at h1
          exact absurd h1 (by decide)
        have hv0 : 0 < v := by omega
        have hvI : (0 : Int) < v := by omega
        have d1 : ((u : Int) / (v : Int)) = ((u / v : Nat) : Int) := rfl
        have hq : u / v < 2 ^ 8000 := Nat.lt_of_le_of_lt (Nat.div_le_self _ _) hu
        refine ⟨_, rfl, _, rfl, _, rfl, _, rfl, _, _, rfl, rfl, wide_div hvI (show ((v : Nat) : Int).natAbs < 2 ^ 8000 from hv) (by decide) (by decide), _, rfl, _, _, rfl, rfl, ?_, _, _, rfl, rfl, _, _, rfl, ?_⟩
        · exact wide_mul (a := 8000) (b := 8000) (show ((u / v : Nat) : Int).natAbs < 2 ^ 8000 from hq) (show ((v : Nat) : Int).natAbs < 2 ^ 8000 from hv) (by decide) (by decide) (by decide)
        · have e1 : (u : Int) - (u : Int) / (v : Int) * (v : Int) = ((u % v : Nat) : Int) := by
            have := Nat.mod_add_div u v
            have e2 : ((u % v : Nat) : Int) = (u : Int) % (v : Int) := rfl
            rw [e2, Int.emod_def, Int.mul_comm]
          have hm : u % v < v := Nat.mod_lt _ hv0
          refine ⟨⟨rfl, v, u % v, ?_, ?_, hv, Nat.lt_trans hm hv⟩, ?_⟩
          · show [some (V.int a), some (V.int b), some (V.int v), some (V.int ((u : Int) - (u : Int) / (v : Int) * (v : Int)))] = _
            rw [e1]
          · rw [← hg, Nat.gcd_comm u v, Nat.gcd_rec v u, Nat.gcd_comm]
          · show (((u : Int) - (u : Int) / (v : Int) * (v : Int))).toNat < ((v : Nat) : Int).toNat
            rw [e1]
            omega
      · have h1 : v = 0 := by
          have h2 : ¬ (V.int v ≠ V.int 0) := fun n => h1 (by rw [decide_eq_false n] <;> rfl)
          have h3 : (V.int v = V.int 0) := Classical.not_not.mp h2
          have h4 := V.int.inj h3
          omega
        subst h1
        rw [Nat.gcd_zero_right] at hg
        subst hg
        have hn := sg_ne (a := a) hb
        have hz2 := (zb.sg (a := a) hb).log (by decide) (show 8000 ≤ 9000 by decide)
        have fin : ∀ o : Int, o = sg a b → ∀ σ : L2.St, σ = [some (.int a), some (.int b), some (.int o), some (.int 0)] →
            (tRet (tTup (tCons (tOp (rI FdC fun i j => .int (i.fdiv j)) (tVar 0) (tVar 2)) (tCons (tOp (rI FdC fun i j => .int (i.fdiv j)) (tVar 1) (tVar 2)) tNil)))) { nx := fun _ H' => Q .non H', rt := Q } σ H' := by
          rintro o rfl σ rfl
          refine ⟨_, rfl, _, rfl, _, _, rfl, rfl, ⟨hn, hz2⟩, _, rfl, _, rfl, _, _, rfl, rfl, ⟨hn, hz2⟩, (by show 2 ≤ sizeLine; decide), fun p hp => ?_⟩
          exact q p _ (same_upd hp) upd_same
        refine ⟨_, rfl, _, _, rfl, rfl, _, rfl, ?_⟩
        refine ite2 (fun hneg => ?_) (fun hpos => ?_)
        · have hneg := of_decide_eq_true hneg
          refine ⟨_, rfl, _, _, rfl, rfl, ?_⟩
          refine fin _ ?_ _ rfl
          unfold sg
          rw [if_pos hneg]
          omega
        · have hpos := of_decide_eq_false (Bool.eq_false_iff.mpr hpos)
          refine fin _ ?_ _ rfl
          unfold sg
          rw [if_neg hpos]
    · intro σ H' Q Q' hQ hc
      obtain ⟨v, hv, e1, k2, e2, q⟩ := hc
      exact ⟨v, hv, e1, k2, e2, hQ _ _ q⟩
end
end RT
set_option maxRecDepth 100000
set_option maxHeartbeats 4000000
namespace RT
open PySem PySem.Spec PyProof.Rows L2 GL MX
def spIs (C : Addr) : Sp := fun vs H Q _ => ∃ (x : Addr) (a b : Int), vs = [.ref x, .int a, .int b] ∧ b ≠ 0 ∧ Bd 1900 a ∧ Bd 1900 b ∧ Rat C H x (nt a b) (nb a b) ∧ ∀ H', Same H H' → Q (.bl true) H'
/-- the tuple's text -/
theorem shown_two {t b : Int} (ht : Bd 1900 t) (hb : Bd 1900 b) : (PyData.tuple [.int t, .int b]).showable = true ∧ (PyData.tuple [.int t, .int b]).hasDict = false ∧ (PyData.tuple [.int t, .int b]).depth ≤ 60 ∧ (PyData.tuple [.int t, .int b]).shown.length ≤ sizeLine := by
  have l1 := ht.log (by decide) (show 1900 ≤ 1920 by decide)
  have l2 := hb.log (by decide) (show 1900 ≤ 1920 by decide)
  have z1 := tx_len' l1
  have z2 := tx_len' l2
  have zs := sizeLine_eq
  refine ⟨?_, ?_, ?_, ?_⟩
  · simp [PyData.showable, PyData.showableAll, l1, l2]
  · simp [PyData.hasDict, PyData.hasDictAll]
  · simp [PyData.depth, PyData.depthAll]
  · have e : (PyData.tuple [.int t, .int b]).shown = tupleText [tx t, tx b] := by
      simp [PyData.shown, PyData.shownAll, tx]
    rw [e]
    have h := PySem.fmt_text [tx t, tx b]
    rw [piled_cons, piled_cons, piled_nil] at h
    omega
theorem dp_two {K : PySem.W.Frag} {H : Hp} {p : Addr} {t b : Int} (h : H p = some (.tup [.int t, .int b])) : Dp K H (.ref p) (.tuple [.int t, .int b]) := .tup (SqT.of h) (.cons (.int _) (.cons (.int _) .nil))
section
variable {P : Program} {w : World} {K : PySem.W.Frag} {mg : Str → Option Value} {base : Heap} {C f : Addr} {fd : FuncData}
theorem scText : FnScope ["top", "bottom"] ["top", "bottom"] (defScope sText) := ⟨rfl, rfl, rfl, by decide +kernel, rfl, by decide +kernel, by decide +kernel⟩
theorem ok_text {fL : Addr} {fdL : FuncData} (F : FnP K "_law_text" "_law_text" sText f fd) (T : Txt K mg C) (gL : mg "_law_lowest" = some (.ref fL)) (FL : FnP K "_law_lowest" "_law_lowest" sLowest fL fdL) : FnOk P w K mg base CX0 2 f fd ["top", "bottom"] spText := by
  have GL' : FnOk P w K mg base CX0 1 fL fdL ["top", "bottom"] spLowest := ok_lowest FL T
  have bL : Binds K fdL ["top", "bottom"] [] := FL.bindsN fun _ _ _ _ _ _ us hl => match us, hl with | [_, _], _ => rfl
  refine F.ok scText (fun vs H Q E h => ?_) (fun cdv A outer s H vs Q E hr h => ?_)
  · obtain ⟨a, b, rfl, _⟩ := h
    rfl
  · obtain ⟨a, b, rfl, hb, za, zb, q⟩ := h
    refine ⟨_, PSs.nox <| pss_cons (ps_asg (pe_call GL' hr rfl gL FL.kp bL .nil pass0 (pa_cons (pv 0) (pa_cons (pv 1) pa_nil)))
        (pg_tup (by rfl) (pgs_cons (pg_name (i := 0) scText.nd rfl (Or.inl rfl)) (pgs_cons (pg_name (i := 1) scText.nd rfl (Or.inl rfl)) pgs_nil))))
      (pss_one (ps_ret (pe_ifExp (pt_cmpR op_eq (pv 1) pe_int (nomark _)) (pe_callTy call_str_int (by rfl) T.str (by decide +kernel) (pa_cons (pv 0) pa_nil))
        (pe_op op_add_str (pe_op op_add_str (pe_callTy call_str_int (by rfl) T.str (by decide +kernel) (pa_cons (pv 0) pa_nil)) pe_str) (pe_callTy call_str_int (by rfl) T.str (by decide +kernel) (pa_cons (pv 1) pa_nil)))))), ?_⟩
    refine ⟨_, rfl, _, rfl, a, b, rfl, hb, za.le (by decide), zb.le (by decide), fun p H1 hs1 hp => ?_⟩
    refine ⟨_, _, rfl, SqT.of hp, rfl, _, _, rfl, _, _, rfl, rfl, ?_⟩
    have l1 := (za.nt hb).log (by decide) (show 1900 ≤ 1920 by decide)
    have l2 := (zb.nb (a := a) hb).log (by decide) (show 1900 ≤ 1920 by decide)
    have z1 := tx_len' l1
    have z2 := tx_len' l2
    have zs := sizeLine_eq
    have e := q H1 hs1
    unfold rt at e
    refine ⟨_, rfl, rfl, _, rfl, ?_⟩
    refine ite2 (fun h1 => ?_) (fun h1 => ?_)
    · have h1 := V.int.inj (of_decide_eq_true h1)
      rw [if_pos h1] at e
      exact ⟨_, rfl, _, rfl, l1, e⟩
    · have h1 : ¬ nb a b = 1 := fun q => h1 (decide_eq_true (by rw [q]))
      rw [if_neg h1] at e
      have k1 : (tx (nt a b) ++ Str.ofString "/").length = (tx (nt a b)).length + 1 := PySem.Str.length_append _ _
      refine ⟨_, rfl, _, rfl, l1, _, _, rfl, rfl, ?_, _, rfl, _, rfl, l2, _, _, rfl, rfl, ?_, e⟩
      · show (tx (nt a b)).length + 1 ≤ sizeLine
        omega
      · show (tx (nt a b) ++ Str.ofString "/").length + (tx (nb a b)).length ≤ sizeLine
        omega
theorem scIs : FnScope ["ratio", "top", "bottom"] ["ratio", "top", "bottom"] (defScope sIs) := ⟨rfl, rfl, rfl, by decide +kernel, rfl, by decide +kernel, by decide +kernel⟩
theorem ok_is {fL fX fS : Addr} {fdL fdX fdS : FuncData} (F : FnP K "_law_is" "_law_is" sIs f fd) (T : Txt K mg C) (gL : mg "_law_lowest" = some (.ref fL)) (FL : FnP K "_law_lowest" "_law_lowest" sLowest fL fdL)
    (gX : mg "_law_text" = some (.ref fX)) (FX : FnP K "_law_text" "_law_text" sText fX fdX) (mS : Meth K C "__str__" fS) (FS : FnP K "__str__" "Ratio.__str__" sStr fS fdS) (GS : FnOk P w K mg base CX0 2 fS fdS ["self"] (spStr C)) :
    FnG P w K mg base 5 f (spIs C) := by
  have GL' : FnOk P w K mg base CX0 1 fL fdL ["top", "bottom"] spLowest := ok_lowest FL T
  have bL : Binds K fdL ["top", "bottom"] [] := FL.bindsN fun _ _ _ _ _ _ us hl => match us, hl with | [_, _], _ => rfl
  have GX : FnOk P w K mg base CX0 2 fX fdX ["top", "bottom"] spText := ok_text FX T gL FL
  have bX : Binds K fdX ["top", "bottom"] [] := FX.bindsN fun _ _ _ _ _ _ us hl => match us, hl with | [_, _], _ => rfl
  have bS : Binds K fdS ["self"] [] := FS.bindsN fun _ _ _ _ _ _ us hl => match us, hl with | [_], _ => rfl
  have bF : Binds K fd ["ratio", "top", "bottom"] [] := F.bindsN fun _ _ _ _ _ _ us hl => match us, hl with | [_, _, _], _ => rfl
  refine fng_of F scIs (fun vs H Q E h => ?_) bF (fun cdv A outer s H vs Q hr h => ?_)
  · obtain ⟨x, a, b, rfl, _⟩ := h
    rfl
  · obtain ⟨x, a, b, rfl, hb, za, zb, hx, q⟩ := h
    have hr4 : Room 4 _ := hr.rm
    refine ⟨_, PSs.nox <| pss_cons (ps_if (PW.pt (pw_or (pt_not (pt_val (pe_callB (C8.call_isC T.ins) (by rfl) T.isi (by decide +kernel) (pa_cons (pv 0) (pa_cons (pe_glob (v := V.ref C) rfl T.mgC rfl) pa_nil)))))
        (pw_or1 (pt_cmpR op_ne (pe_callTy (call_strOwn mS (GS.raw bS .nil) hr4 pass0) (by rfl) T.str (by decide +kernel) (pa_cons (pv 0) pa_nil)) (pe_call GX (hr4.mono (by decide)) rfl gX FX.kp bX .nil pass0 (pa_cons (pv 1) (pa_cons (pv 2) pa_nil))) (nomark _)))))
        (pss_one (ps_ret pe_bl)) pss_nil)
      (pss_one (ps_ret (pe_cmpR op_eq (pe_callB (call_reprD hr) (by rfl) T.repr (by decide +kernel) (pa_cons (pe_tup (pa_cons (pe_fld (pv 0) rfl) (pa_cons (pe_fld (pv 0) rfl) pa_nil))) pa_nil))
        (pe_callB (call_reprD hr) (by rfl) T.repr (by decide +kernel) (pa_cons (pe_call GL' (hr4.mono (by decide)) rfl gL FL.kp bL .nil pass0 (pa_cons (pv 1) (pa_cons (pv 2) pa_nil))) pa_nil)) (nomark _)))), ?_⟩
    obtain ⟨dx, hX⟩ := id hx
    have t1 := za.nt hb
    have t2 := zb.nb (a := a) hb
    refine ⟨_, rfl, x, dx, _, rfl, hX, true, rfl, ?_⟩
    refine iteF ?_
    refine ⟨_, rfl, x, dx, _, rfl, hX, x, _, _, rfl, hx, t1, t2, fun H1 hs1 => ⟨_, rfl, ?_⟩⟩
    refine ⟨_, rfl, _, rfl, a, b, rfl, hb, za, zb, fun H2 hs2 => ⟨rfl, _, rfl, ?_⟩⟩
    rw [decide_eq_true (rfl : V.str (rt (nt a b) (nb a b)) = V.str (rt (nt a b) (nb a b)))]
    refine iteF ?_
    obtain ⟨dy, hY⟩ := hx.same (hs1.trans hs2)
    obtain ⟨c1, c2, c3, c4⟩ := shown_two t1 t2
    refine ⟨_, rfl, x, C, dy, _, _, rfl, hY, T.cl, T.nT, Rf_top _ _, _, rfl, x, C, dy, _, _, rfl, hY, T.cl, T.nB, Rf_bot _ _, (by show 2 ≤ sizeLine; decide), fun p hp => ?_⟩
    refine ⟨p, _, rfl, dp_two upd_same, c1, c2, c3, c4, ?_⟩
    refine ⟨_, rfl, _, rfl, a, b, rfl, hb, za.le (by decide), zb.le (by decide), fun p2 H3 hs3 hp2 => ?_⟩
    refine ⟨p2, _, rfl, dp_two hp2, c1, c2, c3, c4, rfl, ?_⟩
    rw [decide_eq_true rfl]
    exact q H3 (((hs1.trans hs2).trans (same_upd hp)).trans hs3)
end
end RT
set_option maxRecDepth 100000
set_option maxHeartbeats 1000000
namespace RT
open PySem PySem.Spec PyProof.Rows L2 GL MX
abbrev sLaw : Stmt := top 19
theorem Rat.cong {C : Addr} {H : Hp} {x : Addr} {t b t' b' : Int} (r : Rat C H x t b) (e : t = t' ∧ b = b') : Rat C H x t' b' := by
  obtain ⟨rfl, rfl⟩ := e
  exact r
def spEqA (K : PySem.W.Frag) (C : Addr) : Sp := fun vs H Q _ => ∃ (x : Addr) (y : V) (t b : Int), vs = [.ref x, y] ∧ Rat C H x t b ∧
  ((∃ (z : Addr) (t' b' : Int), y = .ref z ∧ Rat C H z t' b' ∧ Q (.bl (decide (t = t') && decide (b = b'))) H) ∨ (∃ T : String, TyX K H y (.type T) ∧ Alien K C T ∧ Q (.bl false) H))
def spNeA (K : PySem.W.Frag) (C : Addr) : Sp := fun vs H Q _ => ∃ (x : Addr) (y : V) (t b : Int), vs = [.ref x, y] ∧ Rat C H x t b ∧
  ((∃ (z : Addr) (t' b' : Int), y = .ref z ∧ Rat C H z t' b' ∧ Q (.bl (!(decide (t = t') && decide (b = b')))) H) ∨ (∃ T : String, TyX K H y (.type T) ∧ Alien K C T ∧ Q (.bl true) H))
theorem q_dec (q r : QQ) : (decide (q.num = r.num) && decide ((q.den : Int) = r.den)) = decide (q = r) := by
  by_cases h : q = r
  · subst h
    simp
  · rw [decide_eq_false h]
    by_cases h1 : q.num = r.num
    · by_cases h2 : (q.den : Int) = r.den
      · exact absurd (by rw [q_eq q, q_eq r, h1, h2]) h
      · rw [decide_eq_false h2, Bool.and_false]
    · rw [decide_eq_false h1, Bool.false_and]
theorem low_dec {a b c d : Int} (hb : b ≠ 0) (hd : d ≠ 0) : (decide (nt a b = nt c d) && decide (nb a b = nb c d)) = decide (a * d = b * c) := by
  obtain ⟨e1, e2⟩ := nt_div (a := a) hb
  obtain ⟨e3, e4⟩ := nt_div (a := c) hd
  rw [e1, e2, e3, e4, q_dec]
  refine decide_eq_decide.mpr ?_
  rw [_root_.Rat.divInt_eq_divInt_iff hb hd, Int.mul_comm b c]
section
variable {P : Program} {w : World} {K : PySem.W.Frag} {mg : Str → Option Value} {base : Heap} {C f : Addr} {fd : FuncData}
theorem ins_ty {H : Hp} {y dx : Addr} {fs : List (Str × V)} (T : Txt K mg C) (h : H y = some (.ins C dx fs)) : TyX K H (.ref y) (.ref C) := .base (.ins h T.ins.cl T.ins.ha T.ins.hn T.ins.htk T.ins.hm)
theorem ok_eqA (F : FnP K "__eq__" "Ratio.__eq__" sEq f fd) (T : Txt K mg C) : FnOk P w K mg base CX0 1 f fd ["self", "other"] (spEqA K C) := by
  refine F.ok scEq (fun vs H Q E h => ?_) (fun cdv A outer s H vs Q E hr h => ?_)
  · obtain ⟨x, y, p, q, rfl, _⟩ := h
    rfl
  · obtain ⟨x, yv, p, q, rfl, hx, h⟩ := h
    obtain ⟨dx, hX⟩ := id hx
    refine ⟨_, PSs.nox <| pss_one (ps_ret (pe_and (pe_callB call_isi (by rfl) T.isi (by decide +kernel) (pa_cons (pv 1) (pa_cons (pe_glob (v := V.ref C) rfl T.mgC rfl) pa_nil)))
      (pe_and (pe_cmpR op_eq (pe_fld (pv 0) rfl) (pe_fld (pv 1) rfl) (nomark _)) (pe_one (pe_cmpR op_eq (pe_fld (pv 0) rfl) (pe_fld (pv 1) rfl) (nomark _)))))), ?_⟩
    rcases h with ⟨y, r, s, rfl, hy, k⟩ | ⟨Tn, ty, al, k⟩
    · obtain ⟨dy, hY⟩ := id hy
      refine ⟨_, rfl, _, _, _, _, true, rfl, .own C, ins_ty T hY, T.ins.me, _, rfl, ?_⟩
      refine iteT ?_
      refine ⟨_, rfl, x, C, dx, _, _, rfl, hX, T.cl, T.nT, Rf_top _ _, _, rfl, y, C, dy, _, _, rfl, hY, T.cl, T.nT, Rf_top _ _, rfl, _, rfl, ?_⟩
      rw [dec_int]
      cases e : decide (p = r) with
      | false =>
        rw [e] at k
        exact iteF k
      | true =>
        rw [e] at k
        refine iteT ?_
        refine ⟨_, rfl, x, C, dx, _, _, rfl, hX, T.cl, T.nB, Rf_bot _ _, _, rfl, y, C, dy, _, _, rfl, hY, T.cl, T.nB, Rf_bot _ _, rfl, ?_⟩
        rw [dec_int]
        exact k
    · refine ⟨_, rfl, _, _, _, _, false, rfl, .own C, ty, al.ki, _, rfl, ?_⟩
      exact iteF k
theorem ok_neA {fE : Addr} {fdE : FuncData} (F : FnP K "__ne__" "Ratio.__ne__" sNe f fd) (T : Txt K mg C) (mE : Meth K C "__eq__" fE) (FE : FnP K "__eq__" "Ratio.__eq__" sEq fE fdE) : FnOk P w K mg base CX0 2 f fd ["self", "other"] (spNeA K C) := by
  have GE : FnOk P w K mg base CX0 1 fE fdE ["self", "other"] (spEqA K C) := ok_eqA FE T
  have bE : L2.Binds K fdE ["self", "other"] [] := FE.bindsN fun _ _ _ _ _ _ us hl => match us, hl with | [_, _], _ => rfl
  refine F.ok scNe (fun vs H Q E h => ?_) (fun cdv A outer s H vs Q E hr h => ?_)
  · obtain ⟨x, y, p, q, rfl, _⟩ := h
    rfl
  · obtain ⟨x, yv, p, q, rfl, hx, h⟩ := h
    obtain ⟨dx, hX⟩ := id hx
    refine ⟨_, PSs.nox <| pss_one (ps_ret (pe_not (pe_cmpR (op_ownV (op := .Eq) (fun _ _ => rfl) mE (GE.raw bE .nil) hr pass0) (pv 0) (pv 1) (nomark _)))), ?_⟩
    rcases h with ⟨y, r, s, rfl, hy, k⟩ | ⟨Tn, ty, al, k⟩
    · obtain ⟨dy, hY⟩ := id hy
      exact ⟨_, rfl, _, rfl, x, dx, _, _, rfl, hX, ins_ty T hY, T.nf, x, .ref y, p, q, rfl, hx, .inl ⟨y, r, s, rfl, hy, _, rfl, k⟩⟩
    · exact ⟨_, rfl, _, rfl, x, dx, _, _, rfl, hX, ty, al.nf, x, yv, p, q, rfl, hx, .inr ⟨Tn, ty, al, _, rfl, k⟩⟩
/-- the own == for lists of ratios -/
def RR (C : Addr) : Addr → Addr → Hp → Prop := fun a b H => ∃ t d, Rat C H a t d ∧ Rat C H b t d
theorem mon_RR : Mon (DIns C (RR C)) := mon_ins fun a b H H' e ⟨t, d, h1, h2⟩ => ⟨t, d, h1.same e, h2.same e⟩
theorem eq_RR (F : FnOk P w K mg base CX0 1 f fd ["self", "other"] (spEqA K C)) : FnOk P w K mg base CX0 1 f fd ["self", "other"] (L2.spEq (RR C)) := F.imp fun vs H Q E h => by
  obtain ⟨a, b, rfl, ⟨t, d, h1, h2⟩, k⟩ := h
  refine ⟨a, .ref b, t, d, rfl, h1, .inl ⟨b, t, d, rfl, h2, ?_⟩⟩
  rw [decide_eq_true rfl, decide_eq_true rfl]
  exact k H Ext.rfl'
end
end RT
set_option maxRecDepth 100000
set_option maxHeartbeats 1000000
namespace RT
open PySem PySem.Spec PyProof.Rows L2 GL MX
def spLaw (K : PySem.W.Frag) : Sp := fun vs H Q _ => ∃ (a : Addr) (ns : List Int), vs = [.ref a] ∧ SqL K H a (ns.map V.int) ∧ ns.length ≤ 63 ∧ ∀ H', Q (.bl true) H'
theorem feed_ne {H : Hp} {fa p : Addr} (hF : Feed H fa) {o : HO} (hp : H p = some o) (hne : ∀ xs, o ≠ .lst xs) : p ≠ fa := by
  obtain ⟨d, t, e⟩ := hF
  rintro rfl
  rw [hp] at e
  exact hne _ (Option.some.inj e)
theorem feed_new {H : Hp} {fa p : Addr} (hF : Feed H fa) (hp : H p = none) : p ≠ fa := by
  obtain ⟨d, t, e⟩ := hF
  exact (ne_of_none e hp).symm
theorem Feed.upd {H : Hp} {fa p : Addr} {o : HO} (hF : Feed H fa) (hp : p ≠ fa) : Feed (L2.upd H p o) fa := by
  obtain ⟨d, t, e⟩ := hF
  exact ⟨d, t, by rw [upd_ne hp.symm]; exact e⟩
theorem Feed.same {H H' : Hp} {fa : Addr} (hF : Feed H fa) (s : Same H H') : Feed H' fa := by
  obtain ⟨d, t, e⟩ := hF
  exact ⟨d, t, s _ _ e⟩
/-- pairs of numbers -/
def PairA (H : Hp) (v : V) : Prop := ∃ (p : Addr) (x y : Int), v = .ref p ∧ H p = some (.tup [.int x, .int y]) ∧ y ≠ 0 ∧ Bd 100 x ∧ Bd 100 y
theorem PairA.same {H H' : Hp} {v : V} (h : PairA H v) (s : Same H H') : PairA H' v := let ⟨p, x, y, e, hp, r⟩ := h; ⟨p, x, y, e, s _ _ hp, r⟩
theorem PairA.but {H H' : Hp} {v : V} {fa : Addr} (h : PairA H v) (s : But fa H H') (hF : Feed H fa) : PairA H' v := let ⟨p, x, y, e, hp, r⟩ := h; ⟨p, x, y, e, s _ _ (feed_ne hF hp fun _ => nofun) hp, r⟩
theorem PairA.upd {H : Hp} {v : V} {D : Addr} {l l' : List V} (h : PairA H v) (hD : H D = some (.lst l)) : PairA (L2.upd H D (.lst l')) v := let ⟨p, x, y, e, hp, r⟩ := h
  ⟨p, x, y, e, by rw [upd_ne (fun c => by rw [c, hD] at hp; exact absurd hp nofun)]; exact hp, r⟩
/-- a list of pairs, two more -/
theorem grow {H : Hp} {acc : List V} {a b c d : Int} {p1 p2 l2 l3 : Addr} (hA : ∀ v ∈ acc, PairA H v) (h1 : H p1 = none) (h2 : upd H p1 (.tup [.int a, .int b]) p2 = none)
    (h3 : upd (upd H p1 (.tup [.int a, .int b])) p2 (.tup [.int c, .int d]) l2 = none) (h4 : upd (upd (upd H p1 (.tup [.int a, .int b])) p2 (.tup [.int c, .int d])) l2 (.lst [.ref p1, .ref p2]) l3 = none)
    (hb : b ≠ 0) (hd : d ≠ 0) (ba : Bd 100 a) (bb : Bd 100 b) (bc : Bd 100 c) (bd : Bd 100 d) :
    Same H (upd (upd (upd (upd H p1 (.tup [.int a, .int b])) p2 (.tup [.int c, .int d])) l2 (.lst [.ref p1, .ref p2])) l3 (.lst (acc ++ [.ref p1, .ref p2]))) ∧
    ∀ v ∈ acc ++ [V.ref p1, .ref p2], PairA (upd (upd (upd (upd H p1 (.tup [.int a, .int b])) p2 (.tup [.int c, .int d])) l2 (.lst [.ref p1, .ref p2])) l3 (.lst (acc ++ [.ref p1, .ref p2]))) v := by
  have s1 := same_upd (o := .tup [.int a, .int b]) h1
  have s2 := same_upd (o := .tup [.int c, .int d]) h2
  have s3 := same_upd (o := .lst [.ref p1, .ref p2]) h3
  have s4 := same_upd (o := .lst (acc ++ [.ref p1, .ref p2])) h4
  refine ⟨((s1.trans s2).trans s3).trans s4, fun v hv => ?_⟩
  rcases List.mem_append.mp hv with h | h
  · exact (hA v h).same (((s1.trans s2).trans s3).trans s4)
  · simp only [List.mem_cons, List.not_mem_nil, or_false] at h
    rcases h with rfl | rfl
    · exact ⟨p1, a, b, rfl, ((s2.trans s3).trans s4) _ _ upd_same, hb, ba, bb⟩
    · exact ⟨p2, c, d, rfl, (s3.trans s4) _ _ upd_same, hd, bc, bd⟩
/-- a ratio and its pair -/
def Zp (C : Addr) (H : Hp) (v u : V) : Prop := ∃ (o p : Addr) (x y : Int), v = .ref o ∧ u = .ref p ∧ H p = some (.tup [.int x, .int y]) ∧ y ≠ 0 ∧ Bd 100 x ∧ Bd 100 y ∧ Rat C H o (nt x y) (nb x y)
theorem Zp.same {C : Addr} {H H' : Hp} {v u : V} (h : Zp C H v u) (s : Same H H') : Zp C H' v u := let ⟨o, p, x, y, e1, e2, hp, h1, h2, h3, r⟩ := h; ⟨o, p, x, y, e1, e2, s _ _ hp, h1, h2, h3, r.same s⟩
theorem Zp.upd {C : Addr} {H : Hp} {v u : V} {D : Addr} {l l' : List V} (h : Zp C H v u) (hD : H D = some (.lst l)) : Zp C (L2.upd H D (.lst l')) v u := let ⟨o, p, x, y, e1, e2, hp, h1, h2, h3, ⟨dx, r⟩⟩ := h
  ⟨o, p, x, y, e1, e2, by rw [upd_ne (fun c => by rw [c, hD] at hp; exact absurd hp nofun)]; exact hp, h1, h2, h3, dx, by rw [upd_ne (fun c => by rw [c, hD] at r; exact absurd r nofun)]; exact r⟩
theorem Kd.same {K : PySem.W.Frag} {H H' : Hp} {x : V} {T : String} (k : Kd K H x T) (s : Same H H') : Kd K H' x T := by
  cases k with
  | int i => exact .int i
  | bl b => exact .bl b
  | str z => exact .str z
  | non => exact .non
  | lst e => exact .lst (s _ _ e)
  | tup e => exact .tup (s _ _ e)
  | dK e => exact .dK (s _ _ e)
theorem dec_bl (p r : Bool) : decide (V.bl p = V.bl r) = decide (p = r) := by
  cases p <;> cases r <;> rfl
section
variable {P : Program} {w : World} {K : PySem.W.Frag} {mg : Str → Option Value} {base : Heap} {C f : Addr} {fd : FuncData}
theorem scLaw : FnScope ["script", "k", "feed", "pairs", "turn", "top", "bottom", "many", "ratios", "one", "first", "other", "second", "same", "thing"] ["script"] (defScope sLaw) := ⟨rfl, rfl, rfl, by decide +kernel, rfl, by decide +kernel, by decide +kernel⟩
theorem ok_law {fFd fP fT fPk fI fS fE fN : Addr} {fdFd fdP fdT fdPk fdI fdS fdE fdN : FuncData} (F : FnP K "law" "law" sLaw f fd) (T : Txt K mg C) (M : Mk K C fI) (FI : FnP K "__init__" "Ratio.__init__" sInit fI fdI)
    (gFd : mg "_law_feed" = some (.ref fFd)) (FFd : FnP K "_law_feed" "_law_feed" sFeed fFd fdFd) (gP : mg "_law_pair" = some (.ref fP)) (FP : FnP K "_law_pair" "_law_pair" sPair fP fdP) (GP : FnOk P w K mg base CX0 4 fP fdP ["feed"] spPair)
    (gT : mg "_law_take" = some (.ref fT)) (FT : FnP K "_law_take" "_law_take" sTake fT fdT) (gPk : mg "_law_pick" = some (.ref fPk)) (FPk : FnP K "_law_pick" "_law_pick" sPick fPk fdPk)
    (mSt : Meth K C "__str__" fS) (FSt : FnP K "__str__" "Ratio.__str__" sStr fS fdS) (GSt : FnOk P w K mg base CX0 2 fS fdS ["self"] (spStr C))
    (mEq : Meth K C "__eq__" fE) (FE : FnP K "__eq__" "Ratio.__eq__" sEq fE fdE) (mNe : Meth K C "__ne__" fN) (FN : FnP K "__ne__" "Ratio.__ne__" sNe fN fdN) (hzip : mg "zip" = none)
    (A : ∀ T ∈ ["int", "str", "tuple", "NoneType", "bool", "list", "dict"], Alien K C T) : FnG P w K mg base 7 f (spLaw K) := by
  have GI : FnOk P w K mg base CX0 1 fI fdI ["self", "top", "bottom"] (spInit C) := ok_init FI T
  have bI : L2.Binds K fdI ["self", "top", "bottom"] [] := FI.bindsN fun _ _ _ _ _ _ us hl => match us, hl with | [_, _, _], _ => rfl
  have GFd1 : FnOk P w K mg base CX0 1 fFd fdFd ["script", "k"] (spFeed K) := ok_feed FFd T
  have GFd := GFd1.mono (show 1 ≤ 4 by decide)
  have bFd : L2.Binds K fdFd ["script", "k"] [] := FFd.bindsN fun _ _ _ _ _ _ us hl => match us, hl with | [_, _], _ => rfl
  have bP : L2.Binds K fdP ["feed"] [] := FP.bindsN fun _ _ _ _ _ _ us hl => match us, hl with | [_], _ => rfl
  have GPk : FnOk P w K mg base CX0 2 fPk fdPk ["feed", "some"] spPick := ok_pick FPk T gT FT
  have bPk : L2.Binds K fdPk ["feed", "some"] [] := FPk.bindsN fun _ _ _ _ _ _ us hl => match us, hl with | [_, _], _ => rfl
  have bSt : L2.Binds K fdS ["self"] [] := FSt.bindsN fun _ _ _ _ _ _ us hl => match us, hl with | [_], _ => rfl
  have bE : L2.Binds K fdE ["self", "other"] [] := FE.bindsN fun _ _ _ _ _ _ us hl => match us, hl with | [_, _], _ => rfl
  have bN : L2.Binds K fdN ["self", "other"] [] := FN.bindsN fun _ _ _ _ _ _ us hl => match us, hl with | [_, _], _ => rfl
  have GEf : FnOk P w K mg base CX0 1 fE fdE ["self", "other"] (spEqA K C) := ok_eqA FE T
  have GNf : FnOk P w K mg base CX0 2 fN fdN ["self", "other"] (spNeA K C) := ok_neA FN T mEq FE
  have GEq := GEf.raw bE .nil
  have GNe := GNf.raw bN .nil
  have bF : L2.Binds K fd ["script"] [] := F.bindsN fun _ _ _ _ _ _ us hl => match us, hl with | [_], _ => rfl
  refine fng_of F scLaw (fun vs H Q E h => ?_) bF (fun cdv A0 outer s H vs Q hr h => ?_)
  · obtain ⟨a, ns, rfl, _⟩ := h
    rfl
  · obtain ⟨a, ns, rfl, hS, hlen, q⟩ := h
    have r6 : Room 6 _ := hr.rm
    have nd := scLaw.nd
    have r4 : Room 4 _ := r6.mono (by decide)
    have r2 : Room 2 _ := r6.mono (by decide)
    have MD := mon_RR (C := C)
    refine ⟨_, PSs.nox (pss_cons (ps_for PassesOwn.never rfl (pi_range1 (by rfl) T.range (pa_cons (pe_callB (call_max2 rfl) (by rfl) T.max (by decide +kernel) (pa_cons pe_int (pa_cons (pe_callB (call_min2 rfl) (by rfl) T.min (by decide +kernel) (pa_cons pe_int (pa_cons (pe_callB call_len_seq (by rfl) T.len PySem.boot_len (pa_cons (pv 0) pa_nil)) pa_nil))) pa_nil))) pa_nil)) (pg_name (i := 1) nd rfl (Or.inl rfl))
      (pss_cons (ps_set (i := 2) nd rfl (Or.inl rfl) (pe_call GFd (r6.mono (by decide)) rfl gFd FFd.kp bFd .nil pass0 (pa_cons (pv 0) (pa_cons (pv 1) pa_nil))))
      (pss_cons (ps_set (i := 3) nd rfl (Or.inl rfl) (pe_lst pa_nil))
      (pss_cons (ps_for PassesOwn.never rfl (pi_range1 (by rfl) T.range (pa_cons pe_int pa_nil)) (pg_name (i := 4) nd rfl (Or.inl rfl))
      (pss_cons (ps_asg (pe_call GP (r6.mono (by decide)) rfl gP FP.kp bP .nil pass0 (pa_cons (pv 2) pa_nil)) (pg_tup (by rfl) (pgs_cons (pg_name (i := 5) nd rfl (Or.inl rfl)) (pgs_cons (pg_name (i := 6) nd rfl (Or.inl rfl)) pgs_nil))))
      (pss_cons (ps_set (i := 7) nd rfl (Or.inl rfl) (pe_call GPk (r6.mono (by decide)) rfl gPk FPk.kp bPk .nil pass0 (pa_cons (pv 2) (pa_cons (pe_lst (pa_cons pe_int (pa_cons (pe_un un_neg pe_int) (pa_cons (pe_un un_neg pe_int) (pa_cons (pe_op op_pow pe_int pe_int) pa_nil))))) pa_nil))))
      (pss_cons (ps_set (i := 3) nd rfl (Or.inl rfl) (pe_op op_cat (pv 3) (pe_lst (pa_cons (pe_tup (pa_cons (pv 5) (pa_cons (pv 6) pa_nil))) (pa_cons (pe_tup (pa_cons (pe_op op_mulW (pv 5) (pv 7)) (pa_cons (pe_op op_mulW (pv 6) (pv 7)) pa_nil))) pa_nil)))))
      (pss_cons (ps_set (i := 3) nd rfl (Or.inl rfl) (pe_op op_cat (pv 3) (pe_lst (pa_cons (pe_tup (pa_cons (pe_op op_sub pe_int (pv 5)) (pa_cons (pv 6) pa_nil))) (pa_cons (pe_tup (pa_cons (pe_op op_add (pv 5) pe_int) (pa_cons (pv 6) pa_nil))) pa_nil)))))
      (pss_one (ps_set (i := 3) nd rfl (Or.inl rfl) (pe_op op_cat (pv 3) (pe_lst (pa_cons (pe_tup (pa_cons (pv 6) (pa_cons (pe_ifExp (pt_cmpR op_ne (pv 5) pe_int (nomark _)) (pv 5) pe_int) pa_nil))) (pa_cons (pe_tup (pa_cons (pv 5) (pa_cons (pe_op op_mulW (pv 6) pe_int) pa_nil))) pa_nil)))))))))))
      (pss_cons (ps_setLc (i := 8) (own := [("top", 5), ("bottom", 6)]) (g := gTup K 2 (gCons (gName 5) (gCons (gName 6) gNil))) (by rfl) nd rfl rfl (sw_true rfl rfl rfl (by decide +kernel)) (pi_list (pv 3)) (blkOk_by (own := [("top", 5), ("bottom", 6)]) (N := ["script", "k", "feed", "pairs", "turn", "top", "bottom", "many", "ratios", "one", "first", "other", "second", "same", "thing"]) (sc := defScope sLaw) (by decide +kernel)) (fun _ _ _ _ _ => pg_tup (by rfl) (pgs_cons (pg_name (i := 5) nd rfl (Or.inl rfl)) (pgs_cons (pg_name (i := 6) nd rfl (Or.inl rfl)) pgs_nil))) (fun _ _ _ _ _ => pts_nil) (fun _ _ _ _ _ => (pe_make M GI r2 rfl T.mgC bI .nil pass0 (pa_cons (pv 5) (pa_cons (pv 6) pa_nil)))))
      (pss_one (ps_for PassesOwn.never rfl (pi_zip (by rfl) hzip (pa_cons (pv 8) (pa_cons (pv 3) pa_nil))) (pg_tup (by rfl) (pgs_cons (pg_name (i := 9) nd rfl (Or.inl rfl)) (pgs_cons (pg_name (i := 10) nd rfl (Or.inl rfl)) pgs_nil)))
      (pss_cons (ps_for PassesOwn.never rfl (pi_zip (by rfl) hzip (pa_cons (pv 8) (pa_cons (pv 3) pa_nil))) (pg_tup (by rfl) (pgs_cons (pg_name (i := 11) nd rfl (Or.inl rfl)) (pgs_cons (pg_name (i := 12) nd rfl (Or.inl rfl)) pgs_nil)))
      (pss_cons (ps_set (i := 13) nd rfl (Or.inl rfl) (pe_cmpR op_eq (pe_op op_mulW (pe_ix ix_tup (pv 10) pe_int (fun _ _ => rfl)) (pe_ix ix_tup (pv 12) pe_int (fun _ _ => rfl))) (pe_op op_mulW (pe_ix ix_tup (pv 10) pe_int (fun _ _ => rfl)) (pe_ix ix_tup (pv 12) pe_int (fun _ _ => rfl))) (nomark _)))
      (pss_one (ps_if (PW.pt (pw_or (pt_cmpR op_ne (pe_cmpR (op_ownV (op := .Eq) (fun _ _ => rfl) mEq GEq (r2.mono (by decide)) pass0) (pv 9) (pv 11) (nomark _)) (pv 13) (nomark _)) (pw_or1 (pt_cmpR op_eq (pe_cmpR (op_ownV (op := .NotEq) (fun _ _ => rfl) mNe GNe r2 pass0) (pv 9) (pv 11) (nomark _)) (pv 13) (nomark _))))) (pss_one (ps_ret pe_bl)) pss_nil))))
      (pss_cons (ps_for PassesOwn.never rfl (pi_list (pe_lst (pa_cons (pe_fld (pv 9) rfl) (pa_cons (pe_callTy (call_strOwn mSt (GSt.raw bSt .nil) r4 pass0) (by rfl) T.str (by decide +kernel) (pa_cons (pv 9) pa_nil)) (pa_cons (pe_tup (pa_cons (pe_fld (pv 9) rfl) (pa_cons (pe_fld (pv 9) rfl) pa_nil))) (pa_cons pe_non (pa_cons pe_bl (pa_cons (pe_lst (pa_cons (pv 9) pa_nil)) (pa_cons pe_dnewK (pa_cons pe_int (pa_cons pe_int pa_nil))))))))))) (pg_name (i := 14) nd rfl (Or.inl rfl))
      (pss_one (ps_if (PW.pt (pw_or (pt_cmpR (op_ownV (op := .Eq) (fun _ _ => rfl) mEq GEq (r2.mono (by decide)) pass0) (pv 9) (pv 14) (nomark _)) (pw_or (pt_not (pt_cmpR (op_ownV (op := .NotEq) (fun _ _ => rfl) mNe GNe r2 pass0) (pv 9) (pv 14) (nomark _))) (pw_or1 (pt_cmpR (op_refl mEq GEq (r2.mono (by decide)) pass0) (pv 14) (pv 9) (nomark _)))))) (pss_one (ps_ret pe_bl)) pss_nil)))
      (pss_one (ps_if (PW.pt (pw_or (pt_cmpR (op_notIn1 (eqG_ins (eq_RR GEf) mEq.at_ mEq.fn bE pass0) r2) (pv 9) (pe_lst (pa_cons (pe_make M GI r2 rfl T.mgC bI .nil pass0 (pa_cons (pe_ix ix_tup (pv 10) pe_int (fun _ _ => rfl)) (pa_cons (pe_ix ix_tup (pv 10) pe_int (fun _ _ => rfl)) pa_nil))) pa_nil)) (by rfl)) (pw_or1 (pt_cmpR (op_neG MD (eqG_ins (eq_RR GEf) mEq.at_ mEq.fn bE pass0) r2) (pe_lst (pa_cons (pv 9) pa_nil)) (pe_lst (pa_cons (pe_make M GI r2 rfl T.mgC bI .nil pass0 (pa_cons (pe_ix ix_tup (pv 10) pe_int (fun _ _ => rfl)) (pa_cons (pe_ix ix_tup (pv 10) pe_int (fun _ _ => rfl)) pa_nil))) pa_nil)) (nomark _))))) (pss_one (ps_ret pe_bl)) pss_nil)))))))))))
      (pss_one (ps_ret pe_bl))), ?_⟩
    refine ⟨_, rfl, a, _, rfl, .inl hS, _, _, rfl, _, _, rfl, _, rfl, ?_, ?_, ?_⟩
    · split <;> split <;> omega
    · rw [List.length_map]
      split <;> split <;> omega
    · rw [List.length_map]
      refine for_range (lo := 0) (fun _ σ H' => Same H H' ∧ ∃ v1 v2 v3 v4 v5 v6 v7 v8 v9 v10 v11 v12 v13 v14 : Option V, σ = [some (.ref a), v1, v2, v3, v4, v5, v6, v7, v8, v9, v10, v11, v12, v13, v14]) ⟨Same.refl H, _, _, _, _, _, _, _, _, _, _, _, _, _, _, rfl⟩ ?_ ?_
      · rintro i σ H' hi ⟨hs, v1, v2, v3, v4, v5, v6, v7, v8, v9, v10, v11, v12, v13, v14, rfl⟩
        have hi6 : i < 1000 := by
          revert hi
          split <;> split <;> omega
        refine ⟨_, rfl, _, rfl, a, ns, i, ?_, hs.seq hS, hi6, fun fa H1 hn hs1 hF => ?_⟩
        · show [V.ref a, V.int (0 + (i : Int))] = _
          rw [Int.zero_add]
        have hs2 := hs.trans hs1
        have fr : H fa = none := hs.free hn
        refine ⟨Nat.zero_le _, fun l0 hl0 => ?_⟩
        refine ⟨_, rfl, by decide, by decide, ?_⟩
        refine for_range (lo := 0) (fun i σ H' => (Same H H' ∧ Feed H' fa) ∧ ∃ (l : Addr) (acc : List V) (v1 v4 v5 v6 v7 v8 v9 v10 v11 v12 v13 v14 : Option V), σ = [some (.ref a), v1, some (.ref fa), some (.ref l), v4, v5, v6, v7, v8, v9, v10, v11, v12, v13, v14] ∧
            l ≠ fa ∧ H' l = some (.lst acc) ∧ acc.length = 6 * i ∧ ∀ v ∈ acc, PairA H' v) ⟨⟨hs2.trans (same_upd hl0), hF.upd (feed_new hF hl0)⟩, l0, [], _, _, _, _, _, _, _, _, _, _, _, _, rfl, feed_new hF hl0, upd_same, rfl, fun v hv => (List.not_mem_nil hv).elim⟩ ?_ ?_
        · rintro j σ H2 hj ⟨⟨hs, hF⟩, l, acc, v1, v4, v5, v6, v7, v8, v9, v10, v11, v12, v13, v14, rfl, nl, hl, hlen, hA⟩
          have j4 : j < 4 := hj
          refine ⟨_, rfl, fa, rfl, hF, fun x y p H3 zx zy hy hB3 hF3 hp => ?_⟩
          refine ⟨p, _, rfl, SqT.of hp, rfl, _, _, rfl, _, _, rfl, rfl, ?_⟩
          have hs3 := hB3.same hs fr
          have hl3 := hB3 _ _ nl hl
          have hA3 : ∀ v ∈ acc, PairA H3 v := fun v hv => (hA v hv).but hB3 hF
          refine ⟨_, rfl, _, rfl, _, rfl, _, _, rfl, rfl, ⟨by decide, by decide, by decide⟩, (by show 4 ≤ sizeLine; decide), fun l1 hl1 => ?_⟩
          have nl1 : l1 ≠ fa := feed_new hF3 hl1
          have sl1 := same_upd (o := .lst [.int 2, .int (-1), .int (-6), .int (10 ^ (6 : Int).toNat)]) hl1
          refine ⟨fa, l1, _, rfl, hF3.upd nl1, nl1, upd_same, by show 0 < 4; decide, by show 4 < 1000; decide, fun v H4 hv hB4 hF4 => ?_⟩
          have hs4 := hB4.same (hs3.trans (same_upd hl1)) fr
          have hl4 := hB4 _ _ nl (same_upd hl1 _ _ hl3)
          have hA4 : ∀ v ∈ acc, PairA H4 v := fun v hv => ((hA3 v hv).same (same_upd hl1)).but hB4 (hF3.upd nl1)
          obtain ⟨m, rfl, hm, bm⟩ : ∃ m : Int, v = .int m ∧ m ≠ 0 ∧ Bd 25 m := by
            simp only [List.mem_cons, List.not_mem_nil, or_false] at hv
            rcases hv with rfl | rfl | rfl | rfl <;> exact ⟨_, rfl, by decide, by unfold Bd; decide⟩
          clear hv hB4 hB3 hF3 hp hA hA3 hl hl3 hs3 sl1
          have hym : y * m ≠ 0 := Int.mul_ne_zero hy hm
          have hy2 : y * 2 ≠ 0 := Int.mul_ne_zero hy (by decide)
          have bx0 : Bd 100 x := zx.le (by decide)
          have by1 : Bd 100 y := zy.le (by decide)
          have bxm : Bd 100 (x * m) := (zx.mul bm).le (by decide)
          have bym : Bd 100 (y * m) := (zy.mul bm).le (by decide)
          have bxn : Bd 100 (0 - x) := by
            rw [Int.zero_sub]
            exact zx.neg.le (by decide)
          have b1 : Bd 70 (1 : Int) := (show Bd 1 1 by unfold Bd; decide).le (by decide)
          have bx1 : Bd 100 (x + 1) := (zx.add b1).le (by decide)
          have by2 : Bd 100 (y * 2) := (zy.mul (show Bd 2 2 by unfold Bd; decide)).le (by decide)
          refine ⟨_, rfl, _, rfl, _, rfl, (by show 2 ≤ sizeLine; decide), fun p1 h1 => ?_⟩
          refine ⟨_, rfl, _, rfl, _, _, rfl, rfl, zx.cmul bm (by decide) (by decide) (by decide), _, rfl, _, rfl, _, _, rfl, rfl, zy.cmul bm (by decide) (by decide) (by decide), (by show 2 ≤ sizeLine; decide), fun p2 h2 => ⟨(by show 2 ≤ sizeLine; decide), fun l2 h3 => ?_⟩⟩
          have s1 := same_upd (o := .tup [.int x, .int y]) h1
          have s2 := same_upd (o := .tup [.int (x * m), .int (y * m)]) h2
          have s3 := same_upd (o := .lst [.ref p1, .ref p2]) h3
          refine ⟨l, l2, _, _, rfl, rfl, ((s1.trans s2).trans s3) _ _ hl4, upd_same, (by show _ ≤ sizeLine; rw [hlen]; exact Nat.le_trans (show 6 * j + 2 ≤ 1000 by omega) (by decide)), fun l3 h4 => ?_⟩
          have G1 := grow hA4 h1 h2 h3 h4 hy hym bx0 by1 bxm bym
          have L3 := upd_same (H := upd (upd (upd H4 p1 (.tup [.int x, .int y])) p2 (.tup [.int (x * m), .int (y * m)])) l2 (.lst [.ref p1, .ref p2])) (a := l3) (o := .lst (acc ++ [.ref p1, .ref p2]))
          clear s1 s2 s3
          have hs5 := hs4.trans G1.1
          have hF5 := hF4.same G1.1
          have gA := G1.2
          generalize upd (upd (upd (upd H4 p1 (.tup [.int x, .int y])) p2 (.tup [.int (x * m), .int (y * m)])) l2 (.lst [.ref p1, .ref p2])) l3 (.lst (acc ++ [.ref p1, .ref p2])) = H5 at hs5 hF5 gA L3 ⊢
          clear G1 h1 h2 h3 h4 hs4 hF4 hA4 hl4
          refine ⟨_, rfl, _, rfl, _, _, rfl, rfl, _, rfl, (by show 2 ≤ sizeLine; decide), fun q1 h1 => ?_⟩
          refine ⟨_, rfl, _, _, rfl, rfl, _, rfl, (by show 2 ≤ sizeLine; decide), fun q2 h2 => ⟨(by show 2 ≤ sizeLine; decide), fun l2 h3 => ?_⟩⟩
          have s1 := same_upd (o := .tup [.int (0 - x), .int y]) h1
          have s2 := same_upd (o := .tup [.int (x + 1), .int y]) h2
          have s3 := same_upd (o := .lst [.ref q1, .ref q2]) h3
          refine ⟨l3, l2, _, _, rfl, rfl, ((s1.trans s2).trans s3) _ _ L3, upd_same, (by show _ ≤ sizeLine; rw [List.length_append, hlen]; exact Nat.le_trans (show 6 * j + 2 + 2 ≤ 1000 by omega) (by decide)), fun l4 h4 => ?_⟩
          have G2 := grow gA h1 h2 h3 h4 hy hy bxn by1 bx1 by1
          have L4 := upd_same (H := upd (upd (upd H5 q1 (.tup [.int (0 - x), .int y])) q2 (.tup [.int (x + 1), .int y])) l2 (.lst [.ref q1, .ref q2])) (a := l4) (o := .lst (acc ++ [.ref p1, .ref p2] ++ [.ref q1, .ref q2]))
          clear s1 s2 s3
          have hs6 := hs5.trans G2.1
          have hF6 := hF5.same G2.1
          have gB := G2.2
          generalize upd (upd (upd (upd H5 q1 (.tup [.int (0 - x), .int y])) q2 (.tup [.int (x + 1), .int y])) l2 (.lst [.ref q1, .ref q2])) l4 (.lst (acc ++ [.ref p1, .ref p2] ++ [.ref q1, .ref q2])) = H6 at hs6 hF6 gB L4 ⊢
          clear G2 h1 h2 h3 h4 gA L3
          refine ⟨_, rfl, _, rfl, _, rfl, rfl, _, rfl, ?_⟩
          by_cases hx0 : x = 0
          · rw [decide_eq_true (show V.int x = V.int 0 by rw [hx0])]
            refine iteF ?_
            refine ⟨(by show 2 ≤ sizeLine; decide), fun t1 h1 => ?_⟩
            refine ⟨_, rfl, _, rfl, _, _, rfl, rfl, zy.cmul (show Bd 2 2 by unfold Bd; decide) (by decide) (by decide) (by decide), (by show 2 ≤ sizeLine; decide), fun t2 h2 => ⟨(by show 2 ≤ sizeLine; decide), fun l2 h3 => ?_⟩⟩
            have s1 := same_upd (o := .tup [.int y, .int 1]) h1
            have s2 := same_upd (o := .tup [.int x, .int (y * 2)]) h2
            have s3 := same_upd (o := .lst [.ref t1, .ref t2]) h3
            refine ⟨l4, l2, _, _, rfl, rfl, ((s1.trans s2).trans s3) _ _ L4, upd_same, (by show _ ≤ sizeLine; rw [List.length_append, List.length_append, hlen]; exact Nat.le_trans (show 6 * j + 2 + 2 + 2 ≤ 1000 by omega) (by decide)), fun l5 h4 => ?_⟩
            have G3 := grow gB h1 h2 h3 h4 (show (1 : Int) ≠ 0 by decide) hy2 by1 (b1.le (by decide)) bx0 by2
            have nl5 : l5 ≠ fa := feed_new (((hF6.same s1).same s2).same s3) h4
            exact ⟨⟨hs6.trans G3.1, hF6.same G3.1⟩, l5, _, _, _, _, _, _, _, _, _, _, _, _, _, rfl, nl5, upd_same, (by rw [List.length_append, List.length_append, List.length_append, hlen]; show 6 * j + 2 + 2 + 2 = 6 * (j + 1); omega), G3.2⟩
          · rw [decide_eq_false (show ¬ V.int x = V.int 0 from fun e => hx0 (V.int.inj e))]
            refine iteT ?_
            refine ⟨_, rfl, ?_⟩
            refine ⟨(by show 2 ≤ sizeLine; decide), fun t1 h1 => ?_⟩
            refine ⟨_, rfl, _, rfl, _, _, rfl, rfl, zy.cmul (show Bd 2 2 by unfold Bd; decide) (by decide) (by decide) (by decide), (by show 2 ≤ sizeLine; decide), fun t2 h2 => ⟨(by show 2 ≤ sizeLine; decide), fun l2 h3 => ?_⟩⟩
            have s1 := same_upd (o := .tup [.int y, .int x]) h1
            have s2 := same_upd (o := .tup [.int x, .int (y * 2)]) h2
            have s3 := same_upd (o := .lst [.ref t1, .ref t2]) h3
            refine ⟨l4, l2, _, _, rfl, rfl, ((s1.trans s2).trans s3) _ _ L4, upd_same, (by show _ ≤ sizeLine; rw [List.length_append, List.length_append, hlen]; exact Nat.le_trans (show 6 * j + 2 + 2 + 2 ≤ 1000 by omega) (by decide)), fun l5 h4 => ?_⟩
            have G3 := grow gB h1 h2 h3 h4 hx0 hy2 by1 bx0 bx0 by2
            have nl5 : l5 ≠ fa := feed_new (((hF6.same s1).same s2).same s3) h4
            exact ⟨⟨hs6.trans G3.1, hF6.same G3.1⟩, l5, _, _, _, _, _, _, _, _, _, _, _, _, _, rfl, nl5, upd_same, (by rw [List.length_append, List.length_append, List.length_append, hlen]; show 6 * j + 2 + 2 + 2 = 6 * (j + 1); omega), G3.2⟩
        · rintro σ H2 ⟨⟨hs, hF⟩, l, acc, v1, v4, v5, v6, v7, v8, v9, v10, v11, v12, v13, v14, rfl, nl, hl, hlen, hA⟩
          have hlen : acc.length = 24 := hlen
          refine ⟨_, rfl, l, rfl, ⟨_, SqL.of hl⟩, fun E hE => ?_⟩
          have frE : H E = none := hs.free hE
          have eE := same_upd (o := .lst []) hE
          refine lc_list (K := K) (a := l) (xs := acc) (fun i H' => Same H2 H' ∧ ∃ rs, H' E = some (.lst rs) ∧ rs.length = i ∧ ∀ (j : Nat) (v u : V), rs[j]? = some v → acc[j]? = some u → Zp C H' v u) ⟨eE, [], upd_same, rfl, fun j v u h => by simp at h⟩ (fun i H' _ ⟨s, _⟩ => SqL.of (s _ _ hl)) ?_ ?_
          · rintro i v H' hi ⟨s, rs, hR, hl', hr'⟩
            obtain ⟨p, x, y, rfl, hp, hy, zx, zy⟩ := (hA v (List.mem_of_getElem? hi)).same s
            refine ⟨p, _, rfl, SqT.of hp, rfl, _, _, rfl, _, _, rfl, rfl, ?_⟩
            refine ⟨rfl, ?_⟩
            refine ⟨_, rfl, _, rfl, ?_⟩
            intro o d h1 h2 h3
            refine made1 h1 h2 h3 hy (zy.le (by decide)) fun H4 s4 r4 => ?_
            have hR4 := s4 _ _ hR
            have hi3 : i < 1000 := by
              have := (List.getElem?_eq_some_iff.mp hi).1
              omega
            refine ⟨rs, hR4, by rw [hl']; exact Nat.lt_of_lt_of_le hi3 (by decide), fun b o e => ?_, rs ++ [.ref o], upd_same, by rw [List.length_append, hl']; rfl, fun j v u hv hu => ?_⟩
            · rw [upd_ne (ne_of_none e hE)]
              exact s4 _ _ (s _ _ e)
            · by_cases hj : j < i
              · rw [List.getElem?_append_left (by omega)] at hv
                exact ((hr' j v u hv hu).same s4).upd hR4
              · rw [List.getElem?_append_right (by omega)] at hv
                have hj2 : j = i := by
                  rcases Nat.lt_or_ge (j - rs.length) 1 with h | h
                  · omega
                  · rw [List.getElem?_eq_none (by simpa using h)] at hv
                    cases hv
                subst hj2
                rw [hl', Nat.sub_self] at hv
                cases hv
                rw [hi] at hu
                cases hu
                exact Zp.upd ⟨o, p, x, y, rfl, rfl, s4 _ _ hp, hy, zx, zy, r4⟩ hR4
          · rintro H3 ⟨s3, rs, hR, hl', hr'⟩
            have hs3 := hs.trans s3
            have hA3 := s3 _ _ hl
            have hll : rs.length = acc.length := hl'
            clear hA hF frE eE hE
            refine ⟨_, rfl, _, rfl, E, l, rs, acc, rfl, SqL.of hR, SqL.of hA3, ?_⟩
            refine RZ.for_zipL (K := K) hll (fun _ σ H' => Same H3 H' ∧ ∃ v1 v4 v5 v6 v7 v9 v10 v11 v12 v13 v14 : Option V, σ = [some (.ref a), v1, some (.ref fa), some (.ref l), v4, v5, v6, v7, some (.ref E), v9, v10, v11, v12, v13, v14]) ⟨Same.refl _, _, _, _, _, _, _, _, _, _, _, _, rfl⟩ (fun i σ H' ⟨s, _⟩ => ⟨SqL.of (s _ _ hR), SqL.of (s _ _ hA3)⟩) ?_ ?_
            · rintro i xv yv T0 σ H4 hxv hyv ⟨s4, v1, v4, v5, v6, v7, v9, v10, v11, v12, v13, v14, rfl⟩ hT
              obtain ⟨o, p, x, y, rfl, rfl, hp, hy, zx, zy, rO⟩ := (hr' i _ _ hxv hyv).same s4
              refine ⟨T0, _, rfl, SqT.of upd_same, rfl, _, _, rfl, _, _, rfl, rfl, ?_⟩
              have eT := same_upd (o := .tup [.ref o, .ref p]) hT
              have hp := eT _ _ hp
              have rO := rO.same eT
              have s5 := s4.trans eT
              generalize upd H4 T0 (.tup [.ref o, .ref p]) = H5 at hp rO s5 ⊢
              clear eT hT s4
              refine ⟨_, rfl, _, rfl, E, l, rs, acc, rfl, SqL.of (s5 _ _ hR), SqL.of (s5 _ _ hA3), ?_⟩
              refine RZ.for_zipL (K := K) hll (fun _ σ H' => Same H5 H' ∧ ∃ v1 v4 v5 v6 v7 v11 v12 v13 v14 : Option V, σ = [some (.ref a), v1, some (.ref fa), some (.ref l), v4, v5, v6, v7, some (.ref E), some (.ref o), some (.ref p), v11, v12, v13, v14]) ⟨Same.refl _, _, _, _, _, _, _, _, _, _, rfl⟩ (fun i σ H' ⟨s, _⟩ => ⟨SqL.of (s _ _ (s5 _ _ hR)), SqL.of (s _ _ (s5 _ _ hA3))⟩) ?_ ?_
              · rintro j xv yv T0 σ H6 hxv2 hyv2 ⟨s6, v1, v4, v5, v6, v7, v11, v12, v13, v14, rfl⟩ hT
                obtain ⟨o2, p2, x2, y2, rfl, rfl, hp2, hy2, zx2, zy2, rO2⟩ := ((hr' j _ _ hxv2 hyv2).same s5).same s6
                refine ⟨T0, _, rfl, SqT.of upd_same, rfl, _, _, rfl, _, _, rfl, rfl, ?_⟩
                have eT := same_upd (o := .tup [.ref o2, .ref p2]) hT
                have hp2 := eT _ _ hp2
                have rO2 := rO2.same eT
                have hp7 := eT _ _ (s6 _ _ hp)
                have rO7 := (rO.same s6).same eT
                have s7 := s6.trans eT
                generalize upd H6 T0 (.tup [.ref o2, .ref p2]) = H7 at hp2 rO2 hp7 rO7 s7 ⊢
                clear eT hT s6
                obtain ⟨do7, hO7⟩ := id rO7
                obtain ⟨do2, hO2⟩ := id rO2
                refine ⟨_, rfl, p, _, _, _, rfl, rfl, SqT.of hp7, at0, _, rfl, p2, _, _, _, rfl, rfl, SqT.of hp2, at1, _, _, rfl, rfl, zx.cmul zy2 (by decide) (by decide) (by decide), ?_⟩
                refine ⟨_, rfl, p, _, _, _, rfl, rfl, SqT.of hp7, at1, _, rfl, p2, _, _, _, rfl, rfl, SqT.of hp2, at0, _, _, rfl, rfl, zy.cmul zx2 (by decide) (by decide) (by decide), ?_⟩
                refine ⟨rfl, ?_⟩
                rw [dec_int]
                refine ⟨_, rfl, _, rfl, o, do7, _, _, rfl, hO7, ins_ty T hO2, T.nf, o, .ref o2, _, _, rfl, rO7, .inl ⟨o2, _, _, rfl, rO2, ?_⟩⟩
                rw [low_dec hy hy2]
                refine ⟨_, rfl, rfl, _, rfl, ?_⟩
                rw [decide_eq_true (rfl : V.bl (decide (x * y2 = y * x2)) = V.bl (decide (x * y2 = y * x2)))]
                refine iteF ?_
                refine ⟨_, rfl, _, rfl, o, do7, _, _, rfl, hO7, ins_ty T hO2, T.nf, o, .ref o2, _, _, rfl, rO7, .inl ⟨o2, _, _, rfl, rO2, ?_⟩⟩
                rw [low_dec hy hy2]
                refine ⟨_, rfl, rfl, _, rfl, ?_⟩
                rw [decide_eq_false (show ¬ V.bl (!decide (x * y2 = y * x2)) = V.bl (decide (x * y2 = y * x2)) from by cases decide (x * y2 = y * x2) <;> exact fun e => nomatch (V.bl.inj e))]
                refine iteF ?_
                exact ⟨s7, _, _, _, _, _, _, _, _, _, rfl⟩
              · rintro σ H6 ⟨s6, v1, v4, v5, v6, v7, v11, v12, v13, v14, rfl⟩
                have hp6 := s6 _ _ hp
                have rO6 := rO.same s6
                obtain ⟨d6, hO6⟩ := id rO6
                have btx := (zx.nt hy).le (show 100 ≤ 1900 by decide)
                have bby := (zy.nb (a := x) hy).le (show 100 ≤ 1900 by decide)
                refine ⟨_, rfl, o, C, d6, _, _, rfl, hO6, T.cl, T.nT, Rf_top _ _, ?_⟩
                refine ⟨_, rfl, o, d6, _, rfl, hO6, o, _, _, rfl, rO6, btx, bby, fun H7 s7 => ⟨_, rfl, ?_⟩⟩
                have rO7 := rO6.same s7
                obtain ⟨d7, hO7⟩ := id rO7
                refine ⟨_, rfl, o, C, d7, _, _, rfl, hO7, T.cl, T.nT, Rf_top _ _, _, rfl, o, C, d7, _, _, rfl, hO7, T.cl, T.nB, Rf_bot _ _, (by show 2 ≤ sizeLine; decide), fun p1 h1 => ?_⟩
                refine ⟨_, rfl, (by show 1 ≤ sizeLine; decide), fun l1 h2 => ?_⟩
                intro d1 h3
                refine ⟨by show 9 ≤ sizeLine; decide, fun L hL => ?_⟩
                have e1 := same_upd (o := .tup [.int (nt x y), .int (nb x y)]) h1
                have e2 := same_upd (o := .lst [.ref o]) h2
                have e3 := same_upd (o := .dK []) h3
                have e4 := same_upd (o := .lst [.int (nt x y), .str (rt (nt x y) (nb x y)), .ref p1, .non, .bl true, .ref l1, .ref d1, .int 0, .int 1]) hL
                have P1 := ((e2.trans e3).trans e4) _ _ (upd_same (H := H7) (a := p1) (o := .tup [.int (nt x y), .int (nb x y)]))
                have Q1 := (e3.trans e4) _ _ (upd_same (H := upd H7 p1 (.tup [.int (nt x y), .int (nb x y)])) (a := l1) (o := .lst [.ref o]))
                have D1 := e4 _ _ (upd_same (H := upd (upd H7 p1 (.tup [.int (nt x y), .int (nb x y)])) l1 (.lst [.ref o])) (a := d1) (o := .dK []))
                have LL := upd_same (H := upd (upd (upd H7 p1 (.tup [.int (nt x y), .int (nb x y)])) l1 (.lst [.ref o])) d1 (.dK [])) (a := L) (o := .lst [.int (nt x y), .str (rt (nt x y) (nb x y)), .ref p1, .non, .bl true, .ref l1, .ref d1, .int 0, .int 1])
                have S8 := s7.trans (((e1.trans e2).trans e3).trans e4)
                have rO8 := rO6.same S8
                have hp8 := S8 _ _ hp6
                generalize upd (upd (upd (upd H7 p1 (.tup [.int (nt x y), .int (nb x y)])) l1 (.lst [.ref o])) d1 (.dK [])) L (.lst [.int (nt x y), .str (rt (nt x y) (nb x y)), .ref p1, .non, .bl true, .ref l1, .ref d1, .int 0, .int 1]) = H8 at P1 Q1 D1 LL S8 rO8 hp8 ⊢
                clear e1 e2 e3 e4 h1 h2 h3 hL
                have hk : ∀ v ∈ [V.int (nt x y), .str (rt (nt x y) (nb x y)), .ref p1, .non, .bl true, .ref l1, .ref d1, .int 0, .int 1], ∃ Tn, Kd K H8 v Tn ∧ Alien K C Tn := fun v hv => by
                  simp only [List.mem_cons, List.not_mem_nil, or_false] at hv
                  rcases hv with rfl | rfl | rfl | rfl | rfl | rfl | rfl | rfl | rfl
                  · exact ⟨_, .int _, A _ (by simp)⟩
                  · exact ⟨_, .str _, A _ (by simp)⟩
                  · exact ⟨_, .tup P1, A _ (by simp)⟩
                  · exact ⟨_, .non, A _ (by simp)⟩
                  · exact ⟨_, .bl _, A _ (by simp)⟩
                  · exact ⟨_, .lst Q1, A _ (by simp)⟩
                  · exact ⟨_, .dK D1, A _ (by simp)⟩
                  · exact ⟨_, .int _, A _ (by simp)⟩
                  · exact ⟨_, .int _, A _ (by simp)⟩
                refine ⟨L, rfl, ⟨_, SqL.of LL⟩, for_list (K := K) (a := L) (xs := [V.int (nt x y), .str (rt (nt x y) (nb x y)), .ref p1, .non, .bl true, .ref l1, .ref d1, .int 0, .int 1])
                  (fun _ σ H' => Same H8 H' ∧ ∃ v1 v4 v5 v6 v7 v11 v12 v13 v14 : Option V, σ = [some (.ref a), v1, some (.ref fa), some (.ref l), v4, v5, v6, v7, some (.ref E), some (.ref o), some (.ref p), v11, v12, v13, v14])
                  ⟨Same.refl _, _, _, _, _, _, _, _, _, _, rfl⟩ (fun i σ H' _ ⟨s, _⟩ => SqL.of (s _ _ LL)) ?_ ?_⟩
                · rintro j v σ H9 hv ⟨s9, v1, v4, v5, v6, v7, v11, v12, v13, v14, rfl⟩
                  obtain ⟨Tn, kd, al⟩ := hk v (List.mem_of_getElem? hv)
                  have kd := Kd.same kd s9
                  have rO9 := rO8.same s9
                  obtain ⟨d9, hO9⟩ := id rO9
                  refine ⟨_, rfl, _, rfl, o, d9, _, _, rfl, hO9, kd.ty, al.nf, o, v, _, _, rfl, rO9, .inr ⟨Tn, kd.ty, al, _, rfl, iteF ?_⟩⟩
                  refine ⟨_, rfl, _, rfl, o, d9, _, _, rfl, hO9, kd.ty, al.nf, o, v, _, _, rfl, rO9, .inr ⟨Tn, kd.ty, al, _, rfl, iteF ?_⟩⟩
                  refine ⟨_, rfl, _, rfl, o, d9, _, Tn, rfl, hO9, kd, al.su, o, v, _, _, rfl, rO9, .inr ⟨Tn, kd.ty, al, _, rfl, iteF ?_⟩⟩
                  exact ⟨s9, _, _, _, _, _, _, _, _, _, rfl⟩
                · rintro σ H9 ⟨s9, v1, v4, v5, v6, v7, v11, v12, v13, v14, rfl⟩
                  have hp9 := s9 _ _ hp8
                  have rO9 := rO8.same s9
                  refine ⟨_, rfl, _, rfl, p, _, _, _, rfl, rfl, SqT.of hp9, at0, _, rfl, p, _, _, _, rfl, rfl, SqT.of hp9, at1, ?_⟩
                  intro u1 du1 g1 g2 g3
                  refine made1 g1 g2 g3 hy (zy.le (by decide)) fun H10 s10 rU => ?_
                  refine ⟨by show 1 ≤ sizeLine; decide, fun m1 hm1 => ?_⟩
                  have em := same_upd (o := .lst [.ref u1]) hm1
                  have rU1 := rU.same em
                  have rO10 := (rO9.same s10).same em
                  obtain ⟨dU, hU⟩ := id rU1
                  obtain ⟨dO, hO⟩ := id rO10
                  refine ⟨m1, .ref u1, rfl, upd_same, ⟨u1, o, dU, dO, _, _, rfl, rfl, hU, hO, _, _, rU1, rO10⟩, fun H11 s11 => ⟨_, rfl, iteF ?_⟩⟩
                  have S11 : Same H9 H11 := (s10.trans em).trans s11
                  have hp11 := S11 _ _ hp9
                  have rO11 := rO9.same S11
                  refine ⟨_, rfl, (by show 1 ≤ sizeLine; decide), fun m2 hm2 => ?_⟩
                  have em2 := same_upd (o := .lst [.ref o]) hm2
                  have hp12 := em2 _ _ hp11
                  refine ⟨_, rfl, p, _, _, _, rfl, rfl, SqT.of hp12, at0, _, rfl, p, _, _, _, rfl, rfl, SqT.of hp12, at1, ?_⟩
                  intro u2 du2 g4 g5 g6
                  refine made1 g4 g5 g6 hy (zy.le (by decide)) fun H13 s13 rU2 => ?_
                  refine ⟨by show 1 ≤ sizeLine; decide, fun m3 hm3 => ?_⟩
                  have em3 := same_upd (o := .lst [.ref u2]) hm3
                  have rU3 := rU2.same em3
                  have rO14 := ((rO11.same em2).same s13).same em3
                  obtain ⟨dU3, hU3⟩ := id rU3
                  obtain ⟨dO14, hO14⟩ := id rO14
                  refine ⟨⟨m2, m3, [.ref o], [.ref u2], rfl, rfl, (s13.trans em3) _ _ upd_same, upd_same, Prs.cons ⟨o, u2, dO14, dU3, _, _, rfl, rfl, hO14, hU3, _, _, rO14, rU3⟩ Prs.nil⟩, fun H15 s15 => ⟨_, rfl, iteF ?_⟩⟩
                  have S15 : Same H11 H15 := ((em2.trans s13).trans em3).trans s15
                  exact ⟨s5.trans (((s6.trans S8).trans s9).trans (S11.trans S15)), _, _, _, _, _, _, _, _, _, _, _, rfl⟩
            · rintro σ H4 ⟨s4, v1, v4, v5, v6, v7, v9, v10, v11, v12, v13, v14, rfl⟩
              exact ⟨hs3.trans s4, _, _, _, _, _, _, _, _, _, _, _, _, _, _, rfl⟩
      · rintro σ H' ⟨hs, v1, v2, v3, v4, v5, v6, v7, v8, v9, v10, v11, v12, v13, v14, rfl⟩
        exact q H'
end
end RT
set_option maxRecDepth 100000
set_option maxHeartbeats 0
namespace RH
open PySem PySem.Spec PyProof.Rows L2 GL MX RT HX
def alienB (K : PySem.W.Frag) (C : Addr) (T : String) : Bool := PySem.W.notFirst K C (.type T) && (decide (PySem.W.kitOne K (.type T) (.ref C) = some false) && decide (PySem.W.subIn K (.ref C) (.type T) = some false))
def ex (K : PySem.W.Frag) : Bool := extraR K && ["int", "str", "tuple", "NoneType", "bool", "list", "dict"].all (alienB K (He.ga K "Ratio"))
def df (x : Str) (st : Stmt) : He.DefD := ⟨(x, none), x, x, defArgs st, defBody st, defScope st, [], []⟩
def dm (m q : Str) (st : Stmt) : He.DefD := ⟨("Ratio", some m), m, q, defArgs st, defBody st, defScope st, [], []⟩
def fn : List He.DefD := [dm "__init__" "Ratio.__init__" sInit, dm "__eq__" "Ratio.__eq__" sEq, dm "__ne__" "Ratio.__ne__" sNe, dm "__str__" "Ratio.__str__" sStr, df "_digits" sDig, df "_law_feed" sFeed, df "_law_take" sTake, df "_law_pick" sPick, df "_law_integer" sInteger, df "_law_pair" sPair, df "law" sLaw]
def fa : List He.Fa := [.glo "Ratio", .cls "Ratio", .mkr "Ratio", .noat "Ratio" "top", .noat "Ratio" "bottom", .int "_BLOCK" Bk, .free "len", .free "abs", .free "max", .free "min", .free "isinstance", .free "str", .free "repr", .free "range", .free "zip", .meth "Ratio" "__eq__", .meth "Ratio" "__ne__", .meth "Ratio" "__str__", .glo "_digits", .glo "_law_feed", .glo "_law_take", .glo "_law_pick", .glo "_law_integer", .glo "_law_pair", .glo "law"]
abbrev R : PySem.W.OpenRow := PySem.W.OpenLaw.row PySem.Challenge.rw_foldparts_k03_equal_ratios
abbrev hk : PySem.W.Hook := hookX ex 4 fa fn
abbrev qv : Program := PySem.W.view R.prog [0, 19]
def names : List PySem.Str := ["_wall", "PartError", "ZeroDenominator", "_BLOCK_DIGITS", "_BLOCK", "Ratio", "_digits", "_law_feed", "_law_take", "_law_pick", "_law_integer", "_law_pair", "_law_lowest", "_law_text", "_law_is"]
def ob (s : PySem.W.SharedT) : AlX := obsX ex 4 fa fn (HandSHeadRun.getT s)
theorem ob_eq (s : PySem.W.SharedT) : ob s = hk.obs s.abs := obsX_eq (HandSHeadRun.getT_eq s)
theorem run (w : World) : HandSHeadRun.RunEqI R qv hk ob 8000 names w := by
  unfold HandSHeadRun.RunEqI
  kernel_rfl
theorem facts {P : Program} {w : World} {K : PySem.W.Frag} {h : Heap} {mg : Str → Option Value} {f : Addr} (X : K.In h) (G : h.Ns mainGlobals mg) (hfa : mg ("law" : Str) = some (.ref f)) (e : ex K = true) (c : He.SaysD fa fn K) :
    ∀ base : Heap, K.In base → base.Ns mainGlobals mg → FnG P w K mg base 7 f (spLaw K) := by
  intro base KB GB
  have f_cls_Ratio := He.cls_ok (c.fact 1 (f := .cls "Ratio") rfl)
  have f_mkr_Ratio := He.mkr_ok (c.fact 2 (f := .mkr "Ratio") rfl)
  have f_noat_top := He.noat_ok (c.fact 3 (f := .noat "Ratio" "top") rfl)
  have f_noat_bottom := He.noat_ok (c.fact 4 (f := .noat "Ratio" "bottom") rfl)
  have f_int__BLOCK := He.int_ok X G (c.fact 5 (f := .int "_BLOCK" Bk) rfl)
  have f_free_len := He.free_ok X G (c.fact 6 (f := .free "len") rfl)
  have f_free_abs := He.free_ok X G (c.fact 7 (f := .free "abs") rfl)
  have f_free_max := He.free_ok X G (c.fact 8 (f := .free "max") rfl)
  have f_free_min := He.free_ok X G (c.fact 9 (f := .free "min") rfl)
  have f_free_isinstance := He.free_ok X G (c.fact 10 (f := .free "isinstance") rfl)
  have f_free_str := He.free_ok X G (c.fact 11 (f := .free "str") rfl)
  have f_free_repr := He.free_ok X G (c.fact 12 (f := .free "repr") rfl)
  have f_free_range := He.free_ok X G (c.fact 13 (f := .free "range") rfl)
  have f_free_zip := He.free_ok X G (c.fact 14 (f := .free "zip") rfl)
  have gC_Ratio := He.glo_ok X G (c.fact 0 (f := .glo "Ratio") rfl)
  obtain ⟨fd_init, F_init⟩ := c.def_ 0 (d := dm "__init__" "Ratio.__init__" sInit) rfl
  obtain ⟨fd_eq, F_eq⟩ := c.def_ 1 (d := dm "__eq__" "Ratio.__eq__" sEq) rfl
  have m_eq := He.meth_ok (c.fact 15 (f := .meth "Ratio" "__eq__") rfl)
  obtain ⟨fd_ne, F_ne⟩ := c.def_ 2 (d := dm "__ne__" "Ratio.__ne__" sNe) rfl
  have m_ne := He.meth_ok (c.fact 16 (f := .meth "Ratio" "__ne__") rfl)
  obtain ⟨fd_str, F_str⟩ := c.def_ 3 (d := dm "__str__" "Ratio.__str__" sStr) rfl
  have m_str := He.meth_ok (c.fact 17 (f := .meth "Ratio" "__str__") rfl)
  obtain ⟨fd_digits, F_digits⟩ := c.def_ 4 (d := df "_digits" sDig) rfl
  have g_digits := He.glo_ok X G (c.fact 18 (f := .glo "_digits") rfl)
  obtain ⟨fd_law_feed, F_law_feed⟩ := c.def_ 5 (d := df "_law_feed" sFeed) rfl
  have g_law_feed := He.glo_ok X G (c.fact 19 (f := .glo "_law_feed") rfl)
  obtain ⟨fd_law_take, F_law_take⟩ := c.def_ 6 (d := df "_law_take" sTake) rfl
  have g_law_take := He.glo_ok X G (c.fact 20 (f := .glo "_law_take") rfl)
  obtain ⟨fd_law_pick, F_law_pick⟩ := c.def_ 7 (d := df "_law_pick" sPick) rfl
  have g_law_pick := He.glo_ok X G (c.fact 21 (f := .glo "_law_pick") rfl)
  obtain ⟨fd_law_integer, F_law_integer⟩ := c.def_ 8 (d := df "_law_integer" sInteger) rfl
  have g_law_integer := He.glo_ok X G (c.fact 22 (f := .glo "_law_integer") rfl)
  obtain ⟨fd_law_pair, F_law_pair⟩ := c.def_ 9 (d := df "_law_pair" sPair) rfl
  have g_law_pair := He.glo_ok X G (c.fact 23 (f := .glo "_law_pair") rfl)
  obtain ⟨fd_law, F_law⟩ := c.def_ 10 (d := df "law" sLaw) rfl
  have g_law := He.glo_ok X G (c.fact 24 (f := .glo "law") rfl)
  obtain ⟨x1, x2⟩ := extraR_ok X G ((He.ba e).1)
  obtain ⟨y1, y2, y3⟩ := more_ok f_cls_Ratio x2
  have T : Txt K mg (He.ga K "Ratio") := ⟨f_cls_Ratio, f_noat_top, f_noat_bottom, gC_Ratio, x1, f_int__BLOCK, f_free_len, f_free_abs, f_free_max, f_free_min, f_free_isinstance, f_free_str, f_free_repr, f_free_range, y1, y2, y3⟩
  have M := f_mkr_Ratio
  have ef := hfa.symm.trans g_law
  cases ef
  have GSt : FnOk P w K mg base CX0 2 _ fd_str ["self"] (spStr (He.ga K "Ratio")) := ok_str F_str T g_digits F_digits
  have GIn : FnOk P w K mg base CX0 3 _ fd_law_integer ["feed"] spInteger := ok_integer F_law_integer T g_law_take F_law_take g_law_pick F_law_pick
  have GPa : FnOk P w K mg base CX0 4 _ fd_law_pair ["feed"] spPair := ok_pair F_law_pair g_law_integer F_law_integer GIn
  have A : ∀ T ∈ ["int", "str", "tuple", "NoneType", "bool", "list", "dict"], Alien K (He.ga K "Ratio") T := fun T hT => by
    have h := List.all_eq_true.mp (He.ba e).2 T hT
    obtain ⟨h1, h2⟩ := He.ba h
    obtain ⟨h2, h3⟩ := He.ba h2
    exact ⟨h1, of_decide_eq_true h2, of_decide_eq_true h3⟩
  exact ok_law F_law T M F_init g_law_feed F_law_feed g_law_pair F_law_pair GPa g_law_take F_law_take g_law_pick F_law_pick m_str F_str GSt m_eq F_eq m_ne F_ne f_free_zip A
end RH
open PySem PySem.W PySem.Calls PyProof.Rows
set_option maxRecDepth 100000 in
set_option maxHeartbeats 0 in
theorem PySem.Challenge.cw_foldparts_k03_equal_ratios_holds : PySem.Challenge.rw_foldparts_k03_equal_ratios.Holds := by
  w_on; o_law
  refine HandSHeadRun.head_imp (r := OpenLaw.row PySem.Challenge.rw_foldparts_k03_equal_ratios) (q := RH.qv) (H := RH.hk) (ob := RH.ob) (M := 8000) (loose := RH.names) (d := HandSHeadRun.topDef (OpenLaw.row PySem.Challenge.rw_foldparts_k03_equal_ratios).prog 19) (kwd := []) RH.ob_eq
    RH.run (by kernel_rfl) (by kernel_rfl) (by kernel_rfl) (by rfl) (by first | assumption | decide +kernel) (by decide +kernel) ⟨rfl, rfl, rfl, rfl, rfl, by decide +kernel⟩ ?hw ?hc
  case hw => w_witness2
  case hc =>
    refine GL.walk_G (l := PySem.Challenge.rw_foldparts_k03_equal_ratios) (n := 63) (k := 7) rfl (by decide) (by kernel_rfl) (GL.rg_caller.le (by decide)) ?F
    intro w mg fa h Y G hmg0
    obtain ⟨K, KX, e, c⟩ := Y
    have hmg : mg ("law" : PySem.Str) = some (.ref fa) := by
      have e : (HandSHeadRun.topDef (OpenLaw.row PySem.Challenge.rw_foldparts_k03_equal_ratios).prog 19).name = ("law" : PySem.Str) := by kernel_rfl
      rw [← e]
      exact hmg0
    exact ⟨K, RT.spLaw K, KX, fun H a ns hl _ hS => ⟨a, ns, rfl, hS, hl, fun _ => rfl⟩, RH.facts KX G hmg e c⟩
