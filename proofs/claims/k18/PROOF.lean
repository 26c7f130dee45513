import PyProof.Rows.All
import Wide.All
import OpenK.AllK
import Wide.FinOn
import HandS.ForMost
import HandS.Wide
import HandS.IsInst
import HandS.Defaults
import HandS.Codes
import HandS.Style
import PyProof.ReprRoads
import PyProof.ReprLen
import HandS.Zip
import HandS.NoneIn
import HandS.TupAny
import HandS.SortInts
import HandS.SetFor
import HandS.RevRange
import HandS.Walk
import HandS.TupSets
import HandS.WordsExc
import HandS.ExcCtx
import HandS.ExcOwn
import HandS.TryOnly
import PySem.Challenge.RW_unlikepairs_k18_equal_effects
set_option Elab.async false
set_option linter.all false
set_option maxRecDepth 100000
set_option maxHeartbeats 4000000
namespace UP
open PySem PySem.Spec PyProof.Rows L2

/-! ### a def that keeps a promise, by its name -/
section
variable (P : Program) (w : World) (K : PySem.W.Frag) (mg : Str → Option Value) (base : Heap)
def Has (k : Nat) (x : Str) (ps : List Str) (sp : Sp) : Prop :=
  ∃ f fd, mg x = some (.ref f) ∧ PySem.W.keepIn K (.ref f) = true ∧ Binds K fd ps [] ∧ FnOk P w K mg base CX0 k f fd ps sp
def Df (x : Str) (st : Stmt) : Prop := ∃ f fd, mg x = some (.ref f) ∧ Fun K x x st f fd
end
theorem Df.of {K : PySem.W.Frag} {mg : Str → Option Value} {x : Str} {st : Stmt} {f : Addr} {fd : FuncData} (g : mg x = some (.ref f)) (F : Fun K x x st f fd) : Df K mg x st := ⟨f, fd, g, F⟩
section
variable {P : Program} {w : World} {K : PySem.W.Frag} {mg : Str → Option Value} {base : Heap}
theorem has_of {x : Str} {st : Stmt} {ps N : List Str} {k : Nat} {sp : Sp} (D : Df K mg x st) (S : FnScope N ps (defScope st))
    (hb : ∀ (kV doc pm : Value) (an : Option Addr) (cdv ct : Value) (us : List Value), us.length = ps.length → bindArgs (PySem.W.fnOf x x (defArgs st) (defBody st) (defScope st) .none kV doc pm an cdv ct) ⟨us, []⟩ = pure (ps.zip us))
    (len : ∀ vs H Q E, sp vs H Q E → vs.length = ps.length)
    (body : ∀ (f : Addr) (cdv : Value) (A : Around) (outer : List Env) (s : Shared) (H : Hp) (vs : List V) (Q : VK) (E : XK), Room k (A.deeper (envOfC x (defScope st) s.heap.objs.size f cdv)) → sp vs H Q E →
      ∃ t, PSs (cxOf CX0 P w K mg base N x (defScope st) f cdv A outer s H E).nox (defBody st) t ∧ t { nx := fun _ H' => Q .non H', rt := Q } (start N vs) H) :
    Has P w K mg base (k + 1) x ps sp := by
  obtain ⟨f, fd, g, F⟩ := D
  exact ⟨f, fd, g, F.kp, F.binds hb, F.ok S len fun cdv A outer s H vs Q E hr h => body f cdv A outer s H vs Q E hr h⟩
theorem Has.weak {x : Str} {ps : List Str} {k : Nat} {sp sp' : Sp} (h : Has P w K mg base k x ps sp) (e : sp = sp') : Has P w K mg base k x ps sp' := e ▸ h
end
section
variable {X : Cx}
theorem pe_callH {k : Nat} {x : Str} {ps : List Str} {sp : Sp} {p pos : Pos} {e : Expr} {es : List Expr} {t : TA} (G : Has X.prog X.w X.K X.mg X.base k x ps sp) (hr : Room k X.A) (hg : Gl X x) (ha : PA X (e :: es) t)
    (hdb : (x == ("__debug__" : Str)) = false := by decide) (he : starEach (e :: es) X.env = (false, eval e X.env) :: starEach es X.env := by rfl) (hpl : (backTo pos (starEach es X.env)).any (·.1) = false := by rfl) :
    PE X (.Call (.Name x p) (e :: es) [] pos) (tCall sp [] E0 t) := by
  obtain ⟨f, fd, g, kp, b, F⟩ := G
  exact pe_call F hr hg g kp b .nil pass0 ha hdb he hpl
theorem pe_glI {x : Str} {i : Int} {pos : Pos} (h : ∃ t, X.mg x = some (.int i t)) (hg : Gl X x) (hd : (x == ("__debug__" : Str)) = false := by decide) : PE X (.Name x pos) (tC (.int i)) := by
  obtain ⟨t, h⟩ := h
  exact pe_glob hg h ⟨t, rfl⟩ hd
end

/-! ### heaps -/
theorem same_upd {H : Hp} {p : Addr} {o : HO} (h : H p = none) : Same H (upd H p o) := fun b x e => by
  rw [upd_ne (ne_of_none e h)]
  exact e
/-- all but the object at sp is as it was -/
def But (sp : Addr) (H H' : Hp) : Prop := ∀ b o, b ≠ sp → H b = some o → H' b = some o
theorem Same.but {sp : Addr} {H H' : Hp} (h : Same H H') : But sp H H' := fun b o _ e => h b o e
theorem But.trans {sp : Addr} {H H1 H2 : Hp} (a : But sp H H1) (b : But sp H1 H2) : But sp H H2 := fun c o n e => b c o n (a c o n e)
theorem But.refl {sp : Addr} {H : Hp} : But sp H H := fun _ _ _ e => e
theorem but_upd {sp : Addr} {H : Hp} {o : HO} : But sp H (upd H sp o) := fun b x n e => by
  rw [upd_ne n]
  exact e
theorem small {n : Nat} (h : n ≤ 1000000) : n < sizeLine := Nat.lt_of_le_of_lt h (by decide)
theorem smallE {n : Nat} (h : n ≤ 1000000) : n ≤ sizeLine := Nat.le_of_lt (small h)

/-! ### runs and states -/
abbrev Run := Str × Int
def RunV (H : Hp) (v : V) (r : Run) : Prop := ∃ t, v = .ref t ∧ H t = some (.tup [.str r.1, .int r.2])
def Runs (H : Hp) (a : Addr) (rs : List Run) : Prop := ∃ xs, H a = some (.lst xs) ∧ Paired (RunV H) xs rs
def StV (H : Hp) (v : V) : Option Run → Prop
  | none => v = .non
  | some r => RunV H v r
theorem RunV.same {H H' : Hp} {v : V} {r : Run} (s : Same H H') (h : RunV H v r) : RunV H' v r := by
  obtain ⟨t, e, h⟩ := h
  exact ⟨t, e, s _ _ h⟩
theorem Paired.len {α β : Type} {F : α → β → Prop} : ∀ {l₁ : List α} {l₂ : List β}, Paired F l₁ l₂ → l₁.length = l₂.length
  | _, _, .nil => rfl
  | _, _, .cons _ t => congrArg Nat.succ (Paired.len t)
theorem Paired.at {α β : Type} {F : α → β → Prop} : ∀ {l₁ : List α} {l₂ : List β} {i : Nat} {x : α}, Paired F l₁ l₂ → l₁[i]? = some x → ∃ y, l₂[i]? = some y ∧ F x y
  | _, _, _, _, .nil, h => by simp at h
  | _, _, 0, _, .cons h _, e => by
    simp only [List.getElem?_cons_zero, Option.some.injEq] at e
    subst e
    exact ⟨_, by simp, h⟩
  | _, _, i + 1, _, .cons _ t, e => by
    simp only [List.getElem?_cons_succ] at e ⊢
    exact Paired.at t e
theorem Paired.at' {α β : Type} {F : α → β → Prop} : ∀ {l₁ : List α} {l₂ : List β} {i : Nat} {y : β}, Paired F l₁ l₂ → l₂[i]? = some y → ∃ x, l₁[i]? = some x ∧ F x y
  | _, _, _, _, .nil, h => by simp at h
  | _, _, 0, _, .cons h _, e => by
    simp only [List.getElem?_cons_zero, Option.some.injEq] at e
    subst e
    exact ⟨_, by simp, h⟩
  | _, _, i + 1, _, .cons _ t, e => by
    simp only [List.getElem?_cons_succ] at e ⊢
    exact Paired.at' t e
theorem Paired.imp {α β : Type} {F G : α → β → Prop} (f : ∀ a b, F a b → G a b) : ∀ {l₁ : List α} {l₂ : List β}, Paired F l₁ l₂ → Paired G l₁ l₂
  | _, _, .nil => .nil
  | _, _, .cons h t => .cons (f _ _ h) (Paired.imp f t)
theorem Paired.app {α β : Type} {F : α → β → Prop} : ∀ {l₁ m₁ : List α} {l₂ m₂ : List β}, Paired F l₁ l₂ → Paired F m₁ m₂ → Paired F (l₁ ++ m₁) (l₂ ++ m₂)
  | _, _, _, _, .nil, h => h
  | _, _, _, _, .cons h t, k => .cons h (Paired.app t k)
theorem Paired.dropp {α β : Type} {F : α → β → Prop} : ∀ {l₁ : List α} {l₂ : List β} (n : Nat), Paired F l₁ l₂ → Paired F (l₁.drop n) (l₂.drop n)
  | _, _, 0, h => h
  | _, _, n + 1, .nil => .nil
  | _, _, n + 1, .cons _ t => by
    simp only [List.drop_succ_cons]
    exact Paired.dropp n t
theorem Paired.takep {α β : Type} {F : α → β → Prop} : ∀ {l₁ : List α} {l₂ : List β} (n : Nat), Paired F l₁ l₂ → Paired F (l₁.take n) (l₂.take n)
  | _, _, 0, h => by simp only [List.take_zero]; exact .nil
  | _, _, n + 1, .nil => .nil
  | _, _, n + 1, .cons h t => by
    simp only [List.take_succ_cons]
    exact .cons h (Paired.takep n t)
theorem Runs.same {H H' : Hp} {a : Addr} {rs : List Run} (s : Same H H') (h : Runs H a rs) : Runs H' a rs := by
  obtain ⟨xs, e, p⟩ := h
  exact ⟨xs, s _ _ e, Paired.imp (fun _ _ => RunV.same s) p⟩
theorem StV.same {H H' : Hp} {v : V} {st : Option Run} (s : Same H H') (h : StV H v st) : StV H' v st := by
  cases st with
  | none => exact h
  | some r => exact RunV.same s h
/-- the spring: a list of three ints -/
def Spr (H : Hp) (sp : Addr) : Prop := ∃ d s c : Int, H sp = some (.lst [.int d, .int s, .int c]) ∧ 0 ≤ d ∧ d.natAbs < 2 ^ 20000 ∧ 0 ≤ s ∧ s < 2305843009213693951
theorem RunV.but {H H' : Hp} {sp : Addr} {v : V} {r : Run} (z : Spr H sp) (s : But sp H H') (h : RunV H v r) : RunV H' v r := by
  obtain ⟨t, e, h⟩ := h
  obtain ⟨_, _, _, hs, _⟩ := z
  exact ⟨t, e, s _ _ (ne_of h hs (by intro q; cases q)) h⟩
theorem Runs.ne {H : Hp} {sp a : Addr} {rs : List Run} (z : Spr H sp) (h : Runs H a rs) : a ≠ sp := by
  obtain ⟨xs, e, p⟩ := h
  obtain ⟨d, s, c, hs, _⟩ := z
  refine ne_of e hs fun q => ?_
  have q := HO.lst.inj q
  subst q
  cases p with
  | cons h _ =>
    obtain ⟨t, e, _⟩ := h
    cases e
theorem Runs.but {H H' : Hp} {sp a : Addr} {rs : List Run} (z : Spr H sp) (s : But sp H H') (h : Runs H a rs) : Runs H' a rs := by
  have n := Runs.ne z h
  obtain ⟨xs, e, p⟩ := h
  exact ⟨xs, s _ _ n e, Paired.imp (fun _ _ => RunV.but z s) p⟩
theorem StV.but {H H' : Hp} {sp : Addr} {v : V} {st : Option Run} (z : Spr H sp) (s : But sp H H') (h : StV H v st) : StV H' v st := by
  cases st with
  | none => exact h
  | some r => exact RunV.but z s h
theorem Spr.same {H H' : Hp} {sp : Addr} (z : Spr H sp) (s : Same H H') : Spr H' sp := by
  obtain ⟨d, e, c, hs, r⟩ := z
  exact ⟨d, e, c, s _ _ hs, r⟩
def KindOk (s : Str) : Prop := 1 ≤ s.length ∧ s.length ≤ 8 ∧ ∀ c ∈ s.cps.toList, 97 ≤ c ∧ c ≤ 122
def RunOk (r : Run) : Prop := KindOk r.1 ∧ 1 ≤ r.2 ∧ r.2 ≤ 1000000000000000000000000000000
def Alt (rs : List Run) : Prop := ∀ (i : Nat) (x y : Run), rs[i]? = some x → rs[i + 1]? = some y → x.1 ≠ y.1
def SeqOk (rs : List Run) : Prop := rs.length ≤ 400 ∧ (∀ r ∈ rs, RunOk r) ∧ Alt rs
end UP

set_option Elab.async false
set_option linter.all false
set_option maxRecDepth 100000
set_option maxHeartbeats 4000000
namespace UP
open PySem PySem.Spec PyProof.Rows L2
/-! ### repr of plain data, where no other repr is under way -/
def rRepr (K : PySem.W.Frag) : List V → Hp → VK → Prop := fun xs H Q => ∃ (a : Addr) (d : PyData), xs = [.ref a] ∧ Dp K H (.ref a) d ∧ d.showable = true ∧ SeqAt.shaped d = true ∧ d.shown.length ≤ sizeLine ∧ Q (.str d.shown) H
theorem call_reprD {X : Cx} (hg : X.A.guards = some []) (hu : X.A.units + 70 < cLine) : CallR X (.builtin "repr") (rRepr X.K) := by
  intro pins s σ H xs us Q I r h
  obtain ⟨a, d, rfl, dp, sh, sp, sz, q⟩ := h
  obtain ⟨u, rfl, ru⟩ := vals1 r
  cases (show u = Value.ref a from ru)
  obtain ⟨as, rd⟩ := Dp.reads I d (.ref a) (.ref a) dp rfl
  have dd := SeqAt.depth_of_shaped sp
  refine repr_of_reads' rd sh (PyData.noDict_hsm (PyData.hasDict_of_canLay d (SeqAt.canLay_of_shaped sp))) hg (by omega) (fun _ _ e => e) (fun h' u tk hk => ?_) sz
  exact ⟨.str d.shown, H, I.kept (t' := tk) hk, ⟨u, rfl⟩, q⟩
/-! ### the law's own call, around it nothing -/
structure FnC (P : Program) (w : World) (K : PySem.W.Frag) (mg : Str → Option Value) (base : Heap) (f : Addr) (fd : FuncData) (ps : List Str) (sp : Sp) : Prop where
  go : ∀ (out : List Env) (s : Shared) (H : Hp) (args : Args) (us : List Value) (vs : List V) (Q : VK) (E : XK), Env0 P w K mg base callerA out s H → BindsTo s fd args (ps.zip us) → Vals vs us → sp vs H Q E →
    codeAny (model P w) callerA (.call (.ref f) args) (CR CX0 out P w H s Q E) s
theorem callerA_room : Room 8 callerA := ⟨rfl, by decide, by decide⟩
section
variable {P : Program} {w : World} {K : PySem.W.Frag} {mg : Str → Option Value} {base : Heap}
theorem fnC_of {x : Str} {st : Stmt} {f : Addr} {fd : FuncData} {ps N : List Str} {sp : Sp} (F : Fun K x x st f fd) (S : FnScope N ps (defScope st)) (len : ∀ vs H Q E, sp vs H Q E → vs.length = ps.length)
    (body : ∀ (cdv : Value) (out : List Env) (s : Shared) (H : Hp) (vs : List V) (Q : VK) (E : XK), Room 7 (callerA.deeper (envOfC x (defScope st) s.heap.objs.size f cdv)) → sp vs H Q E →
      ∃ t, PSs (cxOf CX0 P w K mg base N x (defScope st) f cdv callerA out s H E).nox (defBody st) t ∧ t { nx := fun _ H' => Q .non H', rt := Q } (start N vs) H) : FnC P w K mg base f fd ps sp := by
  obtain ⟨oc, od, kV, doc, pm, an, cdv, ct, osl, rfl, lk, hcd⟩ := F.ex
  refine ⟨fun out s H args us vs Q E e0 hb rv hsp => ?_⟩
  have inS : K.In s.heap := e0.mod.kin.keeps fun b o z => (e0.bs b o z).1
  have noL : s.heap.NoLimit := e0.mod.nolimit.keeps fun b o z => (e0.bs b o z).1
  have kinds : ∀ y ∈ ps.zip us, (defScope st).names.lookup y.1 = some .local ∨ ((defScope st).names.lookup y.1 = some .cell ∧ ((cellsFrom (s.heap.objs.size + 1) (defScope st).names []).lookup y.1).isSome = true) := by
    intro y hy
    rcases S.par y.1 (List.of_mem_zip (a := y.1) (b := y.2) hy).1 with z | z
    · exact Or.inl z
    · exact Or.inr ⟨z, PySem.W.cellsFrom_some _ _ _ (Or.inl z)⟩
  refine codeAny_call_function callerA_room.depth (inS _ _ lk) rfl S.co S.gen rfl (PySem.W.codeRec_of inS hcd) (hb _ _ _ _ ?_)
  refine wpAny_newFunctionEnv_cells S.kind kinds fun env he s1 inC => ?_
  subst he
  refine ⟨noL.keeps inC.toInCall.keep, codeAny_func ?_⟩
  obtain ⟨t, ht0, hq⟩ := body cdv out s H vs Q E (callerA_room.deeper _) hsp
  have ht := PSs.nox ht0
  have I0 : Inv (cxOf CX0 P w K mg base N x (defScope st) f cdv callerA out s H E) [] (start N vs) H s1 := inv_start S rfl e0 (len _ _ _ _ hsp) rv inC
  refine wpAny_mono (ht.run [] s1 (start N vs) H _ I0 hq) (fun fl s2 h2 => ?_) fun _ _ z => z
  cases fl with
  | next =>
    obtain ⟨σ2, H2, J, q2⟩ := h2
    exact ⟨V.non, H2, J.os, J.bare, J.base, J.hok, rfl, q2⟩
  | ret u =>
    obtain ⟨v, σ2, H2, J, rv2, q2⟩ := h2
    exact ⟨v, H2, J.os, J.bare, J.base, J.hok, rv2, q2⟩
  | brk =>
    obtain ⟨_, _, _, z⟩ := h2
    exact z.elim
  | cont =>
    obtain ⟨_, _, _, z⟩ := h2
    exact z.elim
end
/-- the heap that holds the script alone, locked -/
def oneH (a : Addr) (o : Obj) (xs : List V) : Hp := fun b => if b = a then some (.frz o (.lst xs)) else none
theorem run_law {P : Program} {w : World} {K : PySem.W.Frag} {mg mb : Str → Option Value} {fa a : Addr} {fd : FuncData} {x : Str} {sp : Sp} {s : Shared} {vs : List Value} {ns : List Int}
    (kx : K.In s.heap) (gns : s.heap.Ns mainGlobals mg) (bns : s.heap.Ns builtinsNs mb) (bb : ∀ y : Str, y ≠ "__name__" → mb y = bootBuiltins y) (nl : s.heap.NoLimit) (gens : s.gens = #[])
    (ob : s.heap.get? a = some { cls := .type "list", data := .seq vs.toArray }) (hin : IntsAre vs ns) (len : ns.length ≤ sizeLine) (F : ∀ base : Heap, K.In base → base.Ns mainGlobals mg → FnC P w K mg base fa fd [x] sp)
    (bind : ∀ (s : Shared) (u : Value), BindsTo s fd ⟨[u], []⟩ [(x, u)]) (hsp : ∀ H : Hp, SqL K H a (ns.map V.int) → sp [.ref a] H (fun v _ => v = .bl true) fun _ _ _ => False) :
    codeAny (model P w) callerA (.call (.ref fa) ⟨[.ref a], []⟩) (fun r s' => r = .ok (.ret (.bool true)) ∧ OldK s.heap s'.heap ∧ s'.os = s.os ∧ AllBare s'.gens) s := by
  have rel := vals_ints hin
  have step : ∀ H : Hp, (H = (fun _ => none) ∨ (H = oneH a { cls := .type "list", data := .seq vs.toArray } (ns.map V.int) ∧ K.lookup a = none)) → SqL K H a (ns.map V.int) → HOk P w H s.heap →
      codeAny (model P w) callerA (.call (.ref fa) ⟨[.ref a], []⟩) (fun r s' => r = .ok (.ret (.bool true)) ∧ OldK s.heap s'.heap ∧ s'.os = s.os ∧ AllBare s'.gens) s := by
    intro H hH hS hok
    have only : ∀ b u, H b = some u → b = a ∧ u = .frz { cls := .type "list", data := .seq vs.toArray } (.lst (ns.map V.int)) ∧ K.lookup a = none := by
      intro b u e
      rcases hH with z | ⟨z, z2⟩
      · rw [z] at e
        cases e
      · rw [z] at e
        by_cases hb : b = a
        · have e := (if_pos hb).symm.trans e
          cases e
          exact ⟨hb, rfl, z2⟩
        · have e := (if_neg hb).symm.trans e
          cases e
    have free : ∀ {b : Addr} {o : Obj}, s.heap.get? b = some o → (b = a → False) → (hidT s.heap H).get? b = some o := by
      intro b o e n
      refine hidT_get e ?_
      cases q : H b with
      | none => rfl
      | some u => exact (n (only b u q).1).elim
    have nss : ∀ {b : Addr} {m : Str → Option Value}, s.heap.Ns b m → (hidT s.heap H).Ns b m := by
      intro b m ⟨o, es, ep, e, d, r⟩
      refine ⟨o, es, ep, free e fun z => ?_, d, r⟩
      subst z
      rw [ob] at e
      cases e
      cases d
    have kb : K.In (hidT s.heap H) := by
      intro b o e
      refine hidT_get (kx b o e) ?_
      cases q : H b with
      | none => rfl
      | some u =>
        obtain ⟨z1, _, z2⟩ := only b u q
        rw [z1, z2] at e
        cases e
    have md : Mod K mg (hidT s.heap H) := ⟨kb, nss gns, ⟨mb, nss bns, bb⟩, by obtain ⟨mc, h1, h2⟩ := nl; exact ⟨mc, nss h1, h2⟩⟩
    have env : Env0 P w K mg (hidT s.heap H) callerA [] s H := ⟨rfl, md, fun b o e => of_hidT e, Nat.le_of_eq (hidT_size _ _), trivial, (fun b hb => by cases hb), hok, .of_eq gens⟩
    refine codeAny_mono ((F _ kb (nss gns)).go [] s H ⟨[.ref a], []⟩ [.ref a] [.ref a] _ _ env (bind s (.ref a)) (.cons rfl .nil) (hsp H hS)) fun r s' h => ?_
    cases r with
    | error e => exact h.elim
    | ok fl =>
      cases fl with
      | next => exact h.elim
      | brk => exact h.elim
      | cont => exact h.elim
      | ret u =>
        obtain ⟨v, H', o1, o2, un, hok', rv, q⟩ := h
        have q : v = .bl true := q
        subst q
        cases (show u = Value.bool true from rv)
        refine ⟨rfl, OldK.of_keep fun b o e => ?_, o1, o2⟩
        cases q : H b with
        | none => exact un.keep b o e q (fun z => by cases z) (fun z => by cases z)
        | some u =>
          obtain ⟨_, z, _⟩ := only b u q
          subst z
          obtain ⟨e1, _⟩ := hok b _ q
          obtain ⟨e2, _⟩ := hok' b _ (un.frzs b _ _ q)
          rw [e] at e1
          cases e1
          exact e2
  cases hk : K.lookup a with
  | some o =>
    have e := kx a o hk
    rw [ob] at e
    cases e
    refine step (fun _ => none) (.inl rfl) (.inr ⟨_, vs.toArray, _, hk, rfl, rfl, rfl, ?_, by simpa using rel⟩) fun b u z => by cases z
    rw [List.size_toArray, hin.length]
    exact len
  | none =>
    have at_a : oneH a { cls := .type "list", data := .seq vs.toArray } (ns.map V.int) a = some (.frz { cls := .type "list", data := .seq vs.toArray } (.lst (ns.map V.int))) := if_pos rfl
    refine step _ (.inr ⟨rfl, hk⟩) (.inl (.inr ⟨_, at_a⟩)) fun b u z => ?_
    by_cases hb : b = a
    · subst hb
      rw [at_a] at z
      cases z
      exact ⟨ob, by rw [List.length_map]; exact len, vs, _, rel, ob⟩
    · have z := (if_neg hb).symm.trans z
      cases z
theorem walkC {l : PySem.W.OpenLaw} {n : Nat} {q : Program} {loose : List Str} {XP : (Str → Option Value) → Heap → Prop} {YP : World → Heap → Prop} {d : DefRec} {K : Params → PySem.W.Frag} {sp : World → Sp} {x : Str}
    (hn : l.most = some n) (n2 : n ≤ sizeLine) (df : d.params.defaults = []) (hY : ∀ (w : World) (h : Heap), YP w h → (K w.params).In h)
    (F : ∀ (w : World) (mg : Str → Option Value) (fa : Addr) (h : Heap), (K w.params).In h → h.Ns mainGlobals mg → mg d.name = some (.ref fa) →
      ∃ fd : FuncData, (∀ (s : Shared) (u : Value), BindsTo s fd ⟨[u], []⟩ [(x, u)]) ∧ ∀ base : Heap, (K w.params).In base → base.Ns mainGlobals mg → FnC l.prog w (K w.params) mg base fa fd [x] (sp w))
    (hsp : ∀ (w : World) (H : Hp) (a : Addr) (ns : List Int), ns.length ≤ n → SqL (K w.params) H a (ns.map V.int) → sp w [.ref a] H (fun v _ => v = .bl true) fun _ _ _ => False) :
    PySem.W.WalkO q loose XP YP l.row.toRowW d [] (fun f vs => PySem.call f vs) := by
  refine Att.attach_call hn df fun w s₀ s mg mb fa o pm cd doc a vs ns G Y ho hd hcd hmg hobj hints hlen hg => ?_
  have kx := hY w _ Y
  obtain ⟨fd, hb, hF⟩ := F w mg fa _ kx G.T.g hmg
  exact run_law kx G.T.g G.T.b G.T.builtins G.T.nolimit hg hobj hints (Nat.le_trans hlen n2) hF hb fun H hS => hsp w H a ns hlen hS
end UP

set_option Elab.async false
set_option linter.all false
set_option maxRecDepth 100000
set_option maxHeartbeats 4000000
namespace UP
open PySem PySem.Spec PyProof.Rows L2
/-! ### lists or tuples -/
def Sq2 (H : Hp) (a : Addr) (xs : List V) : Prop := H a = some (.lst xs) ∨ H a = some (.tup xs)
theorem Sq2.same {H H' : Hp} {a : Addr} {xs : List V} (s : Same H H') (h : Sq2 H a xs) : Sq2 H' a xs := h.elim (fun z => .inl (s _ _ z)) (fun z => .inr (s _ _ z))
/-- a walk over the items xs, from the heap H on -/
structure Wk (J : It) (H : Hp) (xs : List V) : Prop where
  go : ∀ i H', Same H H' → i < xs.length → J.go i H'
  stop : ∀ H', Same H H' → J.stop xs.length H'
  yld : ∀ i x H' H'', Same H H' → J.yld i H' x H'' → H'' = H' ∧ xs[i]? = some x
theorem wk_list {K : PySem.W.Frag} {H : Hp} {a : Addr} {xs : List V} (h : H a = some (.lst xs)) : Wk (Itl K a) H xs :=
  ⟨fun i H' s hi => ⟨xs, xs[i], .of (s _ _ h), List.getElem?_eq_getElem hi⟩, fun H' s => ⟨xs, .of (s _ _ h), Nat.le_refl _⟩, fun i x H' H'' s y => ⟨y.1, y.2 xs (.of (s _ _ h))⟩⟩
theorem wk_tup {K : PySem.W.Frag} {H : Hp} {a : Addr} {xs : List V} (h : H a = some (.tup xs)) : Wk (Itt K a) H xs :=
  ⟨fun i H' s hi => ⟨xs, xs[i], .of (s _ _ h), List.getElem?_eq_getElem hi⟩, fun H' s => ⟨xs, .of (s _ _ h), Nat.le_refl _⟩, fun i x H' H'' s y => ⟨y.1, y.2 xs (.of (s _ _ h))⟩⟩
def iSeqV (i : Nat) : TI := fun σ H R => ∃ a xs, σ[i]? = some (some (.ref a)) ∧ Sq2 H a xs ∧ ∀ J, Wk J H xs → R J H
section
variable {X : Cx}
theorem pi_seqV (i : Nat) {x : Str} {pos : Pos} {tg : Expr} (hN : X.N[i]? = some x := by rfl) (hv : Vis X.env.scope x := by first | exact Or.inl rfl | exact Or.inr (Or.inl rfl) | exact Or.inr (Or.inr rfl)) (hd : (x == ("__debug__" : Str)) = false := by decide)
    (hc : (x == ("__classdict__" : Str)) = false := by decide) : PI X tg (.Name x pos) (iSeqV i) := by
  refine ⟨fun pins s σ H R I hw => ?_⟩
  obtain ⟨a, xs, e, h, k⟩ := hw
  rcases h with h | h
  · exact (pi_list (pe_var hN hv hd hc)).run pins s σ H R I ⟨_, e, a, rfl, ⟨xs, .of h⟩, k _ (wk_list h)⟩
  · exact (pi_tup (pe_var hN hv hd hc)).run pins s σ H R I ⟨_, e, a, rfl, ⟨xs, .of h⟩, k _ (wk_tup h)⟩
def gAny (n : Nat) (t : TGs) : TG := fun v σ H Q => ∃ a xs, v = .ref a ∧ Sq2 H a xs ∧ xs.length = n ∧ t xs σ H Q
theorem pg_any {es : List Expr} {k n : Nat} {t : TGs} {pos : Pos} (hc : X.calm = true) (h : PGs X es t) (hn : (assignEach es X.env).length = n := by rfl) (hst : (assignEach es X.env).findIdx? (fun z => z.1) = none := by rfl) : PG X (.Tuple es k pos) (gAny n t) := by
  refine ⟨fun pins s σ H v u Q I r hw => ?_⟩
  obtain ⟨a, xs, e, hx, hl, hw⟩ := hw
  rcases hx with z | z
  · exact (pg_unl hc h hn hst).run pins s σ H v u Q I r ⟨a, xs, e, .of z, hl, hw⟩
  · exact (pg_tup hc h hn hst).run pins s σ H v u Q I r ⟨a, xs, e, .of z, hl, hw⟩
/-- zip(x, x[1:]) -/
structure WkZ (J : It) (H : Hp) (xs : List V) : Prop where
  go : ∀ i H', Same H H' → i + 1 < xs.length → J.go i H'
  stop : ∀ H', Same H H' → J.stop (xs.length - 1) H'
  yld : ∀ i x H' H'', Same H H' → J.yld i H' x H'' → ∃ T x1 x2, x = .ref T ∧ H' T = none ∧ H'' = upd H' T (.tup [x1, x2]) ∧ xs[i]? = some x1 ∧ (i + 1 < xs.length → xs[i + 1]? = some x2)
def iZip1 (i : Nat) : TI := fun σ H R => ∃ a xs, σ[i]? = some (some (.ref a)) ∧ Sq2 H a xs ∧ ∀ J H', Same H H' → WkZ J H' xs → R J H'
theorem cutt_one (xs : List V) : cutV xs (some 1) none = xs.drop 1 := by
  have e : HT.sIx xs.length 0 (some 1) = min 1 xs.length := HT.sIx_nat xs.length 0 1
  unfold cutV
  rw [e, HT.sIx_none]
  cases xs with
  | nil => rfl
  | cons x r =>
    have e1 : min 1 (x :: r).length = 1 := by simp only [List.length_cons]; omega
    rw [e1]
    simp
theorem pi_zip1 {i : Nat} {tg it : Expr} {tl th : TO} (h : PI X tg it (RZ.iZipA X.K (tCons (tVar i) (tCons (tSl (fun x lo hi H Q => rSlL X.K x lo hi H Q ∨ rSlA X.K x lo hi H Q) (tVar i) tl th) tNil))))
    (h1 : ∀ (σ : L2.St) (H : Hp) (Q : Option Int → Hp → Prop), Q (some 1) H → tl σ H Q) (h2 : ∀ (σ : L2.St) (H : Hp) (Q : Option Int → Hp → Prop), Q none H → th σ H Q) : PI X tg it (iZip1 i) := by
  refine ⟨fun pins s σ H R I hw => h.run pins s σ H R I ?_⟩
  obtain ⟨a, xs, e, hx, k⟩ := hw
  refine ⟨_, e, _, e, h1 σ H _ (h2 σ H _ ?_)⟩
  have gn : ∀ j : Nat, (xs.drop 1)[j]? = xs[j + 1]? := fun j => by rw [List.getElem?_drop, Nat.add_comm 1 j]
  rcases hx with hx | hx
  · refine .inl ⟨a, xs, rfl, .of hx, fun c nc => ?_⟩
    have sc : Same H (upd H c (.lst (cutV xs (some 1) none))) := fun b o z => by rw [upd_ne (ne_of_none z nc)]; exact z
    have hc : (upd H c (.lst (cutV xs (some 1) none))) c = some (.lst (xs.drop 1)) := by rw [upd_same, cutt_one]
    refine ⟨a, c, xs, xs.drop 1, rfl, .inl ⟨.of (sc _ _ hx), .of hc, k _ _ sc ⟨fun j H' sj hj => ?_, fun H' sj => ?_, fun j x H' H'' sj y => ?_⟩⟩⟩
    · exact ⟨xs, xs.drop 1, xs[j], xs[j + 1], .of (sj _ _ (sc _ _ hx)), .of (sj _ _ hc), List.getElem?_eq_getElem (by omega), by rw [gn]; exact List.getElem?_eq_getElem hj⟩
    · exact ⟨xs, xs.drop 1, .of (sj _ _ (sc _ _ hx)), .of (sj _ _ hc), .inr (by rw [List.length_drop]; exact Nat.le_refl _)⟩
    · obtain ⟨T, x1, x2, e1, e2, e3, f1, f2⟩ := y
      exact ⟨T, x1, x2, e1, e2, e3, f1 xs (.of (sj _ _ (sc _ _ hx))), fun _ => by rw [← gn]; exact f2 _ (.of (sj _ _ hc))⟩
  · refine .inr ⟨a, xs, rfl, .of hx, fun z => ?_, fun z c nc => ?_⟩
    · have lz : xs.length = 0 := by
        have z1 := z.1
        rw [show HT.sIx xs.length 0 (some 1) = min 1 xs.length from HT.sIx_nat xs.length 0 1] at z1
        omega
      refine ⟨a, a, xs, xs, rfl, .inr ⟨.of hx, .of hx, k _ _ (Same.refl _) ⟨fun j H' sj hj => by omega, fun H' sj => ⟨xs, xs, .of (sj _ _ hx), .of (sj _ _ hx), .inl (by omega)⟩, fun j x H' H'' sj y => ?_⟩⟩⟩
      obtain ⟨T, x1, x2, e1, e2, e3, f1, f2⟩ := y
      exact ⟨T, x1, x2, e1, e2, e3, f1 xs (.of (sj _ _ hx)), fun hj => by omega⟩
    · have sc : Same H (upd H c (.tup (cutV xs (some 1) none))) := fun b o z => by rw [upd_ne (ne_of_none z nc)]; exact z
      have hc : (upd H c (.tup (cutV xs (some 1) none))) c = some (.tup (xs.drop 1)) := by rw [upd_same, cutt_one]
      refine ⟨a, c, xs, xs.drop 1, rfl, .inr ⟨.of (sc _ _ hx), .of hc, k _ _ sc ⟨fun j H' sj hj => ?_, fun H' sj => ?_, fun j x H' H'' sj y => ?_⟩⟩⟩
      · exact ⟨xs, xs.drop 1, xs[j], xs[j + 1], .of (sj _ _ (sc _ _ hx)), .of (sj _ _ hc), List.getElem?_eq_getElem (by omega), by rw [gn]; exact List.getElem?_eq_getElem hj⟩
      · exact ⟨xs, xs.drop 1, .of (sj _ _ (sc _ _ hx)), .of (sj _ _ hc), .inr (by rw [List.length_drop]; exact Nat.le_refl _)⟩
      · obtain ⟨T, x1, x2, e1, e2, e3, f1, f2⟩ := y
        exact ⟨T, x1, x2, e1, e2, e3, f1 xs (.of (sj _ _ (sc _ _ hx))), fun _ => by rw [← gn]; exact f2 _ (.of (sj _ _ hc))⟩
end
/-! ### runs and states, dressed -/
def RunG (H : Hp) (v : V) (r : Run) : Prop := ∃ t, v = .ref t ∧ Sq2 H t [.str r.1, .int r.2]
def RunsG (H : Hp) (v : V) (rs : List Run) : Prop := ∃ a xs, v = .ref a ∧ Sq2 H a xs ∧ Paired (RunG H) xs rs
def StG (H : Hp) (v : V) : Option Run → Prop
  | none => v = .non
  | some r => RunG H v r
theorem RunG.same {H H' : Hp} {v : V} {r : Run} (s : Same H H') (h : RunG H v r) : RunG H' v r := by
  obtain ⟨t, e, h⟩ := h
  exact ⟨t, e, h.same s⟩
theorem RunsG.same {H H' : Hp} {v : V} {rs : List Run} (s : Same H H') (h : RunsG H v rs) : RunsG H' v rs := by
  obtain ⟨a, xs, e, hx, p⟩ := h
  exact ⟨a, xs, e, hx.same s, Paired.imp (fun _ _ => RunG.same s) p⟩
theorem StG.same {H H' : Hp} {v : V} {st : Option Run} (s : Same H H') (h : StG H v st) : StG H' v st := by
  cases st with
  | none => exact h
  | some r => exact RunG.same s h
theorem RunV.dress {H : Hp} {v : V} {r : Run} (h : RunV H v r) : RunG H v r := by
  obtain ⟨t, e, h⟩ := h
  exact ⟨t, e, .inr h⟩
theorem Runs.dress {H : Hp} {a : Addr} {rs : List Run} (h : Runs H a rs) : RunsG H (.ref a) rs := by
  obtain ⟨xs, hx, p⟩ := h
  exact ⟨a, xs, rfl, .inl hx, Paired.imp (fun _ _ => RunV.dress) p⟩
theorem StV.dress {H : Hp} {v : V} {st : Option Run} (h : StV H v st) : StG H v st := by
  cases st with
  | none => exact h
  | some r => exact RunV.dress h
theorem Sq2.but {H H' : Hp} {sp a : Addr} {xs : List V} (z : Spr H sp) (s : But sp H H') (h : Sq2 H a xs) (n : ∀ d e f, xs ≠ [.int d, .int e, .int f]) : Sq2 H' a xs := by
  obtain ⟨d, e, f, hs, _⟩ := z
  rcases h with h | h
  · exact .inl (s _ _ (ne_of h hs fun q => n d e f (HO.lst.inj q)) h)
  · exact .inr (s _ _ (ne_of h hs fun q => by cases q) h)
theorem RunG.but {H H' : Hp} {sp : Addr} {v : V} {r : Run} (z : Spr H sp) (s : But sp H H') (h : RunG H v r) : RunG H' v r := by
  obtain ⟨t, e, h⟩ := h
  exact ⟨t, e, h.but z s fun _ _ _ q => by cases q⟩
theorem RunsG.but {H H' : Hp} {sp : Addr} {v : V} {rs : List Run} (z : Spr H sp) (s : But sp H H') (h : RunsG H v rs) : RunsG H' v rs := by
  obtain ⟨a, xs, e, hx, p⟩ := h
  refine ⟨a, xs, e, hx.but z s fun d _ _ q => ?_, Paired.imp (fun _ _ => RunG.but z s) p⟩
  subst q
  cases p with
  | cons h _ =>
    obtain ⟨_, e, _⟩ := h
    cases e
theorem StG.but {H H' : Hp} {sp : Addr} {v : V} {st : Option Run} (z : Spr H sp) (s : But sp H H') (h : StG H v st) : StG H' v st := by
  cases st with
  | none => exact h
  | some r => exact RunG.but z s h
end UP

set_option Elab.async false
set_option linter.all false
set_option maxRecDepth 100000
set_option maxHeartbeats 4000000
namespace UP
open PySem PySem.Spec PyProof.Rows L2
def topS (i : Nat) : Stmt := PySem.Challenge.pw_unlikepairs_k18_equal_effects.main.body.getD i (.Pass ⟨0, 0, 0, 0⟩)
structure Tx (mg : Str → Option Value) : Prop where
  n_isinstance : mg "isinstance" = none
  n_int : mg "int" = none
  n_bool : mg "bool" = none
  n_str : mg "str" = none
  n_list : mg "list" = none
  n_tuple : mg "tuple" = none
  n_len : mg "len" = none
  n_all : mg "all" = none
  n_zip : mg "zip" = none
  n_sum : mg "sum" = none
  n_min : mg "min" = none
  n_max : mg "max" = none
  n_abs : mg "abs" = none
  n_range : mg "range" = none
  n_repr : mg "repr" = none
  n_enumerate : mg "enumerate" = none
  n_any : mg "any" = none
  n_dict : mg "dict" = none
  n_sorted : mg "sorted" = none
  n_set : mg "set" = none
  n_reversed : mg "reversed" = none
  s_LETTERS : ∃ t, mg "LETTERS" = some (.str "abcdefghijklmnopqrstuvwxyz" t)
  c_MAX_LETTERS : ∃ t, mg "MAX_LETTERS" = some (.int 8 t)
  c_MAX_RUNS : ∃ t, mg "MAX_RUNS" = some (.int 400 t)
  c_MAX_ITEMS : ∃ t, mg "MAX_ITEMS" = some (.int 400 t)
  c_MAX_COUNT : ∃ t, mg "MAX_COUNT" = some (.int 1000000000000000000000000000000 t)
section
variable {P : Program} {w : World} {K : PySem.W.Frag} {mg : Str → Option Value} {base : Heap}
/-! is_whole: slots 0:value -/
abbrev s_is_whole : Stmt := topS 10
theorem sc_is_whole : FnScope ["value"] ["value"] (defScope s_is_whole) := ⟨rfl, rfl, rfl, by decide +kernel, rfl, by decide +kernel, by decide +kernel⟩
def sp_is_whole : Sp := fun vs H Q _ => ∃ n : Int, vs = [.int n] ∧ Q (.bl true) H
theorem ok_is_whole (D : Df K mg "is_whole" s_is_whole) (T : Tx mg) : Has P w K mg base 1 "is_whole" ["value"] sp_is_whole := by
  refine has_of D sc_is_whole (fun _ _ _ _ _ _ us hl => match us, hl with | [_], _ => rfl) (fun vs H Q E h => ?_) (fun f cdv A outer s H vs Q E hr h => ?_)
  · obtain ⟨n, rfl, _⟩ := h
    rfl
  · obtain ⟨n, rfl, q⟩ := h
    refine ⟨_, (pss_one (ps_ret (pe_and (pe_callB call_isi (by rfl) T.n_isinstance (by decide +kernel) (pa_cons (pv 0) (pa_cons (pe_bltn (v := .ty "int") (by rfl) T.n_int (by decide +kernel) rfl) pa_nil))) (pe_one (pe_not (pe_callB call_isi (by rfl) T.n_isinstance (by decide +kernel) (pa_cons (pv 0) (pa_cons (pe_bltn (v := .ty "bool") (by rfl) T.n_bool (by decide +kernel) rfl) pa_nil)))))))), ?_⟩
    exact ⟨_, rfl, _, _, _, _, true, rfl, .ty "int", .base (.int n), kit_ty (by decide +kernel), true, rfl, iteT ⟨_, rfl, _, _, _, _, false, rfl, .ty "bool", .base (.int n), kit_ty (by decide +kernel), false, rfl, q⟩⟩
/-! is_within: slots 0:value 1:low 2:high -/
abbrev s_is_within : Stmt := topS 11
theorem sc_is_within : FnScope ["value", "low", "high"] ["value", "low", "high"] (defScope s_is_within) := ⟨rfl, rfl, rfl, by decide +kernel, rfl, by decide +kernel, by decide +kernel⟩
def sp_is_within : Sp := fun vs H Q _ => ∃ n lo hi : Int, vs = [.int n, .int lo, .int hi] ∧ Q (.bl (decide (lo ≤ n ∧ n ≤ hi))) H
theorem ok_is_within (D : Df K mg "is_within" s_is_within) (G_is_whole : Has P w K mg base 1 "is_whole" ["value"] sp_is_whole) : Has P w K mg base 2 "is_within" ["value", "low", "high"] sp_is_within := by
  refine has_of D sc_is_within (fun _ _ _ _ _ _ us hl => match us, hl with | [_, _, _], _ => rfl) (fun vs H Q E h => ?_) (fun f cdv A outer s H vs Q E hr h => ?_)
  · obtain ⟨n, lo, hi, rfl, _⟩ := h
    rfl
  · obtain ⟨n, lo, hi, rfl, q⟩ := h
    refine ⟨_, (pss_one (ps_ret (pe_and (pe_callH G_is_whole (hr.mono (by omega)) (by rfl) (pa_cons (pv 0) pa_nil)) (pe_one (pe_chain op_le op_le (pv 1) (pv 0) (pv 2)))))), ?_⟩
    refine ⟨_, rfl, n, rfl, true, rfl, iteT ⟨_, rfl, _, rfl, _, _, rfl, rfl, _, rfl, ite2 (fun e => ?_) (fun e => ?_)⟩⟩
    · have e := of_decide_eq_true e
      refine ⟨_, rfl, _, _, rfl, rfl, ?_⟩
      show Q (.bl (decide (n ≤ hi))) H
      rw [show decide (n ≤ hi) = decide (lo ≤ n ∧ n ≤ hi) by simp [e]]
      exact q
    · have e : ¬ lo ≤ n := fun z => e (decide_eq_true z)
      show Q (.bl false) H
      rw [show false = decide (lo ≤ n ∧ n ≤ hi) by simp [e]]
      exact q
theorem kit_lst {K : PySem.W.Frag} : PySem.W.kitAny K (.type "list") [.type "list", .type "tuple"] = some true := kitAny_cons (b := true) (kit_ty (by decide +kernel)) (fun z => nomatch z) (fun _ => rfl)
theorem kit_tup {K : PySem.W.Frag} : PySem.W.kitAny K (.type "tuple") [.type "list", .type "tuple"] = some true := kitAny_cons (b := false) (kit_ty (by decide +kernel)) (fun _ => kitAny_cons (b := true) (kit_ty (by decide +kernel)) (fun z => nomatch z) (fun _ => rfl)) (fun z => nomatch z)
/-! is_listed: slots 0:value 1:most -/
abbrev s_is_listed : Stmt := topS 12
theorem sc_is_listed : FnScope ["value", "most"] ["value", "most"] (defScope s_is_listed) := ⟨rfl, rfl, rfl, by decide +kernel, rfl, by decide +kernel, by decide +kernel⟩
def sp_is_listed : Sp := fun vs H Q _ => ∃ (a : Addr) (xs : List V) (m : Int), vs = [.ref a, .int m] ∧ Sq2 H a xs ∧ ∀ H', Same H H' → Q (.bl (decide ((xs.length : Int) ≤ m))) H'
theorem ok_is_listed (D : Df K mg "is_listed" s_is_listed) (T : Tx mg) : Has P w K mg base 1 "is_listed" ["value", "most"] sp_is_listed := by
  refine has_of D sc_is_listed (fun _ _ _ _ _ _ us hl => match us, hl with | [_, _], _ => rfl) (fun vs H Q E h => ?_) (fun f cdv A outer s H vs Q E hr h => ?_)
  · obtain ⟨a, xs, m, rfl, _⟩ := h
    rfl
  · obtain ⟨a, xs, m, rfl, hx, q⟩ := h
    refine ⟨_, (pss_one (ps_ret (pe_and (pe_callB call_isiT (by rfl) T.n_isinstance (by decide +kernel) (pa_cons (pv 0) (pa_cons (pe_tup (pa_cons (pe_bltn (v := .ty "list") (by rfl) T.n_list (by decide +kernel) rfl) (pa_cons (pe_bltn (v := .ty "tuple") (by rfl) T.n_tuple (by decide +kernel) rfl) pa_nil))) pa_nil))) (pe_one (pe_cmpR op_le (pe_callB call_len_seq (by rfl) T.n_len (by decide +kernel) (pa_cons (pv 0) pa_nil)) (pv 1) (nomark _)))))), ?_⟩
    refine ⟨_, rfl, (by show 2 ≤ sizeLine; decide), fun t nt => ?_⟩
    rcases hx with hx | hx
    · refine ⟨_, t, _, _, _, true, rfl, upd_same, .cons (.ty "list") (.cons (.ty "tuple") .nil), .base (.lst (same_upd nt _ _ hx)), kit_lst, true, rfl, iteT ?_⟩
      exact ⟨_, rfl, _, _, rfl, .inl (.of (same_upd nt _ _ hx)), _, rfl, _, _, rfl, rfl, q _ (same_upd nt)⟩
    · refine ⟨_, t, _, _, _, true, rfl, upd_same, .cons (.ty "list") (.cons (.ty "tuple") .nil), .base (.tup (same_upd nt _ _ hx)), kit_tup, true, rfl, iteT ?_⟩
      exact ⟨_, rfl, _, _, rfl, .inr (.of (same_upd nt _ _ hx)), _, rfl, _, _, rfl, rfl, q _ (same_upd nt)⟩
/-! is_couple: slots 0:value -/
abbrev s_is_couple : Stmt := topS 13
theorem sc_is_couple : FnScope ["value"] ["value"] (defScope s_is_couple) := ⟨rfl, rfl, rfl, by decide +kernel, rfl, by decide +kernel, by decide +kernel⟩
def sp_is_couple : Sp := fun vs H Q _ => ∃ (a : Addr) (xs : List V), vs = [.ref a] ∧ Sq2 H a xs ∧ xs.length = 2 ∧ ∀ H', Same H H' → Q (.bl true) H'
theorem ok_is_couple (D : Df K mg "is_couple" s_is_couple) (T : Tx mg) : Has P w K mg base 1 "is_couple" ["value"] sp_is_couple := by
  refine has_of D sc_is_couple (fun _ _ _ _ _ _ us hl => match us, hl with | [_], _ => rfl) (fun vs H Q E h => ?_) (fun f cdv A outer s H vs Q E hr h => ?_)
  · obtain ⟨a, xs, rfl, _⟩ := h
    rfl
  · obtain ⟨a, xs, rfl, hx, hl, q⟩ := h
    refine ⟨_, (pss_one (ps_ret (pe_and (pe_callB call_isiT (by rfl) T.n_isinstance (by decide +kernel) (pa_cons (pv 0) (pa_cons (pe_tup (pa_cons (pe_bltn (v := .ty "list") (by rfl) T.n_list (by decide +kernel) rfl) (pa_cons (pe_bltn (v := .ty "tuple") (by rfl) T.n_tuple (by decide +kernel) rfl) pa_nil))) pa_nil))) (pe_one (pe_cmpR op_eq (pe_callB call_len_seq (by rfl) T.n_len (by decide +kernel) (pa_cons (pv 0) pa_nil)) pe_int (nomark _)))))), ?_⟩
    refine ⟨_, rfl, (by show 2 ≤ sizeLine; decide), fun t nt => ?_⟩
    rcases hx with hx | hx
    · refine ⟨_, t, _, _, _, true, rfl, upd_same, .cons (.ty "list") (.cons (.ty "tuple") .nil), .base (.lst (same_upd nt _ _ hx)), kit_lst, true, rfl, iteT ⟨_, rfl, _, _, rfl, .inl (.of (same_upd nt _ _ hx)), rfl, ?_⟩⟩
      rw [hl]
      exact q _ (same_upd nt)
    · refine ⟨_, t, _, _, _, true, rfl, upd_same, .cons (.ty "list") (.cons (.ty "tuple") .nil), .base (.tup (same_upd nt _ _ hx)), kit_tup, true, rfl, iteT ⟨_, rfl, _, _, rfl, .inr (.of (same_upd nt _ _ hx)), rfl, ?_⟩⟩
      rw [hl]
      exact q _ (same_upd nt)
end
end UP

set_option Elab.async false
set_option linter.all false
set_option maxRecDepth 100000
set_option maxHeartbeats 4000000
namespace UP
open PySem PySem.Spec PyProof.Rows L2
theorem iteP {b : Bool} {A B : Prop} (h : b = true) (x : A) : if b = true then A else B := by
  rw [if_pos h]
  exact x
theorem iteN {b : Bool} {A B : Prop} (h : b = false) (x : B) : if b = true then A else B := by
  rw [if_neg (by rw [h]; decide)]
  exact x
theorem yesT {σ : L2.St} {H : Hp} {A B : Hp → Prop} (h : A H) : tYes σ H (fun b H3 => if b = true then A H3 else B H3) := by
  show (if true = true then A H else B H)
  exact iteT h
theorem lc_gen {J : It} {n : Nat} {g : TG} {tt : TT} {te : TE} {vs : List Nat} {σ : L2.St} {H1 : Hp} {D : Addr} {Qd : Hp → Prop} (Pv : Nat → Hp → Prop) (h0 : Pv 0 (upd H1 D (.lst [])))
    (hg : ∀ i H, i < n → Pv i H → J.go i H) (hst : ∀ H, Pv n H → J.stop n H)
    (hs : ∀ i x H H', i < n → Pv i H → J.yld i H x H' → g x (wipe σ vs) H' fun σ2 H2 => wipe σ2 vs = wipe σ vs ∧ tt σ2 H2 fun b H3 =>
      if b = true then te σ2 H3 fun y H4 => ∃ acc, H4 D = some (.lst acc) ∧ acc.length < sizeLine ∧ Pv (i + 1) (upd H4 D (.lst (acc ++ [y]))) else Pv (i + 1) H3) (hd : ∀ H, Pv n H → Qd H) :
    ∃ W : Nat → Nat → Hp → Prop, (∃ m, W 0 m (upd H1 D (.lst []))) ∧ ∀ i m H, W i m H →
      (J.stop i H ∧ Qd H) ∨ (J.go i H ∧ ∃ Nx : Hp → Prop, (∀ H', Nx H' → ∃ m', m' < m ∧ W (i + 1) m' H') ∧ ∀ x H', J.yld i H x H' → g x (wipe σ vs) H' fun σ2 H2 => wipe σ2 vs = wipe σ vs ∧ tt σ2 H2 fun b H3 =>
        if b = true then te σ2 H3 fun y H4 => ∃ acc, H4 D = some (.lst acc) ∧ acc.length < sizeLine ∧ Nx (upd H4 D (.lst (acc ++ [y]))) else Nx H3) := by
  refine ⟨fun i m H => m = n - i ∧ i ≤ n ∧ Pv i H, ⟨n, by simp, Nat.zero_le _, h0⟩, ?_⟩
  rintro i m H ⟨rfl, hi, p⟩
  by_cases hlt : i < n
  · exact .inr ⟨hg i H hlt p, Pv (i + 1), fun H' p' => ⟨n - (i + 1), by omega, rfl, hlt, p'⟩, fun x H' y => hs i x H H' hlt p y⟩
  · have e : i = n := by omega
    subst e
    exact .inl ⟨hst H p, hd H p⟩
section
variable {X : Cx} {K : PySem.W.Frag}
theorem ix_tupK (h : X.K = K) : IxR X (rIxT K) := h ▸ ix_tup
theorem ix_listK (h : X.K = K) : IxR X (rIxL K) := h ▸ ix_list
theorem pg_tupK {es : List Expr} {k : Nat} {t : TGs} {n : Nat} {pos : Pos} (h : X.K = K) (hc : X.calm = true) (hp : PGs X es t)
    (hn : (assignEach es X.env).length = n := by rfl) (hst : (assignEach es X.env).findIdx? (fun z => z.1) = none := by rfl) : PG X (.Tuple es k pos) (gTup K n t) := by
  subst h
  exact pg_tup hc hp hn hst
theorem call_len_seqK (h : X.K = K) : CallR X (.builtin "len") (fun xs H Q => ∃ p ys, xs = [.ref p] ∧ (SqL K H p ys ∨ SqT K H p ys) ∧ Q (.int ys.length) H) := by
  subst h
  exact call_len_seq
end
theorem ix_seqK {X : Cx} {K : PySem.W.Frag} (h : X.K = K) : IxR X (rIx K) := h ▸ ix_seq
/-! ### lists that grow -/
theorem same_grow {H H4 : Hp} {D : Addr} {o : HO} (n : H D = none) (s : Same H H4) : Same H (upd H4 D o) := fun b x e => by
  rw [upd_ne (ne_of_none e n)]
  exact s b x e
theorem RunV.grow {H : Hp} {D : Addr} {acc acc' : List V} {v : V} {r : Run} (hD : H D = some (.lst acc)) (h : RunV H v r) : RunV (upd H D (.lst acc')) v r := by
  obtain ⟨t, e, h⟩ := h
  refine ⟨t, e, ?_⟩
  rw [upd_ne (ne_of h hD (by intro q; cases q))]
  exact h
theorem prs_grow {H : Hp} {D : Addr} {acc acc' : List V} {xs : List V} {rs : List Run} (hD : H D = some (.lst acc)) (h : Paired (RunV H) xs rs) : Paired (RunV (upd H D (.lst acc'))) xs rs := Paired.imp (fun _ _ => RunV.grow hD) h
theorem prs_same {H H' : Hp} {xs : List V} {rs : List Run} (s : Same H H') (h : Paired (RunV H) xs rs) : Paired (RunV H') xs rs := Paired.imp (fun _ _ => RunV.same s) h
theorem take_snoc {α : Type} {l : List α} {i : Nat} {x : α} (h : l[i]? = some x) : l.take (i + 1) = l.take i ++ [x] := by
  rw [List.take_add_one, h]
  rfl
theorem lc_wk {J : It} {H0 H1 : Hp} {xs : List V} {g : TG} {tt : TT} {te : TE} {vs : List Nat} {σ : L2.St} {D : Addr} {Qd : Hp → Prop} (wk : Wk J H0 xs) (Pv : Nat → Hp → Prop) (hsm : ∀ i H, Pv i H → Same H0 H) (h0 : Pv 0 (upd H1 D (.lst [])))
    (hs : ∀ i x H, xs[i]? = some x → Pv i H → g x (wipe σ vs) H fun σ2 H2 => wipe σ2 vs = wipe σ vs ∧ tt σ2 H2 fun b H3 =>
      if b = true then te σ2 H3 fun y H4 => ∃ acc, H4 D = some (.lst acc) ∧ acc.length < sizeLine ∧ Pv (i + 1) (upd H4 D (.lst (acc ++ [y]))) else Pv (i + 1) H3) (hd : ∀ H, Pv xs.length H → Qd H) :
    ∃ W : Nat → Nat → Hp → Prop, (∃ m, W 0 m (upd H1 D (.lst []))) ∧ ∀ i m H, W i m H →
      (J.stop i H ∧ Qd H) ∨ (J.go i H ∧ ∃ Nx : Hp → Prop, (∀ H', Nx H' → ∃ m', m' < m ∧ W (i + 1) m' H') ∧ ∀ x H', J.yld i H x H' → g x (wipe σ vs) H' fun σ2 H2 => wipe σ2 vs = wipe σ vs ∧ tt σ2 H2 fun b H3 =>
        if b = true then te σ2 H3 fun y H4 => ∃ acc, H4 D = some (.lst acc) ∧ acc.length < sizeLine ∧ Nx (upd H4 D (.lst (acc ++ [y]))) else Nx H3) := by
  refine lc_gen Pv h0 (fun i H hi p => wk.go i H (hsm i H p) hi) (fun H p => wk.stop H (hsm _ H p)) (fun i x H H' hi p y => ?_) hd
  obtain ⟨e, ex⟩ := wk.yld i x H H' (hsm i H p) y
  subst e
  exact hs i x _ ex p
theorem for_wk {J : It} {H0 H : Hp} {xs : List V} {g : TG} {tb : TS} {D : Ends} {σ : L2.St} (wk : Wk J H0 xs) (Pv : Nat → L2.St → Hp → Prop) (hsm : ∀ i σ H, Pv i σ H → Same H0 H) (h0 : Pv 0 σ H)
    (hs : ∀ i x σ H, xs[i]? = some x → Pv i σ H → g x σ H fun σ2 H2 => tb { D with nx := Pv (i + 1), ct := Pv (i + 1), bk := D.nx } σ2 H2) (hd : ∀ σ H, Pv xs.length σ H → D.nx σ H) :
    ∃ W : Nat → Nat → L2.St → Hp → Prop, (∃ m, W 0 m σ H) ∧ ∀ i m σ H, W i m σ H →
      (J.stop i H ∧ D.nx σ H) ∨ (J.go i H ∧ ∃ N : L2.St → Hp → Prop, (∀ σ' H', N σ' H' → ∃ m', m' < m ∧ W (i + 1) m' σ' H') ∧ ∀ x H', J.yld i H x H' → g x σ H' fun σ2 H2 => tb { D with nx := N, ct := N, bk := D.nx } σ2 H2) := by
  refine ⟨fun i m σ H => m = xs.length - i ∧ i ≤ xs.length ∧ Pv i σ H, ⟨xs.length, by omega, Nat.zero_le _, h0⟩, ?_⟩
  rintro i m σ H ⟨rfl, hi, p⟩
  by_cases hlt : i < xs.length
  · refine Or.inr ⟨wk.go i H (hsm i σ H p) hlt, Pv (i + 1), fun σ' H' p' => ⟨xs.length - (i + 1), by omega, rfl, hlt, p'⟩, fun x H' y => ?_⟩
    obtain ⟨e, ex⟩ := wk.yld i x H H' (hsm i σ H p) y
    subst e
    exact hs i x σ _ ex p
  · have e : i = xs.length := by omega
    subst e
    exact Or.inl ⟨wk.stop H (hsm _ σ H p), hd σ H p⟩
section
variable {P : Program} {w : World} {K : PySem.W.Frag} {mg : Str → Option Value} {base : Heap}
theorem lex1 {c d : Nat} : (!decide (([c] : List Nat) < [d])) = decide (d ≤ c) := by
  have e : (([c] : List Nat) < [d]) ↔ c < d := by
    rw [List.cons_lt_cons_iff]
    simp
  by_cases h : c < d
  · rw [decide_eq_true (e.mpr h), decide_eq_false (by omega)]
    rfl
  · rw [decide_eq_false (fun z => h (e.mp z)), decide_eq_true (by omega)]
    rfl
/-! is_kind: slots 0:value 1:letter -/
abbrev s_is_kind : Stmt := topS 14
theorem sc_is_kind : FnScope ["value", "letter"] ["value"] (defScope s_is_kind) := ⟨rfl, rfl, rfl, by decide +kernel, rfl, by decide +kernel, by decide +kernel⟩
def sp_is_kind : Sp := fun vs H Q _ => ∃ z : Str, vs = [.str z] ∧ KindOk z ∧ ∀ H', Same H H' → Q (.bl true) H'
theorem ok_is_kind (D : Df K mg "is_kind" s_is_kind) (T : Tx mg) : Has P w K mg base 1 "is_kind" ["value"] sp_is_kind := by
  refine has_of D sc_is_kind (fun _ _ _ _ _ _ us hl => match us, hl with | [_], _ => rfl) (fun vs H Q E h => ?_) (fun f cdv A outer s H vs Q E hr h => ?_)
  · obtain ⟨n, rfl, _⟩ := h
    rfl
  · obtain ⟨z, rfl, ⟨k1, k2, k3⟩, q⟩ := h
    refine ⟨_, (pss_cons (ps_if (PW.pt (pw_or (pt_not (pt_val (pe_callB call_isi (by rfl) T.n_isinstance (by decide +kernel) (pa_cons (pv 0) (pa_cons (pe_bltn (v := .ty "str") (by rfl) T.n_str (by decide +kernel) rfl) pa_nil))))) (pw_or1 (pt_not (pt_chain op_le op_le pe_int (pe_callB call_len_str (by rfl) T.n_len (by decide +kernel) (pa_cons (pv 0) pa_nil)) (pe_glI T.c_MAX_LETTERS (by rfl))))))) (pss_one (ps_ret pe_bl)) pss_nil)
    (pss_one (ps_ret (pe_callB (cr_all rfl) (by rfl) T.n_all (by decide +kernel) (pa_cons (pe_lc (own := [("letter", 1)]) rfl sc_is_kind.nd (pi_str (pv 0)) (blkOk_by (N := ["value", "letter"]) (sc := defScope s_is_kind) (by decide +kernel)) (fun _ _ _ _ _ => (pg_name (i := 1) sc_is_kind.nd rfl (by first | exact Or.inl rfl | exact Or.inr rfl))) (fun _ _ _ _ _ => pts_nil) (fun _ _ _ _ _ => (pe_chain op_le_str op_le_str pe_str (pv 1) pe_str))) pa_nil))))), ?_⟩
    refine ⟨_, rfl, _, _, _, _, true, rfl, .ty "str", .base (.str z), kit_ty (by decide +kernel), true, rfl, iteF ?_⟩
    refine ⟨_, rfl, z, rfl, smallE (by omega), _, _, rfl, rfl, _, rfl, iteP (decide_eq_true (by omega)) ⟨_, _, rfl, rfl, _, rfl, iteN ?_ ?_⟩⟩
    · show (!decide ((z.length : Int) ≤ 8)) = false
      rw [decide_eq_true (by omega)]
      rfl
    refine ⟨_, rfl, z, rfl, fun L nL => lc_gen (n := z.cps.size) (fun i H' => Same H H' ∧ H' L = some (.lst ((List.replicate i true).map V.bl))) ⟨same_upd nL, upd_same⟩ (fun i H' hi _ => hi) (fun H' _ => Nat.le_refl _) (fun i x H1 H2 hi p y => ?_) (fun H' p => ?_)⟩
    · obtain ⟨rfl, c, ec, rfl⟩ := y
      obtain ⟨sm, hL⟩ := p
      have hc : 97 ≤ c ∧ c ≤ 122 := k3 c (by
        have := Array.mem_of_getElem? ec
        simpa using this)
      have ea : ("a" : Str).cps.toList = [97] := by decide +kernel
      have ez : ("z" : Str).cps.toList = [122] := by decide +kernel
      refine ⟨rfl, yesT ⟨_, rfl, _, _, rfl, rfl, _, rfl, iteP ?_ ⟨_, _, rfl, rfl, _, hL, ?_, ?_, ?_⟩⟩⟩
      · show (!decide (([c] : List Nat) < ("a" : Str).cps.toList)) = true
        rw [ea, lex1]
        exact decide_eq_true hc.1
      · simp only [List.length_map, List.length_replicate]
        exact small (by have : z.cps.size = z.length := rfl; omega)
      · intro b o e
        have nb : b ≠ L := ne_of_none e nL
        rw [upd_ne nb]
        exact sm b o e
      · rw [upd_same]
        have e1 : (!decide ((("z" : Str).cps.toList) < ([c] : List Nat))) = true := by
          rw [ez, lex1]
          exact decide_eq_true hc.2
        show some (HO.lst ((List.replicate i true).map V.bl ++ [V.bl (!decide ((("z" : Str).cps.toList) < ([c] : List Nat)))])) = _
        rw [e1, List.replicate_succ', List.map_append]
        rfl
    · refine ⟨L, _, rfl, .of p.2, ?_⟩
      have e : ((List.replicate z.cps.size true).all id) = true := by simp
      rw [e]
      exact q H' p.1
def StOk (st : Option Run) : Prop := ∀ r, st = some r → KindOk r.1 ∧ 1 ≤ r.2
theorem at0 {α : Type} {x y : α} : atI [x, y] 0 = some x := rfl
theorem at1 {α : Type} {x y : α} : atI [x, y] 1 = some y := rfl
theorem ix0 {K : PySem.W.Frag} {H : Hp} {t : Addr} {x y : V} {Q : VK} (h : Sq2 H t [x, y]) (q : Q x H) : rIx K (.ref t) (.int 0) H Q := h.elim (fun z => .inl ⟨t, _, 0, _, rfl, rfl, .of z, at0, q⟩) (fun z => .inr (.inl ⟨t, _, 0, _, rfl, rfl, .of z, at0, q⟩))
theorem ix1 {K : PySem.W.Frag} {H : Hp} {t : Addr} {x y : V} {Q : VK} (h : Sq2 H t [x, y]) (q : Q y H) : rIx K (.ref t) (.int 1) H Q := h.elim (fun z => .inl ⟨t, _, 1, _, rfl, rfl, .of z, at1, q⟩) (fun z => .inr (.inl ⟨t, _, 1, _, rfl, rfl, .of z, at1, q⟩))
theorem all_rep (n : Nat) : ((List.replicate n true).all id) = true := by simp
/-! is_run: slots 0:value -/
abbrev s_is_run : Stmt := topS 15
theorem sc_is_run : FnScope ["value"] ["value"] (defScope s_is_run) := ⟨rfl, rfl, rfl, by decide +kernel, rfl, by decide +kernel, by decide +kernel⟩
def sp_is_run : Sp := fun vs H Q _ => ∃ (v : V) (r : Run), vs = [v] ∧ RunG H v r ∧ RunOk r ∧ ∀ H', Same H H' → Q (.bl true) H'
theorem ok_is_run (D : Df K mg "is_run" s_is_run) (T : Tx mg) (G_is_couple : Has P w K mg base 1 "is_couple" ["value"] sp_is_couple) (G_is_kind : Has P w K mg base 1 "is_kind" ["value"] sp_is_kind) (G_is_within : Has P w K mg base 2 "is_within" ["value", "low", "high"] sp_is_within) :
    Has P w K mg base 3 "is_run" ["value"] sp_is_run := by
  refine has_of D sc_is_run (fun _ _ _ _ _ _ us hl => match us, hl with | [_], _ => rfl) (fun vs H Q E h => ?_) (fun f cdv A outer s H vs Q E hr h => ?_)
  · obtain ⟨v, r, rfl, _⟩ := h
    rfl
  · obtain ⟨v, r, rfl, ⟨t, rfl, ht⟩, ⟨k, c1, c2⟩, q⟩ := h
    refine ⟨_, (pss_one (ps_ret (pe_and (pe_callH G_is_couple (hr.mono (by omega)) (by rfl) (pa_cons (pv 0) pa_nil)) (pe_and (pe_callH G_is_kind (hr.mono (by omega)) (by rfl) (pa_cons (pe_ix ix_seq (pv 0) pe_int (fun _ _ => rfl)) pa_nil)) (pe_one (pe_callH G_is_within (hr.mono (by omega)) (by rfl) (pa_cons (pe_ix ix_seq (pv 0) pe_int (fun _ _ => rfl)) (pa_cons pe_int (pa_cons (pe_glI T.c_MAX_COUNT (by rfl)) pa_nil))))))))), ?_⟩
    refine ⟨_, rfl, t, _, rfl, ht, rfl, fun H1 s1 => ⟨true, rfl, iteT ?_⟩⟩
    refine ⟨_, rfl, ix0 (ht.same s1) ⟨r.1, rfl, k, fun H2 s2 => ⟨true, rfl, iteT ?_⟩⟩⟩
    refine ⟨_, rfl, ix1 ((ht.same s1).same s2) ⟨r.2, 1, _, rfl, ?_⟩⟩
    rw [decide_eq_true ⟨c1, c2⟩]
    exact q _ (s1.trans s2)
/-! is_sequence: slots 0:value 1:run 2:following -/
abbrev s_is_sequence : Stmt := topS 16
theorem sc_is_sequence : FnScope ["value", "run", "following"] ["value"] (defScope s_is_sequence) := ⟨rfl, rfl, rfl, by decide +kernel, rfl, by decide +kernel, by decide +kernel⟩
def sp_is_sequence : Sp := fun vs H Q _ => ∃ (v : V) (rs : List Run), vs = [v] ∧ RunsG H v rs ∧ SeqOk rs ∧ ∀ H', Same H H' → Q (.bl true) H'
theorem ok_is_sequence (D : Df K mg "is_sequence" s_is_sequence) (T : Tx mg) (G_is_listed : Has P w K mg base 1 "is_listed" ["value", "most"] sp_is_listed) (G_is_run : Has P w K mg base 3 "is_run" ["value"] sp_is_run) :
    Has P w K mg base 4 "is_sequence" ["value"] sp_is_sequence := by
  refine has_of D sc_is_sequence (fun _ _ _ _ _ _ us hl => match us, hl with | [_], _ => rfl) (fun vs H Q E h => ?_) (fun f cdv A outer s H vs Q E hr h => ?_)
  · obtain ⟨v, r, rfl, _⟩ := h
    rfl
  · obtain ⟨v, rs, rfl, ⟨a, xs, rfl, hx, hp⟩, ⟨l4, rok, alt⟩, q⟩ := h
    have lx : xs.length = rs.length := Paired.len hp
    refine ⟨_, (pss_cons (ps_if (PW.pt (pw_or (pt_not (pt_val (pe_callH G_is_listed (hr.mono (by omega)) (by rfl) (pa_cons (pv 0) (pa_cons (pe_glI T.c_MAX_RUNS (by rfl)) pa_nil))))) (pw_or1 (pt_not (pt_val (pe_callB (cr_all rfl) (by rfl) T.n_all (by decide +kernel) (pa_cons (pe_lc (own := [("run", 1)]) rfl sc_is_sequence.nd (pi_seqV 0) (blkOk_by (N := ["value", "run", "following"]) (sc := defScope s_is_sequence) (by decide +kernel)) (fun _ _ _ _ _ => (pg_name (i := 1) sc_is_sequence.nd rfl (by first | exact Or.inl rfl | exact Or.inr rfl))) (fun _ _ _ _ _ => pts_nil) (fun _ _ _ _ _ => (pe_callH G_is_run (hr.mono (by omega)) (by rfl) (pa_cons (pv 1) pa_nil)))) pa_nil))))))) (pss_one (ps_ret pe_bl)) pss_nil)
    (pss_one (ps_ret (pe_callB (cr_all rfl) (by rfl) T.n_all (by decide +kernel) (pa_cons (pe_lc (own := [("run", 1), ("following", 2)]) rfl sc_is_sequence.nd (pi_zip1 (i := 0) (RZ.pi_zipA (by rfl) T.n_zip (pa_cons (pv 0) (pa_cons (pe_slice (SlR.or sl_list sl_tupA) (pv 0) (po_some pe_int) po_none) pa_nil))) (fun _ _ _ q => ⟨1, rfl, q⟩) (fun _ _ _ q => q)) (blkOk_by (N := ["value", "run", "following"]) (sc := defScope s_is_sequence) (by decide +kernel)) (fun _ _ _ _ _ => (pg_tupK (K := K) (n := 2) rfl rfl (pgs_cons (pg_name (i := 1) sc_is_sequence.nd rfl (by first | exact Or.inl rfl | exact Or.inr rfl)) (pgs_cons (pg_name (i := 2) sc_is_sequence.nd rfl (by first | exact Or.inl rfl | exact Or.inr rfl)) pgs_nil)))) (fun _ _ _ _ _ => pts_nil) (fun _ _ _ _ _ => (pe_cmpR op_ne (pe_ix (ix_seqK (K := K) rfl) (pv 1) pe_int (fun _ _ => rfl)) (pe_ix (ix_seqK (K := K) rfl) (pv 2) pe_int (fun _ _ => rfl)) (nomark _)))) pa_nil))))), ?_⟩
    refine ⟨_, rfl, a, xs, 400, rfl, hx, fun H1 s1 => ⟨_, rfl, iteN ?_ ?_⟩⟩
    · show (!decide ((xs.length : Int) ≤ 400)) = false
      rw [decide_eq_true (by omega)]
      rfl
    refine ⟨a, xs, rfl, hx.same s1, fun J wk L nL => lc_wk wk (fun i H' => Same H1 H' ∧ H' L = some (.lst ((List.replicate i true).map V.bl))) (fun _ _ p => p.1) ⟨same_upd nL, upd_same⟩ (fun i x H2 ex p => ?_) (fun H2 p => ?_)⟩
    · obtain ⟨sm, hL⟩ := p
      obtain ⟨r, er, hr1⟩ := Paired.at hp ex
      have hi : i < xs.length := (List.getElem?_eq_some_iff.mp ex).1
      refine ⟨rfl, yesT ⟨_, rfl, x, r, rfl, RunG.same (s1.trans sm) hr1, rok r (List.mem_of_getElem? er), fun H3 s3 => ⟨_, s3 _ _ hL, ?_, same_grow nL (sm.trans s3), ?_⟩⟩⟩
      · simp only [List.length_map, List.length_replicate]
        exact small (by omega)
      · rw [upd_same, List.replicate_succ', List.map_append]
        rfl
    · refine ⟨L, _, rfl, .of p.2, _, rfl, iteN ?_ ?_⟩
      · rw [all_rep]
        rfl
      have s2 : Same H H2 := s1.trans p.1
      refine ⟨a, xs, rfl, hx.same s2, fun J Hc sc wk M nM => ?_⟩
      have sA : Same H Hc := s2.trans sc
      refine lc_gen (n := xs.length - 1) (fun i H' => Same Hc H' ∧ H' M = some (.lst ((List.replicate i true).map V.bl))) ⟨same_upd nM, upd_same⟩ (fun i H' hi p => wk.go i H' p.1 (by omega)) (fun H' p => wk.stop H' p.1) (fun i x H3 H4 hi p y => ?_) (fun H' p => ?_)
      · obtain ⟨T', x1, x2, rfl, nT, rfl, g1, g2⟩ := wk.yld i x H3 H4 p.1 y
        obtain ⟨sm, hM⟩ := p
        have g2 := g2 (by omega)
        have sB : Same H H3 := sA.trans sm
        obtain ⟨r1, e1, v1⟩ := Paired.at hp g1
        obtain ⟨r2, e2, v2⟩ := Paired.at hp g2
        obtain ⟨t1, rfl, w1⟩ := RunG.same (sB.trans (same_upd (o := .tup [x1, x2]) nT)) v1
        obtain ⟨t2, rfl, w2⟩ := RunG.same (sB.trans (same_upd (o := .tup [_, x2]) nT)) v2
        refine ⟨T', _, rfl, .of upd_same, rfl, _, _, rfl, _, _, rfl, rfl, rfl, yesT ?_⟩
        refine ⟨_, rfl, ix0 w1 ⟨_, rfl, ix0 w2 ⟨rfl, _, same_upd nT _ _ hM, ?_, same_grow nM (sm.trans (same_upd nT)), ?_⟩⟩⟩
        · simp only [List.length_map, List.length_replicate]
          exact small (by omega)
        · rw [upd_same, List.replicate_succ', List.map_append]
          have ne : (!decide (V.str r1.1 = V.str r2.1)) = true := by
            rw [decide_eq_false (fun z => alt i r1 r2 e1 e2 (V.str.inj z))]
            rfl
          rw [ne]
          rfl
      · refine ⟨M, _, rfl, .of p.2, ?_⟩
        rw [all_rep]
        exact q _ (sA.trans p.1)
/-! checked_runs: slots 0:sequence 1:kind 2:count -/
abbrev s_checked_runs : Stmt := topS 17
theorem sc_checked_runs : FnScope ["sequence", "kind", "count"] ["sequence"] (defScope s_checked_runs) := ⟨rfl, rfl, rfl, by decide +kernel, rfl, by decide +kernel, by decide +kernel⟩
def sp_checked_runs : Sp := fun vs H Q _ => ∃ (v : V) (rs : List Run), vs = [v] ∧ RunsG H v rs ∧ SeqOk rs ∧ ∀ H' p, Same H H' → H p = none → Runs H' p rs → Q (.ref p) H'
theorem ok_checked_runs (D : Df K mg "checked_runs" s_checked_runs) (T : Tx mg) (G_is_sequence : Has P w K mg base 4 "is_sequence" ["value"] sp_is_sequence) :
    Has P w K mg base 5 "checked_runs" ["sequence"] sp_checked_runs := by
  refine has_of D sc_checked_runs (fun _ _ _ _ _ _ us hl => match us, hl with | [_], _ => rfl) (fun vs H Q E h => ?_) (fun f cdv A outer s H vs Q E hr h => ?_)
  · obtain ⟨v, r, rfl, _⟩ := h
    rfl
  · obtain ⟨v, rs, rfl, hR, ok, q⟩ := h
    refine ⟨_, (pss_cons (ps_if (pt_not (pt_val (pe_callH G_is_sequence (hr.mono (by omega)) (by rfl) (pa_cons (pv 0) pa_nil)))) (pss_one ps_never) pss_nil)
    (pss_one (ps_ret (pe_lc (own := [("kind", 1), ("count", 2)]) rfl sc_checked_runs.nd (pi_seqV 0) (blkOk_by (N := ["sequence", "kind", "count"]) (sc := defScope s_checked_runs) (by decide +kernel)) (fun _ _ _ _ _ => (pg_any (n := 2) rfl (pgs_cons (pg_name (i := 1) sc_checked_runs.nd rfl (by first | exact Or.inl rfl | exact Or.inr rfl)) (pgs_cons (pg_name (i := 2) sc_checked_runs.nd rfl (by first | exact Or.inl rfl | exact Or.inr rfl)) pgs_nil)))) (fun _ _ _ _ _ => pts_nil) (fun _ _ _ _ _ => (pe_tup (pa_cons (pv 1) (pa_cons (pv 2) pa_nil)))))))), ?_⟩
    refine ⟨_, rfl, v, rs, rfl, hR, ok, fun H1 s1 => ⟨true, rfl, iteF ?_⟩⟩
    obtain ⟨a, xs, rfl, hx, hp⟩ := hR
    have lx : xs.length = rs.length := Paired.len hp
    refine ⟨a, xs, rfl, hx.same s1, fun J wk L nL => lc_wk wk (fun i H' => Same H1 H' ∧ ∃ ys, H' L = some (.lst ys) ∧ Paired (RunV H') ys (rs.take i)) (fun _ _ p => p.1) ⟨same_upd nL, [], upd_same, .nil⟩ (fun i x H2 ex p => ?_) (fun H2 p => ?_)⟩
    · obtain ⟨sm, ys, hL, hy⟩ := p
      obtain ⟨r, er, hr1⟩ := Paired.at hp ex
      have hi : i < xs.length := (List.getElem?_eq_some_iff.mp ex).1
      obtain ⟨t, rfl, ht⟩ := RunG.same (s1.trans sm) hr1
      refine ⟨t, _, rfl, ht, rfl, _, _, rfl, _, _, rfl, rfl, rfl, yesT ⟨_, rfl, _, rfl, (by show 2 ≤ sizeLine; decide), fun n nn => ⟨_, same_upd nn _ _ hL, ?_, same_grow nL (sm.trans (same_upd nn)), _, upd_same, ?_⟩⟩⟩
      · have := Paired.len hy
        rw [List.length_take] at this
        exact small (by have := ok.1; omega)
      · rw [take_snoc er]
        refine Paired.app (prs_grow (same_upd nn _ _ hL) (prs_same (same_upd nn) hy)) (.cons ?_ .nil)
        exact RunV.grow (same_upd nn _ _ hL) ⟨n, rfl, upd_same⟩
    · obtain ⟨sm, ys, hL, hy⟩ := p
      rw [lx, List.take_length] at hy
      exact q H2 L (s1.trans sm) (s1.free nL) ⟨ys, hL, hy⟩
end
end UP

set_option Elab.async false
set_option linter.all false
set_option maxRecDepth 100000
set_option maxHeartbeats 4000000
namespace UP
open PySem PySem.Spec PyProof.Rows L2
section
variable {P : Program} {w : World} {K : PySem.W.Frag} {mg : Str → Option Value} {base : Heap}
def lenR (rs : List Run) : Int := (rs.map (·.2)).sum
/-! length_of: slots 0:runs 1:kind 2:count -/
abbrev s_length_of : Stmt := topS 19
theorem sc_length_of : FnScope ["runs", "kind", "count"] ["runs"] (defScope s_length_of) := ⟨rfl, rfl, rfl, by decide +kernel, rfl, by decide +kernel, by decide +kernel⟩
def sp_length_of : Sp := fun vs H Q _ => ∃ (a : Addr) (rs : List Run), vs = [.ref a] ∧ Runs H a rs ∧ rs.length ≤ 1000 ∧ ∀ H', Same H H' → Q (.int (lenR rs)) H'
theorem ok_length_of (D : Df K mg "length_of" s_length_of) (T : Tx mg) : Has P w K mg base 1 "length_of" ["runs"] sp_length_of := by
  refine has_of D sc_length_of (fun _ _ _ _ _ _ us hl => match us, hl with | [_], _ => rfl) (fun vs H Q E h => ?_) (fun f cdv A outer s H vs Q E hr h => ?_)
  · obtain ⟨v, r, rfl, _⟩ := h
    rfl
  · obtain ⟨a, rs, rfl, ⟨xs, hx, hp⟩, l4, q⟩ := h
    have lx : xs.length = rs.length := Paired.len hp
    refine ⟨_, (pss_one (ps_ret (pe_callB (cr_sum rfl) (by rfl) T.n_sum (by decide +kernel) (pa_cons (pe_lc (own := [("kind", 1), ("count", 2)]) rfl sc_length_of.nd (pi_list (pv 0)) (blkOk_by (N := ["runs", "kind", "count"]) (sc := defScope s_length_of) (by decide +kernel)) (fun _ _ _ _ _ => (pg_tupK (K := K) (n := 2) rfl rfl (pgs_cons (pg_name (i := 1) sc_length_of.nd rfl (by first | exact Or.inl rfl | exact Or.inr rfl)) (pgs_cons (pg_name (i := 2) sc_length_of.nd rfl (by first | exact Or.inl rfl | exact Or.inr rfl)) pgs_nil)))) (fun _ _ _ _ _ => pts_nil) (fun _ _ _ _ _ => (pv 2))) pa_nil)))), ?_⟩
    refine ⟨_, rfl, a, rfl, ⟨xs, .of hx⟩, fun L nL => lc_list (K := K) (a := a) (xs := xs) (fun i H' => Same H H' ∧ H' L = some (.lst (((rs.map (·.2)).take i).map V.int))) ⟨same_upd nL, upd_same⟩ (fun i H' _ p => .of (p.1 _ _ hx)) (fun i x H2 ex p => ?_) (fun H2 p => ?_)⟩
    · obtain ⟨sm, hL⟩ := p
      obtain ⟨r, er, hr1⟩ := Paired.at hp ex
      have hi : i < xs.length := (List.getElem?_eq_some_iff.mp ex).1
      obtain ⟨t, rfl, ht⟩ := RunV.same sm hr1
      refine ⟨t, _, rfl, .of ht, rfl, _, _, rfl, _, _, rfl, rfl, rfl, yesT ⟨_, rfl, _, hL, ?_, same_grow nL sm, ?_⟩⟩
      · simp only [List.length_map, List.length_take]
        exact small (by omega)
      · rw [upd_same, take_snoc (x := r.2) (by rw [List.getElem?_map, er]; rfl), List.map_append]
        rfl
    · refine ⟨L, (rs.map (fun r : Run => r.2)), rfl, .of ?_, q H2 p.1⟩
      have := p.2
      rw [List.take_of_length_le (by rw [List.length_map]; omega)] at this
      exact this
end
end UP

set_option Elab.async false
set_option linter.all false
set_option maxRecDepth 100000
set_option maxHeartbeats 4000000
namespace UP
open PySem PySem.Spec PyProof.Rows L2
/-! ### the mirror of cut -/
theorem lenR_nil : lenR [] = 0 := rfl
theorem lenR_cons (r : Run) (l : List Run) : lenR (r :: l) = r.2 + lenR l := by
  unfold lenR
  rw [List.map_cons, List.sum_cons]
theorem lenR_app (l m : List Run) : lenR (l ++ m) = lenR l + lenR m := by
  induction l with
  | nil => rw [List.nil_append, lenR_nil]; omega
  | cons r t ih => rw [List.cons_append, lenR_cons, lenR_cons, ih]; omega
theorem lenR_snoc (l : List Run) (r : Run) : lenR (l ++ [r]) = lenR l + r.2 := by
  rw [lenR_app, lenR_cons, lenR_nil]
  omega
def sizeR (b s e c : Int) : Int := (if b + c < e then b + c else e) - (if b > s then b else s)
def pieceR (b s e : Int) (r : Run) : List Run := if 0 < sizeR b s e r.2 then [(r.1, sizeR b s e r.2)] else []
def cutR (s e : Int) : Int → List Run → List Run
  | _, [] => []
  | b, r :: t => pieceR b s e r ++ cutR s e (b + r.2) t
theorem cutR_snoc (s e : Int) : ∀ (l : List Run) (b : Int) (r : Run), cutR s e b (l ++ [r]) = cutR s e b l ++ pieceR (b + lenR l) s e r
  | [], b, r => by
    show pieceR b s e r ++ [] = [] ++ pieceR (b + lenR []) s e r
    rw [lenR_nil, Int.add_zero, List.append_nil, List.nil_append]
  | x :: t, b, r => by
    show pieceR b s e x ++ cutR s e (b + x.2) (t ++ [r]) = (pieceR b s e x ++ cutR s e (b + x.2) t) ++ pieceR (b + lenR (x :: t)) s e r
    rw [cutR_snoc s e t, lenR_cons, List.append_assoc, Int.add_assoc]
theorem pieceR_len (b s e : Int) (r : Run) : (pieceR b s e r).length ≤ 1 := by
  unfold pieceR
  split <;> simp
theorem cutR_len (s e : Int) : ∀ (l : List Run) (b : Int), (cutR s e b l).length ≤ l.length
  | [], _ => Nat.le_refl _
  | r :: t, b => by
    show (pieceR b s e r ++ cutR s e (b + r.2) t).length ≤ (r :: t).length
    have h1 := pieceR_len b s e r
    have h2 := cutR_len s e t (b + r.2)
    rw [List.length_append, List.length_cons]
    omega
section
variable {P : Program} {w : World} {K : PySem.W.Frag} {mg : Str → Option Value} {base : Heap}
end
end UP

set_option Elab.async false
set_option linter.all false
set_option maxRecDepth 100000
set_option maxHeartbeats 4000000
namespace UP
open PySem PySem.Spec PyProof.Rows L2
/-! ### the mirror of the states -/
def numR : Option Run → Int
  | none => 0
  | some r => r.2
def leavR : Option Run → Str → Int → Int
  | none, _, _ => 0
  | some r, k, c => if r.1 = k then 0 else if c < r.2 then c else r.2
def stepR : Option Run → Str → Int → Option Run
  | some r, k, c => if r.1 = k then some (k, r.2 + c) else if 0 < r.2 - c then some (r.1, r.2 - c) else if r.2 - c = 0 then none else some (k, -(r.2 - c))
  | none, k, c => some (k, c)
def withR (k : Str) (n : Int) : Option Run := if n = 0 then none else some (k, n)
def stR (rs : List Run) (st : Option Run) : Option Run := rs.foldl (fun s r => stepR s r.1 r.2) st
theorem stR_snoc (l : List Run) (r : Run) (st : Option Run) : stR (l ++ [r]) st = stepR (stR l st) r.1 r.2 := by
  unfold stR
  rw [List.foldl_append]
  rfl
section
variable {P : Program} {w : World} {K : PySem.W.Frag} {mg : Str → Option Value} {base : Heap}
/-! state_with: slots 0:kind 1:number -/
abbrev s_state_with : Stmt := topS 22
theorem sc_state_with : FnScope ["kind", "number"] ["kind", "number"] (defScope s_state_with) := ⟨rfl, rfl, rfl, by decide +kernel, rfl, by decide +kernel, by decide +kernel⟩
def sp_state_with : Sp := fun vs H Q _ => ∃ (k : Str) (n : Int), vs = [.str k, .int n] ∧ ∀ H' v', Same H H' → StV H' v' (withR k n) → Q v' H'
theorem ok_state_with (D : Df K mg "state_with" s_state_with) : Has P w K mg base 1 "state_with" ["kind", "number"] sp_state_with := by
  refine has_of D sc_state_with (fun _ _ _ _ _ _ us hl => match us, hl with | [_, _], _ => rfl) (fun vs H Q E h => ?_) (fun f cdv A outer s₀ H vs Q E hr h => ?_)
  · obtain ⟨k, n, rfl, _⟩ := h
    rfl
  · obtain ⟨k, n, rfl, q⟩ := h
    refine ⟨_, (pss_one (ps_ret (pe_ifExp (pt_cmpR op_eq (pv 1) pe_int (nomark _)) pe_non (pe_tup (pa_cons (pv 0) (pa_cons (pv 1) pa_nil)))))), ?_⟩
    refine ⟨_, rfl, rfl, _, rfl, ?_⟩
    by_cases e : n = 0
    · rw [show withR k n = none from if_pos e] at q
      exact iteP (decide_eq_true (by rw [e])) (q _ _ (Same.refl _) rfl)
    · rw [show withR k n = some (k, n) from if_neg e] at q
      refine iteN (decide_eq_false fun z => e (V.int.inj z)) ?_
      exact ⟨_, rfl, _, rfl, (by show 2 ≤ sizeLine; decide), fun n' nn => q _ _ (same_upd nn) ⟨n', rfl, upd_same⟩⟩
end
end UP

set_option Elab.async false
set_option linter.all false
set_option maxRecDepth 100000
set_option maxHeartbeats 4000000
namespace UP
open PySem PySem.Spec PyProof.Rows L2
def DfD (K : PySem.W.Frag) (mg : Str → Option Value) (x : Str) (st : Stmt) (dvs : List V) : Prop := ∃ f fd, mg x = some (.ref f) ∧ FunD K x x (defArgs st) (defBody st) (defScope st) dvs [] f fd
/-- a def whose last parameter, kw, has the default None -/
def HasD (P : Program) (w : World) (K : PySem.W.Frag) (mg : Str → Option Value) (base : Heap) (k : Nat) (x : Str) (ps : List Str) (n : Nat) (kw : Str) (sp : Sp) : Prop :=
  ∃ f fd, mg x = some (.ref f) ∧ PySem.W.keepIn K (.ref f) = true ∧ Binds K fd ps [] ∧ (∃ ds, Vals [.non] ds ∧ Binds K fd ps ds) ∧ KBn K fd ps n [kw] (fun us ws => us ++ ws) (fun vs zs => vs ++ zs) ∧ FnOk P w K mg base CX0 k f fd ps sp
section
variable {P : Program} {w : World} {K : PySem.W.Frag} {mg : Str → Option Value} {base : Heap}
theorem HasD.has {k n : Nat} {x kw : Str} {ps : List Str} {sp : Sp} (h : HasD P w K mg base k x ps n kw sp) : Has P w K mg base k x ps sp := by
  obtain ⟨f, fd, g, kp, b, _, _, F⟩ := h
  exact ⟨f, fd, g, kp, b, F⟩
theorem has_ofD {x kw : Str} {st : Stmt} {ps N : List Str} {k n : Nat} {sp : Sp} (D : DfD K mg x st [.non]) (S : FnScope N ps (defScope st)) (hpn : ps.length = n + 1)
    (hb : ∀ (T : Addr) (kV doc pm : Value) (an : Option Addr) (cdv ct : Value) (us its : List Value), us.length = n + 1 → its.length = 1 →
      ∃ k, bindArgs (PySem.W.fnOf x x (defArgs st) (defBody st) (defScope st) (.ref T) kV doc pm an cdv ct) ⟨us, []⟩ = seqItems? (.ref T) >>= k ∧ k (some its.toArray) = pure (ps.zip us))
    (hb1 : ∀ (T : Addr) (kV doc pm : Value) (an : Option Addr) (cdv ct : Value) (us its : List Value), us.length = n → its.length = 1 →
      ∃ k, bindArgs (PySem.W.fnOf x x (defArgs st) (defBody st) (defScope st) (.ref T) kV doc pm an cdv ct) ⟨us, []⟩ = seqItems? (.ref T) >>= k ∧ k (some its.toArray) = pure (ps.zip (us ++ its)))
    (hb2 : ∀ (T : Addr) (kV doc pm : Value) (an : Option Addr) (cdv ct : Value) (us its : List Value) (v : Value), us.length = n → its.length = 1 →
      ∃ k, bindArgs (PySem.W.fnOf x x (defArgs st) (defBody st) (defScope st) (.ref T) kV doc pm an cdv ct) ⟨us, [(kw, v)]⟩ = seqItems? (.ref T) >>= k ∧ k (some its.toArray) = pure (ps.zip (us ++ [v])))
    (len : ∀ vs H Q E, sp vs H Q E → vs.length = ps.length)
    (body : ∀ (f : Addr) (cdv : Value) (A : Around) (outer : List Env) (s : Shared) (H : Hp) (vs : List V) (Q : VK) (E : XK), Room k (A.deeper (envOfC x (defScope st) s.heap.objs.size f cdv)) → sp vs H Q E →
      ∃ t, PSs (cxOf CX0 P w K mg base N x (defScope st) f cdv A outer s H E).nox (defBody st) t ∧ t { nx := fun _ H' => Q .non H', rt := Q } (start N vs) H) :
    HasD P w K mg base (k + 1) x ps n kw sp := by
  obtain ⟨f, fd, g, F⟩ := D
  have B0 : Binds K fd ps [] := by
    obtain ⟨ds, v, b⟩ := F.binds1 (n + 1) 1 (ps := ps) (by intro z; cases z) (by rw [hpn]; rfl) fun T kV doc pm an cdv ct us its h1 h2 => by
      obtain ⟨k, e1, e2⟩ := hb T kV doc pm an cdv ct us its h1 h2
      refine ⟨k, e1, ?_⟩
      have h3 : its.length ≤ 1 := Nat.le_of_eq h2
      rw [e2, List.drop_of_length_le h3, List.append_nil]
    cases v
    exact b
  have B1 : ∃ ds, Vals [V.non] ds ∧ Binds K fd ps ds := by
    obtain ⟨ds, v, b⟩ := F.binds1 n 0 (ps := ps) (by intro z; cases z) (by rw [hpn]; rfl) fun T kV doc pm an cdv ct us its h1 h2 => by
      obtain ⟨k, e1, e2⟩ := hb1 T kV doc pm an cdv ct us its h1 h2
      exact ⟨k, e1, by rw [e2, List.drop_zero]⟩
    exact ⟨ds, v, b⟩
  have B2 : KBn K fd ps n [kw] (fun us ws => us ++ ws) (fun vs zs => vs ++ zs) := by
    refine ⟨fun s us ws X l1 l2 => ?_, fun r1 r2 => r1.append r2⟩
    obtain ⟨oc, od, dV, kV, doc, pm, an, cdv, ct, osl, rfl, lk, hcd, hD, _⟩ := F.ex
    rcases hD with ⟨z, _⟩ | ⟨_, T, o, its, m, rfl, lT, oT, rT⟩
    · cases z
    · match ws, l2 with
      | [v], _ =>
        obtain ⟨k, e1, e2⟩ := hb2 T kV doc pm an cdv ct us its v l1 rT.length.symm
        refine BindsTo.of_looks fun M => ?_
        show PySem.W.Looks M s.heap (bindArgs _ ⟨us, [(kw, v)]⟩) _
        rw [e1]
        exact looks_items X lT oT (.of_pure e2)
  refine ⟨f, fd, g, F.kp, B0, B1, B2, F.ok S len fun cdv A outer s H vs Q E hr h => ?_⟩
  obtain ⟨t, p, q⟩ := body f cdv A outer s H vs Q E hr h
  exact ⟨t, p.nox, q⟩
end
section
variable {X : Cx}
/-- the default taken -/
theorem pe_callDH {k n : Nat} {x kw : Str} {ps : List Str} {sp : Sp} {p pos : Pos} {e : Expr} {es : List Expr} {t : TA} (G : HasD X.prog X.w X.K X.mg X.base k x ps n kw sp) (hr : Room k X.A) (hg : Gl X x) (ha : PA X (e :: es) t)
    (hdb : (x == ("__debug__" : Str)) = false := by decide) (he : starEach (e :: es) X.env = (false, eval e X.env) :: starEach es X.env := by rfl) (hpl : (backTo pos (starEach es X.env)).any (·.1) = false := by rfl) :
    PE X (.Call (.Name x p) (e :: es) [] pos) (tCall sp [.non] E0 t) := by
  obtain ⟨f, fd, g, kp, _, ⟨ds, v, b⟩, _, F⟩ := G
  exact pe_call F hr hg g kp b v pass0 ha hdb he hpl
/-- the last one by its name -/
theorem pe_callNH {k n : Nat} {x kw : Str} {ps : List Str} {sp : Sp} {p pos : Pos} {e : Expr} {es : List Expr} {kws : List Keyword} {t tk : TA} (G : HasD X.prog X.w X.K X.mg X.base k x ps n kw sp) (hr : Room k X.A) (hg : Gl X x) (ha : PA X (e :: es) t) (hk : PK X kws tk)
    (h1 : (backToKw pos (keywordEach kws X.env)).all (·.1.isSome) = true := by rfl) (h2 : (backToKw pos (keywordEach kws X.env)).filterMap (·.1) = [kw] := by rfl) (hdb : (x == ("__debug__" : Str)) = false := by decide)
    (he : starEach (e :: es) X.env = (false, eval e X.env) :: starEach es X.env := by rfl) (hpl : ((backTo pos (starEach (e :: es) X.env)).any (·.1) || (backToKw pos (keywordEach kws X.env)).any (·.1.isNone)) = false := by rfl) :
    PE X (.Call (.Name x p) (e :: es) kws pos) (tCallN n 1 sp (fun vs zs => vs ++ zs) E0 t tk) := by
  obtain ⟨f, fd, g, kp, _, _, b, F⟩ := G
  exact pe_callN F hr hg g kp b pass0 ha hk h1 h2 hdb he hpl
end
section
variable {P : Program} {w : World} {K : PySem.W.Frag} {mg : Str → Option Value} {base : Heap}
theorem SeqOk.pos {rs : List Run} (h : SeqOk rs) : ∀ r ∈ rs, 1 ≤ r.2 := fun r m => (h.2.1 r m).2.1
theorem pieceR_pos {b s e : Int} {r x : Run} (h : x ∈ pieceR b s e r) : 1 ≤ x.2 := by
  unfold pieceR at h
  split at h
  · rename_i z
    simp only [List.mem_singleton] at h
    subst h
    show 1 ≤ sizeR b s e r.2
    omega
  · cases h
theorem cutR_pos {s e : Int} : ∀ {l : List Run} {b : Int}, ∀ x ∈ cutR s e b l, 1 ≤ x.2
  | [], _, x, h => by cases h
  | r :: t, b, x, h => by
    rcases List.mem_append.mp (show x ∈ pieceR b s e r ++ cutR s e (b + r.2) t from h) with h | h
    · exact pieceR_pos h
    · exact cutR_pos x h
end
end UP

set_option Elab.async false
set_option linter.all false
set_option maxRecDepth 100000
set_option maxHeartbeats 4000000
namespace UP
open PySem PySem.Spec PyProof.Rows L2
section
variable {P : Program} {w : World} {K : PySem.W.Frag} {mg : Str → Option Value} {base : Heap}
end
end UP

set_option Elab.async false
set_option linter.all false
set_option maxRecDepth 100000
set_option maxHeartbeats 4000000
namespace UP
open PySem PySem.Spec PyProof.Rows L2
/-! ### data -/
def dRun (r : Run) : PyData := .tuple [.str r.1, .int r.2]
theorem dp_run {K : PySem.W.Frag} {H : Hp} {v : V} {r : Run} (h : RunV H v r) : Dp K H v (dRun r) := by
  obtain ⟨t, rfl, h⟩ := h
  exact .tup (.of h) (.cons (.str _) (.cons (.int _) .nil))
theorem dp_all {K : PySem.W.Frag} {H : Hp} : ∀ {xs : List V} {rs : List Run}, Paired (RunV H) xs rs → DpAll K H xs (rs.map dRun)
  | _, _, .nil => .nil
  | _, _, .cons h t => .cons (dp_run h) (dp_all t)
theorem KindOk.str {s : Str} (h : KindOk s) : PyData.strOk s = true := by
  unfold PyData.strOk
  rw [Array.all_eq_true']
  intro c hc
  have := h.2.2 c (by simpa using hc)
  exact decide_eq_true (by omega)
theorem can_run {r : Run} (h : KindOk r.1) : (dRun r).canLay0 = true := by
  simp [dRun, PyData.canLay0, PyData.canLayAll0, h.str]
theorem can_runs : ∀ {rs : List Run}, (∀ r ∈ rs, KindOk r.1) → PyData.canLayAll0 (rs.map dRun) = true
  | [], _ => by simp [PyData.canLayAll0]
  | r :: t, h => by
    rw [List.map_cons, PyData.canLayAll0, can_run (h r (List.mem_cons_self ..)), can_runs fun x hx => h x (List.mem_cons_of_mem _ hx)]
    rfl
theorem depth_run (r : Run) : (dRun r).depth ≤ 2 := by
  simp [dRun, PyData.depth, PyData.depthAll]
theorem depth_runs : ∀ (rs : List Run), PyData.depthAll (rs.map dRun) ≤ 2
  | [] => by simp [PyData.depthAll]
  | r :: t => by
    rw [List.map_cons, PyData.depthAll]
    exact Nat.max_le.mpr ⟨depth_run r, depth_runs t⟩
theorem shaped_runs {rs : List Run} (h : ∀ r ∈ rs, KindOk r.1) : SeqAt.shaped (.list (rs.map dRun)) = true := by
  unfold SeqAt.shaped
  rw [PyData.canLay0, can_runs h, PyData.depth]
  have := depth_runs rs
  exact decide_eq_true (by omega)
theorem shaped_run {r : Run} (h : KindOk r.1) : SeqAt.shaped (dRun r) = true := by
  unfold SeqAt.shaped
  rw [can_run h]
  have := depth_run r
  exact decide_eq_true (by omega)
theorem shaped_nil : SeqAt.shaped (.list []) = true := by decide
theorem eqv_nil (rs : List Run) : PyData.eqv (.list (rs.map dRun)) (.list []) = rs.isEmpty := by
  cases rs with
  | nil => simp [PyData.eqv, PyData.eqvAll]
  | cons r t => simp [PyData.eqv, PyData.eqvAll]
theorem sb {sp : Addr} {H H' : Hp} (h : Same H H') : But sp H H' := fun b o _ e => h b o e
theorem But.free {sp : Addr} {H H' : Hp} (b : But sp H H') (z : Spr H' sp) {p : Addr} (h : H' p = none) : H p = none := by
  by_cases e : p = sp
  · subst e
    obtain ⟨_, _, _, h1, _⟩ := z
    rw [h1] at h
    cases h
  · cases q : H p with
    | none => rfl
    | some o =>
      rw [b p o e q] at h
      cases h
theorem Spr.ne {sp p : Addr} {H : Hp} (z : Spr H sp) (h : H p = none) : p ≠ sp := by
  obtain ⟨_, _, _, h1, _⟩ := z
  exact fun e => by rw [e, h1] at h; cases h
instance (s : Str) : Decidable (KindOk s) := by
  unfold KindOk
  infer_instance
section
variable {P : Program} {w : World} {K : PySem.W.Frag} {mg : Str → Option Value} {base : Heap}
end
end UP

set_option Elab.async false
set_option linter.all false
set_option maxRecDepth 100000
set_option maxHeartbeats 4000000
namespace UP
open PySem PySem.Spec PyProof.Rows L2
theorem pe_bmK {X : Cx} {K : PySem.W.Frag} {e : Expr} {c : String} {r : V → List V → Hp → VK → Prop} {to : TE} {t : TA} (h : X.K = K) (p : PE X e (tBM X.K c r to t)) : PE X e (tBM K c r to t) := h ▸ p
theorem if_by {c : TT} {t u : TS} {D : Ends} {σ : L2.St} {H : Hp} (R : Bool → Hp → Prop) (h : ∀ Q' : Bool → Hp → Prop, (∀ b H', R b H' → Q' b H') → c σ H Q') (ht : ∀ H', R true H' → t D σ H') (hu : ∀ H', R false H' → u D σ H') : tIfS c t u D σ H := by
  refine h _ fun b H' r => ?_
  cases b with
  | true => exact iteT (ht H' r)
  | false => exact iteF (hu H' r)
theorem erase_map {α β : Type} (f : α → β) : ∀ (l : List α) (i : Nat), (l.map f).eraseIdx i = (l.eraseIdx i).map f
  | [], _ => rfl
  | x :: t, 0 => rfl
  | x :: t, i + 1 => by
    simp only [List.map_cons, List.eraseIdx_cons_succ]
    rw [erase_map f t i]
def eight : List Str := ["a", "b", "c", "ab", "zz", "abcdefgh", "aa", "z"]
theorem eight_ok : ∀ s ∈ eight, KindOk s := by decide +kernel
theorem alt_snoc {l : List Run} {x : Run} (h : Alt l) (k : ∀ y, l[l.length - 1]? = some y → y.1 ≠ x.1) : Alt (l ++ [x]) := by
  intro i a b ha hb
  by_cases h1 : i + 1 < l.length
  · rw [List.getElem?_append_left (by omega)] at ha
    rw [List.getElem?_append_left h1] at hb
    exact h i a b ha hb
  · by_cases h2 : i + 1 = l.length
    · rw [List.getElem?_append_left (by omega)] at ha
      rw [List.getElem?_append_right (by omega), h2, Nat.sub_self] at hb
      cases hb
      rw [show i = l.length - 1 by omega] at ha
      exact k a ha
    · rw [List.getElem?_append_right (by omega)] at hb
      rw [List.getElem?_eq_none (by simp; omega)] at hb
      cases hb
theorem pow62 {x : Int} (h0 : 0 ≤ x) (h1 : x ≤ 1000000) : -(2 ^ 62) ≤ x ∧ x < 2 ^ 62 := by omega
theorem wide8 {m : Int} (h0 : 0 ≤ m) (h1 : m ≤ 1000000000000000000000000000000000000000000000000000000000000) : m.natAbs < 2 ^ 8000 :=
  Nat.lt_of_lt_of_le (show m.natAbs < 2 ^ 256 by omega) (Nat.pow_le_pow_right (by decide) (by decide))
section
variable {P : Program} {w : World} {K : PySem.W.Frag} {mg : Str → Option Value} {base : Heap}
end
end UP

set_option Elab.async false
set_option linter.all false
set_option maxRecDepth 100000
set_option maxHeartbeats 4000000
namespace UP
open PySem PySem.Spec PyProof.Rows L2
def scR (t : Int) (rs : List Run) : List Run := rs.map fun r => (r.1, r.2 * t)
def toldR (ws : List Run) : Option Run := match ws with
  | [] => none
  | r :: _ => some (r.1, (ws.length : Int))
def repR (k : Str) (n : Int) : Option Run := if n = 0 then none else some (k, n)
theorem repR_zero (k : Str) : repR k 0 = none := if_pos rfl
theorem repR_pos {k : Str} {n : Int} (h : 0 < n) : repR k n = some (k, n) := if_neg (by omega)
def PosO (st : Option Run) : Prop := ∀ r, st = some r → 1 ≤ r.2
theorem stepR_pos {st : Option Run} {k : Str} {c : Int} (h : PosO st) (hc : 1 ≤ c) : PosO (stepR st k c) := by
  intro r e
  cases st with
  | none =>
    cases e
    exact hc
  | some x =>
    have hx := h x rfl
    have e : (if x.1 = k then some (k, x.2 + c) else if 0 < x.2 - c then some (x.1, x.2 - c) else if x.2 - c = 0 then none else some (k, -(x.2 - c))) = some r := e
    by_cases h1 : x.1 = k
    · rw [if_pos h1] at e
      cases e
      show 1 ≤ x.2 + c
      omega
    · rw [if_neg h1] at e
      by_cases h2 : 0 < x.2 - c
      · rw [if_pos h2] at e
        cases e
        show 1 ≤ x.2 - c
        omega
      · rw [if_neg h2] at e
        by_cases h3 : x.2 - c = 0
        · rw [if_pos h3] at e
          cases e
        · rw [if_neg h3] at e
          cases e
          show 1 ≤ -(x.2 - c)
          omega
theorem stR_cons (r : Run) (l : List Run) (st : Option Run) : stR (r :: l) st = stR l (stepR st r.1 r.2) := rfl
theorem stR_pos : ∀ {rs : List Run} {st : Option Run}, PosO st → (∀ r ∈ rs, 1 ≤ r.2) → PosO (stR rs st)
  | [], _, h, _ => h
  | r :: t, st, h, k => by
    rw [stR_cons]
    exact stR_pos (stepR_pos h (k r (List.mem_cons_self ..))) fun x hx => k x (List.mem_cons_of_mem _ hx)
theorem StOk.pos {st : Option Run} (h : StOk st) : PosO st := fun r e => (h r e).2
section
variable {P : Program} {w : World} {K : PySem.W.Frag} {mg : Str → Option Value} {base : Heap}
end
end UP

set_option Elab.async false
set_option linter.all false
set_option maxRecDepth 100000
set_option maxHeartbeats 4000000
namespace UP
open PySem PySem.Spec PyProof.Rows L2
/-! ### plain data, by depth -/
def Dsc (v : V) (d : PyData) : Prop := (v = .non ∧ d = .none) ∨ (∃ b, v = .bl b ∧ d = .bool b) ∨ (∃ i, v = .int i ∧ d = .int i) ∨ ∃ s, v = .str s ∧ d = .str s
def Dt (H : Hp) : Nat → V → PyData → Prop
  | 0, v, d => Dsc v d
  | n + 1, v, d => Dsc v d ∨ (∃ a xs ds, v = .ref a ∧ H a = some (.lst xs) ∧ d = .list ds ∧ Paired (Dt H n) xs ds ∧ ds.length ≤ 100000) ∨ ∃ a xs ds, v = .ref a ∧ H a = some (.tup xs) ∧ d = .tuple ds ∧ Paired (Dt H n) xs ds ∧ ds.length ≤ 100000
theorem Dt.same {H H' : Hp} (s : Same H H') : ∀ {n : Nat} {v : V} {d : PyData}, Dt H n v d → Dt H' n v d
  | 0, _, _, h => h
  | n + 1, v, d, h => by
    rcases h with h | ⟨a, xs, ds, e, h, e2, p, l⟩ | ⟨a, xs, ds, e, h, e2, p, l⟩
    · exact .inl h
    · exact .inr (.inl ⟨a, xs, ds, e, s _ _ h, e2, Paired.imp (fun _ _ z => Dt.same s z) p, l⟩)
    · exact .inr (.inr ⟨a, xs, ds, e, s _ _ h, e2, Paired.imp (fun _ _ z => Dt.same s z) p, l⟩)
theorem dsc_ref {a : Addr} {d : PyData} (h : Dsc (.ref a) d) : False := by
  rcases h with ⟨h, _⟩ | ⟨_, h, _⟩ | ⟨_, h, _⟩ | ⟨_, h, _⟩ <;> cases h
theorem dsc_lst {v : V} {ds : List PyData} (h : Dsc v (.list ds)) : False := by
  rcases h with ⟨_, h⟩ | ⟨_, _, h⟩ | ⟨_, _, h⟩ | ⟨_, _, h⟩ <;> cases h
theorem dsc_tup {v : V} {ds : List PyData} (h : Dsc v (.tuple ds)) : False := by
  rcases h with ⟨_, h⟩ | ⟨_, _, h⟩ | ⟨_, _, h⟩ | ⟨_, _, h⟩ <;> cases h
theorem dsc_one {v v' : V} {d : PyData} (h : Dsc v d) (h' : Dsc v' d) : v = v' := by
  rcases h with ⟨e, z⟩ | ⟨x, e, z⟩ | ⟨x, e, z⟩ | ⟨x, e, z⟩ <;> subst z <;> rcases h' with ⟨e', z⟩ | ⟨y, e', z⟩ | ⟨y, e', z⟩ | ⟨y, e', z⟩ <;> cases z <;> rw [e, e']
theorem kit_no {K : PySem.W.Frag} {c : String} (h1 : kitB c "list" = some false) (h2 : kitB c "tuple" = some false) : PySem.W.kitAny K (.type c) [.type "list", .type "tuple"] = some false :=
  kitAny_cons (b := false) (kit_ty h1) (fun _ => kitAny_cons (b := false) (kit_ty h2) (fun _ => rfl) (fun z => nomatch z)) (fun z => nomatch z)
theorem ixL {K : PySem.W.Frag} {x y : V} {H : Hp} {Q : VK} (h : rIxL K x y H Q) : rIx K x y H Q := .inl h
theorem ixT {K : PySem.W.Frag} {x y : V} {H : Hp} {Q : VK} (h : rIxT K x y H Q) : rIx K x y H Q := .inr (.inl h)
section
variable {P : Program} {w : World} {K : PySem.W.Frag} {mg : Str → Option Value} {base : Heap}
end
end UP

set_option Elab.async false
set_option linter.all false
set_option maxRecDepth 100000
set_option maxHeartbeats 4000000
namespace UP
open PySem PySem.Spec PyProof.Rows L2
/-! ### a walk over one object that stays, whatever else is changed -/
structure WkA (J : It) (H : Hp) (a : Addr) (xs : List V) : Prop where
  go : ∀ i H', H' a = H a → i < xs.length → J.go i H'
  stop : ∀ H', H' a = H a → J.stop xs.length H'
  yld : ∀ i x H' H'', H' a = H a → J.yld i H' x H'' → H'' = H' ∧ xs[i]? = some x
def iSeqA (i : Nat) : TI := fun σ H R => ∃ a xs, σ[i]? = some (some (.ref a)) ∧ Sq2 H a xs ∧ ∀ J, WkA J H a xs → R J H
section
variable {X : Cx}
theorem wka_list {K : PySem.W.Frag} {H : Hp} {a : Addr} {xs : List V} (h : H a = some (.lst xs)) : WkA (Itl K a) H a xs :=
  ⟨fun i H' e hi => ⟨xs, xs[i], .of (e.trans h), List.getElem?_eq_getElem hi⟩, fun H' e => ⟨xs, .of (e.trans h), Nat.le_refl _⟩, fun i x H' H'' e y => ⟨y.1, y.2 xs (.of (e.trans h))⟩⟩
theorem wka_tup {K : PySem.W.Frag} {H : Hp} {a : Addr} {xs : List V} (h : H a = some (.tup xs)) : WkA (Itt K a) H a xs :=
  ⟨fun i H' e hi => ⟨xs, xs[i], .of (e.trans h), List.getElem?_eq_getElem hi⟩, fun H' e => ⟨xs, .of (e.trans h), Nat.le_refl _⟩, fun i x H' H'' e y => ⟨y.1, y.2 xs (.of (e.trans h))⟩⟩
theorem pi_seqA (i : Nat) {x : Str} {pos : Pos} {tg : Expr} (hN : X.N[i]? = some x := by rfl) (hv : Vis X.env.scope x := by first | exact Or.inl rfl | exact Or.inr (Or.inl rfl) | exact Or.inr (Or.inr rfl)) (hd : (x == ("__debug__" : Str)) = false := by decide)
    (hc : (x == ("__classdict__" : Str)) = false := by decide) : PI X tg (.Name x pos) (iSeqA i) := by
  refine ⟨fun pins s σ H R I hw => ?_⟩
  obtain ⟨a, xs, e, h, k⟩ := hw
  rcases h with h | h
  · exact (pi_list (pe_var hN hv hd hc)).run pins s σ H R I ⟨_, e, a, rfl, ⟨xs, .of h⟩, k _ (wka_list h)⟩
  · exact (pi_tup (pe_var hN hv hd hc)).run pins s σ H R I ⟨_, e, a, rfl, ⟨xs, .of h⟩, k _ (wka_tup h)⟩
end
theorem lc_wka {J : It} {H0 H1 : Hp} {a : Addr} {xs : List V} {g : TG} {tt : TT} {te : TE} {vs : List Nat} {σ : L2.St} {D : Addr} {Qd : Hp → Prop} (wk : WkA J H0 a xs) (Pv : Nat → Hp → Prop) (hsm : ∀ i H, Pv i H → H a = H0 a) (h0 : Pv 0 (upd H1 D (.lst [])))
    (hs : ∀ i x H, xs[i]? = some x → Pv i H → g x (wipe σ vs) H fun σ2 H2 => wipe σ2 vs = wipe σ vs ∧ tt σ2 H2 fun b H3 =>
      if b = true then te σ2 H3 fun y H4 => ∃ acc, H4 D = some (.lst acc) ∧ acc.length < sizeLine ∧ Pv (i + 1) (upd H4 D (.lst (acc ++ [y]))) else Pv (i + 1) H3) (hd : ∀ H, Pv xs.length H → Qd H) :
    ∃ W : Nat → Nat → Hp → Prop, (∃ m, W 0 m (upd H1 D (.lst []))) ∧ ∀ i m H, W i m H →
      (J.stop i H ∧ Qd H) ∨ (J.go i H ∧ ∃ Nx : Hp → Prop, (∀ H', Nx H' → ∃ m', m' < m ∧ W (i + 1) m' H') ∧ ∀ x H', J.yld i H x H' → g x (wipe σ vs) H' fun σ2 H2 => wipe σ2 vs = wipe σ vs ∧ tt σ2 H2 fun b H3 =>
        if b = true then te σ2 H3 fun y H4 => ∃ acc, H4 D = some (.lst acc) ∧ acc.length < sizeLine ∧ Nx (upd H4 D (.lst (acc ++ [y]))) else Nx H3) := by
  refine lc_gen Pv h0 (fun i H hi p => wk.go i H (hsm i H p) hi) (fun H p => wk.stop H (hsm _ H p)) (fun i x H H' hi p y => ?_) hd
  obtain ⟨e, ex⟩ := wk.yld i x H H' (hsm i H p) y
  subst e
  exact hs i x _ ex p
theorem for_gen {J : It} {n : Nat} {H : Hp} {g : TG} {tb : TS} {D : Ends} {σ : L2.St} (Pv : Nat → L2.St → Hp → Prop) (h0 : Pv 0 σ H) (hg : ∀ i σ H, i < n → Pv i σ H → J.go i H) (hst : ∀ σ H, Pv n σ H → J.stop n H)
    (hs : ∀ i x σ H H', i < n → Pv i σ H → J.yld i H x H' → g x σ H' fun σ2 H2 => tb { D with nx := Pv (i + 1), ct := Pv (i + 1), bk := D.nx } σ2 H2) (hd : ∀ σ H, Pv n σ H → D.nx σ H) :
    ∃ W : Nat → Nat → L2.St → Hp → Prop, (∃ m, W 0 m σ H) ∧ ∀ i m σ H, W i m σ H →
      (J.stop i H ∧ D.nx σ H) ∨ (J.go i H ∧ ∃ N : L2.St → Hp → Prop, (∀ σ' H', N σ' H' → ∃ m', m' < m ∧ W (i + 1) m' σ' H') ∧ ∀ x H', J.yld i H x H' → g x σ H' fun σ2 H2 => tb { D with nx := N, ct := N, bk := D.nx } σ2 H2) := by
  refine ⟨fun i m σ H => m = n - i ∧ i ≤ n ∧ Pv i σ H, ⟨n, by omega, Nat.zero_le _, h0⟩, ?_⟩
  rintro i m σ H ⟨rfl, hi, p⟩
  by_cases hlt : i < n
  · exact Or.inr ⟨hg i σ H hlt p, Pv (i + 1), fun σ' H' p' => ⟨n - (i + 1), by omega, rfl, hlt, p'⟩, fun x H' y => hs i x σ H H' hlt p y⟩
  · have e : i = n := by omega
    subst e
    exact Or.inl ⟨hst σ H p, hd σ H p⟩
theorem for_wka {J : It} {H0 H : Hp} {a : Addr} {xs : List V} {g : TG} {tb : TS} {D : Ends} {σ : L2.St} (wk : WkA J H0 a xs) (Pv : Nat → L2.St → Hp → Prop) (hsm : ∀ i σ H, Pv i σ H → H a = H0 a) (h0 : Pv 0 σ H)
    (hs : ∀ i x σ H, xs[i]? = some x → Pv i σ H → g x σ H fun σ2 H2 => tb { D with nx := Pv (i + 1), ct := Pv (i + 1), bk := D.nx } σ2 H2) (hd : ∀ σ H, Pv xs.length σ H → D.nx σ H) :
    ∃ W : Nat → Nat → L2.St → Hp → Prop, (∃ m, W 0 m σ H) ∧ ∀ i m σ H, W i m σ H →
      (J.stop i H ∧ D.nx σ H) ∨ (J.go i H ∧ ∃ N : L2.St → Hp → Prop, (∀ σ' H', N σ' H' → ∃ m', m' < m ∧ W (i + 1) m' σ' H') ∧ ∀ x H', J.yld i H x H' → g x σ H' fun σ2 H2 => tb { D with nx := N, ct := N, bk := D.nx } σ2 H2) := by
  refine for_gen Pv h0 (fun i σ H hi p => wk.go i H (hsm i σ H p) hi) (fun σ H p => wk.stop H (hsm _ σ H p)) (fun i x σ H H' hi p y => ?_) hd
  obtain ⟨e, ex⟩ := wk.yld i x H H' (hsm i σ H p) y
  subst e
  exact hs i x σ _ ex p
theorem Sq2.eq {H H' : Hp} {a : Addr} {xs : List V} (h : Sq2 H a xs) (s : Same H H') : H' a = H a := h.elim (fun z => (s _ _ z).trans z.symm) (fun z => (s _ _ z).trans z.symm)
/-! ### data without its dress -/
def Sim (N : Addr → Prop) (H : Hp) : Nat → V → PyData → Prop
  | 0, v, d => Dsc v d
  | n + 1, v, d => Dsc v d ∨ ∃ a xs ds, v = .ref a ∧ N a ∧ Sq2 H a xs ∧ d = .list ds ∧ Paired (Sim N H n) xs ds ∧ ds.length ≤ 1000
theorem Sim.keep {N N' : Addr → Prop} {H H' : Hp} (hn : ∀ a, N a → N' a) (hk : ∀ a o, N a → H a = some o → H' a = some o) : ∀ {n : Nat} {v : V} {d : PyData}, Sim N H n v d → Sim N' H' n v d
  | 0, _, _, h => h
  | n + 1, v, d, h => by
    rcases h with h | ⟨a, xs, ds, e, na, hx, e2, p, l⟩
    · exact .inl h
    · exact .inr ⟨a, xs, ds, e, hn a na, hx.elim (fun z => .inl (hk _ _ na z)) (fun z => .inr (hk _ _ na z)), e2, Paired.imp (fun _ _ z => Sim.keep hn hk z) p, l⟩
theorem Sim.dsc {N : Addr → Prop} {H : Hp} {v : V} {d : PyData} : ∀ {n : Nat}, Dsc v d → Sim N H n v d
  | 0, h => h
  | n + 1, h => .inl h
section
variable {P : Program} {w : World} {K : PySem.W.Frag} {mg : Str → Option Value} {base : Heap}
end
end UP

set_option Elab.async false
set_option linter.all false
set_option maxRecDepth 100000
set_option maxHeartbeats 4000000
namespace UP
open PySem PySem.Spec PyProof.Rows L2
/-! ### waiting items one by one -/
def plS (ws : List Run) (k : Str) (n : Nat) : List Run := match ws with
  | [] => [(k, (n : Int))]
  | r :: t => if r.1 = k then (r :: t) ++ [(k, (n : Int))] else t
def plP (ws : List Run) (k : Str) (n : Nat) : List (Int × Int) := match ws with
  | [] => []
  | r :: _ => if r.1 = k then [] else [(r.2, (n : Int))]
def plA (ws : List Run) (n : Nat) : List Str → List Run
  | [] => ws
  | k :: t => plA (plS ws k n) (n + 1) t
def psR (ws : List Run) (n : Nat) : List Str → List (Int × Int)
  | [] => []
  | k :: t => plP ws k n ++ psR (plS ws k n) (n + 1) t
theorem plA_snoc : ∀ (l : List Str) (ws : List Run) (n : Nat) (k : Str), plA ws n (l ++ [k]) = plS (plA ws n l) k (n + l.length)
  | [], ws, n, k => rfl
  | x :: t, ws, n, k => by
    show plA (plS ws x n) (n + 1) (t ++ [k]) = plS (plA (plS ws x n) (n + 1) t) k (n + (x :: t).length)
    rw [plA_snoc t, List.length_cons, show n + 1 + t.length = n + (t.length + 1) by omega]
theorem psR_snoc : ∀ (l : List Str) (ws : List Run) (n : Nat) (k : Str), psR ws n (l ++ [k]) = psR ws n l ++ plP (plA ws n l) k (n + l.length)
  | [], ws, n, k => by
    show plP ws k n ++ [] = [] ++ plP ws k (n + 0)
    rw [List.append_nil, List.nil_append, Nat.add_zero]
  | x :: t, ws, n, k => by
    show plP ws x n ++ psR (plS ws x n) (n + 1) (t ++ [k]) = (plP ws x n ++ psR (plS ws x n) (n + 1) t) ++ plP (plA (plS ws x n) (n + 1) t) k (n + (x :: t).length)
    rw [psR_snoc t, List.length_cons, List.append_assoc, show n + 1 + t.length = n + (t.length + 1) by omega]
def plMs (ws : List Run) (ks : List Str) : List (List Run) := (List.range (ks.length + 1)).map fun m => plA ws 0 (ks.take m)
theorem plMs_snoc (ws : List Run) (l : List Str) (k : Str) : plMs ws (l ++ [k]) = plMs ws l ++ [plA ws 0 (l ++ [k])] := by
  unfold plMs
  rw [List.length_append, List.length_cons, List.length_nil, Nat.zero_add, List.range_succ, List.map_append]
  congr 1
  · refine List.map_congr_left fun m hm => ?_
    have : m ≤ l.length := by
      have := List.mem_range.mp hm
      omega
    rw [List.take_append_of_le_length this]
  · rw [List.map_singleton, List.take_of_length_le (by rw [List.length_append]; exact Nat.le_refl _)]
theorem plMs_nil (ws : List Run) : plMs ws [] = [ws] := rfl
theorem plMs_len (ws : List Run) (l : List Str) : (plMs ws l).length = l.length + 1 := by
  unfold plMs
  rw [List.length_map, List.length_range]
theorem plS_len (ws : List Run) (k : Str) (n : Nat) : (plS ws k n).length ≤ ws.length + 1 := by
  cases ws with
  | nil => exact Nat.le_refl _
  | cons r t =>
    show (if r.1 = k then (r :: t) ++ [(k, (n : Int))] else t).length ≤ _
    split
    · rw [List.length_append]
      exact Nat.le_refl _
    · rw [List.length_cons]
      omega
theorem plA_len : ∀ (l : List Str) (ws : List Run) (n : Nat), (plA ws n l).length ≤ ws.length + l.length
  | [], ws, n => Nat.le_refl _
  | k :: t, ws, n => by
    have h1 := plA_len t (plS ws k n) (n + 1)
    have h2 := plS_len ws k n
    show (plA (plS ws k n) (n + 1) t).length ≤ _
    rw [List.length_cons]
    omega
theorem plP_len (ws : List Run) (k : Str) (n : Nat) : (plP ws k n).length ≤ 1 := by
  cases ws with
  | nil => exact Nat.zero_le _
  | cons r t =>
    show (if r.1 = k then [] else [(r.2, (n : Int))]).length ≤ 1
    split <;> simp
theorem psR_len : ∀ (l : List Str) (ws : List Run) (n : Nat), (psR ws n l).length ≤ l.length
  | [], ws, n => Nat.le_refl _
  | k :: t, ws, n => by
    have h1 := psR_len t (plS ws k n) (n + 1)
    have h2 := plP_len ws k n
    show (plP ws k n ++ psR (plS ws k n) (n + 1) t).length ≤ _
    rw [List.length_append, List.length_cons]
    omega
theorem plS_kinds {ws : List Run} {k : Str} {n : Nat} (h : ∀ r ∈ ws, KindOk r.1) (hk : KindOk k) : ∀ r ∈ plS ws k n, KindOk r.1 := by
  intro r hr
  cases ws with
  | nil =>
    rw [List.mem_singleton.mp (show r ∈ [(k, (n : Int))] from hr)]
    exact hk
  | cons x t =>
    have hr : r ∈ (if x.1 = k then (x :: t) ++ [(k, (n : Int))] else t) := hr
    by_cases e : x.1 = k
    · rw [if_pos e] at hr
      rcases List.mem_append.mp hr with z | z
      · exact h r z
      · rw [List.mem_singleton.mp z]
        exact hk
    · rw [if_neg e] at hr
      exact h r (List.mem_cons_of_mem _ hr)
theorem plA_kinds : ∀ {l : List Str} {ws : List Run} {n : Nat}, (∀ r ∈ ws, KindOk r.1) → (∀ k ∈ l, KindOk k) → ∀ r ∈ plA ws n l, KindOk r.1
  | [], _, _, h, _ => h
  | k :: t, ws, n, h, hl => plA_kinds (l := t) (plS_kinds h (hl k (List.mem_cons_self ..))) fun x hx => hl x (List.mem_cons_of_mem _ hx)
def w0R : Option Run → List Run
  | none => []
  | some r => List.replicate r.2.toNat (r.1, -1)
def itR (rs : List Run) : List Str := rs.flatMap fun r => List.replicate r.2.toNat r.1
theorem itR_snoc (l : List Run) (r : Run) : itR (l ++ [r]) = itR l ++ List.replicate r.2.toNat r.1 := by
  unfold itR
  rw [List.flatMap_append]
  simp
def PV (H : Hp) (v : V) (p : Int × Int) : Prop := ∃ t, v = .ref t ∧ H t = some (.tup [.int p.1, .int p.2])
theorem PV.same {H H' : Hp} {v : V} {p : Int × Int} (s : Same H H') (h : PV H v p) : PV H' v p := by
  obtain ⟨t, e, h⟩ := h
  exact ⟨t, e, s _ _ h⟩
theorem PV.grow {H : Hp} {D : Addr} {acc acc' : List V} {v : V} {p : Int × Int} (hD : H D = some (.lst acc)) (h : PV H v p) : PV (upd H D (.lst acc')) v p := by
  obtain ⟨t, e, h⟩ := h
  refine ⟨t, e, ?_⟩
  rw [upd_ne (ne_of h hD (by intro q; cases q))]
  exact h
theorem Runs.grow {H : Hp} {D a : Addr} {acc acc' : List V} {ws : List Run} (hD : H D = some (.lst acc)) (n : a ≠ D) (h : Runs H a ws) : Runs (upd H D (.lst acc')) a ws := by
  obtain ⟨xs, hx, hp⟩ := h
  refine ⟨xs, ?_, prs_grow hD hp⟩
  rw [upd_ne n]
  exact hx
/-- a list of runs apart from two others -/
def WL (H : Hp) (M N : Addr) (v : V) (ws : List Run) : Prop := ∃ a, v = .ref a ∧ a ≠ M ∧ a ≠ N ∧ Runs H a ws
theorem WL.same {H H' : Hp} {M N : Addr} {v : V} {ws : List Run} (s : Same H H') (h : WL H M N v ws) : WL H' M N v ws := by
  obtain ⟨a, e, n1, n2, h⟩ := h
  exact ⟨a, e, n1, n2, h.same s⟩
/-- what the play keeps -/
structure Pl (H0 H : Hp) (W M N : Addr) (ws0 : List Run) (ks ls : List Str) : Prop where
  sm : Same H0 H
  wm : W ≠ M
  wn : W ≠ N
  wr : Runs H W (plA ws0 0 ls)
  ms : ∃ xs, H M = some (.lst xs) ∧ Paired (WL H M N) xs (plMs ws0 ks)
  ps : ∃ ys, H N = some (.lst ys) ∧ Paired (PV H) ys (psR ws0 0 ls)
theorem flat_one {α : Type} (x : α) : ∀ n : Nat, (List.replicate n [x]).flatten = List.replicate n x
  | 0 => rfl
  | n + 1 => by
    rw [List.replicate_succ, List.flatten_cons, flat_one x n]
    rfl
theorem paired_rep {α β : Type} {F : α → β → Prop} {a : α} {b : β} (h : F a b) : ∀ n : Nat, Paired F (List.replicate n a) (List.replicate n b)
  | 0 => .nil
  | n + 1 => .cons h (paired_rep h n)
theorem len_items {rs : List Run} (h : ∀ r ∈ rs, 1 ≤ r.2 ∧ r.2 ≤ 1000) : (itR rs).length ≤ 1000 * rs.length := by
  induction rs with
  | nil => exact Nat.le_refl _
  | cons r t ih =>
    have e : itR (r :: t) = List.replicate r.2.toNat r.1 ++ itR t := rfl
    have h1 := h r (List.mem_cons_self ..)
    have h2 := ih fun x hx => h x (List.mem_cons_of_mem _ hx)
    rw [e, List.length_append, List.length_replicate, List.length_cons]
    omega
end UP

set_option Elab.async false
set_option linter.all false
set_option maxRecDepth 100000
set_option maxHeartbeats 4000000
namespace UP
open PySem PySem.Spec PyProof.Rows L2
section
variable {P : Program} {w : World} {K : PySem.W.Frag} {mg : Str → Option Value} {base : Heap}
end
end UP

set_option Elab.async false
set_option linter.all false
set_option maxRecDepth 100000
set_option maxHeartbeats 4000000
namespace UP
open PySem PySem.Spec PyProof.Rows L2
/-! ### one arrival after the other -/
def stI (ks : List Str) (st : Option Run) : Option Run := ks.foldl (fun s k => stepR s k 1) st
theorem stI_app (l m : List Str) (st : Option Run) : stI (l ++ m) st = stI m (stI l st) := List.foldl_append ..
theorem step_same {r : Run} {k : Str} {c : Int} (h : r.1 = k) : stepR (some r) k c = some (k, r.2 + c) := if_pos h
theorem step_other {r : Run} {k : Str} {c : Int} (h : r.1 ≠ k) : stepR (some r) k c = if 0 < r.2 - c then some (r.1, r.2 - c) else if r.2 - c = 0 then none else some (k, -(r.2 - c)) := if_neg h
theorem step_step {s : Option Run} {k : Str} {c : Int} (h : PosO s) (hc : 1 ≤ c) : stepR (stepR s k 1) k c = stepR s k (1 + c) := by
  cases s with
  | none => exact step_same (r := (k, 1)) rfl
  | some r =>
    have r1 := h r rfl
    by_cases e : r.1 = k
    · rw [step_same e, step_same e, step_same (r := (k, r.2 + 1)) rfl]
      show some (k, r.2 + 1 + c) = _
      rw [Int.add_assoc]
    · rw [step_other e, step_other e]
      by_cases h1 : 0 < r.2 - 1
      · rw [if_pos h1, step_other (r := (r.1, r.2 - 1)) e]
        show (if 0 < r.2 - 1 - c then some (r.1, r.2 - 1 - c) else if r.2 - 1 - c = 0 then none else some (k, -(r.2 - 1 - c))) = _
        rw [show r.2 - 1 - c = r.2 - (1 + c) by omega]
      · have e2 : r.2 - 1 = 0 := by omega
        rw [if_neg h1, if_pos e2, if_neg (by omega), if_neg (by omega)]
        show some (k, c) = _
        rw [show -(r.2 - (1 + c)) = c by omega]
theorem it_step : ∀ (n : Nat) (s : Option Run) (k : Str), PosO s → stI (List.replicate (n + 1) k) s = stepR s k ((n : Int) + 1)
  | 0, s, k, _ => rfl
  | n + 1, s, k, h => by
    show stI (List.replicate (n + 1) k) (stepR s k 1) = _
    rw [it_step n _ k (stepR_pos h (by decide)), step_step h (by omega)]
    congr 1
    omega
theorem st_items : ∀ (rs : List Run) (st : Option Run), PosO st → (∀ r ∈ rs, 1 ≤ r.2) → stR rs st = stI (itR rs) st
  | [], st, _, _ => rfl
  | r :: t, st, h, k => by
    have c1 := k r (List.mem_cons_self ..)
    have e : itR (r :: t) = List.replicate r.2.toNat r.1 ++ itR t := rfl
    obtain ⟨n, hn⟩ : ∃ n : Nat, r.2.toNat = n + 1 := ⟨r.2.toNat - 1, by omega⟩
    rw [e, stI_app, hn, it_step n _ _ h, stR_cons, show ((n : Int) + 1) = r.2 by omega]
    exact st_items t _ (stepR_pos h c1) fun x hx => k x (List.mem_cons_of_mem _ hx)
theorem take_app {α : Type} : ∀ (l m : List α) (n : Nat), (l ++ m).take n = l.take n ++ m.take (n - l.length)
  | [], m, n => by
    rw [List.nil_append, List.take_nil, List.nil_append, List.length_nil, Nat.sub_zero]
  | x :: t, m, 0 => by
    rw [List.take_zero, List.take_zero, Nat.zero_sub, List.take_zero]
    rfl
  | x :: t, m, n + 1 => by
    rw [List.cons_append, List.take_succ_cons, take_app t m n, List.take_succ_cons, List.length_cons, Nat.add_sub_add_right]
    rfl
theorem it_app (l m : List Run) : itR (l ++ m) = itR l ++ itR m := List.flatMap_append ..
theorem cut_items (e : Int) : ∀ (rs : List Run) (b : Int), 0 ≤ b → (∀ r ∈ rs, 1 ≤ r.2) → itR (cutR 0 e b rs) = (itR rs).take (e - b).toNat
  | [], b, _, _ => by
    show ([] : List Str) = ([] : List Str).take _
    rw [List.take_nil]
  | r :: t, b, hb, k => by
    have c1 := k r (List.mem_cons_self ..)
    have ih := cut_items e t (b + r.2) (by omega) fun x hx => k x (List.mem_cons_of_mem _ hx)
    have e1 : cutR 0 e b (r :: t) = pieceR b 0 e r ++ cutR 0 e (b + r.2) t := rfl
    have e2 : itR (r :: t) = List.replicate r.2.toNat r.1 ++ itR t := rfl
    rw [e1, it_app, ih, e2, take_app, List.length_replicate, List.take_replicate, show (e - (b + r.2)).toNat = (e - b).toNat - r.2.toNat by omega]
    congr 1
    have es : sizeR b 0 e r.2 = (if b + r.2 < e then b + r.2 else e) - b := by
      unfold sizeR
      by_cases h0 : b > 0
      · rw [if_pos h0]
      · rw [if_neg h0, show b = 0 by omega]
    by_cases hs : 0 < sizeR b 0 e r.2
    · rw [show pieceR b 0 e r = [(r.1, sizeR b 0 e r.2)] from if_pos hs]
      show List.replicate (sizeR b 0 e r.2).toNat r.1 ++ [] = _
      rw [List.append_nil]
      congr 1
      rw [es] at hs ⊢
      split <;> omega
    · rw [show pieceR b 0 e r = [] from if_neg hs]
      rw [es] at hs
      rw [show min (e - b).toNat r.2.toNat = 0 by split at hs <;> omega]
      rfl
theorem len_it : ∀ (rs : List Run), (∀ r ∈ rs, 1 ≤ r.2) → ((itR rs).length : Int) = lenR rs
  | [], _ => rfl
  | r :: t, k => by
    have c1 := k r (List.mem_cons_self ..)
    have ih := len_it t fun x hx => k x (List.mem_cons_of_mem _ hx)
    have e2 : itR (r :: t) = List.replicate r.2.toNat r.1 ++ itR t := rfl
    rw [e2, List.length_append, List.length_replicate, lenR_cons]
    omega
/-! ### what is told of waiting items -/
def Uni (ws : List Run) : Prop := ∀ x ∈ ws, ∀ y ∈ ws, x.1 = y.1
theorem uni_plS {ws : List Run} {k : Str} {n : Nat} (h : Uni ws) : Uni (plS ws k n) := by
  cases ws with
  | nil =>
    intro x hx y hy
    rw [List.mem_singleton.mp (show x ∈ [(k, (n : Int))] from hx), List.mem_singleton.mp (show y ∈ [(k, (n : Int))] from hy)]
  | cons r t =>
    by_cases e : r.1 = k
    · rw [show plS (r :: t) k n = (r :: t) ++ [(k, (n : Int))] from if_pos e]
      have all : ∀ x ∈ (r :: t) ++ [(k, (n : Int))], x.1 = k := by
        intro x hx
        rcases List.mem_append.mp hx with z | z
        · rw [h x z r (List.mem_cons_self ..)]
          exact e
        · rw [List.mem_singleton.mp z]
      intro x hx y hy
      rw [all x hx, all y hy]
    · rw [show plS (r :: t) k n = t from if_neg e]
      exact fun x hx y hy => h x (List.mem_cons_of_mem _ hx) y (List.mem_cons_of_mem _ hy)
theorem told_plS {ws : List Run} {k : Str} {n : Nat} (h : Uni ws) : toldR (plS ws k n) = stepR (toldR ws) k 1 := by
  cases ws with
  | nil => rfl
  | cons r t =>
    by_cases e : r.1 = k
    · rw [show plS (r :: t) k n = (r :: t) ++ [(k, (n : Int))] from if_pos e]
      show some (r.1, (((r :: t) ++ [(k, (n : Int))]).length : Int)) = stepR (some (r.1, ((r :: t).length : Int))) k 1
      rw [step_same (r := (r.1, ((r :: t).length : Int))) e, List.length_append, e]
      show some (k, (((r :: t).length + 1 : Nat) : Int)) = some (k, ((r :: t).length : Int) + 1)
      rw [Int.natCast_add]
      rfl
    · rw [show plS (r :: t) k n = t from if_neg e]
      show toldR t = stepR (some (r.1, ((r :: t).length : Int))) k 1
      rw [step_other (r := (r.1, ((r :: t).length : Int))) e]
      cases t with
      | nil => rfl
      | cons x u =>
        have ex : x.1 = r.1 := h x (List.mem_cons_of_mem _ (List.mem_cons_self ..)) r (List.mem_cons_self ..)
        show some (x.1, ((x :: u).length : Int)) = if 0 < ((r :: x :: u).length : Int) - 1 then some (r.1, ((r :: x :: u).length : Int) - 1) else _
        rw [List.length_cons, List.length_cons, List.length_cons, if_pos (by omega), ex]
        congr 2
        omega
theorem told_plA : ∀ (l : List Str) (ws : List Run) (n : Nat), Uni ws → toldR (plA ws n l) = stI l (toldR ws)
  | [], _, _, _ => rfl
  | k :: t, ws, n, h => by
    show toldR (plA (plS ws k n) (n + 1) t) = stI t (stepR (toldR ws) k 1)
    rw [told_plA t _ _ (uni_plS h), told_plS h]
theorem uni_w0 (st : Option Run) : Uni (w0R st) := by
  cases st with
  | none => intro x hx; cases hx
  | some r =>
    intro x hx y hy
    rw [List.eq_of_mem_replicate hx, List.eq_of_mem_replicate hy]
theorem told_w0 {st : Option Run} (h : PosO st) : toldR (w0R st) = st := by
  cases st with
  | none => rfl
  | some r =>
    have r1 := h r rfl
    obtain ⟨n, hn⟩ : ∃ n : Nat, r.2.toNat = n + 1 := ⟨r.2.toNat - 1, by omega⟩
    show toldR (List.replicate r.2.toNat (r.1, (-1 : Int))) = some r
    rw [hn, List.replicate_succ]
    show some (r.1, (((r.1, (-1 : Int)) :: List.replicate n (r.1, (-1 : Int))).length : Int)) = some r
    rw [List.length_cons, List.length_replicate, show ((n + 1 : Nat) : Int) = r.2 by omega]
/-! ### all counts multiplied -/
def scO (t : Int) (st : Option Run) : Option Run := st.map fun r => (r.1, r.2 * t)
theorem lt_sc {a b t : Int} (ht : 0 < t) : a * t < b * t ↔ a < b :=
  ⟨fun h => by
    by_cases z : a < b
    · exact z
    · have := Int.mul_le_mul_of_nonneg_right (show b ≤ a by omega) (Int.le_of_lt ht)
      omega, fun h => Int.mul_lt_mul_of_pos_right h ht⟩
theorem size_sc {b s e c t : Int} (ht : 0 < t) : sizeR (b * t) (s * t) (e * t) (c * t) = sizeR b s e c * t := by
  unfold sizeR
  rw [← Int.add_mul, Int.sub_mul]
  congr 1
  · by_cases h : b + c < e
    · rw [if_pos h, if_pos ((lt_sc ht).mpr h)]
    · rw [if_neg h, if_neg fun z => h ((lt_sc ht).mp z)]
  · by_cases h : b > s
    · rw [if_pos h, if_pos ((lt_sc ht).mpr h)]
    · rw [if_neg h, if_neg fun z => h ((lt_sc ht).mp z)]
theorem pos_sc {a t : Int} (ht : 0 < t) : 0 < a * t ↔ 0 < a := by
  have := lt_sc (a := 0) (b := a) ht
  rw [Int.zero_mul] at this
  exact this
theorem piece_sc {b s e t : Int} {r : Run} (ht : 0 < t) : pieceR (b * t) (s * t) (e * t) (r.1, r.2 * t) = scR t (pieceR b s e r) := by
  unfold pieceR
  show (if 0 < sizeR (b * t) (s * t) (e * t) (r.2 * t) then [(r.1, sizeR (b * t) (s * t) (e * t) (r.2 * t))] else []) = _
  rw [size_sc ht]
  by_cases h : 0 < sizeR b s e r.2
  · rw [if_pos h, if_pos ((pos_sc ht).mpr h)]
    rfl
  · rw [if_neg h, if_neg fun z => h ((pos_sc ht).mp z)]
    rfl
theorem cut_sc {s e t : Int} (ht : 0 < t) : ∀ (rs : List Run) (b : Int), cutR (s * t) (e * t) (b * t) (scR t rs) = scR t (cutR s e b rs)
  | [], _ => rfl
  | r :: u, b => by
    have ih := cut_sc (s := s) (e := e) ht u (b + r.2)
    show pieceR (b * t) (s * t) (e * t) (r.1, r.2 * t) ++ cutR (s * t) (e * t) (b * t + r.2 * t) (scR t u) = scR t (pieceR b s e r ++ cutR s e (b + r.2) u)
    rw [← Int.add_mul, ih, piece_sc ht]
    unfold scR
    rw [List.map_append]
theorem step_sc {st : Option Run} {k : Str} {c t : Int} (ht : 0 < t) : stepR (scO t st) k (c * t) = scO t (stepR st k c) := by
  cases st with
  | none => rfl
  | some r =>
    show stepR (some (r.1, r.2 * t)) k (c * t) = _
    by_cases e : r.1 = k
    · rw [step_same (r := (r.1, r.2 * t)) e, step_same e]
      show some (k, r.2 * t + c * t) = some (k, (r.2 + c) * t)
      rw [Int.add_mul]
    · rw [step_other (r := (r.1, r.2 * t)) e, step_other e]
      show (if 0 < r.2 * t - c * t then some (r.1, r.2 * t - c * t) else if r.2 * t - c * t = 0 then none else some (k, -(r.2 * t - c * t))) = _
      rw [← Int.sub_mul]
      by_cases h : 0 < r.2 - c
      · rw [if_pos h, if_pos ((pos_sc ht).mpr h)]
        rfl
      · rw [if_neg h, if_neg fun z => h ((pos_sc ht).mp z)]
        by_cases h2 : r.2 - c = 0
        · rw [if_pos h2, h2, Int.zero_mul, if_pos rfl]
          rfl
        · have h3 : (r.2 - c) * t ≠ 0 := Int.mul_ne_zero h2 (by omega)
          rw [if_neg h2, if_neg h3]
          show some (k, -((r.2 - c) * t)) = some (k, -(r.2 - c) * t)
          rw [Int.neg_mul]
theorem st_sc {t : Int} (ht : 0 < t) : ∀ (rs : List Run) (st : Option Run), stR (scR t rs) (scO t st) = scO t (stR rs st)
  | [], _ => rfl
  | r :: u, st => by
    show stR (scR t u) (stepR (scO t st) r.1 (r.2 * t)) = scO t (stR u (stepR st r.1 r.2))
    rw [step_sc ht, st_sc ht u]
theorem len_sc {t : Int} : ∀ (rs : List Run), lenR (scR t rs) = lenR rs * t
  | [] => by
    show (0 : Int) = 0 * t
    rw [Int.zero_mul]
  | r :: u => by
    show lenR ((r.1, r.2 * t) :: scR t u) = _
    rw [lenR_cons, lenR_cons, len_sc u, Int.add_mul]
/-- the multiplied state at a multiplied moment -/
theorem whole_sc {t : Int} {rs : List Run} {st : Option Run} {p : Nat} (ht : 0 < t) (h : PosO st) (k : ∀ r ∈ rs, 1 ≤ r.2) :
    stR (cutR 0 ((p : Int) * t) 0 (scR t rs)) (scO t st) = scO t (toldR (plA (w0R st) 0 ((itR rs).take p))) := by
  have e := cut_sc (s := 0) (e := (p : Int)) ht rs 0
  rw [Int.zero_mul] at e
  rw [e, st_sc ht, told_plA _ _ _ (uni_w0 st), told_w0 h, st_items _ _ h cutR_pos, cut_items _ _ _ (Int.le_refl _) k, Int.sub_zero, Int.toNat_natCast]
end UP

set_option Elab.async false
set_option linter.all false
set_option maxRecDepth 100000
set_option maxHeartbeats 4000000
namespace UP
open PySem PySem.Spec PyProof.Rows L2
theorem room70 {A : Around} {k : Nat} (hr : Room k A) : A.units + 70 < cLine := by
  have := hr.un
  omega
theorem call_list_ofK {X : Cx} {K : PySem.W.Frag} (h : X.K = K) : CallR X (.type "list") (fun xs H Q => ∃ p ys, xs = [.ref p] ∧ (SqL K H p ys ∨ SqT K H p ys) ∧ ∀ l, H l = none → Q (.ref l) (upd H l (.lst ys))) := by
  subst h
  exact call_list_of
/-! ### data that a repr takes -/
structure Nice (w n : Nat) (d : PyData) : Prop where
  can : d.canLay0 = true
  dep : d.depth ≤ n
  sho : d.showable = true
  lea : d.leavesShort 100 = true
  wei : d.weight ≤ w
theorem Nice.mono {w w' n n' : Nat} {d : PyData} (h : Nice w n d) (h1 : w ≤ w') (h2 : n ≤ n') : Nice w' n' d := ⟨h.can, Nat.le_trans h.dep h2, h.sho, h.lea, Nat.le_trans h.wei h1⟩
theorem Nice.fits {w n : Nat} {d : PyData} (h : Nice w n d) (hw : w ≤ 150000) (hn : n ≤ 64) : d.showable = true ∧ SeqAt.shaped d = true ∧ d.shown.length ≤ sizeLine := by
  refine ⟨h.sho, ?_, ?_⟩
  · unfold SeqAt.shaped
    rw [h.can]
    have := h.dep
    exact decide_eq_true (by omega)
  · have h1 := PyData.shown_le 100 (by decide) d h.lea
    have h2 := h.wei
    have h3 : d.shown.length ≤ 16000000 := by omega
    exact Nat.le_trans h3 (by decide)
theorem nice_none : Nice 0 0 .none := ⟨rfl, Nat.le_refl _, rfl, rfl, Nat.le_refl _⟩
theorem nice_str {s : Str} (h : KindOk s) : Nice 8 0 (.str s) := by
  refine ⟨?_, Nat.le_refl _, rfl, ?_, h.2.1⟩
  · rw [PyData.canLay0]
    exact h.str
  · rw [PyData.leavesShort, List.all_eq_true]
    intro c hc
    have := h.2.2 c hc
    exact decide_eq_true (by omega)
theorem nice_int {i : Int} (h : i.natAbs < 10 ^ 60) : Nice 201 0 (.int i) := by
  have h2 : i.natAbs < 2 ^ 200 := Nat.lt_of_lt_of_le h (by decide)
  have h3 : i.natAbs.log2 < 200 := by
    by_cases z : i.natAbs = 0
    · rw [z]
      decide
    · exact (Nat.log2_lt z).mpr h2
  refine ⟨by rw [PyData.canLay0], Nat.le_refl _, ?_, ?_, ?_⟩
  · rw [PyData.showable]
    exact decide_eq_true (by omega)
  · rw [PyData.leavesShort]
    refine decide_eq_true ?_
    have e := int_text_length_le10 (k := 60) (by decide) h
    show (Str.ofString (toString i)).length ≤ 100
    rw [PySem.ofString_length]
    omega
  · rw [PyData.weight]
    split <;> omega
theorem nice_items {w n : Nat} : ∀ {ds : List PyData}, (∀ d ∈ ds, Nice w n d) → PyData.canLayAll0 ds = true ∧ PyData.depthAll ds ≤ n ∧ PyData.showableAll ds = true ∧ PyData.leavesShortAll 100 ds = true ∧ PyData.weightAll ds ≤ (w + 1) * ds.length
  | [], _ => ⟨rfl, Nat.zero_le _, rfl, rfl, Nat.zero_le _⟩
  | d :: t, h => by
    have h1 := h d (List.mem_cons_self ..)
    obtain ⟨a, b, c, e, f⟩ := nice_items (ds := t) fun x hx => h x (List.mem_cons_of_mem _ hx)
    refine ⟨?_, ?_, ?_, ?_, ?_⟩
    · rw [PyData.canLayAll0, h1.can, a]
      rfl
    · rw [PyData.depthAll]
      exact Nat.max_le.mpr ⟨h1.dep, b⟩
    · rw [PyData.showableAll, h1.sho, c]
      rfl
    · rw [PyData.leavesShortAll, h1.lea, e]
      rfl
    · have h2 := h1.wei
      rw [PyData.weightAll, List.length_cons, Nat.mul_succ]
      omega
theorem nice_list {w n : Nat} {ds : List PyData} (h : ∀ d ∈ ds, Nice w n d) : Nice ((w + 1) * ds.length) (n + 1) (.list ds) := by
  obtain ⟨a, b, c, e, f⟩ := nice_items h
  exact ⟨by rw [PyData.canLay0]; exact a, by rw [PyData.depth]; omega, by rw [PyData.showable]; exact c, by rw [PyData.leavesShort]; exact e, by rw [PyData.weight]; exact f⟩
theorem nice_tup {w n : Nat} {ds : List PyData} (h : ∀ d ∈ ds, Nice w n d) : Nice ((w + 1) * ds.length) (n + 1) (.tuple ds) := by
  obtain ⟨a, b, c, e, f⟩ := nice_items h
  exact ⟨by rw [PyData.canLay0]; exact a, by rw [PyData.depth]; omega, by rw [PyData.showable]; exact c, by rw [PyData.leavesShort]; exact e, by rw [PyData.weight]; exact f⟩
/-- v stands for d at H and at every heap that keeps H -/
def DpS (K : PySem.W.Frag) (H : Hp) (v : V) (d : PyData) : Prop := ∀ H', Same H H' → Dp K H' v d
theorem DpS.same {K : PySem.W.Frag} {H H' : Hp} {v : V} {d : PyData} (s : Same H H') (h : DpS K H v d) : DpS K H' v d := fun H2 s2 => h H2 (s.trans s2)
theorem dps_all {K : PySem.W.Frag} {H : Hp} {F : PyData → Prop} : ∀ {xs : List V}, (∀ x ∈ xs, ∃ d, DpS K H x d ∧ F d) → ∃ ds, (∀ H', Same H H' → DpAll K H' xs ds) ∧ ds.length = xs.length ∧ ∀ d ∈ ds, F d
  | [], _ => ⟨[], fun _ _ => .nil, rfl, fun d h => by cases h⟩
  | x :: t, h => by
    obtain ⟨d, h1, h2⟩ := h x (List.mem_cons_self ..)
    obtain ⟨ds, a, b, c⟩ := dps_all (xs := t) fun y hy => h y (List.mem_cons_of_mem _ hy)
    refine ⟨d :: ds, fun H' s => .cons (h1 H' s) (a H' s), congrArg Nat.succ b, fun z hz => ?_⟩
    rcases List.mem_cons.mp hz with e | e
    · rw [e]
      exact h2
    · exact c z e
theorem dps_seq {K : PySem.W.Frag} {H : Hp} {a : Addr} {xs : List V} {w n : Nat} (hx : Sq2 H a xs) (h : ∀ x ∈ xs, ∃ d, DpS K H x d ∧ Nice w n d) : ∃ d, DpS K H (.ref a) d ∧ Nice ((w + 1) * xs.length) (n + 1) d := by
  obtain ⟨ds, h1, h2, h3⟩ := dps_all h
  rcases hx with z | z
  · exact ⟨.list ds, fun H' s => .lst (.of (s _ _ z)) (h1 H' s), by rw [← h2]; exact nice_list h3⟩
  · exact ⟨.tuple ds, fun H' s => .tup (.of (s _ _ z)) (h1 H' s), by rw [← h2]; exact nice_tup h3⟩
theorem dps_run {K : PySem.W.Frag} {H : Hp} {v : V} {r : Run} (h : RunG H v r) (k : KindOk r.1) (c : r.2.natAbs < 10 ^ 60) : ∃ d, DpS K H v d ∧ Nice 404 1 d := by
  obtain ⟨t, rfl, h⟩ := h
  have := dps_seq (K := K) (w := 201) (n := 0) h fun x hx => by
    rcases List.mem_cons.mp hx with e | e
    · rw [e]
      exact ⟨.str r.1, fun _ _ => .str _, (nice_str k).mono (by decide) (Nat.le_refl _)⟩
    · rw [List.mem_singleton.mp e]
      exact ⟨.int r.2, fun _ _ => .int _, nice_int c⟩
  exact this
theorem dps_runs {K : PySem.W.Frag} {H : Hp} {v : V} {rs : List Run} (h : RunsG H v rs) (k : ∀ r ∈ rs, KindOk r.1 ∧ r.2.natAbs < 10 ^ 60) (l : rs.length ≤ 100) : ∃ d, DpS K H v d ∧ Nice 41000 2 d := by
  obtain ⟨a, xs, rfl, hx, hp⟩ := h
  have lx : xs.length = rs.length := Paired.len hp
  obtain ⟨d, h1, h2⟩ := dps_seq (K := K) (w := 404) (n := 1) hx fun x hx => by
    obtain ⟨i, hi, e⟩ := List.mem_iff_getElem.mp hx
    obtain ⟨r, er, hr⟩ := Paired.at hp (List.getElem?_eq_getElem hi)
    rw [e] at hr
    have := k r (List.mem_of_getElem? er)
    exact dps_run hr this.1 this.2
  exact ⟨d, h1, h2.mono (by rw [lx]; omega) (Nat.le_refl _)⟩
theorem dps_st {K : PySem.W.Frag} {H : Hp} {v : V} {st : Option Run} (h : StG H v st) (k : ∀ r, st = some r → KindOk r.1 ∧ r.2.natAbs < 10 ^ 60) : ∃ d, DpS K H v d ∧ Nice 41000 2 d := by
  cases st with
  | none =>
    cases h
    exact ⟨.none, fun _ _ => .non, nice_none.mono (by decide) (by decide)⟩
  | some r =>
    obtain ⟨d, h1, h2⟩ := dps_run (K := K) h (k r rfl).1 (k r rfl).2
    exact ⟨d, h1, h2.mono (by decide) (by decide)⟩
theorem dps_two {K : PySem.W.Frag} {H : Hp} {a : Addr} {x y : V} (h : H a = some (.lst [x, y])) (hx : ∃ d, DpS K H x d ∧ Nice 41000 2 d) (hy : ∃ d, DpS K H y d ∧ Nice 41000 2 d) : ∃ d, DpS K H (.ref a) d ∧ Nice 82002 3 d := by
  have := dps_seq (K := K) (a := a) (xs := [x, y]) (w := 41000) (n := 2) (.inl h) fun z hz => by
    rcases List.mem_cons.mp hz with e | e
    · rw [e]
      exact hx
    · rw [List.mem_singleton.mp e]
      exact hy
  exact this
/-! ### dressed and undressed -/
def dP (r : Run) : PyData := .list [.str r.1, .int r.2]
def dSq (rs : List Run) : PyData := .list (rs.map dP)
def dSt : Option Run → PyData
  | none => .none
  | some r => dP r
theorem sim_pair {N : Addr → Prop} {H : Hp} {n : Nat} (r : Run) : Paired (Sim N H n) [V.str r.1, V.int r.2] [PyData.str r.1, PyData.int r.2] := .cons (Sim.dsc (.inr (.inr (.inr ⟨_, rfl, rfl⟩)))) (.cons (Sim.dsc (.inr (.inr (.inl ⟨_, rfl, rfl⟩)))) .nil)
theorem sim_run {H : Hp} {sp : Addr} {v : V} {r : Run} {n : Nat} (z : Spr H sp) (h : RunV H v r) : Sim (· ≠ sp) H (n + 1) v (dP r) := by
  obtain ⟨t, rfl, h⟩ := h
  obtain ⟨_, _, _, hs, _⟩ := z
  exact .inr ⟨t, _, _, rfl, ne_of h hs (by intro q; cases q), .inr h, rfl, sim_pair r, Nat.le_of_ble_eq_true rfl⟩
theorem sim_seq {H : Hp} {sp a : Addr} {rs : List Run} (z : Spr H sp) (h : Runs H a rs) (l : rs.length ≤ 1000) : Sim (· ≠ sp) H 2 (.ref a) (dSq rs) := by
  have na := Runs.ne z h
  obtain ⟨xs, hx, hp⟩ := h
  refine .inr ⟨a, xs, _, rfl, na, .inl hx, rfl, ?_, by rw [List.length_map]; exact l⟩
  have gen : ∀ {xs : List V} {rs : List Run}, Paired (RunV H) xs rs → Paired (Sim (· ≠ sp) H 1) xs (rs.map dP) := by
    intro xs rs h
    induction h with
    | nil => exact .nil
    | cons h _ ih => exact .cons (sim_run z h) ih
  exact gen hp
theorem sim_st {H : Hp} {sp : Addr} {v : V} {st : Option Run} (z : Spr H sp) (h : StV H v st) : Sim (· ≠ sp) H 2 v (dSt st) := by
  cases st with
  | none =>
    cases h
    exact .inl (.inl ⟨rfl, rfl⟩)
  | some r => exact sim_run z h
theorem sim_one {N : Addr → Prop} {H : Hp} {n : Nat} {v : V} {r : Run} (h : Sim N H (n + 1) v (dP r)) : RunG H v r := by
  rcases h with h | ⟨a, xs, ds, rfl, _, hx, e, p, _⟩
  · exact (dsc_lst h).elim
  · cases e
    have scal : ∀ {m : Nat} {x : V} {s : Str}, Sim N H m x (.str s) → x = .str s := by
      intro m x s h
      have h : Dsc x (.str s) := by
        cases m with
        | zero => exact h
        | succ m =>
          rcases h with h | ⟨_, _, _, _, _, _, e, _⟩
          · exact h
          · cases e
      rcases h with ⟨_, e⟩ | ⟨_, _, e⟩ | ⟨_, _, e⟩ | ⟨y, e1, e⟩ <;> cases e
      exact e1
    have scai : ∀ {m : Nat} {x : V} {s : Int}, Sim N H m x (.int s) → x = .int s := by
      intro m x s h
      have h : Dsc x (.int s) := by
        cases m with
        | zero => exact h
        | succ m =>
          rcases h with h | ⟨_, _, _, _, _, _, e, _⟩
          · exact h
          · cases e
      rcases h with ⟨_, e⟩ | ⟨_, _, e⟩ | ⟨y, e1, e⟩ | ⟨_, _, e⟩ <;> cases e
      exact e1
    cases p with
    | cons h1 p1 =>
      cases p1 with
      | cons h2 p2 =>
        cases p2
        rw [scal h1, scai h2] at hx
        exact ⟨a, rfl, hx⟩
theorem sim_all {N : Addr → Prop} {H : Hp} : ∀ (rs : List Run) (xs : List V), Paired (Sim N H 1) xs (rs.map dP) → Paired (RunG H) xs rs
  | [], xs, h => by
    cases h
    exact .nil
  | r :: t, xs, h => by
    cases h with
    | cons h1 h2 => exact .cons (sim_one h1) (sim_all t _ h2)
theorem sim_runs {N : Addr → Prop} {H : Hp} {v : V} {rs : List Run} (h : Sim N H 2 v (dSq rs)) : RunsG H v rs := by
  rcases h with h | ⟨a, xs, ds, rfl, _, hx, e, p, _⟩
  · exact (dsc_lst h).elim
  · cases e
    refine ⟨a, xs, rfl, hx, ?_⟩
    exact sim_all rs xs p
theorem sim_stg {N : Addr → Prop} {H : Hp} {v : V} {st : Option Run} (h : Sim N H 2 v (dSt st)) : StG H v st := by
  cases st with
  | none =>
    rcases h with h | ⟨_, _, _, _, _, _, e, _⟩
    · rcases h with ⟨e, _⟩ | ⟨_, _, e⟩ | ⟨_, _, e⟩ | ⟨_, _, e⟩
      · exact e
      all_goals cases e
    · cases e
  | some r => exact sim_one h
/-! ### one by one -/
theorem at_moment {rs : List Run} {st : Option Run} {m : Nat} (h : PosO st) (k : ∀ r ∈ rs, 1 ≤ r.2) : stR (cutR 0 (m : Int) 0 rs) st = toldR (plA (w0R st) 0 ((itR rs).take m)) := by
  rw [told_plA _ _ _ (uni_w0 st), told_w0 h, st_items _ _ h cutR_pos, cut_items _ _ _ (Int.le_refl _) k, Int.sub_zero, Int.toNat_natCast]
theorem at_end {rs : List Run} {st : Option Run} (h : PosO st) (k : ∀ r ∈ rs, 1 ≤ r.2) : stR rs st = toldR (plA (w0R st) 0 (itR rs)) := by
  rw [told_plA _ _ _ (uni_w0 st), told_w0 h, st_items _ _ h k]
theorem plMs_get (ws : List Run) (ks : List Str) {n : Nat} (h : n ≤ ks.length) : (plMs ws ks)[n]? = some (plA ws 0 (ks.take n)) := by
  unfold plMs
  rw [List.getElem?_map, List.getElem?_range (by omega)]
  rfl
def dO : Option Run → PyData
  | none => .none
  | some r => dRun r
theorem dt_st {H : Hp} {v : V} {st : Option Run} {n : Nat} (h : StV H v st) : Dt H (n + 1) v (dO st) := by
  cases st with
  | none =>
    cases h
    exact .inl (.inl ⟨rfl, rfl⟩)
  | some r =>
    obtain ⟨t, rfl, h⟩ := h
    refine .inr (.inr ⟨t, _, _, rfl, h, rfl, .cons ?_ (.cons ?_ .nil), Nat.le_of_ble_eq_true rfl⟩)
    · cases n with
      | zero => exact .inr (.inr (.inr ⟨_, rfl, rfl⟩))
      | succ m => exact .inl (.inr (.inr (.inr ⟨_, rfl, rfl⟩)))
    · cases n with
      | zero => exact .inr (.inr (.inl ⟨_, rfl, rfl⟩))
      | succ m => exact .inl (.inr (.inr (.inl ⟨_, rfl, rfl⟩)))
theorem w0_len {st : Option Run} (h : ∀ r, st = some r → r.2 ≤ 1000) : (w0R st).length ≤ 1000 := by
  cases st with
  | none => exact Nat.zero_le _
  | some r =>
    have := h r rfl
    show (List.replicate r.2.toNat (r.1, (-1 : Int))).length ≤ 1000
    rw [List.length_replicate]
    omega
theorem w0_kinds {st : Option Run} (h : StOk st) : ∀ r ∈ w0R st, KindOk r.1 := by
  cases st with
  | none => intro r h; cases h
  | some x =>
    intro r hr
    rw [List.eq_of_mem_replicate hr]
    exact (h x rfl).1
theorem it_kinds {rs : List Run} (h : ∀ r ∈ rs, KindOk r.1) : ∀ k ∈ itR rs, KindOk k := by
  intro k hk
  obtain ⟨r, h1, h2⟩ := List.mem_flatMap.mp hk
  rw [List.eq_of_mem_replicate h2]
  exact h r h1
end UP

set_option Elab.async false
set_option linter.all false
set_option maxRecDepth 100000
set_option maxHeartbeats 4000000
namespace UP
open PySem PySem.Spec PyProof.Rows L2
theorem paired_snoc {α β : Type} {F : α → β → Prop} : ∀ {xs : List α} (l : List β) (y : β), Paired F xs (l ++ [y]) → ∃ xs0 x, xs = xs0 ++ [x] ∧ Paired F xs0 l ∧ F x y
  | _, [], y, h => by
    cases h with
    | cons h1 h2 =>
      cases h2
      exact ⟨[], _, rfl, .nil, h1⟩
  | _, z :: l, y, h => by
    cases h with
    | cons h1 h2 =>
      obtain ⟨xs0, x, e, h3, h4⟩ := paired_snoc l y h2
      exact ⟨_ :: xs0, x, by rw [e]; rfl, .cons h1 h3, h4⟩
theorem set_last {α : Type} : ∀ (l : List α) (x y : α), (l ++ [x]).set l.length y = l ++ [y]
  | [], _, _ => rfl
  | z :: l, x, y => congrArg (z :: ·) (set_last l x y)
theorem ixN_last {n : Nat} : ixN (n + 1) (-1) = some n := by
  unfold ixN
  simp
  omega
/-! ### one more run -/
def addR (rs : List Run) (r : Run) : List Run := match rs.getLast? with
  | none => [r]
  | some l => if l.1 = r.1 then rs.dropLast ++ [(r.1, l.2 + r.2)] else rs ++ [r]
def joinR (rs cs : List Run) : List Run := cs.foldl addR rs
theorem joinR_snoc (rs cs : List Run) (r : Run) : joinR rs (cs ++ [r]) = addR (joinR rs cs) r := by
  unfold joinR
  rw [List.foldl_append]
  rfl
theorem addR_len (rs : List Run) (r : Run) : (addR rs r).length ≤ rs.length + 1 := by
  unfold addR
  split
  · exact Nat.le_add_left _ _
  · split
    · rw [List.length_append, List.length_dropLast]
      simp only [List.length_cons, List.length_nil]
      omega
    · rw [List.length_append]
      exact Nat.le_refl _
theorem joinR_len : ∀ (cs rs : List Run), (joinR rs cs).length ≤ rs.length + cs.length
  | [], _ => Nat.le_refl _
  | c :: t, rs => by
    have h1 := joinR_len t (addR rs c)
    have h2 := addR_len rs c
    show (joinR (addR rs c) t).length ≤ _
    rw [List.length_cons]
    omega
theorem RunV.butL {H H' : Hp} {p : Addr} {xs : List V} {v : V} {r : Run} (hp : H p = some (.lst xs)) (b : But p H H') (h : RunV H v r) : RunV H' v r := by
  obtain ⟨t, e, h⟩ := h
  exact ⟨t, e, b _ _ (ne_of h hp (by intro q; cases q)) h⟩
section
variable {P : Program} {w : World} {K : PySem.W.Frag} {mg : Str → Option Value} {base : Heap}
end
end UP

set_option Elab.async false
set_option linter.all false
set_option maxRecDepth 100000
set_option maxHeartbeats 4000000
namespace UP
open PySem PySem.Spec PyProof.Rows L2
def runR (ks : List Str) : List Run := ks.foldl (fun rs k => addR rs (k, 1)) []
theorem runR_snoc (ks : List Str) (k : Str) : runR (ks ++ [k]) = addR (runR ks) (k, 1) := by
  unfold runR
  rw [List.foldl_append]
  rfl
theorem runR_len (ks : List Str) : (runR ks).length ≤ ks.length := by
  have gen : ∀ (ks : List Str) (rs : List Run), (ks.foldl (fun rs k => addR rs (k, 1)) rs).length ≤ rs.length + ks.length := by
    intro ks
    induction ks with
    | nil => intro rs; exact Nat.le_refl _
    | cons k t ih =>
      intro rs
      have h1 := ih (addR rs (k, 1))
      have h2 := addR_len rs (k, 1)
      show (t.foldl (fun rs k => addR rs (k, 1)) (addR rs (k, 1))).length ≤ _
      rw [List.length_cons]
      omega
  have := gen ks []
  rw [List.length_nil, Nat.zero_add] at this
  exact this
section
variable {P : Program} {w : World} {K : PySem.W.Frag} {mg : Str → Option Value} {base : Heap}
/-! checked_short_runs: slots 0:sequence 1:runs -/
abbrev s_checked_short_runs : Stmt := topS 18
theorem sc_checked_short_runs : FnScope ["sequence", "runs"] ["sequence"] (defScope s_checked_short_runs) := ⟨rfl, rfl, rfl, by decide +kernel, rfl, by decide +kernel, by decide +kernel⟩
def sp_checked_short_runs : Sp := fun vs H Q _ => ∃ (av : V) (rs : List Run), vs = [av] ∧ RunsG H av rs ∧ SeqOk rs ∧ lenR rs ≤ 400 ∧ ∀ H' p, Same H H' → H p = none → Runs H' p rs → Q (.ref p) H'
theorem ok_checked_short_runs (D : Df K mg "checked_short_runs" s_checked_short_runs) (T : Tx mg) (G_checked_runs : Has P w K mg base 5 "checked_runs" ["sequence"] sp_checked_runs) (G_length_of : Has P w K mg base 1 "length_of" ["runs"] sp_length_of) :
    Has P w K mg base 6 "checked_short_runs" ["sequence"] sp_checked_short_runs := by
  refine has_of D sc_checked_short_runs (fun _ _ _ _ _ _ us hl => match us, hl with | [_], _ => rfl) (fun vs H Q E h => ?_) (fun f cdv A outer s₀ H vs Q E hr h => ?_)
  · obtain ⟨a, R, rfl, _⟩ := h
    rfl
  · obtain ⟨av, rs, rfl, hR, ok, l4, q⟩ := h
    have lr := ok.1
    refine ⟨_, (pss_cons (ps_set (i := 1) sc_checked_short_runs.nd rfl (by first | exact Or.inl rfl | exact Or.inr rfl) (pe_callH G_checked_runs (hr.mono (by omega)) (by rfl) (pa_cons (pv 0) pa_nil)))
    (pss_cons (ps_if (pt_cmpR op_gt (pe_callH G_length_of (hr.mono (by omega)) (by rfl) (pa_cons (pv 1) pa_nil)) (pe_glI T.c_MAX_ITEMS (by rfl)) (nomark _)) (pss_one ps_never) pss_nil)
    (pss_one (ps_ret (pv 1))))), ?_⟩
    refine ⟨_, rfl, av, rs, rfl, hR, ok, fun H1 p1 s1 n1 h1 => ?_⟩
    refine ⟨_, rfl, p1, rs, rfl, h1, by omega, fun H2 s2 => ⟨_, _, rfl, rfl, _, rfl, iteN (decide_eq_false (by omega)) ?_⟩⟩
    exact ⟨_, rfl, q H2 p1 (s1.trans s2) n1 (h1.same s2)⟩
/-! items_of: slots 0:sequence 1:items 2:kind 3:count -/
abbrev s_items_of : Stmt := topS 20
theorem sc_items_of : FnScope ["sequence", "items", "kind", "count"] ["sequence"] (defScope s_items_of) := ⟨rfl, rfl, rfl, by decide +kernel, rfl, by decide +kernel, by decide +kernel⟩
def sp_items_of : Sp := fun vs H Q _ => ∃ (av : V) (rs : List Run), vs = [av] ∧ RunsG H av rs ∧ SeqOk rs ∧ lenR rs ≤ 400 ∧ ∀ H' p, Same H H' → H p = none → H' p = some (.lst ((itR rs).map V.str)) → Q (.ref p) H'
theorem ok_items_of (D : Df K mg "items_of" s_items_of) (T : Tx mg) (G_checked_short_runs : Has P w K mg base 6 "checked_short_runs" ["sequence"] sp_checked_short_runs) :
    Has P w K mg base 7 "items_of" ["sequence"] sp_items_of := by
  refine has_of D sc_items_of (fun _ _ _ _ _ _ us hl => match us, hl with | [_], _ => rfl) (fun vs H Q E h => ?_) (fun f cdv A outer s₀ H vs Q E hr h => ?_)
  · obtain ⟨a, R, rfl, _⟩ := h
    rfl
  · obtain ⟨av, rs, rfl, hR, ok, l4, q⟩ := h
    have pos := ok.pos
    have lenq := len_it rs pos
    have lr := ok.1
    refine ⟨_, (pss_cons (ps_set (i := 1) sc_items_of.nd rfl (by first | exact Or.inl rfl | exact Or.inr rfl) (pe_lst pa_nil))
    (pss_cons (ps_for PassesOwn.never rfl (pi_list (pe_callH G_checked_short_runs (hr.mono (by omega)) (by rfl) (pa_cons (pv 0) pa_nil))) (pg_tup rfl (pgs_cons (pg_name (i := 2) sc_items_of.nd rfl (by first | exact Or.inl rfl | exact Or.inr rfl)) (pgs_cons (pg_name (i := 3) sc_items_of.nd rfl (by first | exact Or.inl rfl | exact Or.inr rfl)) pgs_nil)))
      (pss_one (ps_expr (pe_bm PySem.F.plainAttrs_list PySem.F.slot_list_extend PySem.F.type_list_extend mt_extend (pv 1) (pa_cons (pe_op op_rep (pe_lst (pa_cons (pv 2) pa_nil)) (pv 3)) pa_nil)))))
    (pss_one (ps_ret (pv 1))))), ?_⟩
    refine ⟨Nat.zero_le _, fun p np => ?_⟩
    have s0 := same_upd (o := .lst []) np
    refine ⟨_, rfl, av, rs, rfl, hR.same s0, ok, l4, fun H2 p1 s1 n1 h1 => ?_⟩
    obtain ⟨xs, hx, hpr⟩ := h1
    have lx : xs.length = rs.length := Paired.len hpr
    have sA := s0.trans s1
    have np1 : p1 ≠ p := fun z => by
      rw [z, upd_same] at n1
      cases n1
    refine ⟨p1, rfl, ⟨xs, .of hx⟩, for_list (K := K) (a := p1) (xs := xs) (fun i σ H' => ∃ y3 y4, σ = [some av, some (.ref p), y3, y4] ∧ But p H2 H' ∧ H' p = some (.lst ((itR (rs.take i)).map V.str)))
      ⟨none, none, rfl, But.refl, s1 _ _ upd_same⟩ (fun i σ H' _ hP => ?_) (fun i x σ H4 ex hP => ?_) (fun σ H4 hP => ?_)⟩
    · obtain ⟨_, _, _, bt, _⟩ := hP
      exact .of (bt _ _ np1 hx)
    · obtain ⟨y3, y4, rfl, bt, hL⟩ := hP
      obtain ⟨r, er, hr1⟩ := Paired.at hpr ex
      obtain ⟨t, rfl, ht⟩ := RunV.butL (s1 _ _ upd_same) bt hr1
      have c1 := pos r (List.mem_of_getElem? er)
      have e2 : itR (rs.take (i + 1)) = itR (rs.take i) ++ List.replicate r.2.toNat r.1 := by rw [take_snoc er, itR_snoc]
      have le : ((itR (rs.take i)).length + r.2.toNat : Nat) ≤ 400 := by
        have a1 : (itR (rs.take (i + 1)) ++ itR (rs.drop (i + 1))) = itR rs := by
          unfold itR
          rw [← List.flatMap_append, List.take_append_drop]
        have a2 := congrArg List.length a1
        rw [List.length_append, e2, List.length_append, List.length_replicate] at a2
        omega
      refine ⟨t, _, rfl, .of ht, rfl, _, _, rfl, _, _, rfl, rfl, ?_⟩
      refine ⟨_, rfl, .inl ⟨rfl, _, SqL.of hL⟩, _, rfl, (by show 1 ≤ sizeLine; decide), fun l1 m1 => ?_⟩
      refine ⟨_, rfl, l1, r.2, [.str r.1], rfl, rfl, upd_same, by omega, by omega, smallE (by show 1 * r.2.toNat ≤ 1000000; omega), fun l2 m2 => ?_⟩
      rw [flat_one]
      have s5 := (same_upd (o := .lst [.str r.1]) m1).trans (same_upd (o := .lst (List.replicate r.2.toNat (.str r.1))) m2)
      refine ⟨p, l2, _, _, rfl, rfl, same_upd m2 _ _ (same_upd m1 _ _ hL), upd_same, ?_, _, _, rfl, bt.trans (fun b o n e => by rw [upd_ne n]; exact s5 _ _ e), ?_⟩
      · rw [List.length_map, List.length_replicate]
        exact smallE (by omega)
      · rw [upd_same, e2, List.map_append, List.map_replicate]
    · obtain ⟨y3, y4, rfl, bt, hL⟩ := hP
      rw [lx, List.take_length] at hL
      exact ⟨_, rfl, q H4 p (fun b o e => bt _ _ (ne_of_none e np) (sA _ _ e)) np hL⟩
end
end UP

set_option Elab.async false
set_option linter.all false
set_option maxRecDepth 100000
set_option maxHeartbeats 4000000
namespace UP
open PySem PySem.Spec PyProof.Rows L2
theorem Alt.tail {r : Run} {t : List Run} (h : Alt (r :: t)) : Alt t := fun i x y hx hy => h (i + 1) x y hx hy
theorem addR_new {rs : List Run} {r : Run} (h : ∀ l, rs.getLast? = some l → l.1 ≠ r.1) : addR rs r = rs ++ [r] := by
  unfold addR
  cases e : rs.getLast? with
  | none =>
    rw [List.getLast?_eq_none_iff.mp e]
    rfl
  | some l => exact if_neg (h l e)
theorem addR_more (R : List Run) (l r : Run) (h : l.1 = r.1) : addR (R ++ [l]) r = R ++ [(r.1, l.2 + r.2)] := by
  unfold addR
  rw [List.getLast?_concat, List.dropLast_concat]
  exact if_pos h
theorem join_alt : ∀ (cs rs : List Run), Alt cs → (∀ l c, rs.getLast? = some l → cs.head? = some c → l.1 ≠ c.1) → joinR rs cs = rs ++ cs
  | [], rs, _, _ => by
    rw [List.append_nil]
    rfl
  | c :: t, rs, a, h => by
    show joinR (addR rs c) t = rs ++ c :: t
    rw [addR_new fun l hl => h l c hl rfl, join_alt t (rs ++ [c]) a.tail (fun l d hl hd => ?_), List.append_assoc]
    · rfl
    · rw [List.getLast?_concat] at hl
      cases hl
      cases t with
      | nil => cases hd
      | cons e u =>
        cases hd
        exact a 0 _ _ rfl rfl
theorem join_more (R : List Run) (l c : Run) (t : List Run) (a : Alt (c :: t)) (h : l.1 = c.1) : joinR (R ++ [l]) (c :: t) = R ++ [(c.1, l.2 + c.2)] ++ t := by
  show joinR (addR (R ++ [l]) c) t = _
  rw [addR_more R l c h, join_alt t _ a.tail (fun l' d hl hd => ?_)]
  rw [List.getLast?_concat] at hl
  cases hl
  cases t with
  | nil => cases hd
  | cons e u =>
    cases hd
    exact a 0 c _ rfl rfl
/-! ### items and runs -/
theorem run_more : ∀ (n : Nat) (R : List Run) (k : Str) (c : Int), (List.replicate n k).foldl (fun rs k => addR rs (k, 1)) (R ++ [(k, c)]) = R ++ [(k, c + (n : Int))]
  | 0, R, k, c => by
    rw [show c + ((0 : Nat) : Int) = c by omega]
    rfl
  | n + 1, R, k, c => by
    show (List.replicate n k).foldl (fun rs k => addR rs (k, 1)) (addR (R ++ [(k, c)]) (k, 1)) = _
    rw [addR_more R (k, c) (k, 1) rfl, run_more n R k (c + 1), show c + 1 + (n : Int) = c + ((n + 1 : Nat) : Int) by omega]
theorem run_one (n : Nat) (rs : List Run) (k : Str) (h : ∀ l, rs.getLast? = some l → l.1 ≠ k) : (List.replicate (n + 1) k).foldl (fun rs k => addR rs (k, 1)) rs = rs ++ [(k, (n : Int) + 1)] := by
  show (List.replicate n k).foldl (fun rs k => addR rs (k, 1)) (addR rs (k, 1)) = _
  rw [addR_new (r := (k, 1)) h, run_more n rs k 1, show (1 : Int) + (n : Int) = (n : Int) + 1 by omega]
theorem run_items : ∀ (rs R : List Run), Alt rs → (∀ r ∈ rs, 1 ≤ r.2) → (∀ l c, R.getLast? = some l → rs.head? = some c → l.1 ≠ c.1) → (itR rs).foldl (fun rs k => addR rs (k, 1)) R = R ++ rs
  | [], R, _, _, _ => by
    rw [List.append_nil]
    rfl
  | r :: t, R, a, p, h => by
    have c1 := p r (List.mem_cons_self ..)
    obtain ⟨n, hn⟩ : ∃ n : Nat, r.2.toNat = n + 1 := ⟨r.2.toNat - 1, by omega⟩
    have e : itR (r :: t) = List.replicate r.2.toNat r.1 ++ itR t := rfl
    rw [e, List.foldl_append, hn, run_one n R r.1 (fun l hl => h l r hl rfl), show (n : Int) + 1 = r.2 by omega, run_items t (R ++ [(r.1, r.2)]) a.tail (fun x hx => p x (List.mem_cons_of_mem _ hx)) (fun l d hl hd => ?_), List.append_assoc]
    · rfl
    · rw [List.getLast?_concat] at hl
      cases hl
      cases t with
      | nil => cases hd
      | cons e u =>
        cases hd
        exact a 0 _ _ rfl rfl
theorem run_it {rs : List Run} (a : Alt rs) (p : ∀ r ∈ rs, 1 ≤ r.2) : runR (itR rs) = rs := by
  have := run_items rs [] a p (fun l c hl => by cases hl)
  rw [List.nil_append] at this
  exact this
theorem it_one (k : Str) (c : Int) : itR [(k, c)] = List.replicate c.toNat k := by
  show List.replicate c.toNat k ++ [] = _
  rw [List.append_nil]
theorem it_add (rs : List Run) (k : Str) (p : ∀ r ∈ rs, 1 ≤ r.2) : itR (addR rs (k, 1)) = itR rs ++ [k] := by
  rcases List.eq_nil_or_concat rs with e0 | ⟨R0, l, e0⟩
  · subst e0
    rfl
  · rw [List.concat_eq_append] at e0
    subst e0
    have c1 := p l (List.mem_append.mpr (.inr (List.mem_singleton.mpr rfl)))
    by_cases h : l.1 = k
    · rw [addR_more R0 l (k, 1) h, it_app, it_app, List.append_assoc, it_one]
      congr 1
      have e : itR [l] = List.replicate l.2.toNat l.1 := it_one l.1 l.2
      show List.replicate (l.2 + 1).toNat k = itR [l] ++ [k]
      rw [e, h, show (l.2 + 1).toNat = l.2.toNat + 1 by omega, List.replicate_succ']
    · rw [addR_new (fun l' hl => by rw [List.getLast?_concat] at hl; cases hl; exact h), it_app]
      rfl
/-- what holds of the runs of some kinds -/
structure RunsOf (rs : List Run) (ks : List Str) : Prop where
  it : itR rs = ks
  pos : ∀ r ∈ rs, 1 ≤ r.2
  mem : ∀ r ∈ rs, r.1 ∈ ks
  alt : Alt rs
theorem runs_snoc {rs : List Run} {ks : List Str} {k : Str} (h : RunsOf rs ks) : RunsOf (addR rs (k, 1)) (ks ++ [k]) := by
  obtain ⟨i, p, m, a⟩ := h
  refine ⟨by rw [it_add rs k p, i], ?_, ?_, ?_⟩
  all_goals
    rcases List.eq_nil_or_concat rs with e0 | ⟨R0, l, e0⟩
  · subst e0
    intro r hr
    rw [List.mem_singleton.mp (show r ∈ [(k, (1 : Int))] from hr)]
    exact Int.le_refl 1
  · rw [List.concat_eq_append] at e0
    subst e0
    have c1 := p l (List.mem_append.mpr (.inr (List.mem_singleton.mpr rfl)))
    intro r hr
    by_cases h : l.1 = k
    · rw [addR_more R0 l (k, 1) h] at hr
      rcases List.mem_append.mp hr with z | z
      · exact p r (List.mem_append.mpr (.inl z))
      · rw [List.mem_singleton.mp z]
        show 1 ≤ l.2 + 1
        omega
    · rw [addR_new (fun l' hl => by rw [List.getLast?_concat] at hl; cases hl; exact h)] at hr
      rcases List.mem_append.mp hr with z | z
      · exact p r z
      · rw [List.mem_singleton.mp z]
        exact Int.le_refl 1
  · subst e0
    intro r hr
    rw [List.mem_singleton.mp (show r ∈ [(k, (1 : Int))] from hr)]
    exact List.mem_append.mpr (.inr (List.mem_singleton.mpr rfl))
  · rw [List.concat_eq_append] at e0
    subst e0
    intro r hr
    by_cases h : l.1 = k
    · rw [addR_more R0 l (k, 1) h] at hr
      rcases List.mem_append.mp hr with z | z
      · exact List.mem_append.mpr (.inl (m r (List.mem_append.mpr (.inl z))))
      · rw [List.mem_singleton.mp z]
        exact List.mem_append.mpr (.inr (List.mem_singleton.mpr rfl))
    · rw [addR_new (fun l' hl => by rw [List.getLast?_concat] at hl; cases hl; exact h)] at hr
      rcases List.mem_append.mp hr with z | z
      · exact List.mem_append.mpr (.inl (m r z))
      · rw [List.mem_singleton.mp z]
        exact List.mem_append.mpr (.inr (List.mem_singleton.mpr rfl))
  · subst e0
    intro i x y hx hy
    cases hy
  · rw [List.concat_eq_append] at e0
    subst e0
    by_cases h : l.1 = k
    · rw [addR_more R0 l (k, 1) h]
      have e : (R0 ++ [((k, (1 : Int)).1, l.2 + (k, (1 : Int)).2)]).map (·.1) = (R0 ++ [l]).map (·.1) := by
        rw [List.map_append, List.map_append]
        show R0.map (·.1) ++ [k] = R0.map (·.1) ++ [l.1]
        rw [h]
      intro i x y hx hy
      have ex := congrArg (fun z : List Str => z[i]?) e
      have ey := congrArg (fun z : List Str => z[i + 1]?) e
      simp only [List.getElem?_map] at ex ey
      rw [hx] at ex
      rw [hy] at ey
      cases gx : (R0 ++ [l])[i]? with
      | none => rw [gx] at ex; cases ex
      | some x' =>
        cases gy : (R0 ++ [l])[i + 1]? with
        | none => rw [gy] at ey; cases ey
        | some y' =>
          rw [gx] at ex
          rw [gy] at ey
          have ex : x.1 = x'.1 := Option.some.inj ex
          have ey : y.1 = y'.1 := Option.some.inj ey
          rw [ex, ey]
          exact a i x' y' gx gy
    · rw [addR_new (fun l' hl => by rw [List.getLast?_concat] at hl; cases hl; exact h)]
      refine alt_snoc a fun y hy => ?_
      rw [← List.getLast?_eq_getElem?, List.getLast?_concat] at hy
      cases hy
      exact h
theorem runs_of_all : ∀ (ks l : List Str) (R : List Run), RunsOf R l → RunsOf (ks.foldl (fun rs k => addR rs (k, 1)) R) (l ++ ks)
  | [], l, R, h => by
    rw [List.append_nil]
    exact h
  | k :: t, l, R, h => by
    have := runs_of_all t (l ++ [k]) _ (runs_snoc (k := k) h)
    rw [List.append_assoc] at this
    exact this
theorem runs_all (ks : List Str) : RunsOf (runR ks) ks := runs_of_all ks [] [] ⟨rfl, (fun r h => by cases h), (fun r h => by cases h), fun i x y hx => by simp at hx⟩
theorem len_mem {rs : List Run} (p : ∀ r ∈ rs, 1 ≤ r.2) : ∀ r ∈ rs, r.2 ≤ lenR rs := by
  induction rs with
  | nil => intro r h; cases h
  | cons x t ih =>
    intro r hr
    have c1 := p x (List.mem_cons_self ..)
    have ih' := ih fun y hy => p y (List.mem_cons_of_mem _ hy)
    rw [lenR_cons]
    have nn : 0 ≤ lenR t := by
      have := len_it t fun y hy => p y (List.mem_cons_of_mem _ hy)
      omega
    rcases List.mem_cons.mp hr with e | e
    · rw [e]
      omega
    · have := ih' r e
      omega
theorem seq_runs {ks : List Str} (l : ks.length ≤ 400) (ok : ∀ k ∈ ks, KindOk k) : SeqOk (runR ks) ∧ lenR (runR ks) ≤ 400 ∧ itR (runR ks) = ks := by
  obtain ⟨i, p, m, a⟩ := runs_all ks
  have ll := len_it (runR ks) p
  rw [i] at ll
  refine ⟨⟨?_, fun r hr => ⟨ok _ (m r hr), p r hr, ?_⟩, a⟩, by omega, i⟩
  · exact Nat.le_trans (runR_len ks) l
  · have := len_mem p r hr
    omega
end UP

set_option Elab.async false
set_option linter.all false
set_option maxRecDepth 100000
set_option maxHeartbeats 4000000
namespace UP
open PySem PySem.Spec PyProof.Rows L2
/-! ### the reel: a list of two lists of ints and two ints -/
def Reel (H : Hp) (p : Addr) : Prop := ∃ (g c : Addr) (gs cs : List Int) (n s : Int), H p = some (.lst [.ref g, .ref c, .int n, .int s]) ∧ H g = some (.lst (gs.map V.int)) ∧ H c = some (.lst (cs.map V.int)) ∧ gs.length ≤ 63 ∧ (∀ x ∈ gs, 0 ≤ x) ∧ 0 < cs.length ∧ cs.length ≤ 64 ∧ 0 ≤ n ∧ 0 ≤ s ∧ s < 170141183460469231731687303715884105727
def Off (H : Hp) (p D : Addr) : Prop := ∃ (g c : Addr) (n s : Int), H p = some (.lst [.ref g, .ref c, .int n, .int s]) ∧ D ≠ p ∧ D ≠ g ∧ D ≠ c
theorem not_ints {g c : Addr} {n s : Int} {l : List Int} : (HO.lst [.ref g, .ref c, .int n, .int s]) ≠ .lst (l.map V.int) := by
  intro h
  have h := HO.lst.inj h
  cases l with
  | nil => cases h
  | cons x t => cases h
theorem Reel.off {H : Hp} {p D : Addr} (z : Reel H p) (n : H D = none) : Off H p D := by
  obtain ⟨g, c, gs, cs, i, s, hp, hg, hc, _⟩ := z
  exact ⟨g, c, i, s, hp, fun e => by (rw [e, hp] at n; cases n), fun e => by (rw [e, hg] at n; cases n), fun e => by (rw [e, hc] at n; cases n)⟩
theorem Reel.ne {H : Hp} {p D : Addr} (z : Reel H p) (n : H D = none) : D ≠ p := by
  obtain ⟨_, _, _, _, _, h, _⟩ := z.off n
  exact h
theorem Off.ne {H : Hp} {p D : Addr} (z : Off H p D) : D ≠ p := by
  obtain ⟨_, _, _, _, _, h, _⟩ := z
  exact h
theorem Reel.same {H H' : Hp} {p : Addr} (z : Reel H p) (s : Same H H') : Reel H' p := by
  obtain ⟨g, c, gs, cs, i, t, hp, hg, hc, r⟩ := z
  exact ⟨g, c, gs, cs, i, t, s _ _ hp, s _ _ hg, s _ _ hc, r⟩
theorem Off.same {H H' : Hp} {p D : Addr} (z : Off H p D) (s : Same H H') : Off H' p D := by
  obtain ⟨g, c, i, t, hp, r⟩ := z
  exact ⟨g, c, i, t, s _ _ hp, r⟩
theorem Off.upd {H : Hp} {p D D' : Addr} {o : HO} (z : Off H p D) (n : D' ≠ p) : Off (upd H D' o) p D := by
  obtain ⟨g, c, i, t, hp, r⟩ := z
  exact ⟨g, c, i, t, by rw [upd_ne n.symm]; exact hp, r⟩
theorem Reel.upd {H : Hp} {p D : Addr} {x : HO} (z : Reel H p) (o : Off H p D) : Reel (upd H D x) p := by
  obtain ⟨g, c, gs, cs, i, t, hp, hg, hc, r⟩ := z
  obtain ⟨g', c', i', t', hp', n1, n2, n3⟩ := o
  rw [hp] at hp'
  cases hp'
  exact ⟨g, c, gs, cs, i, t, by rw [upd_ne n1.symm]; exact hp, by rw [upd_ne n2.symm]; exact hg, by rw [upd_ne n3.symm]; exact hc, r⟩
/-- all but the reel stays, and what was not of the reel is not of it -/
structure RB (p : Addr) (H H' : Hp) : Prop where
  but : But p H H'
  off : ∀ D o, H D = some o → Off H p D → Off H' p D
theorem RB.refl {p : Addr} {H : Hp} : RB p H H := ⟨But.refl, fun _ _ _ h => h⟩
theorem RB.trans {p : Addr} {H H1 H2 : Hp} (a : RB p H H1) (b : RB p H1 H2) : RB p H H2 := ⟨a.but.trans b.but, fun D o e h => b.off D o (a.but D o h.ne e) (a.off D o e h)⟩
theorem RB.of {p : Addr} {H H' : Hp} (s : Same H H') : RB p H H' := ⟨sb s, fun _ _ _ h => h.same s⟩
theorem RB.free {p q : Addr} {H H' : Hp} (b : RB p H H') (z : Reel H' p) (h : H' q = none) : H q = none := by
  by_cases e : q = p
  · exact absurd e (z.ne h)
  · cases r : H q with
    | none => rfl
    | some o =>
      rw [b.but q o e r] at h
      cases h
theorem RB.grow {p D : Addr} {H H' : Hp} {x : HO} (b : RB p H H') (n : H D = none) (o : Off H' p D) : RB p H (L2.upd H' D x) := ⟨fun q r e h => by
    rw [upd_ne (ne_of_none h n)]
    exact b.but q r e h, fun E r h k => (b.off E r h k).upd o.ne⟩
theorem RB.run {p : Addr} {H H' : Hp} {v : V} {r : Run} (b : RB p H H') (z : Reel H p) (h : RunV H v r) : RunV H' v r := by
  obtain ⟨t, e, h⟩ := h
  obtain ⟨_, _, _, _, _, _, hp, _⟩ := z
  exact ⟨t, e, b.but _ _ (ne_of h hp (by intro q; cases q)) h⟩
theorem RB.st {p : Addr} {H H' : Hp} {v : V} {st : Option Run} (b : RB p H H') (z : Reel H p) (h : StV H v st) : StV H' v st := by
  cases st with
  | none => exact h
  | some r => exact b.run z h
theorem RB.strs {p a : Addr} {H H' : Hp} {ks : List Str} (b : RB p H H') (z : Reel H p) (h : H a = some (.lst (ks.map V.str))) : H' a = some (.lst (ks.map V.str)) := by
  obtain ⟨_, _, _, _, _, _, hp, _⟩ := z
  refine b.but _ _ (ne_of h hp fun q => ?_) h
  have q := HO.lst.inj q
  cases ks with
  | nil => cases q
  | cons x t => cases q
theorem RB.tup {p a : Addr} {H H' : Hp} {xs : List V} (b : RB p H H') (z : Reel H p) (h : H a = some (.tup xs)) : H' a = some (.tup xs) := by
  obtain ⟨_, _, _, _, _, _, hp, _⟩ := z
  exact b.but _ _ (ne_of h hp (by intro q; cases q)) h
/-! ### lists of ints -/
theorem dp_intl {K : PySem.W.Frag} {H : Hp} : ∀ (l : List Int), DpAll K H (l.map V.int) (l.map PyData.int)
  | [] => .nil
  | x :: t => .cons (.int x) (dp_intl t)
theorem can_intl : ∀ (l : List Int), PyData.canLayAll0 (l.map PyData.int) = true
  | [] => by simp [PyData.canLayAll0]
  | x :: t => by
    rw [List.map_cons, PyData.canLayAll0, can_intl t]
    simp [PyData.canLay0]
theorem depth_intl : ∀ (l : List Int), PyData.depthAll (l.map PyData.int) ≤ 1
  | [] => by simp [PyData.depthAll]
  | x :: t => by
    rw [List.map_cons, PyData.depthAll]
    exact Nat.max_le.mpr ⟨by simp [PyData.depth], depth_intl t⟩
theorem shaped_intl (l : List Int) : SeqAt.shaped (.list (l.map PyData.int)) = true := by
  unfold SeqAt.shaped
  rw [PyData.canLay0, can_intl l, PyData.depth]
  have := depth_intl l
  exact decide_eq_true (by omega)
theorem eqv_nilI (l : List Int) : PyData.eqv (.list (l.map PyData.int)) (.list []) = l.isEmpty := by
  cases l with
  | nil => simp [PyData.eqv, PyData.eqvAll]
  | cons r t => simp [PyData.eqv, PyData.eqvAll]
theorem cut_dropR (xs : List V) (r : Int) (h0 : 0 ≤ r) (h1 : r ≤ xs.length) : cutV xs (some r) none = xs.drop r.toNat := by
  have e : HT.sIx xs.length 0 (some r) = r.toNat := by
    have := HT.sIx_nat xs.length 0 r.toNat
    rw [show ((r.toNat : Nat) : Int) = r by omega] at this
    omega
  unfold cutV
  rw [e, HT.sIx_none, List.take_of_length_le (by rw [List.length_drop]; exact Nat.le_refl _)]
theorem atI_ofR {α : Type} {l : List α} {i : Int} {x : α} (h0 : 0 ≤ i) (h : l[i.toNat]? = some x) : atI l i = some x := by
  have e : i = (i.toNat : Int) := by omega
  rw [e]
  exact atI_nat h
theorem at40 {α : Type} {x y z u : α} : atI [x, y, z, u] 0 = some x := rfl
theorem at41 {α : Type} {x y z u : α} : atI [x, y, z, u] 1 = some y := rfl
theorem at42 {α : Type} {x y z u : α} : atI [x, y, z, u] 2 = some z := rfl
theorem at43 {α : Type} {x y z u : α} : atI [x, y, z, u] 3 = some u := rfl
section
variable {P : Program} {w : World} {K : PySem.W.Frag} {mg : Str → Option Value} {base : Heap}
/-! _law_draw: slots 0:reel 1:many 2:extra 3:stir 4:rest -/
abbrev s_law_draw : Stmt := topS 35
theorem sc_law_draw : FnScope ["reel", "many", "extra", "stir", "rest"] ["reel", "many"] (defScope s_law_draw) := ⟨rfl, rfl, rfl, by decide +kernel, rfl, by decide +kernel, by decide +kernel⟩
def sp_law_draw : Sp := fun vs H Q _ => ∃ (p : Addr) (m : Int), vs = [.ref p, .int m] ∧ Reel H p ∧ 1 ≤ m ∧ m.natAbs < 2 ^ 8000 ∧ ∀ H' r, RB p H H' → Reel H' p → 0 ≤ r → r < m → Q (.int r) H'
theorem p127 : (2 : Int) ^ ((64 : Int).toNat) * 2 ^ ((63 : Int).toNat) - 1 = 170141183460469231731687303715884105727 := by decide +kernel
theorem ok_law_draw (D : Df K mg "_law_draw" s_law_draw) (T : Tx mg) : Has P w K mg base 1 "_law_draw" ["reel", "many"] sp_law_draw := by
  refine has_of D sc_law_draw (fun _ _ _ _ _ _ us hl => match us, hl with | [_, _], _ => rfl) (fun vs H Q E h => ?_) (fun f cdv A outer s₀ H vs Q E hr h => ?_)
  · obtain ⟨a, rs, rfl, _⟩ := h
    rfl
  · obtain ⟨p, m, rfl, z, m1, m2, q⟩ := h
    have z0 := z
    obtain ⟨g, c, gs, cs, n, s, hp, hg, hc, lg, g0, lc, lc2, n0, s0, s1⟩ := z
    refine ⟨_, (pss_cons (ps_if (pt_cmpR (op_neD hr.units) (pe_ix ix_list (pv 0) pe_int (fun _ _ => rfl)) (pe_lst pa_nil) (nomark _)) (pss_cons (ps_set (i := 4) sc_law_draw.nd rfl (by first | exact Or.inl rfl | exact Or.inr rfl) (pe_ix ix_list (pe_ix ix_list (pv 0) pe_int (fun _ _ => rfl)) pe_int (fun _ _ => rfl)))
    (pss_cons (ps_asg (pe_op op_cat (pe_op op_rep (pe_lst (pa_cons (pe_op op_fdivW (pv 4) (pv 1)) pa_nil)) (pe_callTy call_int1 (by rfl) T.n_int (by decide +kernel) (pa_cons (pe_cmpR op_ge (pv 4) (pv 1) (nomark _)) pa_nil))) (pe_slice sl_list (pe_ix ix_list (pv 0) pe_int (fun _ _ => rfl)) (po_some pe_int) po_none)) (pg_sub (pv 0) pe_int set_list))
    (pss_one (ps_ret (pe_op op_mod (pv 4) (pv 1)))))) pss_nil)
    (pss_cons (ps_asg (pe_op op_add (pe_ix ix_list (pv 0) pe_int (fun _ _ => rfl)) pe_int) (pg_sub (pv 0) pe_int set_list))
    (pss_cons (ps_set (i := 2) sc_law_draw.nd rfl (by first | exact Or.inl rfl | exact Or.inr rfl) (pe_ix ix_list (pe_ix ix_list (pv 0) pe_int (fun _ _ => rfl)) (pe_op op_mod (pe_ix ix_list (pv 0) pe_int (fun _ _ => rfl)) (pe_callB call_len_seq (by rfl) T.n_len (by decide +kernel) (pa_cons (pe_ix ix_list (pv 0) pe_int (fun _ _ => rfl)) pa_nil))) (fun _ _ => rfl)))
    (pss_cons (ps_set (i := 3) sc_law_draw.nd rfl (by first | exact Or.inl rfl | exact Or.inr rfl) (pe_op op_add (pe_op op_add (pe_op op_mulW (pe_ix ix_list (pv 0) pe_int (fun _ _ => rfl)) (pe_ix ix_list (pv 0) pe_int (fun _ _ => rfl))) (pe_op op_mul (pe_op op_add (pv 2) pe_int) pe_int)) (pe_op op_mul (pe_ix ix_list (pv 0) pe_int (fun _ _ => rfl)) pe_int)))
    (pss_cons (ps_asg (pe_op op_mod (pv 3) (pe_op op_sub (pe_op op_mul (pe_op op_pow pe_int pe_int) (pe_op op_pow pe_int pe_int)) pe_int)) (pg_sub (pv 0) pe_int set_list))
    (pss_one (ps_ret (pe_op op_mod (pe_op op_fdivW (pe_ix ix_list (pv 0) pe_int (fun _ _ => rfl)) (pe_op op_pow pe_int pe_int)) (pv 1))))))))), ?_⟩
    refine ⟨_, rfl, p, _, 0, _, rfl, rfl, .of hp, at40, Nat.zero_le _, fun e ne => ?_⟩
    have se := same_upd (o := .lst []) ne
    refine ⟨.list (gs.map PyData.int), .list [], .lst (.of (se _ _ hg)) (dp_intl gs), .lst (.of upd_same) .nil, shaped_intl gs, shaped_nil, _, rfl, ?_⟩
    rw [eqv_nilI]
    replace hp := se _ _ hp
    replace hg := se _ _ hg
    replace hc := se _ _ hc
    have z1 := z0.same se
    generalize L2.upd H e (.lst []) = H1 at *
    cases gs with
    | cons x t =>
      refine iteP rfl ?_
      have x0 := g0 x (List.mem_cons_self ..)
      refine ⟨_, rfl, p, _, 0, _, rfl, rfl, .of hp, at40, g, _, 0, _, rfl, rfl, .of hg, atI_ofR (Int.le_refl _) rfl, ?_⟩
      refine ⟨_, rfl, _, rfl, _, _, rfl, rfl, wide_div (by omega) m2 (by decide) (by decide), (by show 1 ≤ sizeLine; decide), fun l1 n1 => ?_⟩
      have u1 := same_upd (o := .lst [.int (x / m)]) n1
      refine ⟨_, rfl, _, rfl, _, _, rfl, rfl, .inr ⟨_, rfl, l1, _, _, rfl, rfl, upd_same, ?_⟩⟩
      have hk : ∃ k : Nat, k ≤ 1 ∧ (if decide (m ≤ x) = true then (1 : Int) else 0) = (k : Int) := by
        by_cases y : m ≤ x
        · exact ⟨1, Nat.le_refl _, by rw [decide_eq_true y]; rfl⟩
        · exact ⟨0, Nat.zero_le _, by rw [decide_eq_false y]; rfl⟩
      obtain ⟨k, k1, ek⟩ := hk
      rw [show (if decide (x ≥ m) = true then (1 : Int) else 0) = (k : Int) from ek]
      refine ⟨by omega, by omega, ?_, fun l2 n2 => ?_⟩
      · rw [Int.toNat_natCast]
        show 1 * k ≤ sizeLine
        exact Nat.le_of_lt (small (by omega))
      rw [Int.toNat_natCast, show (List.replicate k [V.int (x / m)]).flatten = (List.replicate k (x / m)).map V.int by rw [List.map_replicate, List.flatten_replicate_singleton]]
      have u2 := same_upd (o := .lst ((List.replicate k (x / m)).map V.int)) n2
      refine ⟨_, rfl, p, _, 0, _, rfl, rfl, .of (u2 _ _ (u1 _ _ hp)), at40, _, rfl, g, _, rfl, SqL.of (u2 _ _ (u1 _ _ hg)), fun l3 n3 => ?_⟩
      rw [cut_dropR _ 1 (by omega) (by rw [List.length_map, List.length_cons]; omega), show ((x :: t).map V.int).drop (1 : Int).toNat = t.map V.int from rfl]
      have u3 := same_upd (o := .lst (t.map V.int)) n3
      refine ⟨l2, l3, _, _, rfl, rfl, u3 _ _ upd_same, upd_same, ?_, fun l4 n4 => ?_⟩
      · rw [List.length_map, List.length_map, List.length_replicate]
        rw [List.length_cons] at lg
        exact Nat.le_of_lt (small (by omega))
      have u4 := same_upd (o := .lst ((List.replicate k (x / m)).map V.int ++ t.map V.int)) n4
      have sA := u1.trans (u2.trans (u3.trans u4))
      refine ⟨_, rfl, p, _, 0, 0, rfl, rfl, sA _ _ hp, rfl, ?_⟩
      refine ⟨_, rfl, _, rfl, _, _, rfl, rfl, (by omega), ?_⟩
      have n4p : l4 ≠ p := (ne_of_none ((u1.trans (u2.trans u3)) _ _ hp) n4).symm
      refine q _ _ ⟨fun b o nb eb => ?_, fun D o eD oD => ?_⟩ ⟨l4, c, List.replicate k (x / m) ++ t, cs, n, s, upd_same, ?_, ?_, ?_, ?_, lc, lc2, n0, s0, s1⟩ (Int.emod_nonneg _ (by omega)) (Int.emod_lt_of_pos _ (by omega))
      · rw [upd_ne nb]
        exact sA _ _ (se _ _ eb)
      · obtain ⟨g', c', i', t', hp', e1, e2, e3⟩ := oD.same se
        rw [hp] at hp'
        cases hp'
        refine ⟨l4, c, n, s, upd_same, e1, ?_, e3⟩
        exact ne_of_none ((u1.trans (u2.trans u3)) _ _ (se _ _ eD)) n4
      · rw [upd_ne n4p, upd_same, List.map_append]
      · rw [upd_ne (ne_of hc hp (fun q => not_ints q.symm))]
        exact sA _ _ hc
      · rw [List.length_append, List.length_replicate]
        rw [List.length_cons] at lg
        omega
      · intro y hy
        rcases List.mem_append.mp hy with h | h
        · rw [List.eq_of_mem_replicate h]
          exact Int.ediv_nonneg x0 (by omega)
        · exact g0 y (List.mem_cons_of_mem _ h)
    | nil =>
      refine iteN rfl ?_
      refine ⟨_, rfl, p, _, 2, _, rfl, rfl, .of hp, at42, _, _, rfl, rfl, ?_⟩
      refine ⟨_, rfl, p, _, 2, 2, rfl, rfl, hp, rfl, ?_⟩
      have np : c ≠ p := ne_of hc hp (fun q => not_ints q.symm)
      have h2 : (L2.upd H1 p (.lst [.ref g, .ref c, .int (n + 1), .int s])) p = some (.lst [.ref g, .ref c, .int (n + 1), .int s]) := upd_same
      have hc2 : (L2.upd H1 p (.lst [.ref g, .ref c, .int (n + 1), .int s])) c = some (.lst (cs.map V.int)) := by rw [upd_ne np]; exact hc
      have ix0 := Int.emod_nonneg (n + 1) (b := (cs.length : Int)) (by omega)
      have ix1 := Int.emod_lt_of_pos (n + 1) (b := (cs.length : Int)) (by omega)
      obtain ⟨x, hx⟩ : ∃ x, cs[((n + 1) % (cs.length : Int)).toNat]? = some x := ⟨_, List.getElem?_eq_getElem (by omega)⟩
      have hx2 : (cs.map V.int)[((n + 1) % (cs.length : Int)).toNat]? = some (.int x) := by rw [List.getElem?_map, hx]; rfl
      refine ⟨_, rfl, p, _, 1, _, rfl, rfl, .of h2, at41, _, rfl, p, _, 2, _, rfl, rfl, .of h2, at42, _, rfl, p, _, 1, _, rfl, rfl, .of h2, at41, c, _, rfl, .inl (.of hc2), ?_⟩
      rw [List.length_map]
      refine ⟨_, _, rfl, rfl, (by omega), c, _, _, _, rfl, rfl, .of hc2, atI_ofR ix0 hx2, ?_⟩
      refine ⟨_, rfl, p, _, 3, _, rfl, rfl, .of h2, at43, _, rfl, p, _, 3, _, rfl, rfl, .of h2, at43, _, _, rfl, rfl, wide_mul (a := 127) (b := 127) (by omega) (by omega) (by decide) (by decide) (by decide), _, rfl, _, _, rfl, rfl, _, _, rfl, rfl, .inr ⟨by decide, by decide⟩, _, _, rfl, rfl, _, rfl, p, _, 2, _, rfl, rfl, .of h2, at42, _, _, rfl, rfl, .inr ⟨by decide, by decide⟩, _, _, rfl, rfl, ?_⟩
      refine ⟨_, rfl, _, _, rfl, rfl, ⟨by decide, by decide, by decide⟩, _, _, rfl, rfl, ⟨by decide, by decide, by decide⟩, _, _, rfl, rfl, .inr ⟨by decide +kernel, by decide +kernel⟩, _, _, rfl, rfl, _, _, rfl, rfl, ?_, ?_⟩
      · rw [p127]
        show (0 : Int) < 170141183460469231731687303715884105727
        decide
      rw [p127]
      refine ⟨_, rfl, p, _, 3, 3, rfl, rfl, h2, rfl, ?_⟩
      have h3 : ∀ y : Int, (L2.upd (L2.upd H1 p (.lst [.ref g, .ref c, .int (n + 1), .int s])) p (.lst [.ref g, .ref c, .int (n + 1), .int y])) p = some (.lst [.ref g, .ref c, .int (n + 1), .int y]) := fun y => upd_same
      refine ⟨_, rfl, p, _, 3, _, rfl, rfl, .of (h3 _), at43, _, _, rfl, rfl, ⟨by decide, by decide, by decide⟩, _, _, rfl, rfl, wide_div (b := 64) (by decide) (by decide) (by decide) (by decide), _, rfl, _, _, rfl, rfl, (by omega), ?_⟩
      have ng : g ≠ p := ne_of hg hp (fun q => not_ints (l := []) q.symm)
      refine q _ _ ⟨fun b o nb eb => ?_, fun D o eD oD => ?_⟩ ⟨g, c, [], cs, n + 1, _, h3 _, ?_, ?_, Nat.zero_le _, (fun y h => by cases h), lc, lc2, by omega, Int.emod_nonneg _ (by decide), Int.emod_lt_of_pos _ (by decide)⟩ (Int.emod_nonneg _ (by omega)) (Int.emod_lt_of_pos _ (by omega))
      · rw [upd_ne nb, upd_ne nb]
        exact se _ _ eb
      · obtain ⟨g', c', i', t', hp', e1, e2, e3⟩ := oD.same se
        rw [hp] at hp'
        cases hp'
        exact ⟨g, c, _, _, h3 _, e1, e2, e3⟩
      · rw [upd_ne ng, upd_ne ng]
        exact hg
      · rw [upd_ne np, upd_ne np]
        exact hc
end
end UP

set_option Elab.async false
set_option linter.all false
set_option maxRecDepth 100000
set_option maxHeartbeats 4000000
namespace UP
open PySem PySem.Spec PyProof.Rows L2
theorem SqL.sameR {K : PySem.W.Frag} {H H' : Hp} {a : Addr} {xs : List V} (h : SqL K H a xs) (s : Same H H') : SqL K H' a xs := h.elim (fun z => .inl (z.elim (fun y => .inl (s _ _ y)) (fun ⟨o, y⟩ => .inr ⟨o, s _ _ y⟩))) (fun z => .inr z)
theorem erase_permR {α : Type} : ∀ (l : List α) (i : Nat) (h : i < l.length), (l[i] :: l.eraseIdx i).Perm l
  | [], i, h => absurd h (Nat.not_lt_zero _)
  | x :: t, 0, _ => List.Perm.refl _
  | x :: t, i + 1, h => by
    have h' : i < t.length := Nat.lt_of_succ_lt_succ h
    show (t[i] :: x :: t.eraseIdx i).Perm (x :: t)
    exact (List.Perm.swap x _ _).trans ((erase_permR t i h').cons x)
theorem cut63 (ns : List Int) : ∃ ms : List Int, cutV (ns.map V.int) none (some 63) = ms.map V.int ∧ ms.length ≤ 63 := by
  refine ⟨_, by unfold cutV; rw [← List.map_drop, ← List.map_take], ?_⟩
  rw [List.length_take, List.length_drop]
  have : HT.sIx (ns.map V.int).length (ns.map V.int).length (some 63) ≤ 63 := by
    have := HT.sIx_nat (ns.map V.int).length (ns.map V.int).length 63
    have e : HT.sIx (ns.map V.int).length (ns.map V.int).length (some 63) = HT.sIx (ns.map V.int).length (ns.map V.int).length (some ((63 : Nat) : Int)) := rfl
    rw [e, this]
    exact Nat.min_le_left ..
  omega
theorem int_at {ms : List Int} {i : Nat} {x : V} (h : (ms.map V.int)[i]? = some x) : ∃ n, x = .int n := by
  rw [List.getElem?_map] at h
  cases e : ms[i]? with
  | none =>
    rw [e] at h
    cases h
  | some n =>
    rw [e] at h
    exact ⟨n, (Option.some.inj h).symm⟩
section
variable {P : Program} {w : World} {K : PySem.W.Frag} {mg : Str → Option Value} {base : Heap}
/-! _law_reel: slots 0:script 1:stir 2:cell 3:great -/
abbrev s_law_reel : Stmt := topS 34
theorem sc_law_reel : FnScope ["script", "stir", "cell", "great"] ["script"] (defScope s_law_reel) := ⟨rfl, rfl, rfl, by decide +kernel, rfl, by decide +kernel, by decide +kernel⟩
def sp_law_reel (K : PySem.W.Frag) : Sp := fun vs H Q _ => ∃ (a : Addr) (ns : List Int), vs = [.ref a] ∧ SqL K H a (ns.map V.int) ∧ ∀ H' p, Same H H' → H p = none → Reel H' p → Q (.ref p) H'
theorem ok_law_reel (D : Df K mg "_law_reel" s_law_reel) (T : Tx mg) : Has P w K mg base 1 "_law_reel" ["script"] (sp_law_reel K) := by
  refine has_of D sc_law_reel (fun _ _ _ _ _ _ us hl => match us, hl with | [_], _ => rfl) (fun vs H Q E h => ?_) (fun f cdv A outer s₀ H vs Q E hr h => ?_)
  · obtain ⟨a, rs, rfl, _⟩ := h
    rfl
  · obtain ⟨a, ns, rfl, hS, q⟩ := h
    obtain ⟨ms, em, lm⟩ := cut63 ns
    refine ⟨_, (pss_cons (ps_set (i := 1) sc_law_reel.nd rfl (by first | exact Or.inl rfl | exact Or.inr rfl) (pe_op op_pow pe_int pe_int))
    (pss_cons (ps_for PassesOwn.never rfl (pi_list (pe_slice sl_list (pv 0) po_none (po_some pe_int))) (pg_name (i := 2) sc_law_reel.nd rfl (by first | exact Or.inl rfl | exact Or.inr rfl))
      (pss_one (ps_set (i := 1) sc_law_reel.nd rfl (by first | exact Or.inl rfl | exact Or.inr rfl) (pe_op op_mod (pe_op op_add (pe_op op_add (pe_op op_mulW (pv 1) (pv 1)) (pe_op op_mod (pv 2) pe_int)) pe_int) (pe_op op_sub (pe_op op_mul (pe_op op_pow pe_int pe_int) (pe_op op_pow pe_int pe_int)) pe_int)))))
    (pss_cons (ps_setLc (i := 3) (own := [("cell", 2)]) rfl sc_law_reel.nd rfl rfl (sw_true rfl rfl rfl (by decide +kernel)) (pi_list (pe_slice sl_list (pv 0) po_none (po_some pe_int))) (blkOk_by (N := ["script", "stir", "cell", "great"]) (sc := defScope s_law_reel) (by decide +kernel)) (fun _ _ _ _ _ => (pg_name (i := 2) sc_law_reel.nd rfl (by first | exact Or.inl rfl | exact Or.inr rfl))) (fun _ _ _ _ _ => pts_one (pt_cmpR op_ge (pv 2) (pe_op op_pow pe_int pe_int) (nomark _))) (fun _ _ _ _ _ => (pe_op op_sub (pv 2) (pe_op op_pow pe_int pe_int))))
    (pss_one (ps_ret (pe_lst (pa_cons (pv 3) (pa_cons (pe_op op_cat (pe_lc (own := [("cell", 2)]) rfl sc_law_reel.nd (pi_list (pe_slice sl_list (pv 0) po_none (po_some pe_int))) (blkOk_by (N := ["script", "stir", "cell", "great"]) (sc := defScope s_law_reel) (by decide +kernel)) (fun _ _ _ _ _ => (pg_name (i := 2) sc_law_reel.nd rfl (by first | exact Or.inl rfl | exact Or.inr rfl))) (fun _ _ _ _ _ => pts_nil) (fun _ _ _ _ _ => (pe_op op_mod (pv 2) pe_int))) (pe_lst (pa_cons pe_int pa_nil))) (pa_cons pe_int (pa_cons (pv 1) pa_nil)))))))))), ?_⟩
    refine ⟨_, _, rfl, rfl, ⟨by decide, by decide, by decide⟩, ?_⟩
    refine ⟨_, rfl, _, rfl, a, _, rfl, hS, fun c nc => ?_⟩
    rw [em]
    have sc : Same H (upd H c (.lst (ms.map V.int))) := same_upd nc
    refine ⟨c, rfl, ⟨_, .of upd_same⟩, for_list (K := K) (a := c) (xs := ms.map V.int) (fun i σ H' => ∃ s y2, σ = [some (.ref a), some (.int s), y2, none] ∧ H' = upd H c (.lst (ms.map V.int)) ∧ 0 ≤ s ∧ s < 170141183460469231731687303715884105727)
      ⟨_, none, rfl, rfl, by decide +kernel, by decide +kernel⟩ (fun i σ H' _ hP => ?_) (fun i x σ H4 ex hP => ?_) (fun σ H4 hP => ?_)⟩
    · obtain ⟨_, _, _, rfl, _⟩ := hP
      exact .of upd_same
    · obtain ⟨s, y2, rfl, rfl, s0, s1⟩ := hP
      obtain ⟨n, rfl⟩ := int_at ex
      refine ⟨_, rfl, _, rfl, _, _, rfl, rfl, wide_mul (a := 127) (b := 127) (by omega) (by omega) (by decide) (by decide) (by decide), _, rfl, _, _, rfl, rfl, (by show (0 : Int) < 1000000000000000003; decide), _, _, rfl, rfl, _, _, rfl, rfl, _, _, rfl, rfl, ⟨by decide, by decide, by decide⟩, _, _, rfl, rfl, ⟨by decide, by decide, by decide⟩, _, _, rfl, rfl, .inr ⟨by decide +kernel, by decide +kernel⟩, _, _, rfl, rfl, _, _, rfl, rfl, ?_, ?_⟩
      · rw [p127]
        show (0 : Int) < 170141183460469231731687303715884105727
        decide
      rw [p127]
      exact ⟨_, _, rfl, rfl, Int.emod_nonneg _ (by decide), Int.emod_lt_of_pos _ (by decide)⟩
    · obtain ⟨s, y2, rfl, rfl, s0, s1⟩ := hP
      generalize upd H c (.lst (ms.map V.int)) = H1 at *
      refine ⟨_, rfl, _, rfl, a, _, rfl, SqL.sameR hS sc, fun c2 nc2 => ?_⟩
      rw [em]
      have sc2 : Same H1 (upd H1 c2 (.lst (ms.map V.int))) := same_upd nc2
      refine ⟨c2, rfl, ⟨_, .of upd_same⟩, fun L nL => lc_list (K := K) (a := c2) (xs := ms.map V.int) (fun i H' => Same (upd H1 c2 (.lst (ms.map V.int))) H' ∧ ∃ gs : List Int, H' L = some (.lst (gs.map V.int)) ∧ gs.length ≤ i ∧ ∀ x ∈ gs, 0 ≤ x)
        ⟨same_upd nL, [], upd_same, Nat.le_refl _, fun x h => by cases h⟩ (fun i H' _ p => .of (p.1 _ _ upd_same)) (fun i x H5 ex hP => ?_) (fun H5 hP => ?_)⟩
      · obtain ⟨s5, gs, hL, lg, g0⟩ := hP
        have hi : i < ms.length := by
          have := (List.getElem?_eq_some_iff.mp ex).1
          rw [List.length_map] at this
          exact this
        obtain ⟨n, rfl⟩ := int_at ex
        refine ⟨rfl, _, rfl, _, _, rfl, rfl, ⟨by decide, by decide, by decide⟩, _, _, rfl, rfl, _, rfl, ite2 (fun e => ?_) (fun e => ?_)⟩
        · have e : (10 : Int) ^ ((18 : Int).toNat) ≤ n := of_decide_eq_true e
          refine ⟨_, rfl, _, _, rfl, rfl, ⟨by decide, by decide, by decide⟩, _, _, rfl, rfl, _, hL, ?_, same_grow nL s5, gs ++ [n - (10 : Int) ^ ((18 : Int).toNat)], ?_, ?_, ?_⟩
          · rw [List.length_map]
            exact small (by omega)
          · rw [upd_same, List.map_append]
            rfl
          · rw [List.length_append]
            show gs.length + 1 ≤ i + 1
            omega
          · intro x hx
            rcases List.mem_append.mp hx with h | h
            · exact g0 x h
            · rw [List.mem_singleton.mp h]
              omega
        · exact ⟨s5, gs, hL, by omega, g0⟩
      · obtain ⟨s5, gs, hL, lg, g0⟩ := hP
        rw [List.length_map] at lg
        refine ⟨_, rfl, ?_⟩
        have sB : Same H1 H5 := sc2.trans s5
        refine ⟨_, rfl, _, rfl, a, _, rfl, SqL.sameR (SqL.sameR hS sc) sB, fun c3 nc3 => ?_⟩
        rw [em]
        have sc3 : Same H5 (upd H5 c3 (.lst (ms.map V.int))) := same_upd nc3
        refine ⟨c3, rfl, ⟨_, .of upd_same⟩, fun M nM => lc_list (K := K) (a := c3) (xs := ms.map V.int) (fun i H' => Same (upd H5 c3 (.lst (ms.map V.int))) H' ∧ ∃ cs : List Int, H' M = some (.lst (cs.map V.int)) ∧ cs.length = i)
          ⟨same_upd nM, [], upd_same, rfl⟩ (fun i H' _ p => .of (p.1 _ _ upd_same)) (fun i x H6 ex hP => ?_) (fun H6 hP => ?_)⟩
        · obtain ⟨s6, cs, hM, lc⟩ := hP
          have hi : i < ms.length := by
            have := (List.getElem?_eq_some_iff.mp ex).1
            rw [List.length_map] at this
            exact this
          obtain ⟨n, rfl⟩ := int_at ex
          refine ⟨rfl, yesT ⟨_, rfl, _, _, rfl, rfl, (by show (0 : Int) < 1000003; decide), _, hM, ?_, same_grow nM s6, cs ++ [n % 1000003], ?_, ?_⟩⟩
          · rw [List.length_map]
            exact small (by omega)
          · rw [upd_same, List.map_append]
            rfl
          · rw [List.length_append, lc]
            rfl
        · obtain ⟨s6, cs, hM, lc⟩ := hP
          rw [List.length_map] at lc
          refine ⟨(by show 1 ≤ sizeLine; decide), fun o no => ?_⟩
          have s7 := same_upd (o := .lst [.int 57]) no
          refine ⟨M, o, _, _, rfl, rfl, s7 _ _ hM, upd_same, ?_, fun r nr => ?_⟩
          · rw [List.length_map]
            show cs.length + 1 ≤ sizeLine
            exact Nat.le_of_lt (small (by omega))
          have s8 := same_upd (o := .lst (cs.map V.int ++ [.int 57])) nr
          refine ⟨_, rfl, (by show 4 ≤ sizeLine; decide), fun p np => ?_⟩
          have s9 := same_upd (o := .lst [.ref L, .ref r, .int 0, .int s]) np
          have sC := sc3.trans (s6.trans (s7.trans s8))
          have sT : Same H _ := sc.trans (sB.trans sC)
          refine q _ p (sT.trans s9) (sT.free np) ⟨L, r, gs, cs ++ [57], 0, s, upd_same, s9 _ _ (sC _ _ hL), ?_, by omega, g0, ?_, ?_, Int.le_refl _, s0, s1⟩
          · rw [s9 _ _ upd_same, List.map_append]
            rfl
          · rw [List.length_append]
            exact Nat.succ_pos _
          · rw [List.length_append]
            show cs.length + 1 ≤ 64
            omega
/-! _law_names: slots 0:reel 1:many 2:pool 3:turn -/
abbrev s_law_names : Stmt := topS 36
theorem sc_law_names : FnScope ["reel", "many", "pool", "turn"] ["reel", "many"] (defScope s_law_names) := ⟨rfl, rfl, rfl, by decide +kernel, rfl, by decide +kernel, by decide +kernel⟩
def thirteen : List Str := ["a", "b", "c", "ab", "zz", "z", "abcdefgh", "m", "ba", "q", "aa", "k", "waits"]
theorem thirteen_nd : thirteen.Nodup := by decide +kernel
theorem thirteen_no : ("other" : Str) ∉ thirteen := by decide +kernel
theorem thirteen_ok : ∀ s ∈ thirteen, KindOk s := by decide +kernel
def sp_law_names : Sp := fun vs H Q _ => ∃ (p : Addr) (m : Int), vs = [.ref p, .int m] ∧ Reel H p ∧ 0 ≤ m ∧ m ≤ 13 ∧ ∀ (H' : Hp) (l : Addr) (ks : List Str), RB p H H' → Reel H' p → H l = none → H' l = some (.lst (ks.map V.str)) → Off H' p l → ((ks.length : Nat) : Int) = m → (∀ s ∈ ks, KindOk s) → ks.Nodup ∧ sortedS ks = true ∧ (∀ s ∈ ks, s ∈ thirteen) → Q (.ref l) H'
theorem ok_law_names (D : Df K mg "_law_names" s_law_names) (T : Tx mg) (G_law_draw : Has P w K mg base 1 "_law_draw" ["reel", "many"] sp_law_draw) : Has P w K mg base 2 "_law_names" ["reel", "many"] sp_law_names := by
  refine has_of D sc_law_names (fun _ _ _ _ _ _ us hl => match us, hl with | [_, _], _ => rfl) (fun vs H Q E h => ?_) (fun f cdv A outer s₀ H vs Q E hr h => ?_)
  · obtain ⟨_, _, rfl, _⟩ := h
    rfl
  · obtain ⟨p, m, rfl, z, m1, m2, q⟩ := h
    refine ⟨_, (pss_cons (ps_set (i := 2) sc_law_names.nd rfl (by first | exact Or.inl rfl | exact Or.inr rfl) (pe_lst (pa_cons pe_str (pa_cons pe_str (pa_cons pe_str (pa_cons pe_str (pa_cons pe_str (pa_cons pe_str (pa_cons pe_str (pa_cons pe_str (pa_cons pe_str (pa_cons pe_str (pa_cons pe_str (pa_cons pe_str (pa_cons pe_str pa_nil)))))))))))))))
    (pss_one (ps_ret (pe_callB cr_sortedS (by rfl) T.n_sorted (by decide +kernel) (pa_cons (pe_lc (own := [("turn", 3)]) rfl sc_law_names.nd (pi_range1 (by rfl) T.n_range (pa_cons (pv 1) pa_nil)) (blkOk_by (N := ["reel", "many", "pool", "turn"]) (sc := defScope s_law_names) (by decide +kernel)) (fun _ _ _ _ _ => (pg_name (i := 3) sc_law_names.nd rfl (by first | exact Or.inl rfl | exact Or.inr rfl))) (fun _ _ _ _ _ => pts_nil) (fun _ _ _ _ _ => (pe_bmK (K := K) rfl (pe_bm PySem.F.plainAttrs_list PySem.F.slot_list_pop PySem.F.type_list_pop mt_popAt (pv 2) (pa_cons (pe_callH G_law_draw (hr.mono (by omega)) (by rfl) (pa_cons (pv 0) (pa_cons (pe_callB (call_len_seqK (K := K) rfl) (by rfl) T.n_len (by decide +kernel) (pa_cons (pv 2) pa_nil)) pa_nil))) pa_nil))))) pa_nil))))), ?_⟩
    refine ⟨(by show 13 ≤ sizeLine; decide), fun pl npl => ?_⟩
    have n1 := z.ne npl
    have opl : Off (upd H pl (.lst (thirteen.map V.str))) p pl := (z.off npl).upd n1
    have z1 : Reel (upd H pl (.lst (thirteen.map V.str))) p := z.same (same_upd npl)
    refine ⟨_, rfl, m, rfl, by omega, by omega, fun L nL => ?_⟩
    have nLp : L ≠ pl := fun e => by rw [e, upd_same] at nL; cases nL
    have nLH : H L = none := (same_upd npl).free nL
    have nLs := z1.ne nL
    refine lc_range (lo := 0) (n := m.toNat) (fun i H' => ∃ ps ks : List Str, RB p H H' ∧ Reel H' p ∧ Off H' p pl ∧ Off H' p L ∧ H' pl = some (.lst (ps.map V.str)) ∧ ps.length + i = 13 ∧ (∀ s ∈ ps, KindOk s) ∧ H' L = some (.lst (ks.map V.str)) ∧ ks.length = i ∧ (∀ s ∈ ks, KindOk s) ∧ (ps ++ ks).Perm thirteen)
      ⟨thirteen, [], (RB.of (same_upd npl)).trans (RB.of (same_upd nL)), z1.same (same_upd nL), opl.same (same_upd nL), (z1.off nL).upd nLs, by rw [upd_ne nLp.symm, upd_same]; rfl, rfl, thirteen_ok, upd_same, rfl, (fun s h => by cases h), by rw [List.append_nil]⟩ (fun i H3 hi hP => ?_) (fun H3 hP => ?_)
    · obtain ⟨ps, ks, b3, z3, o3, o3L, hpl, lp, okp, hL, lk, okk, pm0⟩ := hP
      refine ⟨rfl, yesT ⟨_, rfl, .inl ⟨rfl, _, SqL.of hpl⟩, _, rfl, _, rfl, pl, _, rfl, .inl (.of hpl), p, _, rfl, z3, ?_, ?_, fun H4 r4 b4 z4 r40 r41 => ?_⟩⟩
      · rw [List.length_map]
        omega
      · rw [List.length_map]
        exact wide8 (by omega) (by omega)
      · rw [List.length_map] at r41
        have lt : r4.toNat < ps.length := by omega
        have h4 : H4 pl = some (.lst (ps.map V.str)) := b4.but _ _ n1 hpl
        have hL4 : H4 L = some (.lst (ks.map V.str)) := b4.but _ _ nLs hL
        have o4 := b4.off _ _ hpl o3
        have o4L := b4.off _ _ hL o3L
        have ek : (ps.map V.str)[r4.toNat]? = some (.str ps[r4.toNat]) := by
          rw [List.getElem?_map, List.getElem?_eq_getElem lt]
          rfl
        have ix : seqIndex? r4 (ps.map V.str).length = some r4.toNat := by
          unfold seqIndex?
          rw [List.length_map]
          have e1 : ¬ r4 < 0 := by omega
          simp only [e1, if_false]
          rw [if_pos]
          simp
          omega
        refine ⟨pl, _, r4, r4.toNat, _, rfl, rfl, h4, by omega, by omega, ix, ek, ks.map V.str, ?_, ?_, ps.eraseIdx r4.toNat, ks ++ [ps[r4.toNat]], ?_, ?_, ?_, ?_, ?_, ?_, ?_, ?_, ?_, ?_, ?_⟩
        · rw [upd_ne nLp]
          exact hL4
        · rw [List.length_map]
          exact small (by omega)
        · exact ((b3.trans b4).grow npl o4).grow nLH (o4L.upd n1)
        · exact (z4.upd o4).upd (o4L.upd n1)
        · exact (o4.upd n1).upd nLs
        · exact (o4L.upd n1).upd nLs
        · rw [upd_ne nLp.symm, upd_same, erase_map]
        · rw [List.length_eraseIdx_of_lt lt]
          omega
        · intro s hs
          exact okp s (List.mem_of_mem_eraseIdx hs)
        · rw [upd_same, List.map_append]
          rfl
        · rw [List.length_append, lk]
          rfl
        · intro s hs
          rcases List.mem_append.mp hs with h | h
          · exact okk s h
          · rw [List.mem_singleton.mp h]
            exact okp _ (List.getElem_mem lt)
        · refine List.Perm.trans ?_ pm0
          have h1 := erase_permR ps r4.toNat lt
          refine List.Perm.trans ?_ (h1.append_right ks)
          rw [← List.append_assoc]
          exact List.perm_append_singleton ..
    · obtain ⟨ps, ks, b3, z3, o3, o3L, hpl, lp, okp, hL, lk, okk, pm0⟩ := hP
      refine ⟨L, ks, rfl, .of hL, by omega, fun ks' l pm so nl => ?_⟩
      have nlp := z3.ne nl
      exact q _ l ks' (b3.trans (RB.of (same_upd nl))) (z3.same (same_upd nl)) (b3.free z3 nl) upd_same ((z3.off nl).upd nlp) (by rw [pm.length_eq]; omega) (fun s hs => okk s (pm.mem_iff.mp hs)) ⟨pm.nodup_iff.mpr (List.nodup_append.mp (pm0.nodup_iff.mpr thirteen_nd)).2.1, so, fun s hs => pm0.mem_iff.mp (List.mem_append.mpr (.inr (pm.mem_iff.mp hs)))⟩
/-! _law_state: slots 0:reel 1:names 2:most 3:count -/
abbrev s_law_state : Stmt := topS 38
theorem sc_law_state : FnScope ["reel", "names", "most", "count"] ["reel", "names", "most"] (defScope s_law_state) := ⟨rfl, rfl, rfl, by decide +kernel, rfl, by decide +kernel, by decide +kernel⟩
def sp_law_state : Sp := fun vs H Q _ => ∃ (p l : Addr) (ks : List Str) (m : Int), vs = [.ref p, .ref l, .int m] ∧ Reel H p ∧ H l = some (.lst (ks.map V.str)) ∧ 0 < ks.length ∧ ks.length ≤ 1000 ∧ (∀ s ∈ ks, KindOk s) ∧ 0 ≤ m ∧ m.natAbs < 2 ^ 7999 ∧ ∀ H' v st, RB p H H' → Reel H' p → StV H' v st → StOk st → (∀ r, st = some r → r.2 ≤ m) → Q v H'
theorem ok_law_state (D : Df K mg "_law_state" s_law_state) (T : Tx mg) (G_law_draw : Has P w K mg base 1 "_law_draw" ["reel", "many"] sp_law_draw) : Has P w K mg base 2 "_law_state" ["reel", "names", "most"] sp_law_state := by
  refine has_of D sc_law_state (fun _ _ _ _ _ _ us hl => match us, hl with | [_, _, _], _ => rfl) (fun vs H Q E h => ?_) (fun f cdv A outer s₀ H vs Q E hr h => ?_)
  · obtain ⟨_, _, _, _, rfl, _⟩ := h
    rfl
  · obtain ⟨p, l, ks, m, rfl, z, hl, k1, k2, okk, m0, m2, q⟩ := h
    have mw : (m + 1).natAbs < 2 ^ 8000 := by
      rw [show (8000 : Nat) = 7999 + 1 from rfl, Nat.pow_succ]
      omega
    refine ⟨_, (pss_cons (ps_set (i := 3) sc_law_state.nd rfl (by first | exact Or.inl rfl | exact Or.inr rfl) (pe_callH G_law_draw (hr.mono (by omega)) (by rfl) (pa_cons (pv 0) (pa_cons (pe_op op_add (pv 2) pe_int) pa_nil))))
    (pss_one (ps_ret (pe_ifExp (pt_cmpR op_gt (pv 3) pe_int (nomark _)) (pe_tup (pa_cons (pe_ix ix_list (pv 1) (pe_callH G_law_draw (hr.mono (by omega)) (by rfl) (pa_cons (pv 0) (pa_cons (pe_callB call_len_seq (by rfl) T.n_len (by decide +kernel) (pa_cons (pv 1) pa_nil)) pa_nil))) (fun _ _ => rfl)) (pa_cons (pv 3) pa_nil))) pe_non)))), ?_⟩
    refine ⟨_, rfl, _, rfl, _, _, rfl, rfl, p, _, rfl, z, (by show 1 ≤ m + 1; omega), mw, fun H1 r b1 z1 r0 r1 => ?_⟩
    have r1 : r < m + 1 := r1
    have hl1 := b1.strs z hl
    refine ⟨_, rfl, _, _, rfl, rfl, _, rfl, ite2 (fun e => ?_) (fun e => ?_)⟩
    · have e : 0 < r := of_decide_eq_true e
      refine ⟨_, rfl, _, rfl, _, rfl, l, _, rfl, .inl (.of hl1), p, _, rfl, z1, ?_, ?_, fun H2 r2 b2 z2 r20 r21 => ?_⟩
      · rw [List.length_map]
        omega
      · rw [List.length_map]
        exact wide8 (by omega) (by omega)
      rw [List.length_map] at r21
      have lt : r2.toNat < ks.length := by omega
      have ek : (ks.map V.str)[r2.toNat]? = some (.str ks[r2.toNat]) := by
        rw [List.getElem?_map, List.getElem?_eq_getElem lt]
        rfl
      have kk : KindOk ks[r2.toNat] := okk _ (List.getElem_mem lt)
      generalize ks[r2.toNat] = kd at ek kk
      refine ⟨l, _, r2, _, rfl, rfl, .of (b2.strs z1 hl1), atI_ofR r20 ek, _, rfl, (by show 2 ≤ sizeLine; decide), fun t nt => ?_⟩
      refine q _ _ (some (kd, r)) ((b1.trans b2).trans (RB.of (same_upd nt))) (z2.same (same_upd nt)) ⟨t, rfl, upd_same⟩ (fun x h => ?_) (fun x h => ?_)
      · cases h
        exact ⟨kk, by show 1 ≤ r; omega⟩
      · cases h
        show r ≤ m
        omega
    · exact q _ _ none b1 z1 rfl (fun x h => by cases h) (fun x h => by cases h)
/-! _law_step: slots 0:state 1:kind 2:count 3:left -/
abbrev s_law_step : Stmt := topS 39
theorem sc_law_step : FnScope ["state", "kind", "count", "left"] ["state", "kind", "count"] (defScope s_law_step) := ⟨rfl, rfl, rfl, by decide +kernel, rfl, by decide +kernel, by decide +kernel⟩
def sp_law_step : Sp := fun vs H Q _ => ∃ (v : V) (st : Option Run) (k : Str) (c : Int), vs = [v, .str k, .int c] ∧ StV H v st ∧ 1 ≤ c ∧ ∀ H' v', Same H H' → StV H' v' (stepR st k c) → Q v' H'
theorem ok_law_step (D : Df K mg "_law_step" s_law_step) : Has P w K mg base 1 "_law_step" ["state", "kind", "count"] sp_law_step := by
  refine has_of D sc_law_step (fun _ _ _ _ _ _ us hl => match us, hl with | [_, _, _], _ => rfl) (fun vs H Q E h => ?_) (fun f cdv A outer s₀ H vs Q E hr h => ?_)
  · obtain ⟨_, _, _, _, rfl, _⟩ := h
    rfl
  · obtain ⟨v, st, k, c, rfl, hv, c1, q⟩ := h
    refine ⟨_, (pss_cons (ps_if (PW.pt (pw_or (pt_cmpR op_isN (pv 0) pe_non (nomark _)) (pw_or1 (pt_cmpR op_eq (pe_ix ix_tup (pv 0) pe_int (fun _ _ => rfl)) (pv 1) (nomark _))))) (pss_one (ps_ret (pe_tup (pa_cons (pv 1) (pa_cons (pe_op op_add (pv 2) (pe_ifExp (pt_cmpR op_isN (pv 0) pe_non (nomark _)) pe_int (pe_ix ix_tup (pv 0) pe_int (fun _ _ => rfl)))) pa_nil))))) pss_nil)
    (pss_cons (ps_set (i := 3) sc_law_step.nd rfl (by first | exact Or.inl rfl | exact Or.inr rfl) (pe_op op_sub (pe_ix ix_tup (pv 0) pe_int (fun _ _ => rfl)) (pv 2)))
    (pss_cons (ps_if (pt_cmpR op_eq (pv 3) pe_int (nomark _)) (pss_one (ps_ret pe_non)) pss_nil)
    (pss_one (ps_ret (pe_ifExp (pt_cmpR op_gt (pv 3) pe_int (nomark _)) (pe_tup (pa_cons (pe_ix ix_tup (pv 0) pe_int (fun _ _ => rfl)) (pa_cons (pv 3) pa_nil))) (pe_tup (pa_cons (pv 1) (pa_cons (pe_op op_sub pe_int (pv 3)) pa_nil))))))))), ?_⟩
    cases st with
    | none =>
      obtain rfl := hv
      refine ⟨_, rfl, rfl, _, rfl, iteP rfl (iteT ?_)⟩
      refine ⟨_, rfl, _, rfl, _, rfl, rfl, _, rfl, iteP rfl ⟨_, _, rfl, rfl, (by show 2 ≤ sizeLine; decide), fun t nt => q _ _ (same_upd nt) ⟨t, rfl, ?_⟩⟩⟩
      rw [upd_same]
      show some (HO.tup [V.str k, .int (c + 0)]) = some (.tup [.str k, .int c])
      rw [Int.add_zero]
    | some r =>
      obtain ⟨t, rfl, ht⟩ := hv
      refine ⟨_, rfl, rfl, _, rfl, iteN rfl ⟨_, rfl, t, _, 0, _, rfl, rfl, .of ht, at0, _, rfl, rfl, _, rfl, ite2 (fun e => ?_) (fun e => ?_)⟩⟩
      · have e : r.1 = k := V.str.inj (of_decide_eq_true e)
        refine ⟨_, rfl, _, rfl, _, rfl, rfl, _, rfl, iteN rfl ⟨_, rfl, t, _, 1, _, rfl, rfl, .of ht, at1, _, _, rfl, rfl, (by show 2 ≤ sizeLine; decide), fun u nu => q _ _ (same_upd nu) ?_⟩⟩
        rw [show stepR (some r) k c = some (k, r.2 + c) from if_pos e, Int.add_comm]
        exact ⟨u, rfl, upd_same⟩
      · have e : r.1 ≠ k := fun z => e (decide_eq_true (by show V.str r.1 = V.str k; rw [z]))
        have es : stepR (some r) k c = if 0 < r.2 - c then some (r.1, r.2 - c) else if r.2 - c = 0 then none else some (k, -(r.2 - c)) := if_neg e
        refine ⟨_, rfl, t, _, 1, _, rfl, rfl, .of ht, at1, _, rfl, _, _, rfl, rfl, ?_⟩
        by_cases e0 : r.2 - c = 0
        · refine ⟨_, rfl, rfl, _, rfl, iteP (decide_eq_true (by show V.int (r.2 - c) = V.int 0; rw [e0])) (q _ _ (Same.refl _) ?_)⟩
          rw [es, if_neg (by omega), if_pos e0]
          rfl
        · refine ⟨_, rfl, rfl, _, rfl, iteN (decide_eq_false fun z => e0 (V.int.inj z)) ?_⟩
          by_cases e1 : 0 < r.2 - c
          · refine ⟨_, rfl, _, _, rfl, rfl, _, rfl, iteP (decide_eq_true e1) ⟨_, rfl, t, _, 0, _, rfl, rfl, .of ht, at0, _, rfl, (by show 2 ≤ sizeLine; decide), fun u nu => q _ _ (same_upd nu) ?_⟩⟩
            rw [es, if_pos e1]
            exact ⟨u, rfl, upd_same⟩
          · refine ⟨_, rfl, _, _, rfl, rfl, _, rfl, iteN (decide_eq_false e1) ⟨_, rfl, _, rfl, _, _, rfl, rfl, (by show 2 ≤ sizeLine; decide), fun u nu => q _ _ (same_upd nu) ?_⟩⟩
            rw [es, if_neg e1, if_neg e0, show -(r.2 - c) = 0 - (r.2 - c) by omega]
            exact ⟨u, rfl, upd_same⟩
end
end UP

set_option Elab.async false
set_option linter.all false
set_option maxRecDepth 100000
set_option maxHeartbeats 4000000
namespace UP
open PySem PySem.Spec PyProof.Rows L2
def sp_noneR : Sp := fun _ _ _ _ => False
theorem simR_run {H : Hp} {p : Addr} {v : V} {r : Run} {n : Nat} (z : Reel H p) (h : RunV H v r) : Sim (· ≠ p) H (n + 1) v (dP r) := by
  obtain ⟨t, rfl, h⟩ := h
  obtain ⟨_, _, _, _, _, _, hs, _⟩ := z
  exact .inr ⟨t, _, _, rfl, ne_of h hs (by intro q; cases q), .inr h, rfl, sim_pair r, Nat.le_of_ble_eq_true rfl⟩
theorem simR_st {H : Hp} {p : Addr} {v : V} {st : Option Run} (z : Reel H p) (h : StV H v st) : Sim (· ≠ p) H 2 v (dSt st) := by
  cases st with
  | none =>
    cases h
    exact .inl (.inl ⟨rfl, rfl⟩)
  | some r => exact simR_run z h
section
variable {P : Program} {w : World} {K : PySem.W.Frag} {mg : Str → Option Value} {base : Heap}
/-! _law_dressed: slots 0:reel 1:value 2:parts 3:part -/
abbrev s_law_dressed : Stmt := topS 42
theorem sc_law_dressed : FnScope ["reel", "value", "parts", "part"] ["reel", "value"] (defScope s_law_dressed) := ⟨rfl, rfl, rfl, by decide +kernel, rfl, by decide +kernel, by decide +kernel⟩
def sp_law_dressed (n : Nat) : Sp := fun vs H Q _ => ∃ (sp : Addr) (v : V) (d : PyData), vs = [.ref sp, v] ∧ Reel H sp ∧ Sim (· ≠ sp) H n v d ∧ ∀ H' v', RB sp H H' → Reel H' sp → Sim (fun a => H a = none) H' n v' d → Q v' H'
def sp_pred : Nat → Sp
  | 0 => sp_noneR
  | n + 1 => sp_law_dressed n
theorem none_law_dressed (D : Df K mg "_law_dressed" s_law_dressed) : Has P w K mg base 1 "_law_dressed" ["reel", "value"] sp_noneR :=
  has_of D sc_law_dressed (fun _ _ _ _ _ _ us hl => match us, hl with | [_, _], _ => rfl) (fun _ _ _ _ h => h.elim) (fun _ _ _ _ _ _ _ _ _ _ h => h.elim)
theorem step_law_dressed (D : Df K mg "_law_dressed" s_law_dressed) (T : Tx mg) (m : Nat) (G_law_draw : Has P w K mg base 1 "_law_draw" ["reel", "many"] sp_law_draw) (G_law_dressed : Has P w K mg base (m + 1) "_law_dressed" ["reel", "value"] (sp_pred m)) :
    Has P w K mg base (m + 2) "_law_dressed" ["reel", "value"] (sp_law_dressed m) := by
  refine has_of D sc_law_dressed (fun _ _ _ _ _ _ us hl => match us, hl with | [_, _], _ => rfl) (fun vs H Q E h => ?_) (fun f cdv A outer s H vs Q E hr h => ?_)
  · obtain ⟨_, _, _, rfl, _⟩ := h
    rfl
  · obtain ⟨sp, v, d, rfl, hz, hv, q⟩ := h
    refine ⟨_, (pss_cons (ps_if (pt_not (pt_val (pe_callB call_isiT (by rfl) T.n_isinstance (by decide +kernel) (pa_cons (pv 1) (pa_cons (pe_tup (pa_cons (pe_bltn (v := .ty "list") (by rfl) T.n_list (by decide +kernel) rfl) (pa_cons (pe_bltn (v := .ty "tuple") (by rfl) T.n_tuple (by decide +kernel) rfl) pa_nil))) pa_nil))))) (pss_one (ps_ret (pv 1))) pss_nil)
    (pss_cons (ps_setLc (i := 2) (own := [("part", 3)]) rfl sc_law_dressed.nd rfl rfl (sw_true rfl rfl rfl (by decide +kernel)) (pi_seqA 1) (blkOk_by (N := ["reel", "value", "parts", "part"]) (sc := defScope s_law_dressed) (by decide +kernel)) (fun _ _ _ _ _ => (pg_name (i := 3) sc_law_dressed.nd rfl (by first | exact Or.inl rfl | exact Or.inr rfl))) (fun _ _ _ _ _ => pts_nil) (fun _ _ _ _ _ => (pe_callH G_law_dressed (hr.mono (by omega)) (by rfl) (pa_cons (pv 0) (pa_cons (pv 3) pa_nil)))))
    (pss_one (ps_ret (pe_ifExp (pt_cmpR op_eq (pe_callH G_law_draw (hr.mono (by omega)) (by rfl) (pa_cons (pv 0) (pa_cons pe_int pa_nil))) pe_int (nomark _)) (pv 2) (pe_callTy call_tuple_of (by rfl) T.n_tuple (by decide +kernel) (pa_cons (pv 2) pa_nil))))))), ?_⟩
    have hs : Dsc v d ∨ ∃ n, m = n + 1 ∧ ∃ a xs ds, v = .ref a ∧ a ≠ sp ∧ Sq2 H a xs ∧ d = .list ds ∧ Paired (Sim (· ≠ sp) H n) xs ds ∧ ds.length ≤ 1000 := by
      cases m with
      | zero => exact .inl hv
      | succ n =>
        rcases hv with hv | hv
        · exact .inl hv
        · exact .inr ⟨n, rfl, hv⟩
    rcases hs with hs | ⟨n, rfl, a, xs, ds, rfl, na, hx, rfl, px, ld⟩
    · have fin : ∀ t, H t = none → Q v (upd H t (.tup [.ty "list", .ty "tuple"])) := fun t nt => q _ _ (RB.of (same_upd nt)) (hz.same (same_upd nt)) (Sim.dsc hs)
      rcases hs with ⟨rfl, _⟩ | ⟨b, rfl, _⟩ | ⟨i, rfl, _⟩ | ⟨z, rfl, _⟩
      · exact ⟨_, rfl, (by show 2 ≤ sizeLine; decide), fun tp nt => ⟨_, tp, _, _, _, false, rfl, upd_same, .cons (.ty "list") (.cons (.ty "tuple") .nil), .base .non, kit_no (by decide +kernel) (by decide +kernel), false, rfl, iteT ⟨_, rfl, fin tp nt⟩⟩⟩
      · exact ⟨_, rfl, (by show 2 ≤ sizeLine; decide), fun tp nt => ⟨_, tp, _, _, _, false, rfl, upd_same, .cons (.ty "list") (.cons (.ty "tuple") .nil), .base (.bl b), kit_no (by decide +kernel) (by decide +kernel), false, rfl, iteT ⟨_, rfl, fin tp nt⟩⟩⟩
      · exact ⟨_, rfl, (by show 2 ≤ sizeLine; decide), fun tp nt => ⟨_, tp, _, _, _, false, rfl, upd_same, .cons (.ty "list") (.cons (.ty "tuple") .nil), .base (.int i), kit_no (by decide +kernel) (by decide +kernel), false, rfl, iteT ⟨_, rfl, fin tp nt⟩⟩⟩
      · exact ⟨_, rfl, (by show 2 ≤ sizeLine; decide), fun tp nt => ⟨_, tp, _, _, _, false, rfl, upd_same, .cons (.ty "list") (.cons (.ty "tuple") .nil), .base (.str z), kit_no (by decide +kernel) (by decide +kernel), false, rfl, iteT ⟨_, rfl, fin tp nt⟩⟩⟩
    · have lx : xs.length = ds.length := Paired.len px
      refine ⟨_, rfl, (by show 2 ≤ sizeLine; decide), fun tp nt => ?_⟩
      have st : Same H (upd H tp (.tup [.ty "list", .ty "tuple"])) := same_upd nt
      have z1 := hz.same st
      have hx1 := hx.same st
      have px1 : Paired (Sim (· ≠ sp) (upd H tp (.tup [.ty "list", .ty "tuple"])) n) xs ds := Paired.imp (fun _ _ z => Sim.keep (fun _ h => h) (fun _ _ _ e => st _ _ e) z) px
      have fr1 : ∀ b, (upd H tp (.tup [.ty "list", .ty "tuple"])) b = none → H b = none := fun b e => st.free e
      have B1 : RB sp H (upd H tp (.tup [.ty "list", .ty "tuple"])) := RB.of st
      have tpT : (upd H tp (.tup [.ty "list", .ty "tuple"])) tp = some (.tup [.ty "list", .ty "tuple"]) := upd_same
      clear px
      generalize (upd H tp (.tup [.ty "list", .ty "tuple"])) = H1 at z1 hx1 px1 fr1 B1 tpT
      have isi : ∃ c, TyX K H1 (.ref a) (.type c) ∧ PySem.W.kitAny K (.type c) [.type "list", .type "tuple"] = some true := hx1.elim (fun z => ⟨"list", .base (.lst z), kit_lst⟩) (fun z => ⟨"tuple", .base (.tup z), kit_tup⟩)
      obtain ⟨c, ty, ki⟩ := isi
      refine ⟨_, tp, _, _, _, true, rfl, tpT, .cons (.ty "list") (.cons (.ty "tuple") .nil), ty, ki, true, rfl, iteF ?_⟩
      refine ⟨a, xs, rfl, hx1, fun J wk L nL => ?_⟩
      have nLs : L ≠ sp := z1.ne nL
      refine lc_wka wk (fun i H' => RB sp H1 H' ∧ Reel H' sp ∧ Off H' sp L ∧ ∃ ys, H' L = some (.lst ys) ∧ Paired (Sim (fun b => H1 b = none ∧ b ≠ L) H' n) ys (ds.take i)) (fun i H' p => ?_) ⟨RB.of (same_upd nL), z1.same (same_upd nL), (z1.off nL).upd nLs, [], upd_same, .nil⟩ (fun i x H2 ex p => ?_) (fun H2 p => ?_)
      · rcases hx1 with z | z
        · exact (p.1.but _ _ na z).trans z.symm
        · exact (p.1.but _ _ na z).trans z.symm
      · obtain ⟨b2, z2, o2, ys, hL, hy⟩ := p
        obtain ⟨d, ed, hd⟩ := Paired.at px1 ex
        have hi : i < xs.length := (List.getElem?_eq_some_iff.mp ex).1
        refine ⟨rfl, yesT ⟨_, rfl, _, rfl, sp, x, d, rfl, z2, Sim.keep (fun _ h => h) (fun b o nb e => b2.but b o nb e) hd, fun H3 v3 b3 z3 h3 => ⟨ys, b3.but _ _ nLs hL, ?_, ?_, ?_, ?_, _, upd_same, ?_⟩⟩⟩
        · have := Paired.len hy
          rw [List.length_take] at this
          exact small (by omega)
        · exact (b2.trans b3).grow nL (b3.off _ _ hL o2)
        · exact z3.upd (b3.off _ _ hL o2)
        · exact (b3.off _ _ hL o2).upd nLs
        · have old : ∀ b o, (H1 b = none ∧ b ≠ L) → H2 b = some o → upd H3 L (.lst (ys ++ [v3])) b = some o := by
            intro b o nb e
            rw [upd_ne nb.2]
            exact b3.but b o (z1.ne nb.1) e
          rw [take_snoc ed]
          refine Paired.app (Paired.imp (fun _ _ z => Sim.keep (fun _ h => h) old z) hy) (.cons (Sim.keep (fun b nb => ?_) (fun b o nb e => ?_) h3) .nil)
          · exact ⟨b2.free z2 nb, fun z => by rw [z, hL] at nb; cases nb⟩
          · rw [upd_ne (fun z => by rw [z, hL] at nb; cases nb)]
            exact e
      · obtain ⟨b2, z2, o2, ys, hL, hy⟩ := p
        rw [lx, List.take_length] at hy
        have ly := Paired.len hy
        refine ⟨_, rfl, sp, 2, rfl, z2, by decide, by decide, fun H3 r3 b3 z3 r30 r31 => ⟨rfl, _, rfl, ?_⟩⟩
        have hL3 := b3.but _ _ nLs hL
        have hy3 : Paired (Sim (fun b => H b = none) H3 n) ys ds := Paired.imp (fun _ _ z => Sim.keep (fun b nb => fr1 b nb.1) (fun b o nb e => b3.but b o (z1.ne nb.1) e) z) hy
        have B3 : RB sp H H3 := B1.trans (b2.trans b3)
        by_cases e : r3 = 0
        · subst e
          exact iteP (decide_eq_true rfl) ⟨_, rfl, q _ _ B3 z3 (.inr ⟨L, ys, ds, rfl, fr1 L nL, .inl hL3, rfl, hy3, ld⟩)⟩
        · refine iteN (decide_eq_false fun z => e (V.int.inj z)) ⟨_, rfl, L, ys, rfl, .inl ⟨.of hL3, fun p np => q _ _ (B3.trans (RB.of (same_upd np))) (z3.same (same_upd np)) (.inr ⟨p, ys, ds, rfl, B3.free z3 np, .inr upd_same, rfl, ?_, ld⟩)⟩⟩
          exact Paired.imp (fun _ _ z => Sim.keep (fun _ h => h) (fun _ _ _ e => same_upd np _ _ e) z) hy3
theorem ok_law_dressed (D : Df K mg "_law_dressed" s_law_dressed) (T : Tx mg) (G_law_draw : Has P w K mg base 1 "_law_draw" ["reel", "many"] sp_law_draw) : ∀ n, Has P w K mg base (n + 2) "_law_dressed" ["reel", "value"] (sp_law_dressed n)
  | 0 => step_law_dressed D T 0 G_law_draw (none_law_dressed D)
  | n + 1 => step_law_dressed D T (n + 1) G_law_draw (ok_law_dressed D T G_law_draw n)
end
end UP

set_option Elab.async false
set_option linter.all false
set_option maxRecDepth 100000
set_option maxHeartbeats 4000000
namespace UP
open PySem PySem.Spec PyProof.Rows L2
/-! ### distances -/
def kdV : Option Run → V
  | none => .non
  | some r => .str r.1
def distR (a b : Option Run) : Int := if kdV a = kdV b then (if numR a - numR b < 0 then -(numR a - numR b) else numR a - numR b) else numR a + numR b
theorem dist_ss (r s : Run) : distR (some r) (some s) = if r.1 = s.1 then (if r.2 - s.2 < 0 then -(r.2 - s.2) else r.2 - s.2) else r.2 + s.2 := by
  unfold distR
  by_cases e : r.1 = s.1
  · rw [if_pos e, if_pos (by show V.str r.1 = V.str s.1; rw [e])]
    rfl
  · rw [if_neg e, if_neg (show ¬ kdV (some r) = kdV (some s) from fun z => e (V.str.inj z))]
    rfl
theorem dist_nn : distR none none = 0 := rfl
theorem dist_ns (r : Run) : distR none (some r) = r.2 := by
  unfold distR
  rw [if_neg (by intro z; cases z)]
  show 0 + r.2 = r.2
  omega
theorem dist_sn (r : Run) : distR (some r) none = r.2 := by
  unfold distR
  rw [if_neg (by intro z; cases z)]
  show r.2 + 0 = r.2
  omega
theorem dist_comm (a b : Option Run) : distR a b = distR b a := by
  cases a with
  | none =>
    cases b with
    | none => rfl
    | some s => rw [dist_ns, dist_sn]
  | some r =>
    cases b with
    | none => rw [dist_ns, dist_sn]
    | some s =>
      rw [dist_ss, dist_ss]
      by_cases e : r.1 = s.1
      · rw [if_pos e, if_pos e.symm]
        split <;> split <;> omega
      · rw [if_neg e, if_neg fun z => e z.symm]
        omega
theorem dist_zero {a b : Option Run} (pa : PosO a) (pb : PosO b) : distR a b = 0 ↔ a = b := by
  cases a with
  | none =>
    cases b with
    | none => exact ⟨fun _ => rfl, fun _ => rfl⟩
    | some s =>
      have := pb s rfl
      rw [dist_ns]
      exact ⟨fun z => by omega, fun z => by cases z⟩
  | some r =>
    have h1 := pa r rfl
    cases b with
    | none =>
      rw [dist_sn]
      exact ⟨fun z => by omega, fun z => by cases z⟩
    | some s =>
      have h2 := pb s rfl
      rw [dist_ss]
      constructor
      · intro z
        by_cases e : r.1 = s.1
        · rw [if_pos e] at z
          have : r.2 = s.2 := by
            split at z <;> omega
          rw [show r = s from Prod.ext e this]
        · rw [if_neg e] at z
          omega
      · intro z
        cases z
        rw [if_pos rfl]
        split <;> omega
theorem dist_tri {a b c : Option Run} (pa : PosO a) (pb : PosO b) (pc : PosO c) : ¬ distR a c + distR c b < distR a b := by
  cases a with
  | none =>
    cases b with
    | none =>
      cases c with
      | none => rw [dist_nn]; omega
      | some t =>
        have := pc t rfl
        rw [dist_nn, dist_ns, dist_sn]
        omega
    | some s =>
      have h2 := pb s rfl
      cases c with
      | none => rw [dist_nn, dist_ns]; omega
      | some t =>
        have := pc t rfl
        rw [dist_ns, dist_ss, dist_ns]
        split
        · split <;> omega
        · omega
  | some r =>
    have h1 := pa r rfl
    cases b with
    | none =>
      cases c with
      | none => rw [dist_nn, dist_sn]; omega
      | some t =>
        have := pc t rfl
        rw [dist_sn, dist_sn, dist_ss]
        split
        · split <;> omega
        · omega
    | some s =>
      have h2 := pb s rfl
      cases c with
      | none =>
        rw [dist_sn, dist_ns, dist_ss]
        split
        · split <;> omega
        · omega
      | some t =>
        have h3 := pc t rfl
        rw [dist_ss, dist_ss, dist_ss]
        by_cases e1 : r.1 = t.1
        · by_cases e2 : t.1 = s.1
          · rw [if_pos e1, if_pos e2, if_pos (e1.trans e2)]
            split <;> split <;> split <;> omega
          · rw [if_pos e1, if_neg e2, if_neg (fun z => e2 (e1.symm.trans z))]
            split <;> omega
        · by_cases e2 : t.1 = s.1
          · rw [if_neg e1, if_pos e2, if_neg (show ¬ r.1 = s.1 from fun z => e1 (z.trans e2.symm))]
            split <;> omega
          · rw [if_neg e1, if_neg e2]
            split
            · split <;> omega
            · omega
/-- one arrival: the distance stays or falls by 2 -/
theorem dist_step {a b : Option Run} {k : Str} (pa : PosO a) (pb : PosO b) : distR (stepR a k 1) (stepR b k 1) = distR a b ∨ distR (stepR a k 1) (stepR b k 1) = distR a b - 2 := by
  have sn : stepR none k 1 = some (k, 1) := rfl
  have sp : ∀ r : Run, 1 ≤ r.2 → (r.1 = k ∧ stepR (some r) k 1 = some (k, r.2 + 1)) ∨ (r.1 ≠ k ∧ 2 ≤ r.2 ∧ stepR (some r) k 1 = some (r.1, r.2 - 1)) ∨ (r.1 ≠ k ∧ r.2 = 1 ∧ stepR (some r) k 1 = none) := by
    intro r h
    by_cases e : r.1 = k
    · exact .inl ⟨e, if_pos e⟩
    · have es : stepR (some r) k 1 = if 0 < r.2 - 1 then some (r.1, r.2 - 1) else if r.2 - 1 = 0 then none else some (k, -(r.2 - 1)) := if_neg e
      by_cases g : 2 ≤ r.2
      · rw [if_pos (by omega)] at es
        exact .inr (.inl ⟨e, g, es⟩)
      · rw [if_neg (by omega), if_pos (by omega)] at es
        exact .inr (.inr ⟨e, by omega, es⟩)
  cases a with
  | none =>
    cases b with
    | none =>
      rw [sn, dist_ss, if_pos rfl, dist_nn]
      left
      split <;> omega
    | some s =>
      have h2 := pb s rfl
      rcases sp s h2 with ⟨e, es⟩ | ⟨e, g, es⟩ | ⟨e, g, es⟩
      · rw [sn, es, dist_ss, dist_ns, if_pos rfl]
        left
        show (if 1 - (s.2 + 1) < 0 then -(1 - (s.2 + 1)) else 1 - (s.2 + 1)) = s.2
        split <;> omega
      · rw [sn, es, dist_ss, dist_ns, if_neg fun z => e z.symm]
        left
        show 1 + (s.2 - 1) = s.2
        omega
      · rw [sn, es, dist_sn, dist_ns]
        left
        show 1 = s.2
        omega
  | some r =>
    have h1 := pa r rfl
    cases b with
    | none =>
      rcases sp r h1 with ⟨e, es⟩ | ⟨e, g, es⟩ | ⟨e, g, es⟩
      · rw [sn, es, dist_ss, dist_sn, if_pos rfl]
        left
        show (if r.2 + 1 - 1 < 0 then -(r.2 + 1 - 1) else r.2 + 1 - 1) = r.2
        split <;> omega
      · rw [sn, es, dist_ss, dist_sn, if_neg e]
        left
        show r.2 - 1 + 1 = r.2
        omega
      · rw [sn, es, dist_ns, dist_sn]
        left
        show 1 = r.2
        omega
    | some s =>
      have h2 := pb s rfl
      rw [dist_ss r s]
      rcases sp r h1 with ⟨e, es⟩ | ⟨e, g, es⟩ | ⟨e, g, es⟩
      · rcases sp s h2 with ⟨f, fs⟩ | ⟨f, j, fs⟩ | ⟨f, j, fs⟩
        · rw [es, fs, dist_ss, if_pos rfl, if_pos (e.trans f.symm)]
          left
          show (if r.2 + 1 - (s.2 + 1) < 0 then -(r.2 + 1 - (s.2 + 1)) else r.2 + 1 - (s.2 + 1)) = _
          split <;> split <;> omega
        · rw [es, fs, dist_ss, if_neg (fun z => f z.symm), if_neg (fun z => f (z.symm.trans e))]
          left
          show r.2 + 1 + (s.2 - 1) = _
          omega
        · rw [es, fs, dist_sn, if_neg (fun z => f (z.symm.trans e))]
          left
          show r.2 + 1 = _
          omega
      · rcases sp s h2 with ⟨f, fs⟩ | ⟨f, j, fs⟩ | ⟨f, j, fs⟩
        · rw [es, fs, dist_ss, if_neg e, if_neg (fun z => e (z.trans f))]
          left
          show r.2 - 1 + (s.2 + 1) = _
          omega
        · rw [es, fs, dist_ss]
          show (if r.1 = s.1 then (if r.2 - 1 - (s.2 - 1) < 0 then -(r.2 - 1 - (s.2 - 1)) else r.2 - 1 - (s.2 - 1)) else r.2 - 1 + (s.2 - 1)) = _ ∨ (if r.1 = s.1 then (if r.2 - 1 - (s.2 - 1) < 0 then -(r.2 - 1 - (s.2 - 1)) else r.2 - 1 - (s.2 - 1)) else r.2 - 1 + (s.2 - 1)) = _
          by_cases u : r.1 = s.1
          · rw [if_pos u, if_pos u]
            left
            split <;> split <;> omega
          · rw [if_neg u, if_neg u]
            right
            omega
        · rw [es, fs, dist_sn]
          show r.2 - 1 = _ ∨ r.2 - 1 = _
          by_cases u : r.1 = s.1
          · rw [if_pos u]
            left
            split <;> omega
          · rw [if_neg u]
            right
            omega
      · rcases sp s h2 with ⟨f, fs⟩ | ⟨f, j, fs⟩ | ⟨f, j, fs⟩
        · rw [es, fs, dist_ns, if_neg (fun z => e (z.trans f))]
          left
          show s.2 + 1 = _
          omega
        · rw [es, fs, dist_ns]
          show s.2 - 1 = _ ∨ s.2 - 1 = _
          by_cases u : r.1 = s.1
          · rw [if_pos u]
            left
            split <;> omega
          · rw [if_neg u]
            right
            omega
        · rw [es, fs, dist_nn]
          by_cases u : r.1 = s.1
          · rw [if_pos u]
            left
            split <;> omega
          · rw [if_neg u]
            right
            omega
section
variable {P : Program} {w : World} {K : PySem.W.Frag} {mg : Str → Option Value} {base : Heap}
end
end UP

set_option Elab.async false
set_option linter.all false
set_option maxRecDepth 100000
set_option maxHeartbeats 4000000
namespace UP
open PySem PySem.Spec PyProof.Rows L2
theorem RB.rung {p : Addr} {H H' : Hp} {v : V} {r : Run} (b : RB p H H') (z : Reel H p) (h : RunG H v r) : RunG H' v r := by
  obtain ⟨t, e, h⟩ := h
  obtain ⟨_, _, _, _, _, _, hp, _⟩ := z
  refine ⟨t, e, h.elim (fun y => .inl (b.but _ _ (ne_of y hp (by intro q; cases q)) y)) (fun y => .inr (b.but _ _ (ne_of y hp (by intro q; cases q)) y))⟩
theorem RB.stg {p : Addr} {H H' : Hp} {v : V} {st : Option Run} (b : RB p H H') (z : Reel H p) (h : StG H v st) : StG H' v st := by
  cases st with
  | none => exact h
  | some r => exact b.rung z h
theorem stOk_step {a : Option Run} {k : Str} (h : StOk a) (kk : KindOk k) : StOk (stepR a k 1) := by
  intro r e
  have p := stepR_pos (k := k) (c := 1) (fun r e => (h r e).2) (by decide) r e
  refine ⟨?_, p⟩
  cases a with
  | none =>
    cases e
    exact kk
  | some s =>
    have hs := h s rfl
    by_cases e1 : s.1 = k
    · rw [show stepR (some s) k 1 = some (k, s.2 + 1) from if_pos e1] at e
      cases e
      exact kk
    · rw [show stepR (some s) k 1 = if 0 < s.2 - 1 then some (s.1, s.2 - 1) else if s.2 - 1 = 0 then none else some (k, -(s.2 - 1)) from if_neg e1] at e
      split at e
      · cases e
        exact hs.1
      · split at e
        · cases e
        · cases e
          exact kk
def dOt : Option Run → PyData
  | none => .none
  | some r => dRun r
theorem dp_o {K : PySem.W.Frag} {H : Hp} {v : V} {st : Option Run} (h : StV H v st) : Dp K H v (dOt st) := by
  cases st with
  | none =>
    cases h
    exact .non
  | some r => exact dp_run h
theorem shaped_o {st : Option Run} (h : StOk st) : SeqAt.shaped (dOt st) = true := by
  cases st with
  | none => decide
  | some r => exact shaped_run (h r rfl).1
theorem eqv_o (a b : Option Run) : PyData.eqv (dOt a) (dOt b) = decide (a = b) := by
  cases a with
  | none =>
    cases b with
    | none => simp [dOt, PyData.eqv]
    | some s => simp [dOt, dRun, PyData.eqv]
  | some r =>
    cases b with
    | none => simp [dOt, dRun, PyData.eqv]
    | some s =>
      obtain ⟨r1, r2⟩ := r
      obtain ⟨s1, s2⟩ := s
      simp [dOt, dRun, PyData.eqv, PyData.eqvAll]
      rw [Bool.eq_iff_iff]
      simp
theorem dps_stN {K : PySem.W.Frag} {H : Hp} {v : V} {st : Option Run} (h : StG H v st) (k : ∀ r, st = some r → KindOk r.1 ∧ r.2.natAbs < 10 ^ 60) : ∃ d, DpS K H v d ∧ Nice 404 1 d := by
  cases st with
  | none =>
    cases h
    exact ⟨.none, fun _ _ => .non, nice_none.mono (by decide) (by decide)⟩
  | some r => exact dps_run (K := K) h (k r rfl).1 (k r rfl).2
theorem nice_il {w : Nat} {l : List Int} (h : ∀ x ∈ l, x.natAbs < 10 ^ 60) (hw : 202 * l.length ≤ w) : Nice w 1 (.list (l.map PyData.int)) := by
  have := nice_list (w := 201) (n := 0) (ds := l.map PyData.int) fun d hd => by
    obtain ⟨x, hx, rfl⟩ := List.mem_map.mp hd
    exact nice_int (h x hx)
  exact this.mono (by rw [List.length_map]; omega) (Nat.le_refl _)
theorem dist_bd {a b : Option Run} (pa : PosO a) (pb : PosO b) {m : Int} (ha : ∀ r, a = some r → r.2 ≤ m) (hb : ∀ r, b = some r → r.2 ≤ m) (m0 : 0 ≤ m) : 0 ≤ distR a b ∧ distR a b ≤ 2 * m := by
  cases a with
  | none =>
    cases b with
    | none => rw [dist_nn]; omega
    | some s =>
      have := pb s rfl
      have := hb s rfl
      rw [dist_ns]; omega
  | some r =>
    have h1 := pa r rfl
    have h2 := ha r rfl
    cases b with
    | none => rw [dist_sn]; omega
    | some s =>
      have := pb s rfl
      have := hb s rfl
      rw [dist_ss]
      split
      · split <;> omega
      · omega
theorem p39 : (10 : Int) ^ ((39 : Int).toNat) = 1000000000000000000000000000000000000000 := by decide +kernel
end UP

set_option Elab.async false
set_option linter.all false
set_option maxRecDepth 100000
set_option maxHeartbeats 4000000
namespace UP
open PySem PySem.Spec PyProof.Rows L2
/-! ### meetings -/
def MW (a b : Option Run) (k : Str) (c : Int) : Prop := kdV a ≠ .str k ∧ kdV b ≠ .str k ∧ numR a = numR b ∧ numR b ≤ c
instance (a b : Option Run) (k : Str) (c : Int) : Decidable (MW a b k c) := by
  unfold MW
  infer_instance
theorem MW.comm {a b : Option Run} {k : Str} {c : Int} : MW a b k c ↔ MW b a k c := by
  unfold MW
  exact ⟨fun h => ⟨h.2.1, h.1, h.2.2.1.symm, by omega⟩, fun h => ⟨h.2.1, h.1, h.2.2.1.symm, by omega⟩⟩
theorem mw_nn {k : Str} {c : Int} : MW none none k c ↔ 0 ≤ c := ⟨fun h => h.2.2.2, fun h => ⟨by (intro z; cases z), by (intro z; cases z), rfl, h⟩⟩
theorem mw_ns {s : Run} {k : Str} {c : Int} : MW none (some s) k c ↔ s.1 ≠ k ∧ 0 = s.2 ∧ s.2 ≤ c := ⟨fun h => ⟨fun z => h.2.1 (by show V.str s.1 = V.str k; rw [z]), h.2.2.1, h.2.2.2⟩, fun h => ⟨by (intro z; cases z), fun z => h.1 (V.str.inj z), h.2.1, h.2.2⟩⟩
theorem mw_sn {s : Run} {k : Str} {c : Int} : MW (some s) none k c ↔ s.1 ≠ k ∧ s.2 = 0 ∧ 0 ≤ c := ⟨fun h => ⟨fun z => h.1 (by show V.str s.1 = V.str k; rw [z]), h.2.2.1, h.2.2.2⟩, fun h => ⟨fun z => h.1 (V.str.inj z), by (intro z; cases z), h.2.1, h.2.2⟩⟩
theorem mw_ss {r s : Run} {k : Str} {c : Int} : MW (some r) (some s) k c ↔ r.1 ≠ k ∧ s.1 ≠ k ∧ r.2 = s.2 ∧ s.2 ≤ c := ⟨fun h => ⟨fun z => h.1 (by show V.str r.1 = V.str k; rw [z]), fun z => h.2.1 (by show V.str s.1 = V.str k; rw [z]), h.2.2.1, h.2.2.2⟩, fun h => ⟨fun z => h.1 (V.str.inj z), fun z => h.2.1 (V.str.inj z), h.2.2⟩⟩
theorem step_cases {r : Run} {k : Str} {c : Int} : (r.1 = k ∧ stepR (some r) k c = some (k, r.2 + c)) ∨ (r.1 ≠ k ∧ c < r.2 ∧ stepR (some r) k c = some (r.1, r.2 - c)) ∨ (r.1 ≠ k ∧ r.2 = c ∧ stepR (some r) k c = none) ∨ (r.1 ≠ k ∧ r.2 < c ∧ stepR (some r) k c = some (k, c - r.2)) := by
  by_cases e : r.1 = k
  · exact .inl ⟨e, if_pos e⟩
  · have es : stepR (some r) k c = if 0 < r.2 - c then some (r.1, r.2 - c) else if r.2 - c = 0 then none else some (k, -(r.2 - c)) := if_neg e
    by_cases g : c < r.2
    · rw [if_pos (by omega)] at es
      exact .inr (.inl ⟨e, g, es⟩)
    · by_cases h : r.2 = c
      · rw [if_neg (by omega), if_pos (by omega)] at es
        exact .inr (.inr (.inl ⟨e, h, es⟩))
      · rw [if_neg (by omega), if_neg (by omega), show -(r.2 - c) = c - r.2 by omega] at es
        exact .inr (.inr (.inr ⟨e, by omega, es⟩))
theorem some_pair {a b : Str} {m n : Int} : (some (a, m) : Option Run) = some (b, n) ↔ a = b ∧ m = n := ⟨fun h => by cases h; exact ⟨rfl, rfl⟩, fun h => by rw [h.1, h.2]⟩
/-- within a run two different states become equal only together with the last of both -/
theorem meet_iff {a b : Option Run} {k : Str} {c : Int} (pa : PosO a) (pb : PosO b) (ne : a ≠ b) (c1 : 1 ≤ c) : stepR a k c = stepR b k c ↔ MW a b k c := by
  cases a with
  | none =>
    cases b with
    | none => exact absurd rfl ne
    | some s =>
      have h2 := pb s rfl
      rw [mw_ns, show stepR none k c = some (k, c) from rfl]
      rcases step_cases (r := s) (k := k) (c := c) with ⟨e, es⟩ | ⟨e, g, es⟩ | ⟨e, g, es⟩ | ⟨e, g, es⟩
      · rw [es, some_pair]
        exact ⟨fun z => (by omega), fun z => by omega⟩
      · rw [es, some_pair]
        exact ⟨fun z => absurd z.1.symm e, fun z => by omega⟩
      · rw [es]
        exact ⟨fun z => (by cases z), fun z => by omega⟩
      · rw [es, some_pair]
        exact ⟨fun z => (by omega), fun z => by omega⟩
  | some r =>
    have h1 := pa r rfl
    cases b with
    | none =>
      rw [mw_sn, show stepR none k c = some (k, c) from rfl]
      rcases step_cases (r := r) (k := k) (c := c) with ⟨e, es⟩ | ⟨e, g, es⟩ | ⟨e, g, es⟩ | ⟨e, g, es⟩
      · rw [es, some_pair]
        exact ⟨fun z => (by omega), fun z => by omega⟩
      · rw [es, some_pair]
        exact ⟨fun z => absurd z.1 e, fun z => by omega⟩
      · rw [es]
        exact ⟨fun z => (by cases z), fun z => by omega⟩
      · rw [es, some_pair]
        exact ⟨fun z => (by omega), fun z => by omega⟩
    | some s =>
      have h2 := pb s rfl
      have ne2 : ¬ (r.1 = s.1 ∧ r.2 = s.2) := fun z => ne (by rw [show r = s from Prod.ext z.1 z.2])
      rw [mw_ss]
      rcases step_cases (r := r) (k := k) (c := c) with ⟨e, es⟩ | ⟨e, g, es⟩ | ⟨e, g, es⟩ | ⟨e, g, es⟩
      · rcases step_cases (r := s) (k := k) (c := c) with ⟨f, fs⟩ | ⟨f, j, fs⟩ | ⟨f, j, fs⟩ | ⟨f, j, fs⟩
        · rw [es, fs, some_pair]
          exact ⟨fun z => absurd ⟨e.trans f.symm, by omega⟩ ne2, fun z => absurd e z.1⟩
        · rw [es, fs, some_pair]
          exact ⟨fun z => absurd z.1.symm f, fun z => absurd e z.1⟩
        · rw [es, fs]
          exact ⟨fun z => (by cases z), fun z => absurd e z.1⟩
        · rw [es, fs, some_pair]
          exact ⟨fun z => (by omega), fun z => absurd e z.1⟩
      · rcases step_cases (r := s) (k := k) (c := c) with ⟨f, fs⟩ | ⟨f, j, fs⟩ | ⟨f, j, fs⟩ | ⟨f, j, fs⟩
        · rw [es, fs, some_pair]
          exact ⟨fun z => absurd z.1 e, fun z => absurd f z.2.1⟩
        · rw [es, fs, some_pair]
          exact ⟨fun z => absurd ⟨z.1, by omega⟩ ne2, fun z => by omega⟩
        · rw [es, fs]
          exact ⟨fun z => (by cases z), fun z => by omega⟩
        · rw [es, fs, some_pair]
          exact ⟨fun z => absurd z.1 e, fun z => by omega⟩
      · rcases step_cases (r := s) (k := k) (c := c) with ⟨f, fs⟩ | ⟨f, j, fs⟩ | ⟨f, j, fs⟩ | ⟨f, j, fs⟩
        · rw [es, fs]
          exact ⟨fun z => (by cases z), fun z => absurd f z.2.1⟩
        · rw [es, fs]
          exact ⟨fun z => (by cases z), fun z => by omega⟩
        · rw [es, fs]
          exact ⟨fun _ => ⟨e, f, by omega, by omega⟩, fun _ => rfl⟩
        · rw [es, fs]
          exact ⟨fun z => (by cases z), fun z => by omega⟩
      · rcases step_cases (r := s) (k := k) (c := c) with ⟨f, fs⟩ | ⟨f, j, fs⟩ | ⟨f, j, fs⟩ | ⟨f, j, fs⟩
        · rw [es, fs, some_pair]
          exact ⟨fun z => (by omega), fun z => absurd f z.2.1⟩
        · rw [es, fs, some_pair]
          exact ⟨fun z => absurd z.1.symm f, fun z => by omega⟩
        · rw [es, fs]
          exact ⟨fun z => (by cases z), fun z => by omega⟩
        · rw [es, fs, some_pair]
          exact ⟨fun z => ⟨e, f, by omega, by omega⟩, fun z => ⟨rfl, by omega⟩⟩
/-- the moment, run by run; the states are different at the beginning -/
def mgR : List Run → Option Run → Option Run → Int → Option Int
  | [], _, _, _ => none
  | r :: t, a, b, s => if MW a b r.1 r.2 then some (s + numR a) else mgR t (stepR a r.1 r.2) (stepR b r.1 r.2) (s + r.2)
def mmR (rs : List Run) (a b : Option Run) : Option Int := if a = b then some 0 else mgR rs a b 0
theorem mg_comm : ∀ (rs : List Run) (a b : Option Run) (s : Int), mgR rs a b s = mgR rs b a s
  | [], _, _, _ => rfl
  | r :: t, a, b, s => by
    show (if MW a b r.1 r.2 then some (s + numR a) else mgR t (stepR a r.1 r.2) (stepR b r.1 r.2) (s + r.2)) = (if MW b a r.1 r.2 then some (s + numR b) else mgR t (stepR b r.1 r.2) (stepR a r.1 r.2) (s + r.2))
    by_cases h : MW a b r.1 r.2
    · rw [if_pos h, if_pos (MW.comm.mp h), h.2.2.1]
    · rw [if_neg h, if_neg fun z => h (MW.comm.mp z), mg_comm t]
theorem mm_comm (rs : List Run) (a b : Option Run) : mmR rs a b = mmR rs b a := by
  unfold mmR
  by_cases h : a = b
  · rw [if_pos h, if_pos h.symm]
  · rw [if_neg h, if_neg fun z => h z.symm, mg_comm]
theorem lenR_nn {rs : List Run} (k : ∀ r ∈ rs, 1 ≤ r.2) : 0 ≤ lenR rs := by
  rw [← len_it rs k]
  exact Int.natCast_nonneg _
theorem num_nn {a : Option Run} (p : PosO a) : 0 ≤ numR a := by
  cases a with
  | none => exact Int.le_refl _
  | some r =>
    have := p r rfl
    show 0 ≤ r.2
    omega
theorem mg_bd : ∀ (rs : List Run) (a b : Option Run) (s m : Int), (∀ r ∈ rs, 1 ≤ r.2) → PosO a → PosO b → mgR rs a b s = some m → s ≤ m ∧ m ≤ s + lenR rs
  | [], _, _, _, _, _, _, _, h => by cases h
  | r :: t, a, b, s, m, k, pa, pb, h => by
    have c1 := k r (List.mem_cons_self ..)
    have kt : ∀ x ∈ t, 1 ≤ x.2 := fun x hx => k x (List.mem_cons_of_mem _ hx)
    have lt : 0 ≤ lenR t := lenR_nn kt
    have h : (if MW a b r.1 r.2 then some (s + numR a) else mgR t (stepR a r.1 r.2) (stepR b r.1 r.2) (s + r.2)) = some m := h
    rw [lenR_cons]
    by_cases g : MW a b r.1 r.2
    · rw [if_pos g] at h
      have h := Option.some.inj h
      have := num_nn pa
      have := g.2.2
      omega
    · rw [if_neg g] at h
      have := mg_bd t _ _ _ m kt (stepR_pos pa c1) (stepR_pos pb c1) h
      omega
theorem mg_end : ∀ (rs : List Run) (a b : Option Run) (s m : Int), (∀ r ∈ rs, 1 ≤ r.2) → PosO a → PosO b → a ≠ b → mgR rs a b s = some m → stR rs a = stR rs b
  | [], _, _, _, _, _, _, _, _, h => by cases h
  | r :: t, a, b, s, m, k, pa, pb, ne, h => by
    have c1 := k r (List.mem_cons_self ..)
    have kt : ∀ x ∈ t, 1 ≤ x.2 := fun x hx => k x (List.mem_cons_of_mem _ hx)
    have h : (if MW a b r.1 r.2 then some (s + numR a) else mgR t (stepR a r.1 r.2) (stepR b r.1 r.2) (s + r.2)) = some m := h
    rw [stR_cons, stR_cons]
    by_cases g : MW a b r.1 r.2
    · rw [(meet_iff pa pb ne c1).mpr g]
    · rw [if_neg g] at h
      exact mg_end t _ _ _ m kt (stepR_pos pa c1) (stepR_pos pb c1) (fun z => g ((meet_iff pa pb ne c1).mp z)) h
theorem mm_end {rs : List Run} {a b : Option Run} {m : Int} (k : ∀ r ∈ rs, 1 ≤ r.2) (pa : PosO a) (pb : PosO b) (h : mmR rs a b = some m) : stR rs a = stR rs b := by
  unfold mmR at h
  by_cases e : a = b
  · rw [e]
  · rw [if_neg e] at h
    exact mg_end rs a b 0 m k pa pb e h
theorem mm_bd {rs : List Run} {a b : Option Run} {m : Int} (k : ∀ r ∈ rs, 1 ≤ r.2) (pa : PosO a) (pb : PosO b) (h : mmR rs a b = some m) : 0 ≤ m ∧ m ≤ lenR rs := by
  unfold mmR at h
  by_cases e : a = b
  · rw [if_pos e] at h
    cases h
    exact ⟨Int.le_refl _, lenR_nn k⟩
  · rw [if_neg e] at h
    have := mg_bd rs a b 0 m k pa pb h
    omega
/-- item by item -/
def fewI : List Str → Option Run → Option Run → Int → Option Int
  | [], a, b, m => if a = b then some m else none
  | k :: t, a, b, m => if a = b then some m else fewI t (stepR a k 1) (stepR b k 1) (m + 1)
theorem few_eq {l : List Str} {a : Option Run} {m : Int} : fewI l a a m = some m := by
  cases l with
  | nil => exact if_pos rfl
  | cons k t => exact if_pos rfl
theorem few_run : ∀ (c : Nat) (k : Str) (rest : List Str) (a b : Option Run) (m : Int), PosO a → PosO b → a ≠ b → fewI (List.replicate (c + 1) k ++ rest) a b m = if MW a b k ((c : Int) + 1) then some (m + numR a) else fewI rest (stepR a k ((c : Int) + 1)) (stepR b k ((c : Int) + 1)) (m + ((c : Int) + 1))
  | c, k, rest, a, b, m, pa, pb, ne => by
    have h1 : fewI (List.replicate (c + 1) k ++ rest) a b m = fewI (List.replicate c k ++ rest) (stepR a k 1) (stepR b k 1) (m + 1) := by
      rw [List.replicate_succ]
      exact if_neg ne
    have pa1 := stepR_pos (k := k) (c := 1) pa (by decide)
    have pb1 := stepR_pos (k := k) (c := 1) pb (by decide)
    have i1 := meet_iff (k := k) (c := 1) pa pb ne (by decide)
    rw [h1]
    by_cases e : stepR a k 1 = stepR b k 1
    · have w := i1.mp e
      have w2 : MW a b k ((c : Int) + 1) := ⟨w.1, w.2.1, w.2.2.1, by have := w.2.2.2; omega⟩
      have na : numR a = 1 := by
        have h3 := num_nn pa
        have h4 := w.2.2
        rcases (show numR a = 1 ∨ numR a = 0 by omega) with z | z
        · exact z
        · exfalso
          have an : a = none := by
            cases a with
            | none => rfl
            | some r =>
              have := pa r rfl
              have z : r.2 = 0 := z
              omega
          have bn : b = none := by
            cases b with
            | none => rfl
            | some r =>
              have := pb r rfl
              have z2 : r.2 = numR (some r) := rfl
              omega
          exact ne (an.trans bn.symm)
      rw [e, few_eq, if_pos w2, na]
    · cases c with
      | zero =>
        have w2 : ¬ MW a b k (((0 : Nat) : Int) + 1) := fun z => e (i1.mpr z)
        rw [if_neg w2]
        rfl
      | succ c =>
        have ih := few_run c k rest (stepR a k 1) (stepR b k 1) (m + 1) pa1 pb1 e
        rw [ih]
        have ea := step_step (s := a) (k := k) (c := (c : Int) + 1) pa (by omega)
        have eb := step_step (s := b) (k := k) (c := (c : Int) + 1) pb (by omega)
        have cc : (1 : Int) + ((c : Int) + 1) = (((c + 1 : Nat) : Int) + 1) := by omega
        rw [cc] at ea eb
        have iff1 := meet_iff (k := k) (c := (c : Int) + 1) pa1 pb1 e (by omega)
        have iff2 := meet_iff (k := k) (c := ((c + 1 : Nat) : Int) + 1) pa pb ne (by omega)
        rw [ea, eb] at iff1
        by_cases g : MW a b k (((c + 1 : Nat) : Int) + 1)
        · have g1 := iff1.mp (iff2.mpr g)
          rw [if_pos g, if_pos g1]
          congr 1
          cases a with
          | none =>
            exfalso
            have := g.2.2.1
            cases b with
            | none => exact ne rfl
            | some s =>
              have h2 := pb s rfl
              have : (0 : Int) = s.2 := this
              omega
          | some r =>
            have rk : r.1 ≠ k := fun z => g.1 (by show V.str r.1 = V.str k; rw [z])
            rcases step_cases (r := r) (k := k) (c := 1) with ⟨f, fs⟩ | ⟨f, j, fs⟩ | ⟨f, j, fs⟩ | ⟨f, j, fs⟩
            · exact absurd f rk
            · rw [fs]
              show m + 1 + (r.2 - 1) = m + r.2
              omega
            · exfalso
              have gb := g.2.2.1
              cases b with
              | none =>
                have gb : r.2 = 0 := gb
                omega
              | some s =>
                have sk : s.1 ≠ k := fun z => g.2.1 (by show V.str s.1 = V.str k; rw [z])
                have gb : r.2 = s.2 := gb
                rcases step_cases (r := s) (k := k) (c := 1) with ⟨u, us⟩ | ⟨u, v, us⟩ | ⟨u, v, us⟩ | ⟨u, v, us⟩
                · exact sk u
                · omega
                · exact e (by rw [fs, us])
                · omega
            · have := pa r rfl
              omega
        · have g1 : ¬ MW (stepR a k 1) (stepR b k 1) k ((c : Int) + 1) := fun z => g (iff2.mp (iff1.mpr z))
          rw [if_neg g, if_neg g1, ea, eb, show m + 1 + ((c : Int) + 1) = m + (((c + 1 : Nat) : Int) + 1) by omega]
theorem few_mg : ∀ (rs : List Run) (a b : Option Run) (m : Int), (∀ r ∈ rs, 1 ≤ r.2) → PosO a → PosO b → a ≠ b → fewI (itR rs) a b m = mgR rs a b m
  | [], _, _, _, _, _, _, ne => if_neg ne
  | r :: t, a, b, m, k, pa, pb, ne => by
    have c1 := k r (List.mem_cons_self ..)
    have kt : ∀ x ∈ t, 1 ≤ x.2 := fun x hx => k x (List.mem_cons_of_mem _ hx)
    obtain ⟨c, hc⟩ : ∃ c : Nat, r.2.toNat = c + 1 := ⟨r.2.toNat - 1, by omega⟩
    have er : ((c : Int) + 1) = r.2 := by omega
    have e : itR (r :: t) = List.replicate r.2.toNat r.1 ++ itR t := rfl
    rw [e, hc, few_run c r.1 (itR t) a b m pa pb ne, er]
    show _ = (if MW a b r.1 r.2 then some (m + numR a) else mgR t (stepR a r.1 r.2) (stepR b r.1 r.2) (m + r.2))
    by_cases g : MW a b r.1 r.2
    · rw [if_pos g, if_pos g]
    · rw [if_neg g, if_neg g]
      exact few_mg t _ _ _ kt (stepR_pos pa c1) (stepR_pos pb c1) (fun z => g ((meet_iff pa pb ne c1).mp z))
theorem few_mm {rs : List Run} {a b : Option Run} (k : ∀ r ∈ rs, 1 ≤ r.2) (pa : PosO a) (pb : PosO b) : fewI (itR rs) a b 0 = mmR rs a b := by
  unfold mmR
  by_cases e : a = b
  · rw [if_pos e, e, few_eq]
  · rw [if_neg e]
    exact few_mg rs a b 0 k pa pb e
def oV : Option Int → V
  | none => .non
  | some i => .int i
section
variable {P : Program} {w : World} {K : PySem.W.Frag} {mg : Str → Option Value} {base : Heap}
end
end UP

set_option Elab.async false
set_option linter.all false
set_option maxRecDepth 100000
set_option maxHeartbeats 4000000
namespace UP
open PySem PySem.Spec PyProof.Rows L2
theorem Reel.runs_ne {H : Hp} {p a : Addr} {rs : List Run} (z : Reel H p) (h : Runs H a rs) : a ≠ p := by
  obtain ⟨xs, e, hp⟩ := h
  obtain ⟨g, c, gs, cs, n, s, hs, _⟩ := z
  refine ne_of e hs fun q => ?_
  have q := HO.lst.inj q
  subst q
  cases hp with
  | cons _ hp =>
  cases hp with
  | cons _ hp =>
  cases hp with
  | cons h _ =>
    obtain ⟨t, e, _⟩ := h
    cases e
theorem RB.runs {p a : Addr} {H H' : Hp} {rs : List Run} (b : RB p H H') (z : Reel H p) (h : Runs H a rs) : Runs H' a rs := by
  have n := z.runs_ne h
  obtain ⟨xs, e, hp⟩ := h
  exact ⟨xs, b.but _ _ n e, Paired.imp (fun _ _ => b.run z) hp⟩
theorem altR_snoc {l : List Run} {x : Run} (h : Alt l) (k : ∀ y, l[l.length - 1]? = some y → y.1 ≠ x.1) : Alt (l ++ [x]) := alt_snoc h k
section
variable {P : Program} {w : World} {K : PySem.W.Frag} {mg : Str → Option Value} {base : Heap}
/-! _law_runs: slots 0:reel 1:names 2:many 3:longest 4:found 5:turn 6:kind -/
abbrev s_law_runs : Stmt := topS 37
theorem sc_law_runs : FnScope ["reel", "names", "many", "longest", "found", "turn", "kind"] ["reel", "names", "many", "longest"] (defScope s_law_runs) := ⟨rfl, rfl, rfl, by decide +kernel, rfl, by decide +kernel, by decide +kernel⟩
def sp_law_runs : Sp := fun vs H Q _ => ∃ (p l : Addr) (ks : List Str) (m g : Int), vs = [.ref p, .ref l, .int m, .int g] ∧ Reel H p ∧ H l = some (.lst (ks.map V.str)) ∧ 0 < ks.length ∧ ks.length ≤ 13 ∧ (∀ s ∈ ks, KindOk s) ∧ 0 ≤ m ∧ m ≤ 400 ∧ 1 ≤ g ∧ g ≤ 1000000000000000000000000000000 ∧
  ∀ H' L rs, RB p H H' → Reel H' p → Off H' p L → H L = none → Runs H' L rs → SeqOk rs → (rs.length : Int) ≤ m → (∀ r ∈ rs, r.2 ≤ g) → Q (.ref L) H'
theorem ok_law_runs (D : Df K mg "_law_runs" s_law_runs) (T : Tx mg) (G_law_draw : Has P w K mg base 1 "_law_draw" ["reel", "many"] sp_law_draw) : Has P w K mg base 2 "_law_runs" ["reel", "names", "many", "longest"] sp_law_runs := by
  refine has_of D sc_law_runs (fun _ _ _ _ _ _ us hl => match us, hl with | [_, _, _, _], _ => rfl) (fun vs H Q E h => ?_) (fun f cdv A outer s₀ H vs Q E hr h => ?_)
  · obtain ⟨_, _, _, _, _, rfl, _⟩ := h
    rfl
  · obtain ⟨p, l, ks, m, g, rfl, z, hl, k1, k2, okk, m0, m4, g1, g2, q⟩ := h
    refine ⟨_, (pss_cons (ps_set (i := 4) sc_law_runs.nd rfl (by first | exact Or.inl rfl | exact Or.inr rfl) (pe_lst pa_nil))
    (pss_cons (ps_for PassesOwn.never rfl (pi_range1 (by rfl) T.n_range (pa_cons (pe_callH G_law_draw (hr.mono (by omega)) (by rfl) (pa_cons (pv 0) (pa_cons (pe_op op_add (pv 2) pe_int) pa_nil))) pa_nil)) (pg_name (i := 5) sc_law_runs.nd rfl (by first | exact Or.inl rfl | exact Or.inr rfl))
      (pss_cons (ps_set (i := 6) sc_law_runs.nd rfl (by first | exact Or.inl rfl | exact Or.inr rfl) (pe_ix ix_list (pv 1) (pe_callH G_law_draw (hr.mono (by omega)) (by rfl) (pa_cons (pv 0) (pa_cons (pe_callB call_len_seq (by rfl) T.n_len (by decide +kernel) (pa_cons (pv 1) pa_nil)) pa_nil))) (fun _ _ => rfl)))
    (pss_one (ps_if (PW.pt (pw_or (pt_cmpR (op_eqD hr.units) (pv 4) (pe_lst pa_nil) (nomark _)) (pw_or1 (pt_cmpR op_ne (pe_ix ix_tup (pe_ix ix_list (pv 4) (pe_un un_neg pe_int) (fun _ _ => rfl)) pe_int (fun _ _ => rfl)) (pv 6) (nomark _))))) (pss_one (ps_expr (pe_bm PySem.F.plainAttrs_list PySem.F.slot_list_append PySem.F.type_list_append mt_append (pv 4) (pa_cons (pe_tup (pa_cons (pv 6) (pa_cons (pe_op op_add pe_int (pe_callH G_law_draw (hr.mono (by omega)) (by rfl) (pa_cons (pv 0) (pa_cons (pv 3) pa_nil)))) pa_nil))) pa_nil)))) pss_nil))))
    (pss_one (ps_ret (pv 4))))), ?_⟩
    refine ⟨Nat.zero_le _, fun L nL => ?_⟩
    have nLp := z.ne nL
    have sL := same_upd (o := .lst []) nL
    refine ⟨_, rfl, _, rfl, _, _, rfl, rfl, p, _, rfl, z.same sL, (by show 1 ≤ m + 1; omega), (wide8 (by show 0 ≤ m + 1; omega) (by show m + 1 ≤ _; omega)), fun H1 r b1 z1 r0 r1 => ?_⟩
    have r1 : r < m + 1 := r1
    refine ⟨r, rfl, by omega, by omega, for_range (lo := 0) (n := r.toNat) (fun i σ H' => ∃ y5 y6 rs, σ = [some (.ref p), some (.ref l), some (.int m), some (.int g), some (.ref L), y5, y6] ∧ RB p H H' ∧ Reel H' p ∧ Off H' p L ∧ H' l = some (.lst (ks.map V.str)) ∧ Runs H' L rs ∧ rs.length ≤ i ∧ (∀ r ∈ rs, RunOk r ∧ r.2 ≤ g) ∧ Alt rs)
      ⟨none, none, [], rfl, (RB.of sL).trans b1, z1, b1.off _ _ upd_same ((z.off nL).upd nLp), b1.strs (z.same sL) (sL _ _ hl), ⟨[], b1.but _ _ nLp upd_same, .nil⟩, Nat.zero_le _, (fun r h => by cases h), (fun i x y h => by simp at h)⟩ (fun i σ H6 hi hP => ?_) (fun σ H6 hP => ?_)⟩
    · obtain ⟨y5, y6, rs, rfl, b6, z6, o6, hl6, hR, lr, okr, alt⟩ := hP
      refine ⟨_, rfl, _, rfl, _, rfl, l, _, rfl, .inl (.of hl6), p, _, rfl, z6, ?_, ?_, fun H7 r7 b7 z7 r70 r71 => ?_⟩
      · rw [List.length_map]
        omega
      · rw [List.length_map]
        exact wide8 (by omega) (by omega)
      rw [List.length_map] at r71
      have lt : r7.toNat < ks.length := by omega
      have hl7 := b7.strs z6 hl6
      have ek : (ks.map V.str)[r7.toNat]? = some (.str ks[r7.toNat]) := by
        rw [List.getElem?_map, List.getElem?_eq_getElem lt]
        rfl
      have kk : KindOk ks[r7.toNat] := okk _ (List.getElem_mem lt)
      generalize ks[r7.toNat] = kd at ek kk
      refine ⟨l, _, r7, _, rfl, rfl, .of hl7, atI_ofR r70 ek, ?_⟩
      have hR8 : Runs H7 L rs := b7.runs z6 hR
      have B8 := b6.trans b7
      have o8 : Off H7 p L := by
        obtain ⟨xs, hx, _⟩ := hR
        exact b7.off _ _ hx o6
      have okR : ∀ r ∈ rs, KindOk r.1 := fun r h => (okr r h).1.1
      clear b7 hR hl6 b6 z6 o6
      obtain ⟨xs, hx, hpr⟩ := hR8
      have lx : xs.length = rs.length := Paired.len hpr
      dsimp only
      refine if_by (fun b H9 => Same H7 H9 ∧ (b = true → ∀ y, rs[rs.length - 1]? = some y → y.1 ≠ kd)) (fun Q' k => ?_) (fun H9 hq => ?_) (fun H9 hq => ?_)
      · refine ⟨_, rfl, Nat.zero_le _, fun e ne => ?_⟩
        have se : Same H7 (upd H7 e (.lst [])) := same_upd ne
        refine ⟨.list (rs.map dRun), .list [], .lst (.of (se _ _ hx)) (dp_all (prs_same se hpr)), .lst (.of upd_same) .nil, shaped_runs okR, shaped_nil, _, rfl, ?_⟩
        rw [eqv_nil]
        cases hrs : rs with
        | nil => exact iteP rfl (k _ _ ⟨se, fun _ y hy => by rw [hrs] at hy; cases hy⟩)
        | cons r0 t0 =>
          refine iteN rfl ?_
          have hne : rs ≠ [] := by rw [hrs]; intro z; cases z
          have hlt : rs.length - 1 < rs.length := by
            have : 0 < rs.length := by rw [hrs]; exact Nat.succ_pos _
            omega
          obtain ⟨x, ex, hxv⟩ := Paired.at' hpr (List.getElem?_eq_getElem hlt)
          obtain ⟨tt, rfl, htt⟩ := RunV.same se hxv
          have exl : atI xs (-1) = some (.ref tt) := by
            have h1 : xs ≠ [] := fun z => by rw [z] at lx; rw [hrs] at lx; cases lx
            have h2 : xs = xs.dropLast ++ [xs.getLast h1] := (List.dropLast_concat_getLast h1).symm
            have h3 : xs.getLast h1 = .ref tt := by
              have := List.getLast?_eq_getElem? (l := xs)
              rw [lx, ex, List.getLast?_eq_some_getLast h1] at this
              exact Option.some.inj this
            rw [h2, h3]
            exact atI_last _ _
          refine ⟨_, rfl, 1, rfl, L, xs, -1, _, rfl, rfl, .of (se _ _ hx), exl, tt, _, 0, _, rfl, rfl, .of htt, at0, _, rfl, rfl, _, rfl, ?_⟩
          refine k _ _ ⟨se, fun hb y hy => ?_⟩
          rw [List.getElem?_eq_getElem hlt] at hy
          cases hy
          intro z
          rw [z] at hb
          simp at hb
      · obtain ⟨s9, ha⟩ := hq
        refine ⟨_, rfl, .inl ⟨rfl, _, SqL.of (s9 _ _ hx)⟩, _, rfl, _, rfl, _, rfl, p, g, rfl, z7.same s9, g1, wide8 (by omega) (by omega), fun H10 r10 b10 z10 r100 r101 => ⟨_, _, rfl, rfl, (by show 2 ≤ sizeLine; decide), fun n nn => ?_⟩⟩
        have hx10 := b10.but _ _ nLp (s9 _ _ hx)
        have hp10 : Paired (RunV H10) xs rs := Paired.imp (fun _ _ h => b10.run (z7.same s9) (h.same s9)) hpr
        have o10 := b10.off _ _ (s9 _ _ hx) (o8.same s9)
        have sn := same_upd (o := .tup [.str kd, .int (1 + r10)]) nn
        refine ⟨L, _, _, rfl, rfl, sn _ _ hx10, small (by omega), ?_⟩
        refine ⟨_, _, rs ++ [(kd, 1 + r10)], rfl, ((((B8.trans (RB.of s9)).trans b10).trans (RB.of sn)).grow nL (o10.same sn)), (z10.same sn).upd (o10.same sn), (o10.same sn).upd nLp, ?_, ⟨_, upd_same, Paired.app (prs_grow (sn _ _ hx10) (prs_same sn hp10)) (.cons (RunV.grow (sn _ _ hx10) ⟨n, rfl, upd_same⟩) .nil)⟩, ?_, ?_, altR_snoc alt (ha rfl)⟩
        · have nl : l ≠ L := ne_of_none hl nL
          rw [upd_ne nl]
          exact sn _ _ (b10.strs (z7.same s9) (s9 _ _ hl7))
        · rw [List.length_append]
          show rs.length + 1 ≤ i + 1
          omega
        · intro r hr
          rcases List.mem_append.mp hr with h | h
          · exact okr r h
          · rw [List.mem_singleton.mp h]
            exact ⟨⟨kk, by show 1 ≤ 1 + r10; omega, by show 1 + r10 ≤ _; omega⟩, by show 1 + r10 ≤ g; omega⟩
      · obtain ⟨s9, ha⟩ := hq
        exact ⟨_, _, rs, rfl, B8.trans (RB.of s9), z7.same s9, o8.same s9, s9 _ _ hl7, ⟨xs, s9 _ _ hx, prs_same s9 hpr⟩, by omega, okr, alt⟩
    · obtain ⟨y5, y6, rs, rfl, b6, z6, o6, hl6, hR, lr, okr, alt⟩ := hP
      exact ⟨_, rfl, q H6 L rs b6 z6 o6 nL hR ⟨by omega, fun r h => (okr r h).1, alt⟩ (by omega) (fun r h => (okr r h).2)⟩
/-! _law_end: slots 0:runs 1:state 2:kind 3:count -/
abbrev s_law_end : Stmt := topS 40
theorem sc_law_end : FnScope ["runs", "state", "kind", "count"] ["runs", "state"] (defScope s_law_end) := ⟨rfl, rfl, rfl, by decide +kernel, rfl, by decide +kernel, by decide +kernel⟩
def sp_law_end : Sp := fun vs H Q _ => ∃ (a : Addr) (rs : List Run) (v : V) (st : Option Run), vs = [.ref a, v] ∧ Runs H a rs ∧ (∀ r ∈ rs, 1 ≤ r.2) ∧ StV H v st ∧ ∀ H' v', Same H H' → StV H' v' (stR rs st) → Q v' H'
theorem ok_law_end (D : Df K mg "_law_end" s_law_end) (G_law_step : Has P w K mg base 1 "_law_step" ["state", "kind", "count"] sp_law_step) : Has P w K mg base 2 "_law_end" ["runs", "state"] sp_law_end := by
  refine has_of D sc_law_end (fun _ _ _ _ _ _ us hl => match us, hl with | [_, _], _ => rfl) (fun vs H Q E h => ?_) (fun f cdv A outer s₀ H vs Q E hr h => ?_)
  · obtain ⟨_, _, _, _, rfl, _⟩ := h
    rfl
  · obtain ⟨a, rs, v, st, rfl, ⟨xs, hx, hpr⟩, pos, hv, q⟩ := h
    have lx : xs.length = rs.length := Paired.len hpr
    refine ⟨_, (pss_cons (ps_for PassesOwn.never rfl (pi_list (pv 0)) (pg_tup rfl (pgs_cons (pg_name (i := 2) sc_law_end.nd rfl (by first | exact Or.inl rfl | exact Or.inr rfl)) (pgs_cons (pg_name (i := 3) sc_law_end.nd rfl (by first | exact Or.inl rfl | exact Or.inr rfl)) pgs_nil)))
      (pss_one (ps_set (i := 1) sc_law_end.nd rfl (by first | exact Or.inl rfl | exact Or.inr rfl) (pe_callH G_law_step (hr.mono (by omega)) (by rfl) (pa_cons (pv 1) (pa_cons (pv 2) (pa_cons (pv 3) pa_nil)))))))
    (pss_one (ps_ret (pv 1)))), ?_⟩
    refine ⟨_, rfl, a, rfl, ⟨xs, .of hx⟩, for_list (K := K) (a := a) (xs := xs) (fun i σ H' => ∃ u y2 y3, σ = [some (.ref a), some u, y2, y3] ∧ Same H H' ∧ StV H' u (stR (rs.take i) st))
      ⟨v, none, none, rfl, Same.refl _, hv⟩ (fun i σ H' _ hP => ?_) (fun i x σ H4 ex hP => ?_) (fun σ H4 hP => ?_)⟩
    · obtain ⟨_, _, _, _, sm, _⟩ := hP
      exact .of (sm _ _ hx)
    · obtain ⟨u, y2, y3, rfl, sm, hu⟩ := hP
      obtain ⟨r, er, hr1⟩ := Paired.at hpr ex
      obtain ⟨t, rfl, ht⟩ := RunV.same sm hr1
      have c1 := pos r (List.mem_of_getElem? er)
      refine ⟨t, _, rfl, .of ht, rfl, _, _, rfl, _, _, rfl, rfl, ?_⟩
      refine ⟨_, rfl, _, rfl, _, rfl, u, _, r.1, r.2, rfl, hu, c1, fun H5 w1 s5 hw1 => ⟨w1, _, _, rfl, sm.trans s5, ?_⟩⟩
      rw [take_snoc er, stR_snoc]
      exact hw1
    · obtain ⟨u, y2, y3, rfl, sm, hu⟩ := hP
      rw [lx, List.take_length] at hu
      exact ⟨_, rfl, q _ _ sm hu⟩
end
end UP

set_option Elab.async false
set_option linter.all false
set_option maxRecDepth 100000
set_option maxHeartbeats 4000000
namespace UP
open PySem PySem.Spec PyProof.Rows L2
theorem stOk_stepC {a : Option Run} {k : Str} {c : Int} (h : StOk a) (kk : KindOk k) (c1 : 1 ≤ c) : StOk (stepR a k c) := by
  intro r e
  have p := stepR_pos (k := k) (c := c) (fun r e => (h r e).2) c1 r e
  refine ⟨?_, p⟩
  cases a with
  | none =>
    cases e
    exact kk
  | some s =>
    have hs := h s rfl
    rcases step_cases (r := s) (k := k) (c := c) with ⟨_, es⟩ | ⟨_, _, es⟩ | ⟨_, _, es⟩ | ⟨_, _, es⟩
    · rw [es] at e
      cases e
      exact kk
    · rw [es] at e
      cases e
      exact hs.1
    · rw [es] at e
      cases e
    · rw [es] at e
      cases e
      exact kk
theorem MW.pos {a b : Option Run} {k : Str} {c : Int} (pa : PosO a) (pb : PosO b) (ne : a ≠ b) (h : MW a b k c) : ∃ r, a = some r ∧ r.1 ≠ k ∧ r.2 ≤ c ∧ 1 ≤ r.2 := by
  cases a with
  | none =>
    cases b with
    | none => exact absurd rfl ne
    | some s =>
      have := pb s rfl
      have := mw_ns.mp h
      omega
  | some r =>
    refine ⟨r, rfl, fun z => h.1 (by show V.str r.1 = V.str k; rw [z]), ?_, pa r rfl⟩
    have h1 : r.2 = numR b := h.2.2.1
    have h2 := h.2.2.2
    omega
section
variable {P : Program} {w : World} {K : PySem.W.Frag} {mg : Str → Option Value} {base : Heap}
end
end UP

set_option Elab.async false
set_option linter.all false
set_option maxRecDepth 100000
set_option maxHeartbeats 4000000
namespace UP
open PySem PySem.Spec PyProof.Rows L2
section
variable {X : Cx} {K : PySem.W.Frag}
theorem op_notIn_seqK (h : X.K = K) : OpR X (compareOp .NotIn) (rIn K true) := h ▸ op_notIn_seq
theorem op_in_seqK (h : X.K = K) : OpR X (compareOp .In) (rIn K false) := h ▸ op_in_seq
end
/-! ### lists of kinds -/
def KsOk (ks : List Str) : Prop := 0 < ks.length ∧ ks.length ≤ 12 ∧ (∀ k ∈ ks, KindOk k) ∧ ∀ (i : Nat) (x y : Str), ks[i]? = some x → ks[i + 1]? = some y → x.cps.toList < y.cps.toList
theorem strR_of {x y : Str} (h : x.cps.toList = y.cps.toList) : x = y := by
  cases x with
  | mk a =>
    cases y with
    | mk b =>
      congr 1
      exact Array.ext' h
theorem rising_next : ∀ (l : List Str) (p : Str), risingS p l = true → ∀ (i : Nat) (x y : Str), (p :: l)[i]? = some x → (p :: l)[i + 1]? = some y → ltCps y.cps.toList x.cps.toList = false
  | [], p, _, i, x, y, _, h2 => by simp at h2
  | z :: t, p, h, 0, x, y, h1, h2 => by
    cases h1
    cases h2
    have h : (!ltCps z.cps.toList p.cps.toList && risingS z t) = true := h
    rw [Bool.and_eq_true] at h
    have := h.1
    cases e : ltCps z.cps.toList p.cps.toList with
    | false => rfl
    | true => rw [e] at this; cases this
  | z :: t, p, h, i + 1, x, y, h1, h2 => by
    have h : (!ltCps z.cps.toList p.cps.toList && risingS z t) = true := h
    rw [Bool.and_eq_true] at h
    exact rising_next t z h.2 i x y h1 h2
theorem ks_of {ks : List Str} (l0 : 0 < ks.length) (l1 : ks.length ≤ 12) (ok : ∀ k ∈ ks, KindOk k) (nd : ks.Nodup ∧ sortedS ks = true) : KsOk ks := by
  refine ⟨l0, l1, ok, fun i x y hx hy => ?_⟩
  cases ks with
  | nil => cases hx
  | cons p t =>
    have h := rising_next t p nd.2 i x y hx hy
    rw [ltCps_eq] at h
    have h := of_decide_eq_false h
    by_cases c : x.cps.toList < y.cps.toList
    · exact c
    · exfalso
      have e : x = y := strR_of (List.le_antisymm h c)
      obtain ⟨h1, e1⟩ := List.getElem?_eq_some_iff.mp hx
      obtain ⟨h2, e2⟩ := List.getElem?_eq_some_iff.mp hy
      have i1 := List.Nodup.idxOf_getElem nd.1 i h1
      have i2 := List.Nodup.idxOf_getElem nd.1 (i + 1) h2
      rw [e1, e] at i1
      rw [e2] at i2
      omega
/-! ### who can meet -/
def TwoK (ks : List Str) (a : Option Run) : Prop := ∃ k1 ∈ ks, ∃ k2 ∈ ks, k1 ≠ k2 ∧ kdV a ≠ .str k1 ∧ kdV a ≠ .str k2
def CanM (ks : List Str) (a b : Option Run) : Prop := (numR a - numR b) % 2 = 0 ∧ ((numR a = numR b ∧ ∃ k ∈ ks, kdV a ≠ .str k ∧ kdV b ≠ .str k) ∨ (numR b < numR a ∧ TwoK ks a) ∨ (numR a < numR b ∧ TwoK ks b))
def mxR (a b : Option Run) : Int := if numR a < numR b then numR b else numR a
def MeetOk (ks : List Str) (a b : Option Run) (rs : List Run) : Prop := (∀ r ∈ rs, r.1 ∈ ks ∧ 1 ≤ r.2) ∧ Alt rs ∧ rs.length ≤ 2 ∧ lenR rs = mxR a b ∧ stR rs a = none ∧ stR rs b = none ∧ mmR rs a b = some (mxR a b)
theorem mx_comm (a b : Option Run) : mxR a b = mxR b a := by
  unfold mxR
  split <;> split <;> omega
theorem can_comm {ks : List Str} {a b : Option Run} (h : CanM ks a b) : CanM ks b a := by
  refine ⟨by have := h.1; omega, ?_⟩
  rcases h.2 with ⟨e, k, hk, h1, h2⟩ | h | h
  · exact .inl ⟨e.symm, k, hk, h2, h1⟩
  · exact .inr (.inr h)
  · exact .inr (.inl h)
theorem meet_comm {ks : List Str} {a b : Option Run} {rs : List Run} (h : MeetOk ks a b rs) : MeetOk ks b a rs := by
  obtain ⟨h1, h2, h3, h4, h5, h6, h7⟩ := h
  exact ⟨h1, h2, h3, h4.trans (mx_comm a b), h6, h5, by rw [mm_comm, h7, mx_comm]⟩
theorem alt_one (r : Run) : Alt [r] := fun i x y h1 h2 => by
  cases i with
  | zero => simp at h2
  | succ i => simp at h2
theorem alt_two {r s : Run} (h : r.1 ≠ s.1) : Alt [r, s] := fun i x y h1 h2 => by
  cases i with
  | zero =>
    cases h1
    cases h2
    exact h
  | succ i =>
    cases i with
    | zero => simp at h2
    | succ i => simp at h2
theorem meet_one {ks : List Str} {a b : Option Run} {k : Str} (pa : PosO a) (pb : PosO b) (ne : a ≠ b) (e : numR a = numR b) (hk : k ∈ ks) (h1 : kdV a ≠ .str k) (h2 : kdV b ≠ .str k) : MeetOk ks a b [(k, numR a)] := by
  have w : MW a b k (numR a) := ⟨h1, h2, e, by omega⟩
  obtain ⟨r, er, rk, _, r1⟩ := w.pos pa pb ne
  obtain ⟨s, es, sk, _, s1⟩ := (MW.comm.mp w).pos pb pa (fun z => ne z.symm)
  subst er
  subst es
  have e : r.2 = s.2 := e
  have sa : stepR (some r) k r.2 = none := by
    rcases step_cases (r := r) (k := k) (c := r.2) with ⟨f, _⟩ | ⟨_, f, _⟩ | ⟨_, _, f⟩ | ⟨_, f, _⟩
    · exact absurd f rk
    · omega
    · exact f
    · omega
  have sb : stepR (some s) k r.2 = none := by
    rcases step_cases (r := s) (k := k) (c := r.2) with ⟨f, _⟩ | ⟨_, f, _⟩ | ⟨_, _, f⟩ | ⟨_, f, _⟩
    · exact absurd f sk
    · omega
    · exact f
    · omega
  have mx : mxR (some r) (some s) = r.2 := by
    unfold mxR
    show (if r.2 < s.2 then s.2 else r.2) = r.2
    split <;> omega
  refine ⟨fun x hx => ?_, alt_one _, by show 1 ≤ 2; decide, ?_, sa, sb, ?_⟩
  · rw [List.mem_singleton.mp hx]
    exact ⟨hk, r1⟩
  · rw [lenR_cons, lenR_nil, mx]
    show r.2 + 0 = r.2
    omega
  · rw [mx]
    unfold mmR
    rw [if_neg ne]
    show (if MW (some r) (some s) k r.2 then some (0 + r.2) else _) = _
    rw [if_pos (show MW (some r) (some s) k r.2 from w), Int.zero_add]
theorem meet_two {ks : List Str} {a b : Option Run} {f g : Str} (pa : PosO a) (pb : PosO b) (lt : numR b < numR a) (ev : (numR a - numR b) % 2 = 0) (hf : f ∈ ks) (hg : g ∈ ks) (h1 : kdV a ≠ .str f) (h2 : kdV b ≠ .str f) (h3 : kdV a ≠ .str g) (fg : f ≠ g) :
    MeetOk ks a b [(f, numR b + (numR a - numR b) / 2), (g, (numR a - numR b) / 2)] := by
  have b0 := num_nn pb
  obtain ⟨h, eh⟩ : ∃ h, (numR a - numR b) / 2 = h := ⟨_, rfl⟩
  have hh : numR a - numR b = 2 * h := by omega
  rw [eh]
  have ne : a ≠ b := fun z => by rw [z] at lt; omega
  cases a with
  | none =>
    have lt : numR b < 0 := lt
    omega
  | some r =>
    have rf : r.1 ≠ f := fun z => h1 (by show V.str r.1 = V.str f; rw [z])
    have rg : r.1 ≠ g := fun z => h3 (by show V.str r.1 = V.str g; rw [z])
    have hr : r.2 - numR b = 2 * h := hh
    have h0 : 1 ≤ h := by
      have lt : numR b < r.2 := lt
      omega
    have sa : stepR (some r) f (numR b + h) = some (r.1, h) := by
      rcases step_cases (r := r) (k := f) (c := numR b + h) with ⟨x, _⟩ | ⟨_, _, x⟩ | ⟨_, x, _⟩ | ⟨_, x, _⟩
      · exact absurd x rf
      · rw [x, show r.2 - (numR b + h) = h by omega]
      · omega
      · omega
    have sb : stepR b f (numR b + h) = some (f, h) := by
      cases b with
      | none =>
        show some (f, 0 + h) = some (f, h)
        rw [Int.zero_add]
      | some s =>
        have sf : s.1 ≠ f := fun z => h2 (by show V.str s.1 = V.str f; rw [z])
        have : numR (some s) = s.2 := rfl
        rcases step_cases (r := s) (k := f) (c := numR (some s) + h) with ⟨x, _⟩ | ⟨_, x, _⟩ | ⟨_, x, _⟩ | ⟨_, _, x⟩
        · exact absurd x sf
        · omega
        · omega
        · rw [x, show numR (some s) + h - s.2 = h by omega]
    have ta : stepR (some (r.1, h)) g h = none := by
      rcases step_cases (r := (r.1, h)) (k := g) (c := h) with ⟨x, _⟩ | ⟨_, x, _⟩ | ⟨_, _, x⟩ | ⟨_, x, _⟩
      · exact absurd x rg
      · have x : h < h := x; omega
      · exact x
      · have x : h < h := x; omega
    have tb : stepR (some (f, h)) g h = none := by
      rcases step_cases (r := (f, h)) (k := g) (c := h) with ⟨x, _⟩ | ⟨_, x, _⟩ | ⟨_, _, x⟩ | ⟨_, x, _⟩
      · exact absurd x fg
      · have x : h < h := x; omega
      · exact x
      · have x : h < h := x; omega
    have mx : mxR (some r) b = r.2 := by
      unfold mxR
      rw [if_neg (by omega)]
      rfl
    refine ⟨fun x hx => ?_, alt_two fg, Nat.le_refl _, ?_, ?_, ?_, ?_⟩
    · rcases List.mem_cons.mp hx with e | e
      · rw [e]
        exact ⟨hf, by show 1 ≤ numR b + h; omega⟩
      · rw [List.mem_singleton.mp e]
        exact ⟨hg, h0⟩
    · rw [lenR_cons, lenR_cons, lenR_nil, mx]
      show numR b + h + (h + 0) = r.2
      omega
    · rw [stR_cons, stR_cons]
      show stR [] (stepR (stepR (some r) f (numR b + h)) g h) = none
      rw [sa, ta]
      rfl
    · rw [stR_cons, stR_cons]
      show stR [] (stepR (stepR b f (numR b + h)) g h) = none
      rw [sb, tb]
      rfl
    · rw [mx]
      unfold mmR
      rw [if_neg ne]
      show (if MW (some r) b f (numR b + h) then _ else mgR [(g, h)] (stepR (some r) f (numR b + h)) (stepR b f (numR b + h)) (0 + (numR b + h))) = _
      rw [if_neg (fun z : MW (some r) b f (numR b + h) => by have z : r.2 = numR b := z.2.2.1; omega), sa, sb]
      show (if MW (some (r.1, h)) (some (f, h)) g h then some (0 + (numR b + h) + h) else _) = _
      rw [if_pos (show MW (some (r.1, h)) (some (f, h)) g h from mw_ss.mpr ⟨rg, fg, rfl, Int.le_refl _⟩), show 0 + (numR b + h) + h = r.2 by omega]
def fk (x y : V) (k : Str) : Bool := !inV (.str k) [x, y]
theorem eqV_kd (a : Option Run) (k : Str) : eqV (kdV a) (.str k) = decide (kdV a = .str k) := by
  cases a with
  | none =>
    show false = _
    rw [decide_eq_false (by intro z; cases z)]
  | some r =>
    show (r.1 == k) = decide (V.str r.1 = V.str k)
    rw [Bool.eq_iff_iff]
    simp
theorem fk_iff {a b : Option Run} {k : Str} : fk (kdV a) (kdV b) k = true ↔ kdV a ≠ .str k ∧ kdV b ≠ .str k := by
  unfold fk inV
  simp only [List.any_cons, List.any_nil, Bool.or_false, eqV_kd]
  by_cases h1 : kdV a = .str k
  · simp [h1]
  · by_cases h2 : kdV b = .str k
    · simp [h1, h2]
    · simp [h1, h2]
theorem fk_str {a : Option Run} {f k : Str} : fk (kdV a) (.str f) k = true ↔ kdV a ≠ .str k ∧ f ≠ k := by
  have := fk_iff (a := a) (b := some (f, 1)) (k := k)
  rw [show kdV (some (f, (1 : Int))) = .str f from rfl] at this
  rw [this]
  exact ⟨fun h => ⟨h.1, fun z => h.2 (by rw [z])⟩, fun h => ⟨h.1, fun z => h.2 (V.str.inj z)⟩⟩
theorem flat_kd (a : Option Run) : flatV (kdV a) = true := by
  cases a <;> rfl
theorem dp_strl {K : PySem.W.Frag} {H : Hp} : ∀ (l : List Str), DpAll K H (l.map V.str) (l.map PyData.str)
  | [] => .nil
  | x :: t => .cons (.str x) (dp_strl t)
theorem shaped_strl {l : List Str} (h : ∀ s ∈ l, KindOk s) : SeqAt.shaped (.list (l.map PyData.str)) = true := by
  have c : ∀ {l : List Str}, (∀ s ∈ l, KindOk s) → PyData.canLayAll0 (l.map PyData.str) = true ∧ PyData.depthAll (l.map PyData.str) ≤ 1 := by
    intro l h
    induction l with
    | nil => exact ⟨by simp [PyData.canLayAll0], by simp [PyData.depthAll]⟩
    | cons x t ih =>
      obtain ⟨h1, h2⟩ := ih fun s hs => h s (List.mem_cons_of_mem _ hs)
      refine ⟨?_, ?_⟩
      · rw [List.map_cons, PyData.canLayAll0, h1]
        simp [PyData.canLay0, (h x (List.mem_cons_self ..)).str]
      · rw [List.map_cons, PyData.depthAll]
        exact Nat.max_le.mpr ⟨by simp [PyData.depth], h2⟩
  obtain ⟨h1, h2⟩ := c h
  unfold SeqAt.shaped
  rw [PyData.canLay0, h1, PyData.depth]
  exact decide_eq_true (by omega)
theorem eqv_nilS (l : List Str) : PyData.eqv (.list (l.map PyData.str)) (.list []) = l.isEmpty := by
  cases l with
  | nil => simp [PyData.eqv, PyData.eqvAll]
  | cons r t => simp [PyData.eqv, PyData.eqvAll]
theorem filter_snoc {p : Str → Bool} {l : List Str} {i : Nat} {x : Str} (h : l[i]? = some x) : (l.take (i + 1)).filter p = (l.take i).filter p ++ if p x = true then [x] else [] := by
  rw [take_snoc h, List.filter_append]
  congr 1
  cases e : p x <;> simp [e]
theorem str_at {ks : List Str} {i : Nat} {x : V} (h : (ks.map V.str)[i]? = some x) : ∃ k, ks[i]? = some k ∧ x = .str k := by
  rw [List.getElem?_map] at h
  cases e : ks[i]? with
  | none =>
    rw [e] at h
    cases h
  | some n =>
    rw [e] at h
    exact ⟨n, rfl, (Option.some.inj h).symm⟩
section
variable {P : Program} {w : World} {K : PySem.W.Frag} {mg : Str → Option Value} {base : Heap}
end
end UP

set_option Elab.async false
set_option linter.all false
set_option maxRecDepth 100000
set_option maxHeartbeats 4000000
namespace UP
open PySem PySem.Spec PyProof.Rows L2
theorem empty_iff {l : List Str} : l.isEmpty = true ↔ l = [] := by
  cases l <;> simp
section
variable {P : Program} {w : World} {K : PySem.W.Frag} {mg : Str → Option Value} {base : Heap}
end
end UP

set_option Elab.async false
set_option linter.all false
set_option maxRecDepth 100000
set_option maxHeartbeats 4000000
namespace UP
open PySem PySem.Spec PyProof.Rows L2
theorem canM_dec (ks : List Str) (a b : Option Run) : CanM ks a b ∨ ¬ CanM ks a b := Classical.em _
open Classical in
noncomputable def dueR (ks : List Str) (a b : Option Run) : Option Int := if a = b then some 0 else if CanM ks a b then some (mxR a b) else none
theorem due_comm (ks : List Str) (a b : Option Run) : dueR ks a b = dueR ks b a := by
  unfold dueR
  by_cases e : a = b
  · rw [if_pos e, if_pos e.symm]
  · rw [if_neg e, if_neg (show ¬ b = a from fun z => e z.symm)]
    by_cases c : CanM ks a b
    · rw [if_pos c, if_pos (can_comm c), mx_comm]
    · rw [if_neg c, if_neg fun z => c (can_comm z)]
theorem due_can {ks : List Str} {a b : Option Run} (e : a ≠ b) (c : CanM ks a b) : dueR ks a b = some (mxR a b) := by
  unfold dueR
  rw [if_neg e, if_pos c]
theorem due_not {ks : List Str} {a b : Option Run} (e : a ≠ b) (c : ¬ CanM ks a b) : dueR ks a b = none := by
  unfold dueR
  rw [if_neg e, if_neg c]
theorem due_eq {ks : List Str} {a : Option Run} : dueR ks a a = some 0 := by
  unfold dueR
  rw [if_pos rfl]
theorem dist_par {a b : Option Run} : distR a b % 2 = 1 ↔ (numR a - numR b) % 2 = 1 := by
  unfold distR
  split
  · split <;> omega
  · omega
section
variable {P : Program} {w : World} {K : PySem.W.Frag} {mg : Str → Option Value} {base : Heap}
/-! _law_of: slots 0:kind 1:count -/
abbrev s_law_of : Stmt := topS 41
theorem sc_law_of : FnScope ["kind", "count"] ["kind", "count"] (defScope s_law_of) := ⟨rfl, rfl, rfl, by decide +kernel, rfl, by decide +kernel, by decide +kernel⟩
def sp_law_of : Sp := fun vs H Q _ => ∃ (k : Str) (c : Int), vs = [.str k, .int c] ∧ 0 ≤ c ∧ ∀ H' v, Same H H' → StV H' v (withR k c) → Q v H'
theorem ok_law_of (D : Df K mg "_law_of" s_law_of) : Has P w K mg base 1 "_law_of" ["kind", "count"] sp_law_of := by
  refine has_of D sc_law_of (fun _ _ _ _ _ _ us hl => match us, hl with | [_, _], _ => rfl) (fun vs H Q E h => ?_) (fun f cdv A outer s₀ H vs Q E hr h => ?_)
  · obtain ⟨_, _, rfl, _⟩ := h
    rfl
  · obtain ⟨k, c, rfl, c0, q⟩ := h
    refine ⟨_, (pss_one (ps_ret (pe_ifExp (pt_cmpR op_gt (pv 1) pe_int (nomark _)) (pe_tup (pa_cons (pv 0) (pa_cons (pv 1) pa_nil))) pe_non))), ?_⟩
    refine ⟨_, rfl, _, _, rfl, rfl, _, rfl, ite2 (fun e => ?_) (fun e => ?_)⟩
    · have e : 0 < c := of_decide_eq_true e
      refine ⟨_, rfl, _, rfl, (by show 2 ≤ sizeLine; decide), fun t nt => q _ _ (same_upd nt) ?_⟩
      rw [show withR k c = some (k, c) from if_neg (by omega)]
      exact ⟨t, rfl, upd_same⟩
    · have e : ¬ 0 < c := fun z => e (decide_eq_true z)
      refine q _ _ (Same.refl _) ?_
      rw [show withR k c = none from if_pos (by omega)]
      rfl
end
end UP

set_option Elab.async false
set_option linter.all false
set_option maxRecDepth 100000
set_option maxHeartbeats 4000000
set_option pp.maxSteps 300
namespace UP
open PySem PySem.Spec PyProof.Rows L2
/-! ### xs.count(y) of texts -/
def eqs (k : Str) (v : Value) : Bool := match v with
  | .str z _ => z == k
  | _ => false
def rCntS (K : PySem.W.Frag) : V → List V → Hp → VK → Prop := fun x xs H Q => ∃ (p : Addr) (ns : List Str) (k : Str), x = .ref p ∧ xs = [.str k] ∧ SqL K H p (ns.map V.str) ∧ Q (.int (ns.count k : Nat)) H
theorem strs_vals : ∀ {ns : List Str} {us : List Value}, Vals (ns.map V.str) us → (∀ y ∈ us, ∃ z t, y = .str z t) ∧ ∀ k, us.countP (eqs k) = ns.count k
  | [], _, .nil => ⟨fun y h => (by cases h), fun k => rfl⟩
  | z :: t, _, .cons ⟨tk, e⟩ r => by
    obtain ⟨h1, h2⟩ := strs_vals r
    subst e
    refine ⟨fun y hy => ?_, fun k => ?_⟩
    · rcases List.mem_cons.mp hy with e | e
      · exact ⟨z, tk, e⟩
      · exact h1 y e
    · rw [List.countP_cons, h2 k, List.count_cons]
      rfl
theorem mt_lcountS {X : Cx} : MtR X "list.count" (rCntS X.K) := by
  intro pins s σ H x xs v us Q I rx rxs h
  obtain ⟨p, ns, k, rfl, rfl, hs, q⟩ := h
  cases rx
  obtain ⟨u, rfl, ru⟩ := rxs.one
  obtain ⟨t, rfl⟩ := ru
  obtain ⟨its, rv, ⟨⟨cls, dd, data, sl⟩, n, ho, hc, hdn, hd⟩, hlen⟩ := I.list hs
  simp only at hc hd
  subst hc hd
  obtain ⟨h1, h2⟩ := strs_vals rv
  refine call_meets PySem.F.slot_list_count ⟨_, ho, rfl⟩ PySem.F.entry_list_count (PySem.F.args_list_count_2 _ _)
    (SeqAt.list_countAt p its.toArray n dd sl (.str k t) (eqs k)) ⟨ho, fun y hy => ?_, ?_⟩
  · obtain ⟨z, tz, rfl⟩ := h1 y (by simpa using hy)
    exact SeqAt.EqAt.str_str z tz k t
  have ec : its.toArray.toList.countP (eqs k) = ns.count k := h2 k
  refine ⟨.int (ns.count k : Nat), H, I.tok _, ⟨s.toks, ?_⟩, q⟩
  show Value.int ((its.toArray.toList.countP (eqs k) : Nat) : Int) s.toks = Value.int ((ns.count k : Nat) : Int) s.toks
  rw [ec]
/-! ### effects -/
def fxR (items : List Str) (k : Str) (n : Int) : Option Run := stI items (withR k n)
def chR (items : List Str) (k : Str) : Int := (items.map fun x => if x = k then (1 : Int) else -1).sum
theorem chR_snoc (l : List Str) (x k : Str) : chR (l ++ [x]) k = chR l k + if x = k then 1 else -1 := by
  unfold chR
  rw [List.map_append, List.sum_append]
  simp
theorem chR_cons (l : List Str) (x k : Str) : chR (x :: l) k = (if x = k then 1 else -1) + chR l k := by
  unfold chR
  rw [List.map_cons, List.sum_cons]
theorem chR_cnt (k : Str) : ∀ l : List Str, chR l k = 2 * ((l.count k : Nat) : Int) - (l.length : Int)
  | [] => rfl
  | x :: t => by
    rw [chR_cons, chR_cnt k t, List.count_cons, List.length_cons]
    by_cases e : x = k
    · rw [if_pos e, if_pos (by rw [e]; exact beq_self_eq_true k)]
      omega
    · rw [if_neg e, if_neg (fun z => e (eq_of_beq z))]
      omega
theorem with0 (k : Str) : withR k 0 = none := if_pos rfl
theorem with_pos {k : Str} {n : Int} (h : 0 < n) : withR k n = some (k, n) := if_neg (by omega)
/-- one arrival while none or items of a kind wait -/
theorem step_with {k x : Str} {n : Int} (h : 0 ≤ n) (z : n = 0 → x = k) : stepR (withR k n) x 1 = withR k (n + if x = k then 1 else -1) := by
  by_cases n0 : n = 0
  · have e := z n0
    subst n0
    rw [with0, if_pos e, e]
    rfl
  · rw [with_pos (by omega)]
    by_cases e : x = k
    · rw [step_same (r := (k, n)) e.symm, if_pos e, with_pos (by omega), e]
    · rw [step_other (r := (k, n)) (fun q => e q.symm), if_neg e]
      by_cases h1 : 0 < n - 1
      · rw [if_pos (show 0 < (k, n).2 - 1 from h1), with_pos (by omega)]
        rfl
      · rw [if_neg (show ¬ 0 < (k, n).2 - 1 from h1), if_pos (show (k, n).2 - 1 = 0 by show n - 1 = 0; omega), show n + -1 = 0 by omega, with0]
theorem fx_far (k : Str) : ∀ (l : List Str) (n : Int), (l.length : Int) ≤ n → stI l (withR k n) = withR k (n + chR l k)
  | [], n, _ => by
    show withR k n = withR k (n + 0)
    rw [Int.add_zero]
  | x :: t, n, h => by
    rw [List.length_cons] at h
    have n1 : 1 ≤ n := by omega
    show stI t (stepR (withR k n) x 1) = _
    rw [step_with (by omega) (fun z => by omega), fx_far k t _ (by split <;> omega), chR_cons, Int.add_assoc]
theorem stI_drop {l : List Str} {i : Nat} {x : Str} (h : l[i]? = some x) (s : Option Run) : stI (l.drop i) s = stI (l.drop (i + 1)) (stepR s x 1) := by
  obtain ⟨hi, e⟩ := List.getElem?_eq_some_iff.mp h
  rw [List.drop_eq_getElem_cons hi, e]
  rfl
theorem stI_split (l : List Str) (i : Nat) (s : Option Run) : stI l s = stI (l.drop i) (stI (l.take i) s) := by
  rw [← stI_app, List.take_append_drop]
theorem stI_pos : ∀ (l : List Str) (s : Option Run), PosO s → PosO (stI l s)
  | [], _, h => h
  | x :: t, s, h => stI_pos t _ (stepR_pos h (by decide))
theorem stOk_stI : ∀ (l : List Str) (s : Option Run), (∀ k ∈ l, KindOk k) → StOk s → StOk (stI l s)
  | [], _, _, h => h
  | x :: t, s, k, h => stOk_stI t _ (fun y hy => k y (List.mem_cons_of_mem _ hy)) (stOk_step h (k x (List.mem_cons_self ..)))
theorem pos_with {k : Str} {n : Int} (h : 0 ≤ n) : PosO (withR k n) := fun r e => by
  unfold withR at e
  split at e
  · cases e
  · cases e
    show 1 ≤ n
    omega
theorem ok_with {k : Str} {n : Int} (kk : KindOk k) (h : 0 ≤ n) : StOk (withR k n) := fun r e => by
  unfold withR at e
  split at e
  · cases e
  · cases e
    exact ⟨kk, by show 1 ≤ n; omega⟩
/-- while effects are listed: L of them are known, all others are shifts so far -/
structure Low (items : List Str) (k : Str) (i L : Nat) : Prop where
  pos : 1 ≤ L
  le : L ≤ i + 1
  far : ∀ n : Int, (L : Int) ≤ n → 0 < n + chR (items.take i) k ∧ stI (items.take i) (withR k n) = withR k (n + chR (items.take i) k)
theorem Low.start (items : List Str) (k : Str) : Low items k 0 1 := ⟨Nat.le_refl _, Nat.le_refl _, fun n h => by
  rw [List.take_zero]
  show 0 < n + 0 ∧ withR k n = withR k (n + 0)
  rw [Int.add_zero]
  exact ⟨by omega, rfl⟩⟩
theorem take_step {items : List Str} {i : Nat} {x : Str} (h : items[i]? = some x) (s : Option Run) : stI (items.take (i + 1)) s = stepR (stI (items.take i) s) x 1 := by
  rw [take_snoc h, stI_app]
  rfl
theorem Low.stay {items : List Str} {k : Str} {i L : Nat} {x : Str} (h : Low items k i L) (hx : items[i]? = some x) (ne : chR (items.take (i + 1)) k ≠ -(L : Int)) : Low items k (i + 1) L := by
  have f := (h.far L (Int.le_refl _)).1
  have e : chR (items.take (i + 1)) k = chR (items.take i) k + if x = k then 1 else -1 := by rw [take_snoc hx, chR_snoc]
  rw [e] at ne
  refine ⟨h.pos, by have := h.le; omega, fun n hn => ?_⟩
  obtain ⟨f1, f2⟩ := h.far n hn
  rw [e, take_step hx, f2, step_with (by omega) (fun z => by omega), Int.add_assoc]
  refine ⟨?_, rfl⟩
  split at ne <;> split <;> first | omega | contradiction
theorem Low.more {items : List Str} {k : Str} {i L : Nat} {x : Str} (h : Low items k i L) (hx : items[i]? = some x) (eq : chR (items.take (i + 1)) k = -(L : Int)) : Low items k (i + 1) (L + 1) ∧ fxR items k L = stI (items.drop (i + 1)) none := by
  have e : chR (items.take (i + 1)) k = chR (items.take i) k + if x = k then 1 else -1 := by rw [take_snoc hx, chR_snoc]
  have e2 := e
  rw [eq] at e2
  refine ⟨⟨by omega, by have := h.le; omega, fun n hn => ?_⟩, ?_⟩
  · obtain ⟨f1, f2⟩ := h.far n (by omega)
    rw [e, take_step hx, f2, step_with (by omega) (fun z => by omega), Int.add_assoc]
    exact ⟨by omega, rfl⟩
  · obtain ⟨f1, f2⟩ := h.far L (Int.le_refl _)
    unfold fxR
    rw [stI_split items (i + 1), take_step hx, f2, step_with (by omega) (fun z => by omega), show (L : Int) + chR (items.take i) k + (if x = k then 1 else -1) = 0 by omega, with0]
/-- the list of effects is right -/
structure EffOk (items : List Str) (k : Str) (es : List (Option Run)) : Prop where
  len : 1 ≤ es.length ∧ es.length ≤ items.length + 1
  val : ∀ n, n < es.length → es[n]? = some (fxR items k n)
  far : ∃ sh : Int, ∀ n : Int, (es.length : Int) - 1 ≤ n → 0 ≤ n + sh ∧ fxR items k n = withR k (n + sh)
end UP

set_option Elab.async false
set_option linter.all false
set_option maxRecDepth 100000
set_option maxHeartbeats 4000000
/-! sets of texts: set(list), len, sorted -/
namespace UP
open PySem PySem.Spec PyProof.Rows L2
/-- the text of a row -/
def kS (e : Int × Value) : Str := match e.2 with
  | .str k _ => k
  | _ => ""
def RowS (w : World) (e : Int × Value) : Prop := ∃ k tk, e = (PySem.hashStr w k, Value.str k tk)
def addS (xs : List Str) (k : Str) : List Str := if k ∈ xs then xs else k :: xs
theorem addS_mem {xs : List Str} {k x : Str} : x ∈ addS xs k ↔ x ∈ xs ∨ x = k := by
  unfold addS
  split
  · exact ⟨.inl, fun h => h.elim id fun e => e ▸ (by assumption)⟩
  · rw [List.mem_cons]; exact Or.comm
theorem addS_nodup {xs : List Str} {k : Str} (h : xs.Nodup) : (addS xs k).Nodup := by
  unfold addS
  split
  · exact h
  · exact List.nodup_cons.mpr ⟨by assumption, h⟩
theorem addS_len (xs : List Str) (k : Str) : (addS xs k).length ≤ xs.length + 1 := by
  unfold addS
  split
  · omega
  · exact Nat.le_refl _
/-- what set(ns) holds, in some order -/
def setS (ns : List Str) : List Str := ns.foldl addS []
theorem foldS_mem : ∀ (ns xs : List Str) (x : Str), x ∈ ns.foldl addS xs ↔ x ∈ xs ∨ x ∈ ns
  | [], xs, x => by simp
  | n :: t, xs, x => by
    rw [List.foldl_cons, foldS_mem t, addS_mem, List.mem_cons]
    exact or_assoc
theorem foldS_nodup : ∀ (ns xs : List Str), xs.Nodup → (ns.foldl addS xs).Nodup
  | [], _, h => h
  | n :: t, xs, h => foldS_nodup t _ (addS_nodup h)
theorem foldS_len : ∀ (ns xs : List Str), (ns.foldl addS xs).length ≤ xs.length + ns.length
  | [], xs => Nat.le_refl _
  | n :: t, xs => by
    have h1 := foldS_len t (addS xs n)
    have h2 := addS_len xs n
    rw [List.foldl_cons, List.length_cons]
    omega
theorem setS_mem {ns : List Str} {x : Str} : x ∈ setS ns ↔ x ∈ ns := by
  unfold setS
  rw [foldS_mem]
  simp
theorem setS_nodup (ns : List Str) : (setS ns).Nodup := foldS_nodup ns [] List.nodup_nil
theorem setS_len (ns : List Str) : (setS ns).length ≤ ns.length := by
  have := foldS_len ns []
  rw [List.length_nil, Nat.zero_add] at this
  exact this
theorem setS_snoc (ns : List Str) (k : Str) : setS (ns ++ [k]) = addS (setS ns) k := by
  unfold setS
  rw [List.foldl_append]
  rfl
/-- the set of texts at a, its members xs in any order -/
def SetS (w : World) (h : Heap) (a : Addr) (xs : List Str) : Prop :=
  ∃ (o : Obj) (rs : Array (Int × Value)) (ep : Nat) (tb : SetTable), (h.get? a = some o ∧ o.ExactSet ∧ o.data = .set rs ep tb) ∧ (∀ e ∈ rs.toList, RowS w e) ∧ (rs.toList.map kS).Perm xs ∧ xs.Nodup ∧
    (rs.size < scanBound ∧ tb.fits rs.size = true) ∧ Ris tb.place.toList ∧ (w.params.followText "set-order" = true ∨ tb.led = true)
section
variable {P : Program} {w : World} {A : Around} {E : Value → Shared → Prop} {s : Shared} {a : Addr} {xs : List Str}
theorem SetS.at {h h' : Heap} (R : SetS w h a xs) (k : ∀ o, h.get? a = some o → h'.get? a = some o) : SetS w h' a xs :=
  let ⟨o, rs, ep, tb, ⟨ho, hx, hd⟩, r⟩ := R
  ⟨o, rs, ep, tb, ⟨k o ho, hx, hd⟩, r⟩
theorem row_is {e : Int × Value} (g : RowS w e) (k : Str) : ((PySem.strKind P w).is k e.2 = true) ↔ kS e = k := by
  obtain ⟨z, tk, rfl⟩ := g
  exact ⟨fun h => by
    have := eq_of_beq (show (z == k) = true from h)
    exact this, fun h => (show (z == k) = true from beq_iff_eq.mpr h)⟩
theorem rows_elems {l : List (Int × Value)} (g : ∀ e ∈ l, RowS w e) : ElemsOf (PySem.strKind P w) l := fun e he => by
  obtain ⟨z, tk, rfl⟩ := g e he
  exact ⟨⟨z, (show (z == z) = true from beq_self_eq_true z), rfl⟩, rfl⟩
/-- what stands at a after a store -/
theorem stored {h : Heap} {o : Obj} {rs rs' : Array (Int × Value)} {ep : Nat} {tb tb' : SetTable} (ho : h.get? a = some o) (hd : o.data = .set rs ep tb) :
    (h.update a (Obj.putSet rs' tb')).get? a = some { o with data := .set rs' (ep + 1) tb' } := L2.store_at ho hd
/-- behind the place of a new row: stored, and laid anew where the table is full -/
theorem sS_tail {gv : Bool → Sem Unit} (hgv : ∀ (b : Bool) (z : Shared) (Qu : Unit → Shared → Prop), Qu () z → wpAny (model P w) A (gv b) Qu E z)
    {o : Obj} {rs r1 : Array (Int × Value)} {ep : Nat} {tb t1 : SetTable} (ho : s.heap.get? a = some o) (hex : o.ExactSet) (hd : o.data = .set rs ep tb) (hr1 : ∀ e ∈ r1.toList, RowS w e)
    {ys : List Str} (hp : (r1.toList.map kS).Perm ys) (hn : ys.Nodup) (hb : r1.size < scanBound) (hf : t1.fits r1.size = true) (hris : Ris t1.place.toList) (hled : w.params.followText "set-order" = true ∨ t1.led = true)
    {dum : Bool} {R : Option Bool → Shared → Prop} (hR : ∀ h', Heap.SameBut a s.heap h' → SetS w h' a ys → R (some true) { s with heap := h' }) :
    wpAny (model P w) A (do storeSet a r1 t1
                            if (!dum && t1.tooFull) = true then do
                              gv (relayAll t1 r1 (SetTable.grown r1.size)).2.2
                              storeSet a (relayAll t1 r1 (SetTable.grown r1.size)).1 (relayAll t1 r1 (SetTable.grown r1.size)).2.1
                              pure (some true)
                            else pure (some true)) R E s := by
  have same1 := Heap.SameBut.update s.heap a (Obj.putSet r1 t1)
  have at1 := stored (a := a) (rs' := r1) (tb' := t1) ho hd
  refine wpAny_bind (wpAny_storeSet_of ho hd ?_ (fits_of_scanBound hb))
  by_cases hfull : (!dum && t1.tooFull) = true
  · rw [if_pos hfull]
    have a1 := relayAll_perm t1 r1 (SetTable.grown r1.size)
    have a2 := relayAll_fits t1 r1 (SetTable.grown r1.size)
    have a3 := L2.relayAll_ris t1 r1 (SetTable.grown r1.size)
    have a4 := L2.relayAll_led t1 r1 (SetTable.grown r1.size)
    generalize relayAll t1 r1 (SetTable.grown r1.size) = Y at a1 a2 a3 a4 ⊢
    obtain ⟨r2, t2, gave⟩ := Y
    dsimp only at a1 a2 a3 a4 ⊢
    have size2 : r2.size = r1.size := by rw [← Array.length_toList, a1.length_eq, Array.length_toList]
    refine wpAny_bind (hgv _ _ _ ?_)
    refine wpAny_bind (wpAny_storeSet_of at1 rfl ?_ (fits_of_scanBound (size2.symm ▸ hb)))
    refine wpAny_pure (hR _ (same1.trans (Heap.SameBut.update _ a _)) ⟨_, r2, _, t2, ⟨stored at1 rfl, hex, rfl⟩, fun e he => hr1 e (a1.mem_iff.mp he), (a1.map kS).trans hp, hn, ⟨size2.symm ▸ hb, a2⟩, a3, hled.imp id fun z => a4.trans z⟩)
  · rw [if_neg hfull]
    exact wpAny_pure (hR _ same1 ⟨_, r1, _, t1, ⟨at1, hex, rfl⟩, hr1, hp, hn, ⟨hb, hf⟩, hris, hled⟩)
theorem sS_add {k : Str} {tk : Tok} {Q : Bool → Shared → Prop} (R : SetS w s.heap a xs) (room : xs.length + 1 < scanBound) (hQ : ∀ b h', Heap.SameBut a s.heap h' → SetS w h' a (addS xs k) → Q b { s with heap := h' }) :
    wpAny (model P w) A (setAddHashed a (.str k tk) ((PySem.strKind P w).hash k)) Q E s := by
  obtain ⟨o, rs, ep, tb, ⟨ho, hex, hd⟩, g, pm, nd, ⟨hb, hf⟩, hr, hl⟩ := R
  have el : ElemsOf (PySem.strKind P w) rs.toList := rows_elems g
  have key : (PySem.strKind P w).is k (.str k tk) = true := (show (k == k) = true from beq_self_eq_true k)
  have scn : (Value.str k tk).scannable = true := rfl
  have lenR : rs.size = xs.length := by rw [← Array.length_toList, ← pm.length_eq, List.length_map]
  have memR : ∀ z, z ∈ xs ↔ ∃ e ∈ rs.toList, (PySem.strKind P w).is z e.2 = true := fun z => by
    rw [← pm.mem_iff, List.mem_map]
    exact ⟨fun ⟨e, h1, h2⟩ => ⟨e, h1, (row_is (g e h1) z).mpr h2⟩, fun ⟨e, h1, h2⟩ => ⟨e, h1, (row_is (g e h1) z).mp h2⟩⟩
  unfold setAddHashed setAddHashedIn
  refine wpAny_holding (wpAny_bind (wpAny_setState_of ho hd hf ?_))
  dsimp only
  rw [byScan_of scn hb el]
  simp only [↓reduceIte]
  unfold setAddByScan
  refine wpAny_bind (wpAny_bind (wpAny_rule (wpAny_bind (wpAny_setScan_of key ho hd hf el ?_))))
  cases fnd : List.findIdx? (fun e => (PySem.strKind P w).is k e.2) rs.toList with
  | some j =>
    dsimp only
    obtain ⟨hj, pj, _⟩ := List.findIdx?_eq_some_iff_getElem.mp fnd
    have inx : k ∈ xs := (memR k).mpr ⟨_, List.getElem_mem hj, pj⟩
    refine wpAny_pure (wpAny_pure (hQ _ s.heap (Heap.SameBut.refl a s.heap) ?_))
    have e : addS xs k = xs := if_pos inx
    rw [e]
    exact ⟨o, rs, ep, tb, ⟨ho, hex, hd⟩, g, pm, nd, ⟨hb, hf⟩, hr, hl⟩
  | none =>
    dsimp only
    have nin : k ∉ xs := fun z => by
      obtain ⟨e, he, q⟩ := (memR k).mp z
      rw [List.findIdx?_eq_none_iff.mp fnd e he] at q
      cases q
    have e : addS xs k = k :: xs := if_neg nin
    rw [e] at hQ
    have gave' : ∀ (b : Bool) {z : Shared} {Qu : Unit → Shared → Prop}, Qu () z → wpAny (model P w) A (match b with | true => rule "set.scan.the-table-gave-way" | false => pure ()) Qu E z := fun b z Qu q => by
      cases b
      · exact wpAny_pure q
      · exact wpAny_rule q
    have b1 := layNew_perm tb rs ((PySem.strKind P w).hash k) (.str k tk)
    have b2 := layNew_fits tb rs ((PySem.strKind P w).hash k) (.str k tk)
    have b3 := L2.layNew_ris tb rs ((PySem.strKind P w).hash k) (.str k tk) hr
    have b4 := L2.layNew_led tb rs ((PySem.strKind P w).hash k) (.str k tk)
    generalize layNew tb rs ((PySem.strKind P w).hash k) (.str k tk) = Y at b1 b2 b3 b4 ⊢
    obtain ⟨r1, t1, dum, gave⟩ := Y
    dsimp only at b1 b2 b3 b4 ⊢
    rw [Array.toList_push] at b1
    have c1 : r1.toList.Perm (((PySem.strKind P w).hash k, Value.str k tk) :: rs.toList) := b1.trans (List.perm_append_singleton _ _)
    have c2 : (r1.toList.map kS).Perm (k :: xs) := (c1.map kS).trans (pm.cons k)
    have c3 : ∀ e ∈ r1.toList, RowS w e := fun e he => (List.mem_cons.mp (c1.mem_iff.mp he)).elim (fun z => ⟨k, tk, z⟩) (g e)
    have c4 : (k :: xs).Nodup := List.nodup_cons.mpr ⟨nin, nd⟩
    have c5 : r1.size < scanBound := by
      have z := c1.length_eq
      rw [Array.length_toList, List.length_cons, Array.length_toList, lenR] at z
      omega
    have c6 : w.params.followText "set-order" = true ∨ t1.led = true := hl.imp id fun z => b4.trans z
    refine wpAny_bind (gave' _ ?_)
    split
    · refine wpAny_bind ?_
      rw [hashByValue_scannable 8 scn]
      refine wpAny_pure (sS_tail ?_ ho hex hd c3 c2 c4 c5 ?_ ?_ ?_ ?_)
      · intro b z Qu q
        cases b
        · exact wpAny_pure q
        · exact wpAny_rule q
      · first | (split <;> first | exact b2 | exact SetTable.fits_plain_off b2) | exact b2
      · first | (split <;> exact b3) | exact b3
      · first | (split <;> exact c6) | exact c6
      · intro h' sb r
        dsimp only
        exact wpAny_pure (hQ _ h' sb r)
    · refine wpAny_bind (wpAny_pure ?_)
      simp only [↓reduceIte]
      refine sS_tail ?_ ho hex hd c3 c2 c4 c5 b2 b3 c6 ?_
      · intro b z Qu q
        cases b
        · exact wpAny_pure q
        · exact wpAny_rule q
      · intro h' sb r
        dsimp only
        exact wpAny_pure (hQ _ h' sb r)
theorem sS_new {h : Heap} (ho : h.get? a = some { cls := .type "set", dict := none, data := .set #[] 0 (.fresh 0 0 (!w.params.followText "set-order")) }) : SetS w h a [] := by
  refine ⟨_, #[], 0, _, ⟨ho, ⟨rfl, rfl, rfl⟩, rfl⟩, fun e he => ?_, List.Perm.refl _, List.nodup_nil, ⟨by decide, by rfl⟩, List.Pairwise.nil, ?_⟩
  · simp at he
  · show _ ∨ (!w.params.followText "set-order") = true
    cases w.params.followText "set-order"
    · exact .inr rfl
    · exact .inl rfl
/-- the walk that adds -/
theorem sS_update {I : Addr} {fp wr : List Addr} {G : Array GenState → Array GenState → Prop} {n : Nat} {Pv : Nat → Value → Prop} {St : Nat → Shared → Prop} {R : Result → Shared → Prop}
    (W : WalksS P w A.in1 I fp wr G n Pv St) (S : Addr) (out : S ∉ fp) (ns : List Str) (hn : n = ns.length) (hb : ns.length + 1 < scanBound) (hval : ∀ (i : Nat) (v : Value), Pv i v → ∃ (k : Str) (t : Tok), ns[i]? = some k ∧ v = Value.str k t) :
    ∀ (k i : Nat) (s : Shared), n - i = k → i ≤ n → St i s → SetS w s.heap S (setS (ns.take i)) → (∀ s', Moved (S :: wr) G s s' → SetS w s'.heap S (setS ns) → R (.ok (.ret .none)) s') →
      codeAny (model P w) A (.builtin "set.update.loop" ⟨[.ref S, .ref I], []⟩) R s := by
  have outW : S ∉ wr := fun h => out (W.sub _ h)
  have more : ∀ b ∈ wr, b ∈ S :: wr := fun b hb => List.mem_cons_of_mem _ hb
  intro k
  induction k with
  | zero =>
    intro i s ek hi hst hS hR
    have ei : i = n := by omega
    subst ei
    refine codeAny_builtin PyProof.Rows.F.entry_set_update_loop ?_
    rw [Around.under_plainId PyProof.Rows.F.plain_set_update_loop _]
    show wpAny _ A.in1 (pyNext (.ref I) >>= _) _ _ s
    refine wpAny_bind (W.done s _ _ hst fun s' hm => ?_)
    show wpAny _ A.in1 (ret Value.none) _ _ s'
    rw [List.take_of_length_le (Nat.le_of_eq hn.symm)] at hS
    exact wpAny_pure (hR s' (hm.mono more) (hS.at fun o e => hm.heap S o outW e))
  | succ k ih =>
    intro i s ek hi hst hS hR
    have lt : i < n := by omega
    refine codeAny_builtin PyProof.Rows.F.entry_set_update_loop ?_
    rw [Around.under_plainId PyProof.Rows.F.plain_set_update_loop _]
    show wpAny _ A.in1 (pyNext (.ref I) >>= _) _ _ s
    refine wpAny_bind (W.item i s _ _ lt hst fun v s' hP hst' hm => ?_)
    obtain ⟨z, t, hz, rfl⟩ := hval i v hP
    have hS' : SetS w s'.heap S (setS (ns.take i)) := hS.at fun o e => hm.heap S o outW e
    have lz : (setS (ns.take i)).length + 1 < scanBound := by
      have h1 := setS_len (ns.take i)
      rw [List.length_take] at h1
      omega
    show wpAny _ A.in1 (holding [Value.str z t] (setAdd S (.str z t)) >>= _) _ _ s'
    refine wpAny_bind (wpAny_holding ?_)
    unfold setAdd
    refine wpAny_holding (wpAny_bind ((PySem.strKind P w).pyHash (k := z) (show (z == z) = true from beq_self_eq_true z) ?_))
    refine sS_add (s := { s' with toks := s'.toks + 1 }) hS' lz fun b h' same hS2 => ?_
    have hS3 : SetS w h' S (setS (ns.take (i + 1))) := by
      have e : ns.take (i + 1) = ns.take i ++ [z] := by rw [List.take_add_one, hz] <;> rfl
      rw [e, setS_snoc]
      exact hS2
    refine wpAny_pure ⟨plainId_quiet PyProof.Rows.F.plain_set_update_loop _, ih (i + 1) _ (by omega) lt (W.frame _ s' _ _ hst' (Nat.le_succ _) fun b hb o e => ?_) hS3 fun s2 hm2 hS4 => ?_⟩
    · have ne : b ≠ S := fun h => out (h ▸ hb)
      rw [same.2 b ne]
      exact e
    · refine hR s2 (Moved.trans W.gtrans ((hm.mono more).then_heap (Nat.le_succ _) fun b o hb e => ?_) hm2) hS4
      have ne : b ≠ S := fun h => hb (h ▸ List.mem_cons_self)
      rw [same.2 b ne]
      exact e
abbrev freshS (w : World) : Obj := { cls := .type "set", dict := none, data := .set #[] 0 (.fresh 0 0 (!w.params.followText "set-order")) }
/-- set(l), l a list of texts -/
theorem set_strs {l : Addr} {its : Array Value} (ns : List Str) {Q : Value → Shared → Prop} (hh : A.handled = none) (hl : s.heap.IsList l its) (hz : its.size = ns.length) (hv : ∀ (i : Nat) (v : Value), its[i]? = some v → ∃ (k : Str) (t : Tok), ns[i]? = some k ∧ v = Value.str k t)
    (hb : ns.length + 1 < scanBound) (q : ∀ (h' : Heap) (tk : Nat), SetS w h' s.heap.objs.size (setS ns) → (∀ b o, s.heap.get? b = some o → h'.get? b = some o) → Q (.ref s.heap.objs.size) { s with heap := h', toks := tk }) :
    wpAny (model P w) A (call (.type "set") [.ref l]) Q E s := by
  obtain ⟨c, tl, hmro⟩ := PySem.F.called_set.mro
  have made := PySem.F.called_set.made
  have subs := PySem.F.called_set.sub
  refine wpAny_call (codeAny_of_tree ?_)
  show wpAny _ _ (callAny (.type "set") _) _ _ _
  refine wpAny_pure ⟨Code.quiet_builtin _ (by decide +kernel), codeAny_builtin PySem.F.entry_type_call ?_⟩
  rw [Around.under_plain (weight_type_call_type "set" [.ref l] []) rfl]
  have t1 := PySem.F.called_set.notType
  have t2 := PySem.F.called_set.canCreate
  have t3 := PySem.F.typeCall_set_1 (.ref l)
  repeat (any_goals (first | assumption | wp_step))
  refine codeAny_mono (L2.code_set_led1 (.ref l) (E := E) (Q₁ := fun ob z => ob = .ref s.heap.objs.size ∧ z = { s with heap := s.heap.push (freshS w) }) ⟨rfl, rfl⟩) fun r z hr => ?_
  cases r with
  | error e => exact hr
  | ok fl =>
    cases fl with
    | ret ob =>
      obtain ⟨rfl, rfl⟩ := hr
      have atS : (s.heap.push (freshS w)).get? s.heap.objs.size = some (freshS w) := Heap.get?_push_size _ rfl
      have isS : Shared.TypeIs { s with heap := s.heap.push (freshS w) } (.ref s.heap.objs.size) "set" := ⟨_, atS, rfl⟩
      have i1 := PySem.F.called_set.init.lookup
      have i2 := PySem.F.called_set.init.bind (.ref s.heap.objs.size)
      repeat (any_goals (first | assumption | wp_step))
      refine codeAny_mono (codeAny_call_builtin (R := wants (fun r z => r = .none ∧ ∃ h' tk, z = { s with heap := h', toks := tk } ∧ SetS w h' s.heap.objs.size (setS ns) ∧ (∀ b o, s.heap.get? b = some o → h'.get? b = some o)) E)
        PySem.F.called_set.init.plain PySem.F.entry_set_init (check_set_init_1 isS ?_)) fun r2 z2 hr2 => ?_
      · obtain ⟨ol, hol, hcl, nl, hdl⟩ := hl
        obtain ⟨ocls, odict, odata, oslots⟩ := ol
        simp only at hcl hdl
        subst hcl
        subst hdl
        have hol2 : (s.heap.push (freshS w)).get? l = some { cls := .type "list", dict := odict, data := .seq its nl, slots := oslots } := Heap.get?_push_of_some _ hol
        have u1 := PySem.F.sub_list_set
        have u2 := PySem.F.sub_list_frozenset
        have u3 : (Value.type "list" == Value.type "dict") = false := by decide
        have isL : (s.heap.push (freshS w)).IsList l its := ⟨_, hol2, rfl, nl, rfl⟩
        unfold Builtin.«set.__init__» noKeywords Builtin.Frozenset.updateFrom
        generalize ePI : pyIter = PI
        wp_walk
        subst ePI
        refine wpAny_pyIter_list isL ?_
        refine wpAny_bind (wpAny_runValue ?_)
        have lt : l < s.heap.objs.size := Heap.lt_size hol
        have cold : A.in1.in1.in1.handled = none := by simp [hh]
        have sz1 : (s.heap.push (freshS w)).objs.size = s.heap.objs.size + 1 := Heap.size_push ..
        have neI : l ≠ (s.heap.push (freshS w)).objs.size := sz1.symm ▸ Nat.ne_of_lt (Nat.lt_succ_of_lt lt)
        have notIn : s.heap.objs.size ∉ [(s.heap.push (freshS w)).objs.size, l] := by
          rw [sz1]
          intro hm
          rcases List.mem_cons.mp hm with e | e
          · exact Nat.ne_of_lt (Nat.lt_succ_self _) e
          · exact Nat.ne_of_gt lt (List.mem_singleton.mp e)
        refine sS_update ((Walks.list cold _ l neI its).toS) s.heap.objs.size notIn ns hz hb hv (its.size - 0) 0 _ (by omega) (Nat.zero_le _) ⟨⟨_, Heap.get?_push_size _ rfl, rfl, rfl⟩, (isL.push _)⟩ ?first ?last
        case first => exact sS_new (Heap.get?_push_of_some _ atS)
        case last =>
          intro s' hm hS'
          obtain ⟨h', g2, d2, tk2, os2⟩ := s'
          have eg : g2 = s.gens := hm.gens
          have ed : d2 = s.drawn := hm.drawn
          have eo : os2 = s.os := hm.os
          subst eg
          subst ed
          subst eo
          show wpAny _ _ _ _ _ _
          refine wpAny_pure ?_
          show wpAny _ _ (ret Value.none) _ _ _
          refine wpAny_pure ⟨rfl, h', tk2, rfl, hS', fun b o e => ?_⟩
          have lb : b < s.heap.objs.size := Heap.lt_size e
          refine hm.heap b o (fun z => ?_) (Heap.get?_push_of_some _ (Heap.get?_push_of_some _ e))
          rcases List.mem_cons.mp z with z | z
          · exact Nat.ne_of_lt lb z
          · exact Nat.ne_of_lt (Nat.lt_succ_of_lt lb) ((List.mem_singleton.mp z).trans sz1)
      · cases r2 with
        | error e => exact hr2
        | ok fl2 =>
          cases fl2 with
          | ret r =>
            obtain ⟨rfl, h', tk2, rfl, hS', hk⟩ := hr2
            repeat (any_goals (first | assumption | wp_step))
            exact q _ _ hS' hk
          | _ => exact hr2.elim
    | _ => exact hr.elim
theorem strs_rows : ∀ (l : List Value) (ys : List Str), (∀ v ∈ l, ∃ k tk, v = Value.str k tk) → l.map (fun v => match v with | .str k _ => k | _ => "") = ys → StrsAre l ys
  | [], _, _, rfl => .nil
  | v :: l, _, h, rfl => by
    obtain ⟨k, tk, rfl⟩ := h v List.mem_cons_self
    exact .cons k tk (strs_rows l _ (fun u hu => h u (List.mem_cons_of_mem _ hu)) rfl)
/-- sorted(set) -/
theorem sorted_setS {Q : Value → Shared → Prop} (R : SetS w s.heap a xs) (hh : A.handled = none) (h64 : xs.length < 64)
    (q : ∀ s' p (out : Array Value) (c : Nat) (ys : List Str), (∀ b o, s.heap.get? b = some o → s'.heap.get? b = some o) → s'.gens = s.gens → s'.os = s.os → s.heap.objs.size ≤ p → s'.heap.get? p = some (seqObj "list" out c) →
      StrsAre out.toList ys → ys.Perm xs → sortedS ys = true → Q (.ref p) s') : wpAny (model P w) A (call (.builtin "sorted") [.ref a]) Q E s := by
  obtain ⟨o, rs, ep, tb, ⟨ho, hex, hd⟩, g, pm, nd, ⟨hb, hf⟩, hr, hl⟩ := R
  refine Calls.call_function_entry kind_sorted plain_sorted entry_sorted (args_sorted1 _) ?_
  unfold Builtin.«sorted»
  refine wpAny_bind (m := checkCount "sorted" 1 1 _) (wpAny_pure ?_)
  refine wpAny_bind (L2.collect_set (A := A.in1) hh ⟨o, ho, hex.1, hd⟩ hf hb hr hl fun s1 vs k1 hz g1 o1 pv => ?_)
  have lv : vs.length = xs.length := by rw [pv.length_eq, List.length_map, ← pm.length_eq, List.length_map]
  have sv : StrsAre vs (vs.map fun v => match v with | .str k _ => k | _ => "") := strs_rows vs _ (fun v hv => by
    obtain ⟨e, he, rfl⟩ := List.mem_map.mp (pv.mem_iff.mp hv)
    obtain ⟨k, tk, rfl⟩ := g e he
    exact ⟨k, tk, rfl⟩) rfl
  have pk : (vs.map fun v => match v with | .str k _ => k | _ => "").Perm xs := by
    have z := pv.map fun v => match v with | .str k _ => k | _ => ""
    rw [List.map_map] at z
    exact z.trans pm
  refine wpAny_bind (wpAny_newList ?_ (by rw [lv, sizeLine_eq]; omega))
  have atL : (s1.heap.push (seqObj "list" vs.toArray 0)).get? s1.heap.objs.size = some (seqObj "list" vs.toArray 0) := Heap.get?_push_size _ rfl
  refine wpAny_bind (wpAny_holding (wpAny_call_entry slot_list_sort ⟨_, atL, rfl⟩ entry_list_sort
    (list_sort_treeK strKind_oneLt atL sv.keysOf (fun v₁ v₂ rest e => keyKind_strs (by rw [← e]; exact sv)) (by rw [lv]; exact h64) fun st' hp hs => ⟨_, rfl, ?_⟩) (args_list_sort _)))
  obtain ⟨ys, y1, y2, y3⟩ := sorted_out_str sv hp hs
  obtain ⟨c, hc⟩ := sortedHeap_at (vs := vs) (out := (arrOf st').map (·.2)) atL
  refine wpAny_pure ⟨_, rfl, q _ s1.heap.objs.size _ c ys (fun b u e => ?_) g1 o1 hz hc y1 (y2.trans pk) y3⟩
  have z := k1 b u e
  have lt := Heap.lt_size z
  show (sortedHeap (s1.heap.push (seqObj "list" vs.toArray 0)) s1.heap.objs.size vs ((arrOf st').map (·.2))).get? b = some u
  rw [sortedHeap_old (Nat.ne_of_lt lt) (by rw [size_push']; exact Nat.lt_succ_of_lt lt)]
  exact Heap.get?_push_of_some _ z
end
/-- the set in the mirror heap -/
def StS (w : World) (a : Addr) (xs : List Str) : HO := .ext fun h => SetS w h a xs
theorem stS_ok {P : Program} {w : World} {H : Hp} {h : Heap} {a : Addr} {xs : List Str} (R : SetS w h a xs) : ObjOk P w H h a (StS w a xs) :=
  ⟨R, (let ⟨o, _, _, _, ⟨ho, _⟩, _⟩ := R; ⟨o, ho⟩), fun h1 h2 p k => SetS.at p k⟩
section
variable {X : Cx}
def rSetS (K : PySem.W.Frag) (w : World) : List V → Hp → VK → Prop := fun vs H Q => ∃ (l : Addr) (ns : List Str), vs = [V.ref l] ∧ SqL K H l (ns.map V.str) ∧ ns.length + 1 < scanBound ∧ ∀ a, H a = none → Q (.ref a) (upd H a (StS w a (setS ns)))
theorem cr_setS (hc : X.calm = true) : CallR X (.type "set") (rSetS X.K X.w) := by
  intro pins s σ H vs us Q I r h
  obtain ⟨l, ns, rfl, hl, hb, q⟩ := h
  rw [Vals.ref1 r]
  obtain ⟨its, rv, pl, _⟩ := I.list hl
  have hz : its.toArray.size = ns.length := by rw [List.size_toArray, ← rv.length, List.length_map]
  refine set_strs (P := X.prog) (w := X.w) ns (I.ok.hd hc) pl.isList hz (fun i v hv => ?_) hb fun h' tk R k => ?_
  · have lt : i < ns.length := by
      rw [← hz]
      exact (Array.getElem?_eq_some_iff.mp hv).1
    obtain ⟨u, hu, t, et⟩ := rv.get (i := i) (x := .str ns[i]) (by simp [lt])
    have ev : its[i]? = some v := by simpa using hv
    rw [hu] at ev
    exact ⟨ns[i], t, List.getElem?_eq_getElem lt, (Option.some.inj ev).symm.trans et⟩
  · exact ⟨.ref s.heap.objs.size, upd H s.heap.objs.size (StS X.w s.heap.objs.size (setS ns)), I.laid (t' := tk) k (Nat.le_refl _) (stS_ok R), rfl, q _ (I.hok.fresh (Nat.le_refl _))⟩
def rSortSS (w : World) : List V → Hp → VK → Prop := fun vs H Q => ∃ (a : Addr) (xs : List Str), vs = [V.ref a] ∧ H a = some (StS w a xs) ∧ xs.length < 64 ∧ ∀ (ys : List Str) (p : Addr), ys.Perm xs → sortedS ys = true → H p = none → Q (.ref p) (upd H p (.lst (ys.map V.str)))
theorem cr_sortSS (hc : X.calm = true) : CallR X (.builtin "sorted") (rSortSS X.w) := by
  intro pins s σ H vs us Q I r h
  obtain ⟨a, xs, rfl, ha, h64, q⟩ := h
  have R : SetS X.w s.heap a xs := (I.hok a _ ha).1
  rw [Vals.ref1 r]
  refine sorted_setS R (I.ok.hd hc) h64 fun s' p out c ys k g o hp hg hs pm so => ?_
  have few : (ys.map V.str).length ≤ sizeLine := by rw [List.length_map, pm.length_eq, sizeLine_eq]; omega
  have hn : H p = none := I.hok.fresh hp
  have J : Inv X pins σ (upd H p (.lst (ys.map V.str))) { s with heap := s'.heap, gens := s'.gens, drawn := s'.drawn, toks := s'.toks } :=
    I.call (ch := []) (Un.laid k hp hn) (I.hok.laid k hp ⟨few, out.toList, c, vals_of_strs hs, hg⟩) (by rw [g]; exact I.bare) (fun _ z => nomatch z)
  have e : s' = { s with heap := s'.heap, gens := s'.gens, drawn := s'.drawn, toks := s'.toks } := by
    cases s'
    cases s
    cases o
    rfl
  rw [e]
  exact ⟨.ref p, _, J, rfl, q ys p pm so hn⟩
def rLenSS (w : World) : List V → Hp → VK → Prop := fun vs H Q => ∃ (a : Addr) (xs : List Str), vs = [V.ref a] ∧ H a = some (StS w a xs) ∧ Q (.int (xs.length : Nat)) H
theorem cr_lenSS : CallR X (.builtin "len") (rLenSS X.w) := by
  intro pins s σ H vs us Q I r h
  obtain ⟨a, xs, rfl, ha, q⟩ := h
  obtain ⟨o, rs, ep, tb, ⟨ho, hex, hd⟩, _, pm, _, ⟨hb, hf⟩, _⟩ := (show SetS X.w s.heap a xs from (I.hok a _ ha).1)
  have e : rs.size = xs.length := by rw [← Array.length_toList, ← pm.length_eq, List.length_map]
  rw [Vals.ref1 r]
  have few : (rs.size : Int) < 2 ^ 63 := by
    unfold scanBound at hb
    omega
  exact call_len_set ho hex hd hf few ⟨.int (xs.length : Nat), H, I.tok _, ⟨_, by rw [e]⟩, q⟩
/-! the same, the frag and the world named -/
theorem cr_setSw {K : PySem.W.Frag} {w : World} (hK : X.K = K) (hw : X.w = w) (hc : X.calm = true) : CallR X (.type "set") (rSetS K w) := by
  subst hK
  subst hw
  exact cr_setS hc
theorem cr_sortSSw {w : World} (hw : X.w = w) (hc : X.calm = true) : CallR X (.builtin "sorted") (rSortSS w) := by
  subst hw
  exact cr_sortSS hc
theorem cr_lenSSw {w : World} (hw : X.w = w) : CallR X (.builtin "len") (rLenSS w) := by
  subst hw
  exact cr_lenSS
end
end UP

set_option Elab.async false
set_option linter.all false
set_option maxRecDepth 100000
set_option maxHeartbeats 4000000
set_option pp.maxSteps 300
namespace UP
open PySem PySem.Spec PyProof.Rows L2
theorem atSE {K : PySem.W.Frag} {H : Hp} {t : Addr} {xs : List V} {i : Int} {x : V} {Q : VK} (h : Sq2 H t xs) (e : atI xs i = some x) (q : Q x H) : rIx K (.ref t) (.int i) H Q := h.elim (fun z => .inl ⟨t, _, i, _, rfl, rfl, .of z, e, q⟩) (fun z => .inr (.inl ⟨t, _, i, _, rfl, rfl, .of z, e, q⟩))
/-- a list of states -/
def StL (H : Hp) (a : Addr) (es : List (Option Run)) : Prop := ∃ xs, H a = some (.lst xs) ∧ Paired (StV H) xs es
theorem sts_same {H H' : Hp} {xs : List V} {es : List (Option Run)} (s : Same H H') (h : Paired (StV H) xs es) : Paired (StV H') xs es := Paired.imp (fun _ _ z => z.same s) h
theorem StV.growE {H : Hp} {D : Addr} {acc acc' : List V} {v : V} {st : Option Run} (hD : H D = some (.lst acc)) (h : StV H v st) : StV (upd H D (.lst acc')) v st := by
  cases st with
  | none => exact h
  | some r =>
    obtain ⟨t, e, ht⟩ := h
    refine ⟨t, e, ?_⟩
    rw [upd_ne (ne_of ht hD (by intro q; cases q))]
    exact ht
theorem StV.butE {H H' : Hp} {D : Addr} {acc : List V} {v : V} {st : Option Run} (hD : H D = some (.lst acc)) (b : But D H H') (h : StV H v st) : StV H' v st := by
  cases st with
  | none => exact h
  | some r =>
    obtain ⟨t, e, ht⟩ := h
    exact ⟨t, e, b _ _ (ne_of ht hD (by intro q; cases q)) ht⟩
theorem sts_grow {H : Hp} {D : Addr} {acc acc' : List V} {xs : List V} {es : List (Option Run)} (hD : H D = some (.lst acc)) (h : Paired (StV H) xs es) : Paired (StV (upd H D (.lst acc'))) xs es := Paired.imp (fun _ _ z => z.growE hD) h
theorem StL.same {H H' : Hp} {a : Addr} {es : List (Option Run)} (s : Same H H') (h : StL H a es) : StL H' a es := by
  obtain ⟨xs, hx, hp⟩ := h
  exact ⟨xs, s _ _ hx, sts_same s hp⟩
/-- the endings of the moments from s on stand in a list -/
def EndL (H : Hp) (xs : List V) (items : List Str) (s : Nat) : Prop := xs.length = items.length + 1 ∧ ∀ m, s ≤ m → m ≤ items.length → ∃ v, xs[m]? = some v ∧ StV H v (stI (items.drop m) none)
theorem g_at {i : Nat} {v w : V} {σ : L2.St} {H : Hp} {k : L2.St → Hp → Prop} (e : v = w) (h : gName i w σ H k) : gName i v σ H k := by
  subst e
  exact h
theorem ixE {n : Nat} {i : Int} (h0 : 0 ≤ i) (h1 : i < n) : ixN n i = some i.toNat := by
  unfold ixN
  rw [if_pos h0, if_pos (by omega)]
section
variable {P : Program} {w : World} {K : PySem.W.Frag} {mg : Str → Option Value} {base : Heap}
/-! ending_from: slots 0:items 1:start 2:endings 3:kind 4:number 5:moment -/
abbrev s_ending_from : Stmt := topS 25
theorem sc_ending_from : FnScope ["items", "start", "endings", "kind", "number", "moment"] ["items", "start", "endings"] (defScope s_ending_from) := ⟨rfl, rfl, rfl, by decide +kernel, rfl, by decide +kernel, by decide +kernel⟩
def sp_ending_from : Sp := fun vs H Q _ => ∃ (a e : Addr) (items : List Str) (s : Nat) (xs : List V), vs = [.ref a, .int s, .ref e] ∧ H a = some (.lst (items.map V.str)) ∧ H e = some (.lst xs) ∧ EndL H xs items (s + 1) ∧ s < items.length ∧ items.length ≤ 400 ∧ ∀ H' v, Same H H' → StV H' v (stI (items.drop s) none) → Q v H'
theorem ok_ending_from (D : Df K mg "ending_from" s_ending_from) (T : Tx mg) : Has P w K mg base 1 "ending_from" ["items", "start", "endings"] sp_ending_from := by
  refine has_of D sc_ending_from (fun _ _ _ _ _ _ us hl => match us, hl with | [_, _, _], _ => rfl) (fun vs H Q E h => ?_) (fun f cdv A outer s₀ H vs Q E hr h => ?_)
  · obtain ⟨_, _, _, _, _, rfl, _⟩ := h
    rfl
  · obtain ⟨a, e, items, s, xs, rfl, ha, he, ⟨lx, hE⟩, ls, l4, q⟩ := h
    obtain ⟨k, hk⟩ : ∃ k, items[s]? = some k := ⟨_, List.getElem?_eq_getElem ls⟩
    have at' : ∀ (i : Nat) (x : Str), items[i]? = some x → atI (items.map V.str) (i : Int) = some (.str x) := fun i x h => atI_ofR (by omega) (by rw [Int.toNat_natCast, List.getElem?_map, h]; rfl)
    refine ⟨_, (pss_cons (ps_set (i := 3) sc_ending_from.nd rfl (by first | exact Or.inl rfl | exact Or.inr rfl) (pe_ix ix_list (pv 0) (pv 1) (fun _ _ => rfl)))
    (pss_cons (ps_set (i := 4) sc_ending_from.nd rfl (by first | exact Or.inl rfl | exact Or.inr rfl) pe_int)
    (pss_cons (ps_for PassesOwn.never rfl (pi_range2 (by rfl) T.n_range (pa_cons (pv 1) (pa_cons (pe_callB call_len_seq (by rfl) T.n_len (by decide +kernel) (pa_cons (pv 0) pa_nil)) pa_nil))) (pg_name (i := 5) sc_ending_from.nd rfl (by first | exact Or.inl rfl | exact Or.inr rfl))
      (pss_cons (ps_aug (i := 4) sc_ending_from.nd rfl (by first | exact Or.inl rfl | exact Or.inr rfl) (pe_ifExp (pt_cmpR op_eq (pe_ix ix_list (pv 0) (pv 5) (fun _ _ => rfl)) (pv 3) (nomark _)) pe_int (pe_un un_neg pe_int)) ip_add)
    (pss_one (ps_if (pt_cmpR op_eq (pv 4) pe_int (nomark _)) (pss_one (ps_ret (pe_ix ix_list (pv 2) (pe_op op_add (pv 5) pe_int) (fun _ _ => rfl)))) pss_nil))))
    (pss_one (ps_ret (pe_tup (pa_cons (pv 3) (pa_cons (pv 4) pa_nil)))))))), ?_⟩
    refine ⟨_, rfl, _, rfl, a, _, (s : Int), _, rfl, rfl, .of ha, at' s k hk, ?_⟩
    have lm : (items.map V.str).length = items.length := List.length_map ..
    refine ⟨_, rfl, _, rfl, a, _, rfl, .inl (.of ha), (s : Int), ((items.map V.str).length : Int), rfl, ⟨by omega, by omega, by omega, by omega⟩, for_range (lo := (s : Int)) (n := _) (fun i σ H' => ∃ (n : Int) (y5 : Option V), σ = [some (.ref a), some (.int s), some (.ref e), some (.str k), some (.int n), y5] ∧ H' = H ∧ 0 ≤ n ∧ (n = 0 ↔ i = 0) ∧ s + i ≤ items.length ∧ stI (items.drop s) none = stI (items.drop (s + i)) (withR k n))
      ⟨0, none, rfl, rfl, Int.le_refl _, ⟨fun _ => rfl, fun _ => rfl⟩, by omega, by rw [with0]; rfl⟩ (fun i σ H2 hi hP => ?_) (fun σ H2 hP => ?_)⟩
    · obtain ⟨n, y5, rfl, rfl, n0, ni, sl, eq⟩ := hP
      have hi : i < ((items.map V.str).length - (s : Int)).toNat := hi
      have li : s + i < items.length := by omega
      obtain ⟨x, hx⟩ : ∃ x, items[s + i]? = some x := ⟨_, List.getElem?_eq_getElem li⟩
      have ex : atI (items.map V.str) ((s : Int) + (i : Int)) = some (.str x) := by
        have := at' (s + i) x hx
        rw [show ((s + i : Nat) : Int) = (s : Int) + (i : Int) by omega] at this
        exact this
      have xk : n = 0 → x = k := fun z => by
        rw [ni.mp z, Nat.add_zero, hk] at hx
        exact (Option.some.inj hx).symm
      have st : stI (items.drop s) none = stI (items.drop (s + i + 1)) (withR k (n + if x = k then 1 else -1)) := by
        rw [eq, stI_drop hx, step_with n0 xk]
      refine ⟨_, rfl, _, rfl, _, rfl, a, _, _, _, rfl, rfl, .of ha, ex, _, rfl, rfl, _, rfl, ?_⟩
      obtain ⟨c, ec⟩ : ∃ c : Int, c = n + (if x = k then 1 else -1) := ⟨_, rfl⟩
      rw [← ec] at st
      have cc : 0 ≤ c := by
        rw [ec]
        split
        · omega
        · rename_i z
          have : n ≠ 0 := fun q => z (xk q)
          omega
      have hEnd := hE (s + i + 1) (by omega) (by omega)
      obtain ⟨vE, hvE, hsE⟩ := hEnd
      have exE : atI xs ((s : Int) + (i : Int) + 1) = some vE := atI_ofR (by omega) (by rw [show ((s : Int) + (i : Int) + 1).toNat = s + i + 1 by omega]; exact hvE)
      refine ite2 (fun e1 => ?_) (fun e1 => ?_)
      · have e1 : x = k := V.str.inj (of_decide_eq_true e1)
        rw [if_pos e1] at ec
        refine ⟨_, _, rfl, rfl, _, rfl, rfl, _, rfl, iteN (decide_eq_false (fun z => ?_)) ⟨c, some (.int ((s : Int) + (i : Int))), ?_, rfl, cc, ⟨fun z => ?_, fun z => by omega⟩, by omega, st⟩⟩
        · have : n + 1 = 0 := V.int.inj z
          omega
        · rw [ec]
          rfl
        · omega
      · have e1 : ¬ x = k := fun z => e1 (decide_eq_true (by rw [z]))
        rw [if_neg e1] at ec
        refine ⟨_, rfl, _, _, rfl, rfl, _, rfl, rfl, _, rfl, ite2 (fun e2 => ?_) (fun e2 => ?_)⟩
        · have e2 : n + -1 = 0 := V.int.inj (of_decide_eq_true e2)
          refine ⟨_, rfl, _, rfl, _, _, rfl, rfl, e, _, _, _, rfl, rfl, .of he, exE, q _ _ (Same.refl _) ?_⟩
          rw [st, show c = 0 by omega, with0]
          exact hsE
        · have e2 : ¬ n + -1 = 0 := fun z => e2 (decide_eq_true (by show V.int (n + -1) = V.int 0; rw [z]))
          refine ⟨c, some (.int ((s : Int) + (i : Int))), ?_, rfl, cc, ⟨fun z => by omega, fun z => by omega⟩, by omega, st⟩
          rw [ec]
          rfl
    · obtain ⟨n, y5, rfl, rfl, n0, ni, sl, eq⟩ := hP
      have en : s + ((items.map V.str).length - (s : Int)).toNat = items.length := by omega
      rw [en, List.drop_length] at eq
      refine ⟨_, rfl, _, rfl, (by show 2 ≤ sizeLine; decide), fun t nt => q _ _ (same_upd nt) ?_⟩
      rw [eq]
      show StV _ _ (withR k n)
      rw [with_pos (by have := ni.mp; omega)]
      exact ⟨t, rfl, upd_same⟩
/-! endings_of: slots 0:items 1:endings 2:start -/
abbrev s_endings_of : Stmt := topS 26
theorem sc_endings_of : FnScope ["items", "endings", "start"] ["items"] (defScope s_endings_of) := ⟨rfl, rfl, rfl, by decide +kernel, rfl, by decide +kernel, by decide +kernel⟩
def sp_endings_of : Sp := fun vs H Q _ => ∃ (a : Addr) (items : List Str), vs = [.ref a] ∧ H a = some (.lst (items.map V.str)) ∧ items.length ≤ 400 ∧ ∀ H' e xs, Same H H' → H e = none → H' e = some (.lst xs) → EndL H' xs items 0 → Q (.ref e) H'
theorem ok_endings_of (D : Df K mg "endings_of" s_endings_of) (T : Tx mg) (G_ending_from : Has P w K mg base 1 "ending_from" ["items", "start", "endings"] sp_ending_from) : Has P w K mg base 2 "endings_of" ["items"] sp_endings_of := by
  refine has_of D sc_endings_of (fun _ _ _ _ _ _ us hl => match us, hl with | [_], _ => rfl) (fun vs H Q E h => ?_) (fun f cdv A outer s₀ H vs Q E hr h => ?_)
  · obtain ⟨_, _, rfl, _⟩ := h
    rfl
  · obtain ⟨a, items, rfl, ha, l4, q⟩ := h
    have lm : (items.map V.str).length = items.length := List.length_map ..
    refine ⟨_, (pss_cons (ps_set (i := 1) sc_endings_of.nd rfl (by first | exact Or.inl rfl | exact Or.inr rfl) (pe_op op_rep (pe_lst (pa_cons pe_non pa_nil)) (pe_op op_add (pe_callB call_len_seq (by rfl) T.n_len (by decide +kernel) (pa_cons (pv 0) pa_nil)) pe_int)))
    (pss_cons (ps_for PassesOwn.never rfl (pi_revR (by rfl) T.n_reversed (prg_1 (by rfl) T.n_range (pe_callB call_len_seq (by rfl) T.n_len (by decide +kernel) (pa_cons (pv 0) pa_nil)))) (pg_name (i := 2) sc_endings_of.nd rfl (by first | exact Or.inl rfl | exact Or.inr rfl))
      (pss_one (ps_asg (pe_callH G_ending_from (hr.mono (by omega)) (by rfl) (pa_cons (pv 0) (pa_cons (pv 2) (pa_cons (pv 1) pa_nil)))) (pg_sub (pv 1) (pv 2) set_list))))
    (pss_one (ps_ret (pv 1))))), ?_⟩
    refine ⟨(by show 1 ≤ sizeLine; decide), fun l1 n1 => ?_⟩
    have s1 := same_upd (o := .lst [.non]) n1
    refine ⟨_, rfl, a, _, rfl, .inl (.of (s1 _ _ ha)), _, _, rfl, rfl, l1, _, [.non], rfl, rfl, upd_same, (by omega), (by omega), smallE (by show 1 * (((items.map V.str).length : Int) + 1).toNat ≤ 1000000; omega), fun e ne => ?_⟩
    rw [flat_one]
    have en : (((items.map V.str).length : Int) + 1).toNat = items.length + 1 := by omega
    rw [en]
    have sA := s1.trans (same_upd (o := .lst (List.replicate (items.length + 1) .non)) ne)
    have neH : H e = none := s1.free ne
    have hE0 : (upd (upd H l1 (.lst [.non])) e (.lst (List.replicate (items.length + 1) .non))) e = some (.lst (List.replicate (items.length + 1) .non)) := upd_same
    generalize upd (upd H l1 (.lst [.non])) e (.lst (List.replicate (items.length + 1) .non)) = H2 at *
    refine ⟨_, rfl, a, _, rfl, .inl (.of (sA _ _ ha)), _, rfl, by decide, by decide, by omega, by omega, for_it walk_rangeC (fun i σ H' => ∃ y2 xs, σ = [some (.ref a), some (.ref e), y2] ∧ Same H H' ∧ H' e = some (.lst xs) ∧ EndL H' xs items (items.length - i))
      ⟨none, _, rfl, sA, hE0, ?_, fun m m1 m2 => ?_⟩ (fun _ _ _ _ _ => trivial) (fun i x σ Ha Hb hi hP hY => ?_) (fun σ H' hP => ?_)⟩
    · rw [List.length_replicate]
    · have : m = items.length := by omega
      subst this
      refine ⟨.non, ?_, ?_⟩
      · rw [List.getElem?_replicate, if_pos (by omega)]
      · rw [List.drop_length]
        rfl
    · obtain ⟨y2, xs, rfl, sm, hxs, hE⟩ := hP
      obtain ⟨rfl, rfl⟩ := hY
      have hi : i < (((items.map V.str).length : Int) - 0).toNat := hi
      have ei : (0 + (((((items.map V.str).length : Int) - 0).toNat : Nat) : Int) - 1 + (i : Nat) * (-1) : Int) = ((items.length - 1 - i : Nat) : Int) := by omega
      refine g_at (congrArg V.int ei) ?_
      obtain ⟨s, es⟩ : ∃ s : Nat, s = items.length - 1 - i := ⟨_, rfl⟩
      rw [← es]
      have e1 : items.length - i = s + 1 := by omega
      have e2 : items.length - (i + 1) = s := by omega
      rw [e1] at hE
      rw [e2]
      refine ⟨_, rfl, _, rfl, _, rfl, a, e, items, s, xs, rfl, sm _ _ ha, hxs, hE, by omega, l4, fun H3 v s3 hv => ?_⟩
      obtain ⟨lx, hEv⟩ := hE
      have hx3 := s3 _ _ hxs
      refine ⟨_, rfl, _, rfl, e, xs, (s : Int), s, rfl, rfl, hx3, ?_, ?_⟩
      · have := ixE (n := xs.length) (i := (s : Int)) (by omega) (by omega)
        rw [Int.toNat_natCast] at this
        exact this
      · refine ⟨_, xs.set s v, rfl, same_grow neH (sm.trans s3), upd_same, by rw [List.length_set]; exact lx, fun m m1 m2 => ?_⟩
        by_cases em : m = s
        · subst em
          exact ⟨v, by rw [List.getElem?_set_self (by omega)], hv.growE hx3⟩
        · obtain ⟨u, hu, hus⟩ := hEv m (by omega) m2
          exact ⟨u, by rw [List.getElem?_set_ne (fun z => em z.symm)]; exact hu, (hus.same s3).growE hx3⟩
    · obtain ⟨y2, xs, rfl, sm, hxs, hE⟩ := hP
      rw [show items.length - (((items.map V.str).length : Int) - 0).toNat = 0 by omega] at hE
      exact ⟨_, rfl, q _ e xs sm neH hxs hE⟩
/-! effects_up_to: slots 0:items 1:endings 2:kind 3:most 4:effects 5:change 6:moment 7:item -/
abbrev s_effects_up_to : Stmt := topS 27
theorem sc_effects_up_to : FnScope ["items", "endings", "kind", "most", "effects", "change", "moment", "item"] ["items", "endings", "kind", "most"] (defScope s_effects_up_to) := ⟨rfl, rfl, rfl, by decide +kernel, rfl, by decide +kernel, by decide +kernel⟩
def sp_effects_up_to : Sp := fun vs H Q _ => ∃ (a e : Addr) (items : List Str) (k : Str) (M : Nat) (xs : List V), vs = [.ref a, .ref e, .str k, .int M] ∧ H a = some (.lst (items.map V.str)) ∧ H e = some (.lst xs) ∧ EndL H xs items 0 ∧ items.length ≤ M ∧ M ≤ 400 ∧
  ∀ H' p es, Same H H' → H p = none → StL H' p es → es.length = M + 1 → (∀ n : Nat, n < M + 1 → es[n]? = some (fxR items k n)) → Q (.ref p) H'
theorem ok_effects_up_to (D : Df K mg "effects_up_to" s_effects_up_to) (T : Tx mg) (G_state_with : Has P w K mg base 1 "state_with" ["kind", "number"] sp_state_with) : Has P w K mg base 2 "effects_up_to" ["items", "endings", "kind", "most"] sp_effects_up_to := by
  refine has_of D sc_effects_up_to (fun _ _ _ _ _ _ us hl => match us, hl with | [_, _, _, _], _ => rfl) (fun vs H Q E h => ?_) (fun f cdv A outer s₀ H vs Q E hr h => ?_)
  · obtain ⟨_, _, _, _, _, _, rfl, _⟩ := h
    rfl
  · obtain ⟨a, e, items, k, M, xs, rfl, ha, he, ⟨lx, hE⟩, lM, l4, q⟩ := h
    have lm : (items.map V.str).length = items.length := List.length_map ..
    obtain ⟨v0, hv0, hs0⟩ := hE 0 (Nat.le_refl _) (Nat.zero_le _)
    have atE : ∀ (i : Nat) (v : V), xs[i]? = some v → atI xs (i : Int) = some v := fun i v h => atI_ofR (by omega) (by rw [Int.toNat_natCast]; exact h)
    refine ⟨_, (pss_cons (ps_set (i := 4) sc_effects_up_to.nd rfl (by first | exact Or.inl rfl | exact Or.inr rfl) (pe_lst (pa_cons (pe_ix ix_list (pv 1) pe_int (fun _ _ => rfl)) pa_nil)))
    (pss_cons (ps_set (i := 5) sc_effects_up_to.nd rfl (by first | exact Or.inl rfl | exact Or.inr rfl) pe_int)
    (pss_cons (ps_for PassesOwn.never rfl (pi_enum (by rfl) T.n_enumerate (pa_cons (pv 0) pa_nil)) (pg_tup rfl (pgs_cons (pg_name (i := 6) sc_effects_up_to.nd rfl (by first | exact Or.inl rfl | exact Or.inr rfl)) (pgs_cons (pg_name (i := 7) sc_effects_up_to.nd rfl (by first | exact Or.inl rfl | exact Or.inr rfl)) pgs_nil)))
      (C8.pss_cut (ps_aug (i := 5) sc_effects_up_to.nd rfl (by first | exact Or.inl rfl | exact Or.inr rfl) (pe_ifExp (pt_cmpR op_eq (pv 7) (pv 2) (nomark _)) pe_int (pe_un un_neg pe_int)) ip_add)
    (pss_one (ps_if (pt_cmpR op_eq (pv 5) (pe_un un_neg (pe_callB call_len_seq (by rfl) T.n_len (by decide +kernel) (pa_cons (pv 4) pa_nil))) (nomark _)) (pss_one (ps_expr (pe_bm PySem.F.plainAttrs_list PySem.F.slot_list_append PySem.F.type_list_append mt_append (pv 4) (pa_cons (pe_ix ix_list (pv 1) (pe_op op_add (pv 6) pe_int) (fun _ _ => rfl)) pa_nil)))) pss_nil))))
    (pss_cons (ps_while PassesOwn.never (pt_cmpR op_le (pe_callB call_len_seq (by rfl) T.n_len (by decide +kernel) (pa_cons (pv 4) pa_nil)) (pv 3) (nomark _))
      (pss_one (ps_expr (pe_bm PySem.F.plainAttrs_list PySem.F.slot_list_append PySem.F.type_list_append mt_append (pv 4) (pa_cons (pe_callH G_state_with (hr.mono (by omega)) (by rfl) (pa_cons (pv 2) (pa_cons (pe_op op_add (pe_callB call_len_seq (by rfl) T.n_len (by decide +kernel) (pa_cons (pv 4) pa_nil)) (pv 5)) pa_nil))) pa_nil)))))
    (pss_one (ps_ret (pv 4))))))), ?_⟩
    refine ⟨_, rfl, e, _, 0, _, rfl, rfl, .of he, atE 0 v0 hv0, (by show 1 ≤ sizeLine; decide), fun p np => ?_⟩
    have s1 := same_upd (o := .lst [v0]) np
    have hp : StL (upd H p (.lst [v0])) p [fxR items k 0] := ⟨_, upd_same, .cons (by unfold fxR; rw [with0]; exact hs0.same s1) .nil⟩
    have ep : e ≠ p := ne_of_none he np
    have ap : a ≠ p := ne_of_none ha np
    have he1 := s1 _ _ he
    generalize upd H p (.lst [v0]) = H1 at *
    -- the items
    refine ⟨_, rfl, a, _, rfl, .of (s1 _ _ ha), for_it (walk_enum (xs := items.map V.str)) (fun i σ H' => ∃ y6 y7 es, σ = [some (.ref a), some (.ref e), some (.str k), some (.int M), some (.ref p), some (.int (chR (items.take i) k)), y6, y7] ∧ Same H H' ∧ StL H' p es ∧ Low items k i es.length ∧ ∀ n : Nat, n < es.length → es[n]? = some (fxR items k n))
      ⟨none, none, _, rfl, s1, hp, Low.start items k, fun n hn => ?_⟩ (fun i σ H' _ hP => ?_) (fun i x σ Ha Hb hi hP hY => ?_) (fun σ H' hP => ?_)⟩
    · have : n = 0 := by
        have : n < 1 := hn
        omega
      subst this
      rfl
    · obtain ⟨_, _, _, _, sm, _⟩ := hP
      exact .of (sm _ _ ha)
    · obtain ⟨y6, y7, es, rfl, sm, ⟨zs, hz, hpz⟩, low, val⟩ := hP
      obtain ⟨Tt, x1, x2, rfl, nT, rfl, g1, g2⟩ := hY
      cases g1
      have g2 : (items.map V.str)[i]? = some x2 := g2
      rw [List.getElem?_map] at g2
      cases ex : items[i]? with
      | none =>
        rw [ex] at g2
        cases g2
      | some x =>
        rw [ex] at g2
        cases g2
        have sT := same_upd (o := .tup [.int (i : Nat), .str x]) nT
        have li : i < items.length := (List.getElem?_eq_some_iff.mp ex).1
        have lz := Paired.len hpz
        have ch : chR (items.take (i + 1)) k = chR (items.take i) k + if x = k then 1 else -1 := by rw [take_snoc ex, chR_snoc]
        have hzT := sT _ _ hz
        have hpT := sts_same sT hpz
        have smT := sm.trans sT
        have heT := smT _ _ he
        have hTt : (upd Ha Tt (.tup [.int (i : Nat), .str x])) Tt = some (.tup [.int (i : Nat), .str x]) := upd_same
        generalize upd Ha Tt (.tup [.int (i : Nat), .str x]) = Hc at *
        obtain ⟨vE, hvE, hsE⟩ := hE (i + 1) (Nat.zero_le _) (by omega)
        have l4' := low.le
        have exE : atI xs ((i : Int) + 1) = some vE := by
          have := atE (i + 1) vE hvE
          rw [show ((i + 1 : Nat) : Int) = (i : Int) + 1 by omega] at this
          exact this
        refine ⟨Tt, _, rfl, .of hTt, rfl, _, _, rfl, _, _, rfl, rfl, ?_⟩
        refine ⟨fun σ' H' => σ' = [some (.ref a), some (.ref e), some (.str k), some (.int M), some (.ref p), some (.int (chR (items.take (i + 1)) k)), some (.int (i : Nat)), some (.str x)] ∧ H' = Hc, ?_, fun σ' Hd hM => ?_⟩
        · refine ⟨_, rfl, _, rfl, _, rfl, rfl, _, rfl, ite2 (fun e1 => ?_) (fun e1 => ?_)⟩
          · have e1 : x = k := V.str.inj (of_decide_eq_true e1)
            rw [if_pos e1] at ch
            refine ⟨_, _, rfl, rfl, ?_, rfl⟩
            rw [ch]
            rfl
          · have e1 : ¬ x = k := fun z => e1 (decide_eq_true (by rw [z]))
            rw [if_neg e1] at ch
            refine ⟨_, rfl, _, _, rfl, rfl, ?_, rfl⟩
            rw [ch]
            rfl
        obtain ⟨rfl, rfl⟩ := hM
        refine ⟨_, rfl, _, rfl, p, _, rfl, .inl (.of hzT), _, rfl, rfl, _, rfl, ite2 (fun e1 => ?_) (fun e1 => ?_)⟩
        · have e1 : chR (items.take (i + 1)) k = -(zs.length : Int) := V.int.inj (of_decide_eq_true e1)
          rw [lz] at e1
          obtain ⟨low2, fx⟩ := low.more ex e1
          refine ⟨_, rfl, .inl ⟨rfl, _, SqL.of hzT⟩, _, rfl, _, rfl, _, _, rfl, rfl, e, _, _, _, rfl, rfl, .of heT, exE, p, _, _, rfl, rfl, hzT, small (by omega), ?_⟩
          refine ⟨_, _, es ++ [fxR items k es.length], rfl, same_grow np smT, ⟨_, upd_same, Paired.app (sts_grow hzT hpT) (.cons ?_ .nil)⟩, ?_, fun n hn => ?_⟩
          · rw [fx]
            exact (hsE.same smT).growE hzT
          · rw [List.length_append]
            exact low2
          · rw [List.length_append] at hn
            have hn : n < es.length + 1 := hn
            by_cases en : n < es.length
            · rw [List.getElem?_append_left en]
              exact val n en
            · have : n = es.length := by omega
              subst this
              rw [List.getElem?_append_right (Nat.le_refl _), Nat.sub_self]
              rfl
        · have e1 : ¬ chR (items.take (i + 1)) k = -(es.length : Int) := fun z => e1 (decide_eq_true (by rw [z, ← lz]))
          exact ⟨_, _, es, rfl, smT, ⟨zs, hzT, hpT⟩, low.stay ex e1, val⟩
    · obtain ⟨y6, y7, es, rfl, sm, hz, low, val⟩ := hP
      rw [lm, List.take_length] at *
      obtain ⟨L0, eL0⟩ : ∃ L0, L0 = es.length := ⟨_, rfl⟩
      rw [← eL0] at low
      refine ⟨fun m σ H' => ∃ es, σ = [some (.ref a), some (.ref e), some (.str k), some (.int M), some (.ref p), some (.int (chR items k)), y6, y7] ∧ m = M + 1 - es.length ∧ Same H H' ∧ StL H' p es ∧ L0 ≤ es.length ∧ es.length ≤ M + 1 ∧ ∀ n : Nat, n < es.length → es[n]? = some (fxR items k n), ⟨_, es, rfl, rfl, sm, hz, by omega, by have := low.le; omega, val⟩, fun m σ H4 hP => ?_⟩
      clear sm hz val eL0
      obtain ⟨es, rfl, rfl, sm, ⟨zs, hz, hpz⟩, l0, l1, val⟩ := hP
      have lz := Paired.len hpz
      refine ⟨_, rfl, p, _, rfl, .inl (.of hz), _, rfl, _, _, rfl, rfl, _, rfl, ite2 (fun e1 => ?_) (fun e1 => ?_)⟩
      · have e1 : (zs.length : Int) ≤ M := of_decide_eq_true e1
        refine ⟨fun σ' H' => ∃ es', σ' = [some (.ref a), some (.ref e), some (.str k), some (.int M), some (.ref p), some (.int (chR items k)), y6, y7] ∧ M + 1 - es'.length < M + 1 - es.length ∧ Same H H' ∧ StL H' p es' ∧ L0 ≤ es'.length ∧ es'.length ≤ M + 1 ∧ ∀ n : Nat, n < es'.length → es'[n]? = some (fxR items k n), fun σ' H' z => ?_, ?_⟩
        · obtain ⟨es', e1, e2, r⟩ := z
          exact ⟨_, e2, es', e1, rfl, r⟩
        have fx : fxR items k es.length = withR k ((zs.length : Int) + chR items k) := by
          have := (low.far es.length (by omega)).2
          rw [List.take_length] at this
          unfold fxR
          rw [this, lz]
        refine ⟨_, rfl, .inl ⟨rfl, _, SqL.of hz⟩, _, rfl, _, rfl, p, _, rfl, .inl (.of hz), _, rfl, _, _, rfl, rfl, k, _, rfl, fun H5 v s5 hv => ⟨p, _, _, rfl, rfl, s5 _ _ hz, small (by omega), ?_⟩⟩
        have hz5 := s5 _ _ hz
        refine ⟨es ++ [fxR items k es.length], rfl, by rw [List.length_append]; show M + 1 - (es.length + 1) < _; omega, same_grow np (sm.trans s5), ⟨_, upd_same, Paired.app (sts_grow hz5 (sts_same s5 hpz)) (.cons ?_ .nil)⟩, by rw [List.length_append]; omega, by rw [List.length_append]; show es.length + 1 ≤ M + 1; omega, fun n hn => ?_⟩
        · rw [fx]
          exact hv.growE hz5
        · rw [List.length_append] at hn
          have hn : n < es.length + 1 := hn
          by_cases en : n < es.length
          · rw [List.getElem?_append_left en]
            exact val n en
          · have : n = es.length := by omega
            subst this
            rw [List.getElem?_append_right (Nat.le_refl _), Nat.sub_self]
            rfl
      · have e1 : ¬ (zs.length : Int) ≤ M := fun z => e1 (decide_eq_true z)
        exact ⟨_, rfl, q _ p es sm np ⟨zs, hz, hpz⟩ (by omega) (fun n hn => val n (by omega))⟩
end
end UP

set_option Elab.async false
set_option linter.all false
set_option maxRecDepth 100000
set_option maxHeartbeats 4000000
set_option pp.maxSteps 600
namespace UP
open PySem PySem.Spec PyProof.Rows L2
theorem pe_glS {X : Cx} {x : Str} {z : Str} {pos : Pos} (h : ∃ t, X.mg x = some (.str z t)) (hg : Gl X x) (hd : (x == ("__debug__" : Str)) = false := by decide) : PE X (.Name x pos) (tC (.str z)) := by
  obtain ⟨t, h⟩ := h
  exact pe_glob hg h ⟨t, rfl⟩ hd
theorem inV_strsW (k : Str) (ks : List Str) : inV (.str k) (ks.map V.str) = decide (k ∈ ks) := by
  unfold inV
  rw [List.any_map]
  induction ks with
  | nil => rfl
  | cons x t ih =>
    rw [List.any_cons, ih]
    by_cases e : k = x
    · subst e
      simp [eqV]
    · have e2 : ¬ x = k := fun z => e z.symm
      simp [eqV, e, e2]
theorem flat_strsW (ks : List Str) : (ks.map V.str).all flatV = true := by
  rw [List.all_map, List.all_eq_true]
  intro k _
  rfl
theorem nodup_sub : ∀ (l B : List Str), l.Nodup → (∀ x ∈ l, x ∈ B) → l.length ≤ B.length
  | [], _, _, _ => Nat.zero_le _
  | x :: l, B, nd, sub => by
    obtain ⟨n1, n2⟩ := List.nodup_cons.mp nd
    have hx := sub x List.mem_cons_self
    have h1 := nodup_sub l (B.erase x) n2 fun y hy => (List.mem_erase_of_ne (fun e => n1 (by rw [← e]; exact hy))).mpr (sub y (List.mem_cons_of_mem _ hy))
    have h2 := List.length_erase_of_mem hx
    have h3 := List.length_pos_of_mem hx
    rw [List.length_cons]
    omega
theorem str_atW {l : List Str} {i : Nat} {x : V} (h : (l.map V.str)[i]? = some x) : ∃ k, l[i]? = some k ∧ x = .str k := by
  rw [List.getElem?_map] at h
  obtain ⟨k, ek, rfl⟩ := Option.map_eq_some_iff.mp h
  exact ⟨k, ek, rfl⟩
/-! ### a kind that does not come -/
theorem step_kind {F : Str → Prop} {s : Option Run} {x : Str} (hx : F x) (hs : ∀ r, s = some r → F r.1) : ∀ r, stepR s x 1 = some r → F r.1 := by
  intro r e
  cases s with
  | none =>
    cases e
    exact hx
  | some y =>
    have hy := hs y rfl
    by_cases c : y.1 = x
    · rw [step_same c] at e
      cases e
      exact hx
    · rw [step_other c] at e
      split at e
      · cases e
        exact hy
      · split at e
        · cases e
        · cases e
          exact hx
theorem stI_kind {F : Str → Prop} : ∀ (l : List Str) (s : Option Run), (∀ x ∈ l, F x) → (∀ r, s = some r → F r.1) → ∀ r, stI l s = some r → F r.1
  | [], _, _, hs => hs
  | x :: l, s, hl, hs => stI_kind l (stepR s x 1) (fun y hy => hl y (List.mem_cons_of_mem _ hy)) (step_kind (hl x List.mem_cons_self) hs)
theorem fx_free {k : Str} : ∀ (l : List Str) (n : Nat), k ∉ l → stI l (withR k n) = if l.length < n then withR k (((n - l.length : Nat)) : Int) else stI (l.drop n) none
  | [], 0, _ => rfl
  | [], n + 1, _ => (if_pos (Nat.succ_pos n)).symm
  | x :: l, 0, _ => by
    rw [if_neg (Nat.not_lt_zero _)]
    rfl
  | x :: l, n + 1, h => by
    have hx : ¬ x = k := fun e => h (by rw [e]; exact List.mem_cons_self)
    have ih := fx_free l n fun e => h (List.mem_cons_of_mem _ e)
    have e1 : stepR (withR k ((n + 1 : Nat) : Int)) x 1 = withR k (n : Int) := by
      rw [step_with (by omega) (fun z => by omega), if_neg hx]
      congr 1
      omega
    show stI l (stepR (withR k ((n + 1 : Nat) : Int)) x 1) = _
    rw [e1, ih, List.length_cons, List.drop_succ_cons]
    by_cases c : l.length < n
    · rw [if_pos c, if_pos (by omega), show n + 1 - (l.length + 1) = n - l.length by omega]
    · rw [if_neg c, if_neg (by omega)]
def EqK (A B : List Str) (k : Str) (n : Nat) : Prop := fxR A k (n : Int) = fxR B k (n : Int)
theorem free_no {B : List Str} {k : Str} (h : k ∉ B) {m n : Nat} (hm : 0 < m) : withR k (m : Int) ≠ stI (B.drop n) none := fun e => by
  rw [with_pos (by omega)] at e
  exact stI_kind (F := fun x => x ≠ k) (B.drop n) none (fun x hx z => h (by rw [← z]; exact List.mem_of_mem_drop hx)) (fun r z => by cases z) _ e.symm rfl
theorem with_num {k : Str} {a b : Nat} (ha : 0 < a) (hb : 0 < b) (e : withR k (a : Int) = withR k (b : Int)) : a = b := by
  rw [with_pos (by omega), with_pos (by omega)] at e
  have h : ((a : Nat) : Int) = ((b : Nat) : Int) := congrArg Prod.snd (Option.some.inj e)
  omega
theorem free_imp {A B : List Str} {k k' : Str} (h1 : k ∉ A) (h2 : k ∉ B) (h3 : k' ∉ A) (h4 : k' ∉ B) {n : Nat} (h : EqK A B k n) : EqK A B k' n := by
  unfold EqK fxR at h ⊢
  rw [fx_free A n h1, fx_free B n h2] at h
  rw [fx_free A n h3, fx_free B n h4]
  by_cases ca : A.length < n
  · rw [if_pos ca] at h ⊢
    by_cases cb : B.length < n
    · rw [if_pos cb] at h ⊢
      rw [with_num (by omega) (by omega) h]
    · rw [if_neg cb] at h
      exact absurd h (free_no h2 (by omega))
  · rw [if_neg ca] at h ⊢
    by_cases cb : B.length < n
    · rw [if_pos cb] at h
      exact absurd h.symm (free_no h1 (by omega))
    · rw [if_neg cb] at h ⊢
      exact h
/-- the same effects up to the greater length -/
def AllEq (A B : List Str) : Prop := ∀ (k : Str) (n : Nat), n ≤ max A.length B.length → EqK A B k n
theorem AllEq.of {A B : List Str} {o : Str} (ho : o ∉ A ∧ o ∉ B) (h1 : ∀ k, k ∈ A ++ B → ∀ n : Nat, n ≤ max A.length B.length → EqK A B k n) (h2 : ∀ n : Nat, n ≤ max A.length B.length → EqK A B o n) : AllEq A B := fun k n hn => by
  by_cases c : k ∈ A ++ B
  · exact h1 k c n hn
  · exact free_imp ho.1 ho.2 (fun z => c (List.mem_append_left _ z)) (fun z => c (List.mem_append_right _ z)) (h2 n hn)
theorem AllEq.symm {A B : List Str} (h : AllEq A B) : AllEq B A := fun k n hn => (h k n (by rw [Nat.max_comm]; exact hn)).symm
/-! ### another kind -/
def t3 (n : Nat) : Str := ⟨#[97, 97, 97 + n]⟩
theorem t3_nd : ((List.range 22).map t3).Nodup := by decide +kernel
theorem t3_ok : ∀ n : Fin 22, KindOk (t3 n.val) := by decide +kernel
def azS : Str := "abcdefghijklmnopqrstuvwxyz"
section
variable {P : Program} {w : World} {K : PySem.W.Frag} {mg : Str → Option Value} {base : Heap}
/-! three_letters: slots 0:number -/
abbrev s_three_letters : Stmt := topS 29
theorem sc_three_letters : FnScope ["number"] ["number"] (defScope s_three_letters) := ⟨rfl, rfl, rfl, by decide +kernel, rfl, by decide +kernel, by decide +kernel⟩
def sp_three_letters : Sp := fun vs H Q _ => ∃ n : Nat, vs = [.int n] ∧ n ≤ 21 ∧ Q (.str (t3 n)) H
theorem ok_three_letters (D : Df K mg "three_letters" s_three_letters) (T : Tx mg) : Has P w K mg base 1 "three_letters" ["number"] sp_three_letters := by
  refine has_of D sc_three_letters (fun _ _ _ _ _ _ us hl => match us, hl with | [_], _ => rfl) (fun vs H Q E h => ?_) (fun f cdv A outer s₀ H vs Q E hr h => ?_)
  · obtain ⟨_, rfl, _⟩ := h
    rfl
  · obtain ⟨n, rfl, hn, q⟩ := h
    refine ⟨_, (pss_one (ps_ret (pe_op op_add_str (pe_op op_add_str (pe_ix ix_str (pe_glS T.s_LETTERS (by rfl)) (pe_op op_fdivW (pv 0) pe_int) (fun _ _ => rfl)) (pe_ix ix_str (pe_glS T.s_LETTERS (by rfl)) (pe_op op_mod (pe_op op_fdivW (pv 0) pe_int) pe_int) (fun _ _ => rfl))) (pe_ix ix_str (pe_glS T.s_LETTERS (by rfl)) (pe_op op_mod (pv 0) pe_int) (fun _ _ => rfl))))), ?_⟩
    have e1 : (n : Int) / 676 = 0 := by omega
    have e2 : (n : Int) / 26 % 26 = 0 := by omega
    have e3 : (n : Int) % 26 = n := by omega
    have at0 : atI azS.cps.toList 0 = some 97 := by decide +kernel
    have atn : atI azS.cps.toList (n : Int) = some (97 + n) := atI_ofR (by omega) (by
      rw [Int.toNat_natCast]
      have h : ∀ m : Fin 22, azS.cps.toList[m.val]? = some (97 + m.val) := by decide +kernel
      exact h ⟨n, by omega⟩)
    have small : azS.length ≤ sizeLine := by decide +kernel
    refine ⟨_, rfl, _, _, rfl, rfl, ⟨by decide, by decide +kernel⟩, azS, _, 97, rfl, rfl, small, by rw [e1]; exact at0, ?_⟩
    refine ⟨_, rfl, _, _, rfl, rfl, ⟨by decide, by decide +kernel⟩, _, _, rfl, rfl, (by show (0 : Int) < 26; decide), azS, _, 97, rfl, rfl, small, by rw [e2]; exact at0, _, _, rfl, rfl, by show 1 + 1 ≤ sizeLine; decide, ?_⟩
    refine ⟨_, rfl, _, _, rfl, rfl, (by show (0 : Int) < 26; decide), azS, _, 97 + n, rfl, rfl, small, by rw [e3]; exact atn, _, _, rfl, rfl, by show 2 + 1 ≤ sizeLine; decide, ?_⟩
    exact q
/-! other_kind: slots 0:kinds 1:number -/
abbrev s_other_kind : Stmt := topS 28
theorem sc_other_kind : FnScope ["kinds", "number"] ["kinds"] (defScope s_other_kind) := ⟨rfl, rfl, rfl, by decide +kernel, rfl, by decide +kernel, by decide +kernel⟩
def sp_other_kind : Sp := fun vs H Q _ => ∃ (a : Addr) (ks : List Str), vs = [.ref a] ∧ H a = some (.lst (ks.map V.str)) ∧ ks.length ≤ 20 ∧ ∀ o, o ∉ ks → KindOk o → Q (.str o) H
theorem ok_other_kind (D : Df K mg "other_kind" s_other_kind) (G_three_letters : Has P w K mg base 1 "three_letters" ["number"] sp_three_letters) : Has P w K mg base 2 "other_kind" ["kinds"] sp_other_kind := by
  refine has_of D sc_other_kind (fun _ _ _ _ _ _ us hl => match us, hl with | [_], _ => rfl) (fun vs H Q E h => ?_) (fun f cdv A outer s₀ H vs Q E hr h => ?_)
  · obtain ⟨_, _, rfl, _⟩ := h
    rfl
  · obtain ⟨a, ks, rfl, ha, l20, q⟩ := h
    refine ⟨_, (pss_cons (ps_set (i := 1) sc_other_kind.nd rfl (by first | exact Or.inl rfl | exact Or.inr rfl) pe_int)
    (pss_cons (ps_while PassesOwn.never (pt_cmpR op_in_seq (pe_callH G_three_letters (hr.mono (by omega)) (by rfl) (pa_cons (pv 1) pa_nil)) (pv 0) (by with_unfolding_all rfl))
      (pss_one (ps_aug (i := 1) sc_other_kind.nd rfl (by first | exact Or.inl rfl | exact Or.inr rfl) pe_int ip_add)))
    (pss_one (ps_ret (pe_callH G_three_letters (hr.mono (by omega)) (by rfl) (pa_cons (pv 1) pa_nil)))))), ?_⟩
    refine ⟨fun m σ H' => ∃ n : Nat, σ = [some (.ref a), some (.int n)] ∧ H' = H ∧ m = 21 - n ∧ ∀ j < n, t3 j ∈ ks, ⟨_, 0, rfl, rfl, rfl, fun j hj => absurd hj (Nat.not_lt_zero _)⟩, fun m σ H' hP => ?_⟩
    obtain ⟨n, rfl, rfl, rfl, hn⟩ := hP
    have n20 : n ≤ 20 := by
      have h := nodup_sub ((List.range n).map t3) ks ?_ ?_
      · rw [List.length_map, List.length_range] at h
        omega
      · by_cases c : n ≤ 22
        · have e : (List.range n).map t3 = ((List.range 22).map t3).take n := by
            rw [← List.map_take, List.take_range, Nat.min_eq_left c]
          rw [e]
          exact t3_nd.sublist (List.take_sublist ..)
        · exfalso
          have h := nodup_sub ((List.range 22).map t3) ks t3_nd fun x hx => by
            obtain ⟨j, hj, rfl⟩ := List.mem_map.mp hx
            exact hn j (by have := List.mem_range.mp hj; omega)
          rw [List.length_map, List.length_range] at h
          omega
      · intro x hx
        obtain ⟨j, hj, rfl⟩ := List.mem_map.mp hx
        exact hn j (List.mem_range.mp hj)
    refine ⟨_, rfl, n, rfl, by omega, _, rfl, a, _, rfl, .inl (.of ha), rfl, flat_strsW ks, _, rfl, ?_⟩
    rw [show (if false = true then !inV (V.str (t3 n)) (ks.map V.str) else inV (V.str (t3 n)) (ks.map V.str)) = decide (t3 n ∈ ks) from inV_strsW _ _]
    by_cases c : t3 n ∈ ks
    · rw [decide_eq_true c]
      refine iteT ⟨fun σ' H'' => σ' = [some (.ref a), some (.int ((n : Int) + 1))] ∧ H'' = H', fun σ' H'' z => ⟨21 - (n + 1), by omega, n + 1, z.1, z.2, rfl, fun j hj => ?_⟩, ?_⟩
      · by_cases e : j = n
        · rw [e]
          exact c
        · exact hn j (by omega)
      · exact ⟨_, rfl, _, _, rfl, rfl, rfl, rfl⟩
    · rw [decide_eq_false c]
      exact iteF ⟨_, rfl, n, rfl, by omega, q _ c (t3_ok ⟨n, by omega⟩)⟩
/-! first_difference: slots 0:first 1:second 2:kinds 3:most 4:first_endings 5:second_endings 6:kind 7:effects 8:others 9:number -/
abbrev s_first_difference : Stmt := topS 30
theorem sc_first_difference : FnScope ["first", "second", "kinds", "most", "first_endings", "second_endings", "kind", "effects", "others", "number"] ["first", "second"] (defScope s_first_difference) := ⟨rfl, rfl, rfl, by decide +kernel, rfl, by decide +kernel, by decide +kernel⟩
def sp_first_difference : Sp := fun vs H Q _ => ∃ (a b : Addr) (A B : List Str), vs = [.ref a, .ref b] ∧ H a = some (.lst (A.map V.str)) ∧ H b = some (.lst (B.map V.str)) ∧ A.length ≤ 400 ∧ B.length ≤ 400 ∧ (∀ x ∈ A, KindOk x) ∧ (∀ x ∈ B, KindOk x) ∧ (setS (A ++ B)).length ≤ 20 ∧
  (∀ H' p v k (n : Nat), Same H H' → H p = none → H' p = some (.lst [v]) → StV H' v (withR k (n : Int)) → KindOk k → n ≤ max A.length B.length → ¬ EqK A B k n → Q (.ref p) H') ∧ ∀ H' p, Same H H' → H p = none → H' p = some (.lst []) → AllEq A B → Q (.ref p) H'
theorem ok_first_difference (D : Df K mg "first_difference" s_first_difference) (T : Tx mg) (G_endings_of : Has P w K mg base 2 "endings_of" ["items"] sp_endings_of) (G_effects_up_to : Has P w K mg base 2 "effects_up_to" ["items", "endings", "kind", "most"] sp_effects_up_to)
    (G_other_kind : Has P w K mg base 2 "other_kind" ["kinds"] sp_other_kind) (G_state_with : Has P w K mg base 1 "state_with" ["kind", "number"] sp_state_with) : Has P w K mg base 3 "first_difference" ["first", "second"] sp_first_difference := by
  refine has_of D sc_first_difference (fun _ _ _ _ _ _ us hl => match us, hl with | [_, _], _ => rfl) (fun vs H Q E h => ?_) (fun f cdv A outer s₀ H vs Q E hr h => ?_)
  · obtain ⟨_, _, _, _, rfl, _⟩ := h
    rfl
  · obtain ⟨a, b, A, B, rfl, ha, hb, lA, lB, okA, okB, s20, q1, q2⟩ := h
    refine ⟨_, (pss_cons (ps_set (i := 2) sc_first_difference.nd rfl (by first | exact Or.inl rfl | exact Or.inr rfl) (pe_callB (cr_sortSSw (w := w) rfl rfl) (by rfl) T.n_sorted (by decide +kernel) (pa_cons (pe_callTy (cr_setSw (K := K) (w := w) rfl rfl rfl) (by rfl) T.n_set (by decide +kernel) (pa_cons (pe_op op_cat (pv 0) (pv 1)) pa_nil)) pa_nil)))
    (pss_cons (ps_set (i := 3) sc_first_difference.nd rfl (by first | exact Or.inl rfl | exact Or.inr rfl) (pe_callB (call_max2 rfl) (by rfl) T.n_max (by decide +kernel) (pa_cons (pe_callB call_len_seq (by rfl) T.n_len (by decide +kernel) (pa_cons (pv 0) pa_nil)) (pa_cons (pe_callB call_len_seq (by rfl) T.n_len (by decide +kernel) (pa_cons (pv 1) pa_nil)) pa_nil))))
    (pss_cons (ps_set (i := 4) sc_first_difference.nd rfl (by first | exact Or.inl rfl | exact Or.inr rfl) (pe_callH G_endings_of (hr.mono (by omega)) (by rfl) (pa_cons (pv 0) pa_nil)))
    (pss_cons (ps_set (i := 5) sc_first_difference.nd rfl (by first | exact Or.inl rfl | exact Or.inr rfl) (pe_callH G_endings_of (hr.mono (by omega)) (by rfl) (pa_cons (pv 1) pa_nil)))
    (pss_cons (ps_for PassesOwn.never rfl (pi_list (pe_op op_cat (pv 2) (pe_lst (pa_cons (pe_callH G_other_kind (hr.mono (by omega)) (by rfl) (pa_cons (pv 2) pa_nil)) pa_nil)))) (pg_name (i := 6) sc_first_difference.nd rfl (by first | exact Or.inl rfl | exact Or.inr rfl))
      (pss_cons (ps_set (i := 7) sc_first_difference.nd rfl (by first | exact Or.inl rfl | exact Or.inr rfl) (pe_callH G_effects_up_to (hr.mono (by omega)) (by rfl) (pa_cons (pv 0) (pa_cons (pv 4) (pa_cons (pv 6) (pa_cons (pv 3) pa_nil))))))
    (pss_cons (ps_set (i := 8) sc_first_difference.nd rfl (by first | exact Or.inl rfl | exact Or.inr rfl) (pe_callH G_effects_up_to (hr.mono (by omega)) (by rfl) (pa_cons (pv 1) (pa_cons (pv 5) (pa_cons (pv 6) (pa_cons (pv 3) pa_nil))))))
    (pss_one (ps_for PassesOwn.never rfl (pi_range1 (by rfl) T.n_range (pa_cons (pe_op op_add (pv 3) pe_int) pa_nil)) (pg_name (i := 9) sc_first_difference.nd rfl (by first | exact Or.inl rfl | exact Or.inr rfl))
      (pss_one (ps_if (pt_cmpR (op_neD hr.units) (pe_ix ix_list (pv 7) (pv 9) (fun _ _ => rfl)) (pe_ix ix_list (pv 8) (pv 9) (fun _ _ => rfl)) (nomark _)) (pss_one (ps_ret (pe_lst (pa_cons (pe_callH G_state_with (hr.mono (by omega)) (by rfl) (pa_cons (pv 6) (pa_cons (pv 9) pa_nil))) pa_nil)))) pss_nil)))))))
    (pss_one (ps_ret (pe_lst pa_nil)))))))), ?_⟩
    refine ⟨_, rfl, _, rfl, a, b, _, _, rfl, rfl, ha, hb, smallE (by simp only [List.length_map]; omega), fun c nc => ?_⟩
    rw [← List.map_append]
    have sc := same_upd (o := .lst ((A ++ B).map V.str)) nc
    refine ⟨c, A ++ B, rfl, .of upd_same, (by show (A ++ B).length + 1 < 4096; rw [List.length_append]; omega), fun ps nps => ⟨ps, _, rfl, upd_same, by omega, fun ks pk pm so npk => ?_⟩⟩
    have s1 := sc.trans ((same_upd (o := StS w ps (setS (A ++ B))) nps).trans (same_upd (o := .lst (ks.map V.str)) npk))
    have hk : (upd (upd (upd H c (.lst ((A ++ B).map V.str))) ps (StS w ps (setS (A ++ B)))) pk (.lst (ks.map V.str))) pk = some (.lst (ks.map V.str)) := upd_same
    have ha1 := s1 _ _ ha
    have hb1 := s1 _ _ hb
    generalize upd (upd (upd H c (.lst ((A ++ B).map V.str))) ps (StS w ps (setS (A ++ B)))) pk (.lst (ks.map V.str)) = H1 at *
    have lks : ks.length ≤ 20 := by rw [pm.length_eq]; exact s20
    have memk : ∀ k, k ∈ ks ↔ k ∈ A ++ B := fun k => pm.mem_iff.trans setS_mem
    refine ⟨_, rfl, a, _, rfl, .inl (.of ha1), _, rfl, b, _, rfl, .inl (.of hb1), _, _, rfl, ?_⟩
    rw [List.length_map, List.length_map]
    have em : (if ((A.length : Nat) : Int) < ((B.length : Nat) : Int) then ((B.length : Nat) : Int) else ((A.length : Nat) : Int)) = ((max A.length B.length : Nat) : Int) := by
      split <;> omega
    rw [em]
    obtain ⟨M, eM⟩ : ∃ M, M = max A.length B.length := ⟨_, rfl⟩
    have mA : A.length ≤ M := by omega
    have mB : B.length ≤ M := by omega
    have m4 : M ≤ 400 := by omega
    rw [← eM]
    rw [← eM] at q1
    clear sc nc nps npk em
    refine ⟨_, rfl, a, A, rfl, ha1, lA, fun H2 ea xa s2 na hea hEa => ?_⟩
    refine ⟨_, rfl, b, B, rfl, s2 _ _ hb1, lB, fun H3 eb xb s3 nb heb hEb => ?_⟩
    have ends : ∀ {H' H'' : Hp} {xs : List V} {its : List Str}, Same H' H'' → EndL H' xs its 0 → EndL H'' xs its 0 := fun s h => ⟨h.1, fun m h1 h2 => by
      obtain ⟨v, e, sv⟩ := h.2 m h1 h2
      exact ⟨v, e, sv.same s⟩⟩
    have s13 := s2.trans s3
    have hk3 := s13 _ _ hk
    refine ⟨_, rfl, _, rfl, pk, ks, rfl, hk3, lks, fun o ho ko => ⟨(by show 1 ≤ sizeLine; decide), fun l nl => ?_⟩⟩
    have s4 := same_upd (o := .lst [.str o]) nl
    have hl4 : (upd H3 l (.lst [.str o])) l = some (.lst [.str o]) := upd_same
    refine ⟨pk, l, _, _, rfl, rfl, s4 _ _ hk3, hl4, smallE (by rw [List.length_map]; show ks.length + 1 ≤ _; omega), fun L nL => ?_⟩
    have eL : ks.map V.str ++ [V.str o] = (ks ++ [o]).map V.str := by rw [List.map_append]; rfl
    rw [eL]
    have s35 := s4.trans (same_upd (o := .lst ((ks ++ [o]).map V.str)) nL)
    have hL : (upd (upd H3 l (.lst [.str o])) L (.lst ((ks ++ [o]).map V.str))) L = some (.lst ((ks ++ [o]).map V.str)) := upd_same
    have ha5 := s35 _ _ (s13 _ _ ha1)
    have hb5 := s35 _ _ (s13 _ _ hb1)
    have hea5 := s35 _ _ (s3 _ _ hea)
    have heb5 := s35 _ _ heb
    have hEa5 := ends (s3.trans s35) hEa
    have hEb5 := ends s35 hEb
    have s05 : Same H _ := s1.trans (s13.trans s35)
    generalize upd (upd H3 l (.lst [.str o])) L (.lst ((ks ++ [o]).map V.str)) = H5 at *
    have kok : ∀ k ∈ ks ++ [o], KindOk k := fun k hk => by
      rcases List.mem_append.mp hk with z | z
      · rcases List.mem_append.mp ((memk k).mp z) with z | z
        · exact okA k z
        · exact okB k z
      · rw [List.mem_singleton.mp z]
        exact ko
    have oNo : o ∉ A ∧ o ∉ B := ⟨fun z => ho ((memk o).mpr (List.mem_append_left _ z)), fun z => ho ((memk o).mpr (List.mem_append_right _ z))⟩
    clear s4 hl4 s35 s13 s2 s3 hk hk3 ha1 hb1 hea heb hEa hEb nl nL s1 na nb
    refine ⟨L, rfl, ⟨_, .of hL⟩, for_list (K := K) (a := L) (xs := (ks ++ [o]).map V.str) (fun i σ H' => ∃ y6 y7 y8 y9, σ = [some (.ref a), some (.ref b), some (.ref pk), some (.int M), some (.ref ea), some (.ref eb), y6, y7, y8, y9] ∧ Same H5 H' ∧ ∀ k ∈ (ks ++ [o]).take i, ∀ n : Nat, n ≤ M → EqK A B k n)
      ⟨none, none, none, none, rfl, Same.refl _, fun k hk => by rw [List.take_zero] at hk; cases hk⟩ (fun i σ H' _ hP => ?_) (fun i x σ H6 ex hP => ?_) (fun σ H6 hP => ?_)⟩
    · obtain ⟨_, _, _, _, _, sm, _⟩ := hP
      exact .of (sm _ _ hL)
    · obtain ⟨y6, y7, y8, y9, rfl, sm, alle⟩ := hP
      obtain ⟨k, ek, rfl⟩ := str_atW ex
      have kk := kok k (List.mem_of_getElem? ek)
      refine ⟨_, rfl, _, rfl, _, rfl, _, rfl, a, ea, A, k, M, xa, rfl, sm _ _ ha5, sm _ _ hea5, ends sm hEa5, mA, m4, fun H7 p7 es s7 n7 h7 l7 v7 => ?_⟩
      have sm7 := sm.trans s7
      refine ⟨_, rfl, _, rfl, _, rfl, _, rfl, b, eb, B, k, M, xb, rfl, sm7 _ _ hb5, sm7 _ _ heb5, ends sm7 hEb5, mB, m4, fun H8 p8 fs s8 n8 h8 l8 v8 => ?_⟩
      have sm8 := sm7.trans s8
      obtain ⟨xs7, hx7, hp7⟩ := h7.same s8
      obtain ⟨xs8, hx8, hp8⟩ := h8
      have nfx : ∀ (X : List Str), (∀ x ∈ X, KindOk x) → ∀ m : Nat, StOk (fxR X k (m : Int)) := fun X hX m => stOk_stI X _ hX (ok_with kk (by omega))
      refine ⟨_, rfl, _, _, rfl, rfl, _, rfl, by omega, by omega, for_range (lo := 0) (n := _) (fun i2 σ H' => ∃ y9, σ = [some (.ref a), some (.ref b), some (.ref pk), some (.int M), some (.ref ea), some (.ref eb), some (.str k), some (.ref p7), some (.ref p8), y9] ∧ Same H8 H' ∧ ∀ m : Nat, m < i2 → EqK A B k m)
        ⟨_, rfl, Same.refl _, fun m hm => absurd hm (Nat.not_lt_zero _)⟩ (fun i2 σ H9 hi2 hP => ?_) (fun σ H9 hP => ?_)⟩
      · obtain ⟨y9, rfl, s9, eqs⟩ := hP
        have hi2 : i2 < M + 1 := by omega
        obtain ⟨x1, e1, g1⟩ := Paired.at' hp7 (v7 i2 hi2)
        obtain ⟨x2, e2, g2⟩ := Paired.at' hp8 (v8 i2 hi2)
        have at_ : ∀ {xs : List V} {x : V}, xs[i2]? = some x → atI xs (0 + (i2 : Int)) = some x := fun h => atI_ofR (by omega) (by rw [Int.zero_add, Int.toNat_natCast]; exact h)
        refine ⟨_, rfl, _, rfl, p7, _, _, _, rfl, rfl, .of (s9 _ _ hx7), at_ e1, _, rfl, _, rfl, p8, _, _, _, rfl, rfl, .of (s9 _ _ hx8), at_ e2, dOt (fxR A k (i2 : Int)), dOt (fxR B k (i2 : Int)), dp_o (g1.same s9), dp_o (g2.same s9), shaped_o (nfx A okA i2), shaped_o (nfx B okB i2), _, rfl, ?_⟩
        rw [eqv_o]
        by_cases c : fxR A k (i2 : Int) = fxR B k (i2 : Int)
        · rw [decide_eq_true c]
          refine iteF ⟨_, rfl, s9, fun m hm => ?_⟩
          by_cases e : m = i2
          · rw [e]
            exact c
          · exact eqs m (by omega)
        · rw [decide_eq_false c]
          refine iteT ⟨_, rfl, _, rfl, k, _, rfl, fun H10 v s10 hv => ⟨(by show 1 ≤ sizeLine; decide), fun r nr => ?_⟩⟩
          have sA : Same H5 H10 := (sm8.trans s9).trans s10
          rw [Int.zero_add] at hv
          exact q1 _ r v k i2 ((s05.trans sA).trans (same_upd nr)) ((s05.trans sA).free nr) upd_same (hv.same (same_upd nr)) kk (by omega) c
      · obtain ⟨y9, rfl, s9, eqs⟩ := hP
        refine ⟨_, _, _, _, rfl, sm8.trans s9, fun z hz n hn => ?_⟩
        rw [take_snoc ek] at hz
        rcases List.mem_append.mp hz with h | h
        · exact alle z h n hn
        · rw [List.mem_singleton.mp h]
          exact eqs n (by omega)
    · obtain ⟨y6, y7, y8, y9, rfl, sm, alle⟩ := hP
      rw [List.length_map, List.take_length] at alle
      refine ⟨Nat.zero_le _, fun r nr => ?_⟩
      rw [eM] at alle
      exact q2 _ r ((s05.trans sm).trans (same_upd nr)) ((s05.trans sm).free nr) upd_same (AllEq.of oNo (fun k hk => alle k (List.mem_append_left _ ((memk k).mpr hk))) (alle o (List.mem_append_right _ List.mem_cons_self)))
end
end UP

set_option Elab.async false
set_option linter.all false
set_option maxRecDepth 100000
set_option maxHeartbeats 4000000
set_option pp.maxSteps 600
namespace UP
open PySem PySem.Spec PyProof.Rows L2
section
variable (P : Program) (w : World) (K : PySem.W.Frag) (mg : Str → Option Value) (base : Heap)
def HasX (k : Nat) (x : Str) (ps : List Str) (sp : Sp) : Prop :=
  ∃ f fd, mg x = some (.ref f) ∧ PySem.W.keepIn K (.ref f) = true ∧ Binds K fd ps [] ∧ FnOk P w K mg base (L2.CX P w) k f fd ps sp
end
section
variable {P : Program} {w : World} {K : PySem.W.Frag} {mg : Str → Option Value} {base : Heap}
theorem hasX_of {x : Str} {st : Stmt} {ps N : List Str} {k : Nat} {sp : Sp} (D : Df K mg x st) (S : FnScope N ps (defScope st))
    (hb : ∀ (kV doc pm : Value) (an : Option Addr) (cdv ct : Value) (us : List Value), us.length = ps.length → bindArgs (PySem.W.fnOf x x (defArgs st) (defBody st) (defScope st) .none kV doc pm an cdv ct) ⟨us, []⟩ = pure (ps.zip us))
    (len : ∀ vs H Q E, sp vs H Q E → vs.length = ps.length)
    (body : ∀ (f : Addr) (cdv : Value) (A : Around) (outer : List Env) (s : Shared) (H : Hp) (vs : List V) (Q : VK) (E : XK), Room k (A.deeper (envOfC x (defScope st) s.heap.objs.size f cdv)) → sp vs H Q E →
      ∃ t, PSs (cxOf (L2.CX P w) P w K mg base N x (defScope st) f cdv A outer s H E) (defBody st) t ∧ t { nx := fun _ H' => Q .non H', rt := Q } (start N vs) H) :
    HasX P w K mg base (k + 1) x ps sp := by
  obtain ⟨f, fd, g, F⟩ := D
  exact ⟨f, fd, g, F.kp, F.binds hb, F.okX S len fun cdv A outer s H vs Q E hr h => body f cdv A outer s H vs Q E hr h⟩
end
section
variable {X : Cx}
theorem pe_callXH {k : Nat} {x : Str} {ps : List Str} {sp : Sp} {W : WX} {p pos : Pos} {e : Expr} {es : List Expr} {t : TA} (G : HasX X.prog X.w X.K X.mg X.base k x ps sp) (tk : Takes X W) (hr : Room k X.A) (hg : Gl X x) (ha : PA X (e :: es) t)
    (hdb : (x == ("__debug__" : Str)) = false := by decide) (he : starEach (e :: es) X.env = (false, eval e X.env) :: starEach es X.env := by rfl) (hpl : (backTo pos (starEach es X.env)).any (·.1) = false := by rfl) :
    PE X (.Call (.Name x p) (e :: es) [] pos) (tCallS sp (WE W) t) := by
  obtain ⟨f, fd, g, kp, b, F⟩ := G
  exact pe_callS F hr hg g kp b (fun σ => passAt tk σ) ha hdb he hpl
theorem takes_no {X : Cx} : Takes X (fun _ _ _ _ => False) := fun _ _ h => by
  obtain ⟨_, _, _, _, _, _, _, _, _, _, _, _, _, _, _, _, z⟩ := h
  exact z.elim
end
/-- the class x of errors stands at C -/
structure Ex (K : PySem.W.Frag) (mg : Str → Option Value) (x : Str) (C : Addr) : Prop where
  g : mg x = some (.ref C)
  x : PySem.W.excIn K C [.type "ValueError", .type "Exception", .type "BaseException", .type "object"] "ValueError.__new__" = true
  k : PySem.W.keepIn K (.ref C) = true
  b : PySem.W.subIn K (.ref C) (.type "BaseException") = some true
  t : PySem.W.typeIn K (.ref C) = some (.type "type")
  em : PySem.W.exmOne K (.ref C) (.ref C) = some true
theorem eqv_oneN (x : PyData) : PyData.eqv (.list [x]) (.list []) = false := by
  rw [PyData.eqv, PyData.eqvAll]
theorem shaped_oneO {k : Str} {n : Int} (kk : KindOk k) : SeqAt.shaped (.list [dOt (withR k n)]) = true := by
  unfold withR
  split
  · decide +kernel
  · exact shaped_runs (rs := [(k, n)]) fun r hr => by
      rw [List.mem_singleton.mp hr]
      exact kk
section
variable {P : Program} {w : World} {K : PySem.W.Frag} {mg : Str → Option Value} {base : Heap}
/-! _law_packed: slots 0:items 1:found 2:kind -/
abbrev s_law_packed : Stmt := topS 43
theorem sc_law_packed : FnScope ["items", "found", "kind"] ["items"] (defScope s_law_packed) := ⟨rfl, rfl, rfl, by decide +kernel, rfl, by decide +kernel, by decide +kernel⟩
def sp_law_packed : Sp := fun vs H Q _ => ∃ (a : Addr) (its : List Str), vs = [.ref a] ∧ H a = some (.lst (its.map V.str)) ∧ its.length ≤ 100000 ∧ (∀ k ∈ its, KindOk k) ∧ ∀ H' p, Same H H' → H p = none → Runs H' p (runR its) → Q (.ref p) H'
theorem ok_law_packed (D : Df K mg "_law_packed" s_law_packed) : Has P w K mg base 1 "_law_packed" ["items"] sp_law_packed := by
  refine has_of D sc_law_packed (fun _ _ _ _ _ _ us hl => match us, hl with | [_], _ => rfl) (fun vs H Q E h => ?_) (fun f cdv A outer s₀ H vs Q E hr h => ?_)
  · obtain ⟨a, R, rfl, _⟩ := h
    rfl
  · obtain ⟨a, its, rfl, ha, l4, okk, q⟩ := h
    refine ⟨_, (pss_cons (ps_set (i := 1) sc_law_packed.nd rfl (by first | exact Or.inl rfl | exact Or.inr rfl) (pe_lst pa_nil))
    (pss_cons (ps_for PassesOwn.never rfl (pi_list (pv 0)) (pg_name (i := 2) sc_law_packed.nd rfl (by first | exact Or.inl rfl | exact Or.inr rfl))
      (pss_one (ps_if (PW.pt (pw_and (pt_cmpR (op_neD hr.units) (pv 1) (pe_lst pa_nil) (nomark _)) (pw_and1 (pt_cmpR op_eq (pe_ix ix_tup (pe_ix ix_list (pv 1) (pe_un un_neg pe_int) (fun _ _ => rfl)) pe_int (fun _ _ => rfl)) (pv 2) (nomark _))))) (pss_one (ps_asg (pe_tup (pa_cons (pv 2) (pa_cons (pe_op op_add (pe_ix ix_tup (pe_ix ix_list (pv 1) (pe_un un_neg pe_int) (fun _ _ => rfl)) pe_int (fun _ _ => rfl)) pe_int) pa_nil))) (pg_sub (pv 1) (pe_un un_neg pe_int) set_list))) (pss_one (ps_expr (pe_bm PySem.F.plainAttrs_list PySem.F.slot_list_append PySem.F.type_list_append mt_append (pv 1) (pa_cons (pe_tup (pa_cons (pv 2) (pa_cons pe_int pa_nil))) pa_nil)))))))
    (pss_one (ps_ret (pv 1))))), ?_⟩
    refine ⟨Nat.zero_le _, fun p np => ?_⟩
    have ap : a ≠ p := ne_of_none ha np
    refine ⟨_, rfl, a, rfl, ⟨_, .of (same_upd np _ _ ha)⟩, for_list (K := K) (a := a) (xs := its.map V.str) (fun i σ H' => ∃ y3, σ = [some (.ref a), some (.ref p), y3] ∧ Same H H' ∧ Runs H' p (runR (its.take i)) ∧ ∀ r ∈ runR (its.take i), 1 ≤ r.2)
      ⟨none, rfl, same_upd np, ⟨[], upd_same, .nil⟩, fun r h => by cases h⟩ (fun i σ H' _ hP => ?_) (fun i x σ H1 ex hP => ?_) (fun σ H1 hP => ?_)⟩
    · obtain ⟨_, _, sm, _⟩ := hP
      exact .of (sm _ _ ha)
    · obtain ⟨y3, rfl, sm, ⟨xs, hx, hp⟩, pos⟩ := hP
      obtain ⟨k, ek, rfl⟩ := str_atW ex
      have hi : i < its.length := (List.getElem?_eq_some_iff.mp ek).1
      have al := runs_all (its.take (i + 1))
      rw [take_snoc ek, runR_snoc] at al ⊢
      have posN := al.pos
      have lr : (runR (its.take i)).length ≤ 100000 := by
        have h1 := runR_len (its.take i)
        rw [List.length_take] at h1
        omega
      have okR : ∀ r ∈ runR (its.take i), KindOk r.1 := fun r hr => by
        exact okk _ (List.mem_of_mem_take ((runs_all (its.take i)).mem r hr))
      generalize hrs : runR (its.take i) = rs at hp lr okR posN ⊢
      have lx : xs.length = rs.length := Paired.len hp
      have app : ∀ (u : Addr), H1 u = none → (addR rs (k, 1) = rs ++ [(k, 1)]) → ∃ y3, [some (V.ref a), some (V.ref p), some (V.str k)] = [some (.ref a), some (.ref p), y3] ∧ Same H (upd (upd H1 u (.tup [.str k, .int 1])) p (.lst (xs ++ [.ref u]))) ∧ Runs (upd (upd H1 u (.tup [.str k, .int 1])) p (.lst (xs ++ [.ref u]))) p (addR rs (k, 1)) ∧ ∀ r ∈ addR rs (k, 1), 1 ≤ r.2 := by
        intro u nn e
        refine ⟨_, rfl, same_grow np (sm.trans (same_upd nn)), ⟨_, upd_same, ?_⟩, posN⟩
        rw [e]
        exact Paired.app (prs_grow (same_upd nn _ _ hx) (prs_same (same_upd nn) hp)) (.cons (RunV.grow (r := (k, 1)) (same_upd nn _ _ hx) ⟨u, rfl, upd_same⟩) .nil)
      rcases List.eq_nil_or_concat rs with e0 | ⟨R0, l, e0⟩
      · subst e0
        cases hp
        refine ⟨_, rfl, Nat.zero_le _, fun e ne => ?_⟩
        have se : Same H1 (upd H1 e (.lst [])) := same_upd ne
        have sm1 := sm.trans se
        have hx1 := se _ _ hx
        have app := fun u (nn : (upd H1 e (.lst [])) u = none) => app u (se.free nn)
        refine ⟨.list [], .list [], .lst (.of hx1) .nil, .lst (.of upd_same) .nil, shaped_nil, shaped_nil, _, rfl, iteN rfl (iteF ?_)⟩
        refine ⟨_, rfl, .inl ⟨rfl, _, SqL.of hx1⟩, _, rfl, (by show 2 ≤ sizeLine; decide), fun u nn => ⟨p, _, _, rfl, rfl, same_upd nn _ _ hx1, (by show 0 < sizeLine; decide), ?_⟩⟩
        refine ⟨_, rfl, same_grow np (sm1.trans (same_upd nn)), ⟨_, upd_same, .cons (RunV.grow (r := (k, 1)) (same_upd nn _ _ hx1) ⟨u, rfl, upd_same⟩) .nil⟩, posN⟩
      · rw [List.concat_eq_append] at e0
        subst e0
        obtain ⟨ys0, y, rfl, hy0, ⟨tl, rfl, htl⟩⟩ := paired_snoc R0 l hp
        have exl : atI (ys0 ++ [V.ref tl]) (-1) = some (.ref tl) := atI_last _ _
        refine ⟨_, rfl, Nat.zero_le _, fun e ne => ?_⟩
        have se : Same H1 (upd H1 e (.lst [])) := same_upd ne
        refine ⟨.list ((R0 ++ [l]).map dRun), .list [], .lst (.of (se _ _ hx)) (dp_all (prs_same se hp)), .lst (.of upd_same) .nil, shaped_runs okR, shaped_nil, _, rfl, ?_⟩
        rw [eqv_nil]
        have sm1 := sm.trans se
        have hx1 := se _ _ hx
        have hp1 := prs_same se hp
        have hy1 := prs_same se hy0
        have htl1 := se _ _ htl
        clear app hx hp hy0 htl sm
        generalize upd H1 e (.lst []) = H2 at *
        refine iteP (by cases R0 <;> rfl) ⟨_, rfl, 1, rfl, p, _, -1, _, rfl, rfl, .of hx1, exl, tl, _, 0, _, rfl, rfl, .of htl1, at0, _, rfl, rfl, _, rfl, ite2 (fun e1 => ?_) (fun e1 => ?_)⟩
        · have e1 : l.1 = k := V.str.inj (of_decide_eq_true e1)
          have er : addR (R0 ++ [l]) (k, 1) = R0 ++ [(k, l.2 + 1)] := addR_more R0 l (k, 1) e1
          refine ⟨_, rfl, _, rfl, 1, rfl, p, _, -1, _, rfl, rfl, .of hx1, exl, tl, _, 1, _, rfl, rfl, .of htl1, at1, _, _, rfl, rfl, (by show 2 ≤ sizeLine; decide), fun u nn => ⟨_, rfl, 1, rfl, p, _, -1, ys0.length, rfl, rfl, same_upd nn _ _ hx1, ?_, ?_⟩⟩
          · rw [List.length_append]
            exact ixN_last
          · rw [set_last]
            refine ⟨_, rfl, same_grow np (sm1.trans (same_upd nn)), ⟨_, upd_same, ?_⟩, posN⟩
            rw [er]
            exact Paired.app (prs_grow (same_upd nn _ _ hx1) (prs_same (same_upd nn) hy1)) (.cons (RunV.grow (r := (k, l.2 + 1)) (same_upd nn _ _ hx1) ⟨u, rfl, upd_same⟩) .nil)
        · have e1 : ¬ l.1 = k := fun z => e1 (decide_eq_true (by rw [z]))
          have er : addR (R0 ++ [l]) (k, 1) = (R0 ++ [l]) ++ [(k, 1)] := addR_new (r := (k, 1)) fun y hy => by
            rw [List.getLast?_concat] at hy
            cases hy
            exact e1
          refine ⟨_, rfl, .inl ⟨rfl, _, SqL.of hx1⟩, _, rfl, (by show 2 ≤ sizeLine; decide), fun u nn => ⟨p, _, _, rfl, rfl, same_upd nn _ _ hx1, small (by omega), ?_⟩⟩
          refine ⟨_, rfl, same_grow np (sm1.trans (same_upd nn)), ⟨_, upd_same, ?_⟩, posN⟩
          rw [er]
          exact Paired.app (prs_grow (same_upd nn _ _ hx1) (prs_same (same_upd nn) hp1)) (.cons (RunV.grow (r := (k, 1)) (same_upd nn _ _ hx1) ⟨u, rfl, upd_same⟩) .nil)
    · obtain ⟨y3, rfl, sm, hR, _⟩ := hP
      rw [List.length_map, List.take_length] at hR
      exact ⟨_, rfl, q _ _ sm np hR⟩
/-! have_same_effect: slots 0:first 1:second 2:first_items -/
abbrev s_have_same_effect : Stmt := topS 31
theorem sc_have_same_effect : FnScope ["first", "second", "first_items"] ["first", "second"] (defScope s_have_same_effect) := ⟨rfl, rfl, rfl, by decide +kernel, rfl, by decide +kernel, by decide +kernel⟩
def sp_have_same_effect : Sp := fun vs H Q _ => ∃ (u v : V) (rs cs : List Run), vs = [u, v] ∧ RunsG H u rs ∧ SeqOk rs ∧ lenR rs ≤ 400 ∧ RunsG H v cs ∧ SeqOk cs ∧ lenR cs ≤ 400 ∧ (setS (itR rs ++ itR cs)).length ≤ 20 ∧ ∀ H' (r : Bool), Same H H' → (r = true ↔ AllEq (itR rs) (itR cs)) → Q (.bl r) H'
theorem ok_have_same_effect (D : Df K mg "have_same_effect" s_have_same_effect) (G_items_of : Has P w K mg base 7 "items_of" ["sequence"] sp_items_of) (G_first_difference : Has P w K mg base 3 "first_difference" ["first", "second"] sp_first_difference) :
    Has P w K mg base 8 "have_same_effect" ["first", "second"] sp_have_same_effect := by
  refine has_of D sc_have_same_effect (fun _ _ _ _ _ _ us hl => match us, hl with | [_, _], _ => rfl) (fun vs H Q E h => ?_) (fun f cdv A₀ outer s₀ H vs Q E hr h => ?_)
  · obtain ⟨_, _, _, _, rfl, _⟩ := h
    rfl
  · obtain ⟨u, v, rs, cs, rfl, hu, oku, lu, hv, okv, lv, s20, q⟩ := h
    have posu : ∀ r ∈ rs, 1 ≤ r.2 := fun r hr => (oku.2.1 r hr).2.1
    have posv : ∀ r ∈ cs, 1 ≤ r.2 := fun r hr => (okv.2.1 r hr).2.1
    have e1 := len_it rs posu
    have e2 := len_it cs posv
    refine ⟨_, (pss_cons (ps_set (i := 2) sc_have_same_effect.nd rfl (by first | exact Or.inl rfl | exact Or.inr rfl) (pe_callH G_items_of (hr.mono (by omega)) (by rfl) (pa_cons (pv 0) pa_nil)))
    (pss_one (ps_ret (pe_cmpR (op_eqD hr.units) (pe_callH G_first_difference (hr.mono (by omega)) (by rfl) (pa_cons (pv 2) (pa_cons (pe_callH G_items_of (hr.mono (by omega)) (by rfl) (pa_cons (pv 1) pa_nil)) pa_nil))) (pe_lst pa_nil) (nomark _))))), ?_⟩
    refine ⟨_, rfl, u, rs, rfl, hu, oku, lu, fun H1 a s1 na ha => ?_⟩
    refine ⟨_, rfl, _, rfl, v, cs, rfl, hv.same s1, okv, lv, fun H2 b s2 nb hb => ?_⟩
    refine ⟨a, b, itR rs, itR cs, rfl, s2 _ _ ha, hb, by omega, by omega, it_kinds fun r hr => (oku.2.1 r hr).1, it_kinds fun r hr => (okv.2.1 r hr).1, s20, fun H3 p x k n s3 n3 h3 hx kk hn ne => ?_, fun H3 p s3 n3 h3 al => ?_⟩
    · refine ⟨Nat.zero_le _, fun e ne2 => ?_⟩
      have se := same_upd (o := .lst []) ne2
      refine ⟨.list [dOt (withR k n)], .list [], .lst (.of (se _ _ h3)) (.cons (dp_o (hx.same se)) .nil), .lst (.of upd_same) .nil, shaped_oneO kk, shaped_nil, ?_⟩
      rw [eqv_oneN]
      exact q _ _ (s1.trans (s2.trans (s3.trans se))) ⟨fun z => (by cases z), fun al => absurd (al k n hn) ne⟩
    · refine ⟨Nat.zero_le _, fun e ne2 => ?_⟩
      have se := same_upd (o := .lst []) ne2
      refine ⟨.list [], .list [], .lst (.of (se _ _ h3)) .nil, .lst (.of upd_same) .nil, shaped_nil, shaped_nil, ?_⟩
      exact q _ _ (s1.trans (s2.trans (s3.trans se))) ⟨fun _ => al, fun _ => (by decide +kernel)⟩
/-! state_that_differs: slots 0:first 1:second 2:first_items 3:states -/
abbrev s_state_that_differs : Stmt := topS 32
theorem sc_state_that_differs : FnScope ["first", "second", "first_items", "states"] ["first", "second"] (defScope s_state_that_differs) := ⟨rfl, rfl, rfl, by decide +kernel, rfl, by decide +kernel, by decide +kernel⟩
def sp_state_that_differs (CE : Addr) : Sp := fun vs H Q E => ∃ (u v : V) (rs cs : List Run), vs = [u, v] ∧ RunsG H u rs ∧ SeqOk rs ∧ lenR rs ≤ 400 ∧ RunsG H v cs ∧ SeqOk cs ∧ lenR cs ≤ 400 ∧ (setS (itR rs ++ itR cs)).length ≤ 20 ∧
  (∀ H' x k (n : Nat), Same H H' → StV H' x (withR k (n : Int)) → KindOk k → n ≤ max (itR rs).length (itR cs).length → ¬ EqK (itR rs) (itR cs) k n → Q x H') ∧ ∀ H', Same H H' → AllEq (itR rs) (itR cs) → E (.ref CE) none H'
theorem okX_state_that_differs {CE : Addr} (D : Df K mg "state_that_differs" s_state_that_differs) (X1 : Ex K mg "SameEffect" CE) (G_items_of : Has P w K mg base 7 "items_of" ["sequence"] sp_items_of) (G_first_difference : Has P w K mg base 3 "first_difference" ["first", "second"] sp_first_difference) :
    HasX P w K mg base 8 "state_that_differs" ["first", "second"] (sp_state_that_differs CE) := by
  refine hasX_of D sc_state_that_differs (fun _ _ _ _ _ _ us hl => match us, hl with | [_, _], _ => rfl) (fun vs H Q E h => ?_) (fun f cdv A₀ outer s₀ H vs Q E hr h => ?_)
  · obtain ⟨_, _, _, _, rfl, _⟩ := h
    rfl
  · obtain ⟨u, v, rs, cs, rfl, hu, oku, lu, hv, okv, lv, s20, q, qe⟩ := h
    have posu : ∀ r ∈ rs, 1 ≤ r.2 := fun r hr => (oku.2.1 r hr).2.1
    have posv : ∀ r ∈ cs, 1 ≤ r.2 := fun r hr => (okv.2.1 r hr).2.1
    have e1 := len_it rs posu
    have e2 := len_it cs posv
    refine ⟨_, (pss_cons (ps_set (i := 2) sc_state_that_differs.nd rfl (by first | exact Or.inl rfl | exact Or.inr rfl) (pe_callH G_items_of (hr.mono (by omega)) (by rfl) (pa_cons (pv 0) pa_nil)))
    (pss_cons (ps_set (i := 3) sc_state_that_differs.nd rfl (by first | exact Or.inl rfl | exact Or.inr rfl) (pe_callH G_first_difference (hr.mono (by omega)) (by rfl) (pa_cons (pv 2) (pa_cons (pe_callH G_items_of (hr.mono (by omega)) (by rfl) (pa_cons (pv 1) pa_nil)) pa_nil))))
    (pss_cons (ps_if (pt_cmpR (op_eqD hr.units) (pv 3) (pe_lst pa_nil) (nomark _)) (pss_one (ps_raise rfl (takes_of rfl rfl rfl rfl) (pmk_own PySem.F.excBase_ValueError X1.x X1.g X1.k (raises_own X1.b X1.t) (by exact rfl)))) pss_nil)
    (pss_one (ps_ret (pe_ix ix_list (pv 3) pe_int (fun _ _ => rfl))))))), ?_⟩
    refine ⟨_, rfl, u, rs, rfl, hu, oku, lu, fun H1 a s1 na ha => ?_⟩
    refine ⟨_, rfl, _, rfl, v, cs, rfl, hv.same s1, okv, lv, fun H2 b s2 nb hb => ?_⟩
    refine ⟨a, b, itR rs, itR cs, rfl, s2 _ _ ha, hb, by omega, by omega, it_kinds fun r hr => (oku.2.1 r hr).1, it_kinds fun r hr => (okv.2.1 r hr).1, s20, fun H3 p x k n s3 n3 h3 hx kk hn ne => ?_, fun H3 p s3 n3 h3 al => ?_⟩
    · refine ⟨_, rfl, Nat.zero_le _, fun e ne2 => ?_⟩
      have se := same_upd (o := .lst []) ne2
      refine ⟨.list [dOt (withR k n)], .list [], .lst (.of (se _ _ h3)) (.cons (dp_o (hx.same se)) .nil), .lst (.of upd_same) .nil, shaped_oneO kk, shaped_nil, _, rfl, ?_⟩
      rw [eqv_oneN]
      refine iteF ⟨_, rfl, p, _, _, _, rfl, rfl, .of (se _ _ h3), (show atI [x] 0 = some x from rfl), ?_⟩
      exact q _ x k n (s1.trans (s2.trans (s3.trans se))) (hx.same se) kk hn ne
    · refine ⟨_, rfl, Nat.zero_le _, fun e ne2 => ?_⟩
      have se := same_upd (o := .lst []) ne2
      refine ⟨.list [], .list [], .lst (.of (se _ _ h3)) .nil, .lst (.of upd_same) .nil, shaped_nil, shaped_nil, _, rfl, iteP (by decide +kernel) ?_⟩
      exact qe _ (s1.trans (s2.trans (s3.trans se))) al
/-! _law_differs: slots 0:one 1:other -/
abbrev s_law_differs : Stmt := topS 46
theorem sc_law_differs : FnScope ["one", "other"] ["one", "other"] (defScope s_law_differs) := ⟨rfl, rfl, rfl, by decide +kernel, rfl, by decide +kernel, by decide +kernel⟩
def sp_law_differs : Sp := fun vs H Q _ => ∃ (u v : V) (rs cs : List Run), vs = [u, v] ∧ RunsG H u rs ∧ SeqOk rs ∧ lenR rs ≤ 400 ∧ RunsG H v cs ∧ SeqOk cs ∧ lenR cs ≤ 400 ∧ (setS (itR rs ++ itR cs)).length ≤ 20 ∧
  (∀ H' l x k (n : Nat), Same H H' → H l = none → H' l = some (.lst [x]) → StV H' x (withR k (n : Int)) → KindOk k → n ≤ max (itR rs).length (itR cs).length → ¬ EqK (itR rs) (itR cs) k n → Q (.ref l) H') ∧ ∀ H', Same H H' → AllEq (itR rs) (itR cs) → Q .non H'
theorem ok_law_differs {CE : Addr} (D : Df K mg "_law_differs" s_law_differs) (X1 : Ex K mg "SameEffect" CE) (GX_state_that_differs : HasX P w K mg base 8 "state_that_differs" ["first", "second"] (sp_state_that_differs CE)) : Has P w K mg base 9 "_law_differs" ["one", "other"] sp_law_differs := by
  refine has_of D sc_law_differs (fun _ _ _ _ _ _ us hl => match us, hl with | [_, _], _ => rfl) (fun vs H Q E h => ?_) (fun f cdv A₀ outer s₀ H vs Q E hr h => ?_)
  · obtain ⟨_, _, _, _, rfl, _⟩ := h
    rfl
  · obtain ⟨u, v, rs, cs, rfl, hu, oku, lu, hv, okv, lv, s20, q, qn⟩ := h
    refine ⟨_, pss_one (ps_try_only (Wout := fun _ _ _ _ => False) (ts := fun _ _ _ => tRet (tC .non)) (tb := fun W => tRet (tLst (tCons (tCallS (sp_state_that_differs CE) (WE W) (tCons (tVar 0) (tCons (tVar 1) tNil))) tNil))) rfl rfl ⟨rfl, by decide, .inl X1.g⟩ takes_no
      (fun W pn xe tk _ => pss_one (ps_ret (pe_lst (pa_cons (pe_callXH GX_state_that_differs tk (hr.mono (by omega)) (by rfl) (pa_cons (pv 0) (pa_cons (pv 1) pa_nil))) pa_nil)))) (fun a oe cls d pn _ _ => pss_one (ps_ret pe_non))), ?_⟩
    refine ⟨_, rfl, _, rfl, u, v, rs, cs, rfl, hu, oku, lu, hv, okv, lv, s20, fun H1 x k n s1 hx kk hn ne => ?_, fun H1 s1 al => ?_⟩
    · exact ⟨(by show 1 ≤ sizeLine; decide), fun l nl => q _ l x k n (s1.trans (same_upd nl)) (s1.free nl) upd_same (hx.same (same_upd nl)) kk hn ne⟩
    · exact ⟨true, X1.em, fun _ a _ => qn _ s1 al, fun z => by cases z⟩
/-! _law_equal: slots 0:one 1:other 2:kinds 3:size 4:kind 5:count 6:run -/
abbrev s_law_equal : Stmt := topS 45
theorem sc_law_equal : FnScope ["one", "other", "kinds", "size", "kind", "count", "run"] ["one", "other", "kinds"] (defScope s_law_equal) := ⟨rfl, rfl, rfl, by decide +kernel, rfl, by decide +kernel, by decide +kernel⟩
def sp_law_equal : Sp := fun vs H Q _ => ∃ (a b c : Addr) (rs cs : List Run) (ks : List Str), vs = [.ref a, .ref b, .ref c] ∧ Runs H a rs ∧ SeqOk rs ∧ lenR rs ≤ 400 ∧ Runs H b cs ∧ SeqOk cs ∧ lenR cs ≤ 400 ∧ H c = some (.lst (ks.map V.str)) ∧ (∀ k ∈ ks, KindOk k) ∧
  ∀ H' (r : Bool), Same H H' → (r = true ↔ ∀ k ∈ ks, ∀ n : Nat, n ≤ max (itR rs).length (itR cs).length → EqK (itR rs) (itR cs) k n) → Q (.bl r) H'
theorem ok_law_equal (D : Df K mg "_law_equal" s_law_equal) (T : Tx mg) (G_law_end : Has P w K mg base 2 "_law_end" ["runs", "state"] sp_law_end) (G_law_of : Has P w K mg base 1 "_law_of" ["kind", "count"] sp_law_of) : Has P w K mg base 3 "_law_equal" ["one", "other", "kinds"] sp_law_equal := by
  refine has_of D sc_law_equal (fun _ _ _ _ _ _ us hl => match us, hl with | [_, _, _], _ => rfl) (fun vs H Q E h => ?_) (fun f cdv A₀ outer s₀ H vs Q E hr h => ?_)
  · obtain ⟨_, _, _, _, _, _, rfl, _⟩ := h
    rfl
  · obtain ⟨a, b, c, rs, cs, ks, rfl, hR, oku, lu, hC, okv, lv, hk, kk, q⟩ := h
    have posu : ∀ r ∈ rs, 1 ≤ r.2 := fun r hr => (oku.2.1 r hr).2.1
    have posv : ∀ r ∈ cs, 1 ≤ r.2 := fun r hr => (okv.2.1 r hr).2.1
    have e1 := len_it rs posu
    have e2 := len_it cs posv
    refine ⟨_, (pss_cons (ps_set (i := 3) sc_law_equal.nd rfl (by first | exact Or.inl rfl | exact Or.inr rfl) (pe_callB (call_max2 rfl) (by rfl) T.n_max (by decide +kernel) (pa_cons (pe_callB (cr_sum rfl) (by rfl) T.n_sum (by decide +kernel) (pa_cons (pe_lc (own := [("run", 6)]) rfl sc_law_equal.nd (pi_list (pv 0)) (blkOk_by (N := ["one", "other", "kinds", "size", "kind", "count", "run"]) (sc := defScope s_law_equal) (by decide +kernel)) (fun _ _ _ _ _ => (pg_name (i := 6) sc_law_equal.nd rfl (by first | exact Or.inl rfl | exact Or.inr rfl))) (fun _ _ _ _ _ => pts_nil) (fun _ _ _ _ _ => (pe_ix (ix_tupK (K := K) rfl) (pv 6) pe_int (fun _ _ => rfl)))) pa_nil)) (pa_cons (pe_callB (cr_sum rfl) (by rfl) T.n_sum (by decide +kernel) (pa_cons (pe_lc (own := [("run", 6)]) rfl sc_law_equal.nd (pi_list (pv 1)) (blkOk_by (N := ["one", "other", "kinds", "size", "kind", "count", "run"]) (sc := defScope s_law_equal) (by decide +kernel)) (fun _ _ _ _ _ => (pg_name (i := 6) sc_law_equal.nd rfl (by first | exact Or.inl rfl | exact Or.inr rfl))) (fun _ _ _ _ _ => pts_nil) (fun _ _ _ _ _ => (pe_ix (ix_tupK (K := K) rfl) (pv 6) pe_int (fun _ _ => rfl)))) pa_nil)) pa_nil))))
    (pss_cons (ps_for PassesOwn.never rfl (pi_list (pv 2)) (pg_name (i := 4) sc_law_equal.nd rfl (by first | exact Or.inl rfl | exact Or.inr rfl))
      (pss_one (ps_for PassesOwn.never rfl (pi_range1 (by rfl) T.n_range (pa_cons (pe_op op_add (pv 3) pe_int) pa_nil)) (pg_name (i := 5) sc_law_equal.nd rfl (by first | exact Or.inl rfl | exact Or.inr rfl))
      (pss_one (ps_if (pt_cmpR (op_neD hr.units) (pe_callH G_law_end (hr.mono (by omega)) (by rfl) (pa_cons (pv 0) (pa_cons (pe_callH G_law_of (hr.mono (by omega)) (by rfl) (pa_cons (pv 4) (pa_cons (pv 5) pa_nil))) pa_nil))) (pe_callH G_law_end (hr.mono (by omega)) (by rfl) (pa_cons (pv 1) (pa_cons (pe_callH G_law_of (hr.mono (by omega)) (by rfl) (pa_cons (pv 4) (pa_cons (pv 5) pa_nil))) pa_nil))) (nomark _)) (pss_one (ps_ret pe_bl)) pss_nil)))))
    (pss_one (ps_ret pe_bl)))), ?_⟩
    obtain ⟨xs, hx, hxp⟩ := id hR
    obtain ⟨ys, hy, hyp⟩ := id hC
    have lx : xs.length = rs.length := Paired.len hxp
    have ly : ys.length = cs.length := Paired.len hyp
    have l4 := oku.1
    have l5 := okv.1
    refine ⟨_, rfl, a, rfl, ⟨xs, .of hx⟩, fun L nL => lc_list (K := K) (a := a) (xs := xs) (fun i H' => Same H H' ∧ H' L = some (.lst (((rs.map (·.2)).take i).map V.int))) ⟨same_upd nL, upd_same⟩ (fun i H' _ p => .of (p.1 _ _ hx)) (fun i x H1 ex hP => ?_) (fun H1 hP => ?_)⟩
    · obtain ⟨sm, hL⟩ := hP
      obtain ⟨r, er, hr1⟩ := Paired.at hxp ex
      obtain ⟨t, rfl, ht⟩ := RunV.same sm hr1
      refine ⟨rfl, yesT ⟨_, rfl, t, _, _, _, rfl, rfl, .of ht, at1, _, hL, ?_, same_grow nL sm, ?_⟩⟩
      · have hi : i < xs.length := (List.getElem?_eq_some_iff.mp ex).1
        simp only [List.length_map, List.length_take]
        exact smallE (by omega)
      · rw [upd_same, take_snoc (x := r.2) (by rw [List.getElem?_map, er]; rfl), List.map_append]
        rfl
    obtain ⟨s1, hL⟩ := hP
    rw [List.take_of_length_le (by rw [List.length_map]; omega)] at hL
    refine ⟨L, _, rfl, .of hL, ?_⟩
    refine ⟨_, rfl, b, rfl, ⟨ys, .of (s1 _ _ hy)⟩, fun L2 nL2 => lc_list (K := K) (a := b) (xs := ys) (fun i H' => Same H1 H' ∧ H' L2 = some (.lst (((cs.map (·.2)).take i).map V.int))) ⟨same_upd nL2, upd_same⟩ (fun i H' _ p => .of (p.1 _ _ (s1 _ _ hy))) (fun i x H2 ex hP => ?_) (fun H2 hP => ?_)⟩
    · obtain ⟨sm, hL⟩ := hP
      obtain ⟨r, er, hr1⟩ := Paired.at hyp ex
      obtain ⟨t, rfl, ht⟩ := RunV.same (s1.trans sm) hr1
      refine ⟨rfl, yesT ⟨_, rfl, t, _, _, _, rfl, rfl, .of ht, at1, _, hL, ?_, same_grow nL2 sm, ?_⟩⟩
      · have hi : i < ys.length := (List.getElem?_eq_some_iff.mp ex).1
        simp only [List.length_map, List.length_take]
        exact smallE (by omega)
      · rw [upd_same, take_snoc (x := r.2) (by rw [List.getElem?_map, er]; rfl), List.map_append]
        rfl
    obtain ⟨s2, hL2⟩ := hP
    rw [List.take_of_length_le (by rw [List.length_map]; omega)] at hL2
    refine ⟨L2, _, rfl, .of hL2, _, _, rfl, ?_⟩
    have e1' : (rs.map (·.2)).sum = ((itR rs).length : Int) := e1.symm
    have e2' : (cs.map (·.2)).sum = ((itR cs).length : Int) := e2.symm
    rw [e1', e2']
    have em : (if (((itR cs).length : Nat) : Int) > (((itR rs).length : Nat) : Int) then (((itR cs).length : Nat) : Int) else (((itR rs).length : Nat) : Int)) = ((max (itR rs).length (itR cs).length : Nat) : Int) := by
      split <;> omega
    rw [em]
    obtain ⟨M, eM⟩ : ∃ M, M = max (itR rs).length (itR cs).length := ⟨_, rfl⟩
    have m4 : M ≤ 400 := by omega
    rw [← eM]
    rw [← eM] at q
    have s02 := s1.trans s2
    have hR2 := hR.same s02
    have hC2 := hC.same s02
    have hk2 := s02 _ _ hk
    clear hL hL2 hx hxp hy hyp em s1 s2 nL nL2
    refine ⟨_, rfl, c, rfl, ⟨_, .of hk2⟩, for_list (K := K) (a := c) (xs := ks.map V.str) (fun i σ H' => ∃ y4 y5, σ = [some (.ref a), some (.ref b), some (.ref c), some (.int M), y4, y5, none] ∧ Same H2 H' ∧ ∀ k ∈ ks.take i, ∀ n : Nat, n ≤ M → EqK (itR rs) (itR cs) k n)
      ⟨none, none, rfl, Same.refl _, fun k hk => by rw [List.take_zero] at hk; cases hk⟩ (fun i σ H' _ hP => ?_) (fun i x σ H3 ex hP => ?_) (fun σ H3 hP => ?_)⟩
    · obtain ⟨_, _, _, sm, _⟩ := hP
      exact .of (sm _ _ hk2)
    · obtain ⟨y4, y5, rfl, sm, alle⟩ := hP
      obtain ⟨k, ek, rfl⟩ := str_atW ex
      have kok := kk k (List.mem_of_getElem? ek)
      refine ⟨_, rfl, _, _, rfl, rfl, _, rfl, by omega, by omega, for_range (lo := 0) (n := _) (fun i2 σ H' => ∃ y5, σ = [some (.ref a), some (.ref b), some (.ref c), some (.int M), some (.str k), y5, none] ∧ Same H3 H' ∧ ∀ m : Nat, m < i2 → EqK (itR rs) (itR cs) k m)
        ⟨_, rfl, Same.refl _, fun m hm => absurd hm (Nat.not_lt_zero _)⟩ (fun i2 σ H4 hi2 hP => ?_) (fun σ H4 hP => ?_)⟩
      · obtain ⟨y5, rfl, s4, eqs⟩ := hP
        have hi2 : i2 < M + 1 := by omega
        have sm4 := sm.trans s4
        have po : PosO (withR k (i2 : Int)) := pos_with (by omega)
        refine ⟨_, rfl, _, rfl, _, rfl, k, _, rfl, by omega, fun H5 v5 s5 hv5 => ?_⟩
        rw [Int.zero_add] at hv5
        have sm5 := sm4.trans s5
        refine ⟨a, rs, v5, withR k (i2 : Int), rfl, hR2.same sm5, posu, hv5, fun H6 v6 s6 hv6 => ?_⟩
        rw [st_items rs _ po posu] at hv6
        have sm6 := sm5.trans s6
        refine ⟨_, rfl, _, rfl, _, rfl, k, _, rfl, by omega, fun H7 v7 s7 hv7 => ?_⟩
        rw [Int.zero_add] at hv7
        have sm7 := sm6.trans s7
        refine ⟨b, cs, v7, withR k (i2 : Int), rfl, hC2.same sm7, posv, hv7, fun H8 v8 s8 hv8 => ?_⟩
        rw [st_items cs _ po posv] at hv8
        have so : ∀ ds : List Run, SeqOk ds → StOk (stI (itR ds) (withR k (i2 : Int))) := fun ds h => stOk_stI _ _ (it_kinds fun r hr => (h.2.1 r hr).1) (ok_with kok (by omega))
        refine ⟨dOt (stI (itR rs) (withR k (i2 : Int))), dOt (stI (itR cs) (withR k (i2 : Int))), dp_o (hv6.same (s7.trans s8)), dp_o hv8, shaped_o (so rs oku), shaped_o (so cs okv), _, rfl, ?_⟩
        rw [eqv_o]
        have s48 := (s5.trans s6).trans (s7.trans s8)
        by_cases d : stI (itR rs) (withR k (i2 : Int)) = stI (itR cs) (withR k (i2 : Int))
        · rw [decide_eq_true d]
          refine iteF ⟨_, rfl, s4.trans s48, fun m hm => ?_⟩
          by_cases e : m = i2
          · rw [e]
            exact d
          · exact eqs m (by omega)
        · rw [decide_eq_false d]
          exact iteT (q _ false (s02.trans (sm4.trans s48)) ⟨fun z => (by cases z), fun al => absurd (al k (List.mem_of_getElem? ek) i2 (by omega)) d⟩)
      · obtain ⟨y5, rfl, s4, eqs⟩ := hP
        refine ⟨_, _, rfl, sm.trans s4, fun z hz n hn => ?_⟩
        rw [take_snoc ek] at hz
        rcases List.mem_append.mp hz with h | h
        · exact alle z h n hn
        · rw [List.mem_singleton.mp h]
          exact eqs n (by omega)
    · obtain ⟨y4, y5, rfl, sm, alle⟩ := hP
      rw [List.length_map, List.take_length] at alle
      exact q _ true (s02.trans sm) ⟨fun _ => alle, fun _ => rfl⟩
end
end UP

set_option Elab.async false
set_option linter.all false
set_option maxRecDepth 100000
set_option maxHeartbeats 4000000
set_option pp.maxSteps 700
namespace UP
open PySem PySem.Spec PyProof.Rows L2
theorem if_gen {c : TT} {t u rest : TS} {D : Ends} {σ : L2.St} {H : Hp} (Ok : L2.St → Hp → Prop) (h : ∀ R : L2.St → Hp → Prop, (∀ σ' H', Ok σ' H' → R σ' H') → tIfS c t u { D with nx := R } σ H) (k : ∀ σ' H', Ok σ' H' → rest D σ' H') : tSeq (tIfS c t u) rest D σ H := h (rest D) k
theorem sl_listKW {X : Cx} {K : PySem.W.Frag} (h : X.K = K) : SlR X (rSlL K) := h ▸ sl_list
theorem cut_strs (its : List Str) (x y : Option Int) : ∃ zs : List Str, cutV (its.map V.str) x y = zs.map V.str ∧ zs.length ≤ its.length ∧ ∀ z ∈ zs, z ∈ its := by
  unfold cutV
  refine ⟨_, (by rw [← List.map_drop, ← List.map_take]), ?_, fun z hz => List.mem_of_mem_drop (List.mem_of_mem_take hz)⟩
  rw [List.length_take, List.length_drop]
  omega
theorem cutV_tkW (l : List V) (m : Int) (h0 : 0 ≤ m) : cutV l none (some m) = l.take m.toNat := by
  unfold cutV
  show (l.drop (HT.sIx _ 0 none)).take (HT.sIx _ _ (some m) - HT.sIx _ 0 none) = _
  have e0 : HT.sIx l.length 0 none = 0 := rfl
  have e1 : HT.sIx l.length l.length (some m) = min m.toNat l.length := by
    show (if m < 0 then (m + (l.length : Int)).toNat else min m.toNat l.length) = _
    rw [if_neg (by omega)]
  rw [e0, List.drop_zero, Nat.sub_zero, e1]
  rcases Nat.le_total m.toNat l.length with h | h
  · rw [Nat.min_eq_left h]
  · rw [Nat.min_eq_right h, List.take_length, List.take_of_length_le h]
theorem dp_strW {K : PySem.W.Frag} {H : Hp} : ∀ l : List Str, DpAll K H (l.map V.str) (l.map PyData.str)
  | [] => .nil
  | x :: t => .cons (.str x) (dp_strW t)
theorem eqv_nilSW (ks : List Str) : PyData.eqv (.list (ks.map PyData.str)) (.list []) = ks.isEmpty := by
  cases ks with
  | nil => decide
  | cons k t =>
    rw [List.map_cons, PyData.eqv, PyData.eqvAll]
    rfl
theorem shaped_strW {ks : List Str} (h : ∀ k ∈ ks, KindOk k) : SeqAt.shaped (.list (ks.map PyData.str)) = true := by
  have g : ∀ l : List Str, (∀ k ∈ l, KindOk k) → PyData.canLayAll0 (l.map PyData.str) = true ∧ PyData.depthAll (l.map PyData.str) ≤ 1 := by
    intro l hl
    induction l with
    | nil => exact ⟨by simp [PyData.canLayAll0], by simp [PyData.depthAll]⟩
    | cons k t ih =>
      have i := ih fun x hx => hl x (List.mem_cons_of_mem _ hx)
      exact ⟨by rw [List.map_cons, PyData.canLayAll0, i.1]; simp [PyData.canLay0, (hl k List.mem_cons_self).str], by rw [List.map_cons, PyData.depthAll]; exact Nat.max_le.mpr ⟨by simp [PyData.depth], i.2⟩⟩
  obtain ⟨c1, c2⟩ := g ks h
  unfold SeqAt.shaped
  rw [PyData.canLay0, c1, PyData.depth]
  exact decide_eq_true (by omega)
theorem ixn_nat {n : Nat} {i : Int} (h0 : 0 ≤ i) (h1 : i < n) : ixN n i = some i.toNat := by
  unfold ixN
  rw [if_pos h0, if_pos h1]
theorem strs_set (l : List Str) (i : Nat) (x : Str) : (l.map V.str).set i (.str x) = (l.set i x).map V.str := by rw [List.map_set]
theorem mem_set_in {B : List Str} {l : List Str} {i : Nat} {x : Str} (h : ∀ y ∈ l, y ∈ B) (hx : x ∈ B) : ∀ y ∈ l.set i x, y ∈ B := fun y hy => by
  rcases List.mem_or_eq_of_mem_set hy with z | z
  · exact h y z
  · rw [z]
    exact hx
section
variable {P : Program} {w : World} {K : PySem.W.Frag} {mg : Str → Option Value} {base : Heap}
/-! _law_varied: slots 0:reel 1:items 2:names 3:found 4:way 5:spots 6:at 7:turn -/
abbrev s_law_varied : Stmt := topS 44
theorem sc_law_varied : FnScope ["reel", "items", "names", "found", "way", "spots", "at", "turn"] ["reel", "items", "names"] (defScope s_law_varied) := ⟨rfl, rfl, rfl, by decide +kernel, rfl, by decide +kernel, by decide +kernel⟩
def sp_law_varied : Sp := fun vs H Q _ => ∃ (p a b : Addr) (its ns : List Str), vs = [.ref p, .ref a, .ref b] ∧ Reel H p ∧ H a = some (.lst (its.map V.str)) ∧ its.length ≤ 400 ∧ H b = some (.lst (ns.map V.str)) ∧ 2 ≤ ns.length ∧ ns.length ≤ 13 ∧ (∀ x ∈ ns, KindOk x) ∧ (∀ x ∈ its, x ∈ ns) ∧
  ∀ (H' : Hp) (L : Addr) (out : List Str), RB p H H' → Reel H' p → H L = none → H' L = some (.lst (out.map V.str)) → out.length ≤ its.length + 5 → (∀ x ∈ out, x ∈ ns) → Q (.ref L) H'
theorem ok_law_varied (D : Df K mg "_law_varied" s_law_varied) (T : Tx mg) (G_law_draw : Has P w K mg base 1 "_law_draw" ["reel", "many"] sp_law_draw) : Has P w K mg base 2 "_law_varied" ["reel", "items", "names"] sp_law_varied := by
  refine has_of D sc_law_varied (fun _ _ _ _ _ _ us hl => match us, hl with | [_, _, _], _ => rfl) (fun vs H Q E h => ?_) (fun f cdv A₀ outer s₀ H vs Q E hr h => ?_)
  · obtain ⟨_, _, _, _, _, rfl, _⟩ := h
    rfl
  · obtain ⟨p, a, b, its, ns, rfl, z, ha, li, hb, l2, l13, okn, hin, q⟩ := h
    refine ⟨_, (pss_cons (ps_set (i := 3) sc_law_varied.nd rfl (by first | exact Or.inl rfl | exact Or.inr rfl) (pe_callTy call_list_of (by rfl) T.n_list (by decide +kernel) (pa_cons (pv 1) pa_nil)))
    (pss_cons (ps_set (i := 4) sc_law_varied.nd rfl (by first | exact Or.inl rfl | exact Or.inr rfl) (pe_callH G_law_draw (hr.mono (by omega)) (by rfl) (pa_cons (pv 0) (pa_cons pe_int pa_nil))))
    (pss_cons (ps_setLc (i := 5) (own := [("at", 6)]) rfl sc_law_varied.nd rfl rfl (sw_true rfl rfl rfl (by decide +kernel)) (pi_range1 (by rfl) T.n_range (pa_cons (pe_op op_sub (pe_callB call_len_seq (by rfl) T.n_len (by decide +kernel) (pa_cons (pv 1) pa_nil)) pe_int) pa_nil)) (blkOk_by (N := ["reel", "items", "names", "found", "way", "spots", "at", "turn"]) (sc := defScope s_law_varied) (by decide +kernel)) (fun _ _ _ _ _ => (pg_name (i := 6) sc_law_varied.nd rfl (by first | exact Or.inl rfl | exact Or.inr rfl))) (fun _ _ _ _ _ => pts_one (pt_cmpR op_eq (pe_callB (cr_lenSSw (w := w) rfl) (by rfl) T.n_len (by decide +kernel) (pa_cons (pe_callTy (cr_setSw (K := K) (w := w) rfl rfl rfl) (by rfl) T.n_set (by decide +kernel) (pa_cons (pe_slice (sl_listKW (K := K) rfl) (pv 1) (po_some (pv 6)) (po_some (pe_op op_add (pv 6) pe_int))) pa_nil)) pa_nil)) pe_int (nomark _))) (fun _ _ _ _ _ => (pv 6)))
    (pss_cons (ps_if (PW.pt (pw_and (pt_cmpR op_lt (pv 4) pe_int (nomark _)) (pw_and1 (pt_cmpR (op_neD hr.units) (pv 5) (pe_lst pa_nil) (nomark _))))) (pss_cons (ps_set (i := 6) sc_law_varied.nd rfl (by first | exact Or.inl rfl | exact Or.inr rfl) (pe_ix ix_list (pv 5) (pe_callH G_law_draw (hr.mono (by omega)) (by rfl) (pa_cons (pv 0) (pa_cons (pe_callB call_len_seq (by rfl) T.n_len (by decide +kernel) (pa_cons (pv 5) pa_nil)) pa_nil))) (fun _ _ => rfl)))
    (pss_one (ps_asg (pe_tup (pa_cons (pe_ix ix_list (pv 3) (pe_op op_add (pv 6) pe_int) (fun _ _ => rfl)) (pa_cons (pe_ix ix_list (pv 3) (pv 6) (fun _ _ => rfl)) pa_nil))) (pg_tup rfl (pgs_cons (pg_sub (pv 3) (pv 6) set_list) (pgs_cons (pg_sub (pv 3) (pe_op op_add (pv 6) pe_int) set_list) pgs_nil)))))) (pss_one (ps_if (PW.pt (pw_and (pt_cmpR op_eq (pv 4) pe_int (nomark _)) (pw_and1 (pt_cmpR op_gt (pe_callB call_len_seq (by rfl) T.n_len (by decide +kernel) (pa_cons (pv 1) pa_nil)) pe_int (nomark _))))) (pss_cons (ps_set (i := 6) sc_law_varied.nd rfl (by first | exact Or.inl rfl | exact Or.inr rfl) (pe_callH G_law_draw (hr.mono (by omega)) (by rfl) (pa_cons (pv 0) (pa_cons (pe_op op_sub (pe_callB call_len_seq (by rfl) T.n_len (by decide +kernel) (pa_cons (pv 1) pa_nil)) pe_int) pa_nil))))
    (pss_one (ps_asg (pe_tup (pa_cons (pe_ix ix_list (pv 3) (pe_op op_add (pv 6) pe_int) (fun _ _ => rfl)) (pa_cons (pe_ix ix_list (pv 3) (pv 6) (fun _ _ => rfl)) pa_nil))) (pg_tup rfl (pgs_cons (pg_sub (pv 3) (pv 6) set_list) (pgs_cons (pg_sub (pv 3) (pe_op op_add (pv 6) pe_int) set_list) pgs_nil)))))) (pss_one (ps_if (PW.pt (pw_and (pt_cmpR op_eq (pv 4) pe_int (nomark _)) (pw_and1 (pt_cmpR (op_neD hr.units) (pv 1) (pe_lst pa_nil) (nomark _))))) (pss_one (ps_asg (pe_ix ix_list (pv 2) (pe_callH G_law_draw (hr.mono (by omega)) (by rfl) (pa_cons (pv 0) (pa_cons (pe_callB call_len_seq (by rfl) T.n_len (by decide +kernel) (pa_cons (pv 2) pa_nil)) pa_nil))) (fun _ _ => rfl)) (pg_sub (pv 3) (pe_callH G_law_draw (hr.mono (by omega)) (by rfl) (pa_cons (pv 0) (pa_cons (pe_callB call_len_seq (by rfl) T.n_len (by decide +kernel) (pa_cons (pv 1) pa_nil)) pa_nil))) set_list))) (pss_one (ps_if (pt_cmpR op_eq (pv 4) pe_int (nomark _)) (pss_cons (ps_set (i := 6) sc_law_varied.nd rfl (by first | exact Or.inl rfl | exact Or.inr rfl) (pe_callH G_law_draw (hr.mono (by omega)) (by rfl) (pa_cons (pv 0) (pa_cons (pe_op op_add (pe_callB call_len_seq (by rfl) T.n_len (by decide +kernel) (pa_cons (pv 1) pa_nil)) pe_int) pa_nil))))
    (pss_one (ps_set (i := 3) sc_law_varied.nd rfl (by first | exact Or.inl rfl | exact Or.inr rfl) (pe_op op_cat (pe_op op_cat (pe_slice sl_list (pv 3) po_none (po_some (pv 6))) (pe_lst (pa_cons (pe_ix ix_list (pv 2) pe_int (fun _ _ => rfl)) (pa_cons (pe_ix ix_list (pv 2) pe_int (fun _ _ => rfl)) pa_nil)))) (pe_slice sl_list (pv 3) (po_some (pv 6)) po_none))))) (pss_one (ps_if (pt_cmpR op_eq (pv 4) pe_int (nomark _)) (pss_one (ps_setLc (i := 3) (own := [("turn", 7)]) rfl sc_law_varied.nd rfl rfl (sw_true rfl rfl rfl (by decide +kernel)) (pi_range1 (by rfl) T.n_range (pa_cons (pe_callH G_law_draw (hr.mono (by omega)) (by rfl) (pa_cons (pv 0) (pa_cons pe_int pa_nil))) pa_nil)) (blkOk_by (N := ["reel", "items", "names", "found", "way", "spots", "at", "turn"]) (sc := defScope s_law_varied) (by decide +kernel)) (fun _ _ _ _ _ => (pg_name (i := 7) sc_law_varied.nd rfl (by first | exact Or.inl rfl | exact Or.inr rfl))) (fun _ _ _ _ _ => pts_nil) (fun _ _ _ _ _ => (pe_ix (ix_listK (K := K) rfl) (pv 2) (pe_callH G_law_draw (hr.mono (by omega)) (by rfl) (pa_cons (pv 0) (pa_cons (pe_callB (call_len_seqK (K := K) rfl) (by rfl) T.n_len (by decide +kernel) (pa_cons (pv 2) pa_nil)) pa_nil))) (fun _ _ => rfl))))) pss_nil)))))))))
    (pss_one (ps_ret (pv 3))))))), ?_⟩
    refine ⟨_, rfl, a, its.map V.str, rfl, .inl (.of ha), fun l nl => ?_⟩
    have lp := z.ne nl
    have s1 := same_upd (o := .lst (its.map V.str)) nl
    have hl : (upd H l (.lst (its.map V.str))) l = some (.lst (its.map V.str)) := upd_same
    have z1 := z.same s1
    have o1 : Off (upd H l (.lst (its.map V.str))) p l := (z.off nl).upd lp
    have b1 : RB p H (upd H l (.lst (its.map V.str))) := RB.of s1
    have ha1 := s1 _ _ ha
    have hb1 := s1 _ _ hb
    generalize upd H l (.lst (its.map V.str)) = H1 at *
    refine ⟨_, rfl, p, 7, rfl, z1, by decide, by decide, fun H2 way b2 z2 w0 w1 => ?_⟩
    have ha2 := b2.strs z1 ha1
    have hb2 := b2.strs z1 hb1
    have hl2 := b2.strs z1 hl
    have o2 := b2.off _ _ hl o1
    have B2 := b1.trans b2
    clear b1 b2 ha1 hb1 hl o1 z1 s1
    refine ⟨_, rfl, a, _, rfl, .inl (.of ha2), _, _, rfl, rfl, _, rfl, ?_⟩
    rw [List.length_map]
    refine ⟨by omega, by omega, fun L nL => lc_range (lo := 0) (n := (((its.length : Nat) : Int) - 2).toNat) (fun i H' => Same H2 H' ∧ ∃ zs : List Int, H' L = some (.lst (zs.map V.int)) ∧ zs.length ≤ i ∧ ∀ x ∈ zs, 0 ≤ x ∧ x < (its.length : Int) - 2) ⟨same_upd nL, [], upd_same, Nat.le_refl _, fun x hx => by cases hx⟩ (fun i H3 hi hP => ?_) (fun H3 hP => ?_)⟩
    · obtain ⟨sm, zs, hL, lz, bz⟩ := hP
      obtain ⟨cs, ec, lc, _⟩ := cut_strs its (some (0 + (i : Int))) (some (0 + (i : Int) + 3))
      refine ⟨rfl, _, rfl, _, rfl, _, rfl, _, rfl, _, _, rfl, rfl, _, rfl, a, _, rfl, .of (sm _ _ ha2), fun u nu => ?_⟩
      rw [ec]
      have su := same_upd (o := .lst (cs.map V.str)) nu
      refine ⟨u, cs, rfl, .of upd_same, (by show cs.length + 1 < 4096; omega), fun ps nps => ⟨ps, _, rfl, upd_same, rfl, _, rfl, ?_⟩⟩
      have sA := sm.trans (su.trans (same_upd (o := StS w ps (setS cs)) nps))
      have hLA := su.trans (same_upd (o := StS w ps (setS cs)) nps) _ _ hL
      refine ite2 (fun _ => ?_) (fun _ => ?_)
      · refine ⟨_, rfl, _, hLA, ?_, same_grow nL sA, zs ++ [0 + (i : Int)], ?_, ?_, ?_⟩
        · rw [List.length_map]
          exact smallE (by omega)
        · rw [upd_same, List.map_append]
          rfl
        · rw [List.length_append]
          show zs.length + 1 ≤ i + 1
          omega
        · intro x hx
          rcases List.mem_append.mp hx with h | h
          · exact bz x h
          · rw [List.mem_singleton.mp h]
            have hi : i < _ := hi
            omega
      · exact ⟨sA, zs, hLA, by omega, bz⟩
    obtain ⟨s3, zs, hL, lz, bz⟩ := hP
    have ha3 := s3 _ _ ha2
    have hb3 := s3 _ _ hb2
    have hl3 := s3 _ _ hl2
    have z3 := z2.same s3
    have o3 := o2.same s3
    have B3 := B2.trans (RB.of s3)
    clear ha2 hb2 hl2 z2 o2 B2 nL s3
    have z2ne : ∀ {H' : Hp} (D : Addr) {l : List Int}, H' D = some (.lst (l.map V.int)) → Reel H' p → D ≠ p := fun D l h z e => by
      obtain ⟨g, c, gs, cs, n, s, h1, _⟩ := z
      rw [← e, h] at h1
      exact not_ints (Option.some.inj h1).symm
    dsimp only
    refine if_gen (fun σ' H' => ∃ (y5 y6 : Option V) (L' : Addr) (out : List Str), σ' = [some (.ref p), some (.ref a), some (.ref b), some (.ref L'), some (.int way), y5, y6, none] ∧ RB p H H' ∧ Reel H' p ∧ H L' = none ∧ H' L' = some (.lst (out.map V.str)) ∧ out.length ≤ its.length + 5 ∧ ∀ x ∈ out, x ∈ ns) (fun R k => ?_) (fun σ' H4 hO => ?_)
    · refine if_by (fun c H4 => Same H3 H4 ∧ (c = true → zs ≠ [])) (fun Q' k' => ?_) (fun H4 hq => ?_) (fun H4 hq => ?_)
      · refine ⟨_, rfl, _, _, rfl, rfl, _, rfl, ite2 (fun _ => ?_) (fun _ => k' _ _ ⟨Same.refl _, fun z => by cases z⟩)⟩
        refine ⟨_, rfl, Nat.zero_le _, fun e ne => ?_⟩
        have se := same_upd (o := .lst []) ne
        refine ⟨.list (zs.map PyData.int), .list [], .lst (.of (se _ _ hL)) (dp_intl _), .lst (.of upd_same) .nil, shaped_intl _, shaped_nil, _, rfl, ?_⟩
        rw [eqv_nilI]
        exact k' _ _ ⟨se, fun z e => by rw [e] at z; cases z⟩
      · obtain ⟨s4, hne⟩ := hq
        have hL4 := s4 _ _ hL
        have hl4 := s4 _ _ hl3
        have o4 := o3.same s4
        have z4 := z3.same s4
        have B4 := B3.trans (RB.of s4)
        have lz : 1 ≤ zs.length := by
          cases zs with
          | nil => exact absurd rfl (hne rfl)
          | cons x t => exact Nat.succ_pos _
        have lzi : zs.length ≤ 400 := by omega
        refine ⟨_, rfl, _, rfl, _, rfl, L, _, rfl, .inl (.of hL4), p, _, rfl, z4, by rw [List.length_map]; omega, wide8 (by omega) (by rw [List.length_map]; omega), fun H5 r b5 z5 r0 r1 => ?_⟩
        rw [List.length_map] at r1
        have hl5 := b5.strs z4 hl4
        have hL5 : H5 L = some (.lst (zs.map V.int)) := b5.but _ _ (z2ne L hL4 z4) hL4
        have o5 := b5.off _ _ hl4 o4
        have B5 := B4.trans b5
        have ltz : r.toNat < zs.length := by omega
        have ej : atI (zs.map V.int) r = some (.int zs[r.toNat]) := atI_ofR r0 (by rw [List.getElem?_map, List.getElem?_eq_getElem ltz]; rfl)
        have bj := bz _ (List.getElem_mem ltz)
        generalize zs[r.toNat] = j at ej bj
        refine ⟨L, _, _, _, rfl, rfl, .of hL5, ej, ?_⟩
        have l5 : its.length ≤ 400 := li
        have lt1 : j.toNat < its.length := by omega
        have lt2 : (j + 1).toNat < its.length := by omega
        have e1 : atI (its.map V.str) (j + 1) = some (.str its[(j + 1).toNat]) := atI_ofR (by omega) (by rw [List.getElem?_map, List.getElem?_eq_getElem lt2]; rfl)
        have e2 : atI (its.map V.str) j = some (.str its[j.toNat]) := atI_ofR (by omega) (by rw [List.getElem?_map, List.getElem?_eq_getElem lt1]; rfl)
        have m1 := hin _ (List.getElem_mem lt2)
        have m2 := hin _ (List.getElem_mem lt1)
        generalize its[(j + 1).toNat] = x1 at e1 m1
        generalize its[j.toNat] = x2 at e2 m2
        refine ⟨_, rfl, _, rfl, _, _, rfl, rfl, l, _, _, _, rfl, rfl, .of hl5, e1, _, rfl, _, rfl, l, _, _, _, rfl, rfl, .of hl5, e2, (by show 2 ≤ sizeLine; decide), fun t nt => ?_⟩
        have st := same_upd (o := .tup [.str x1, .str x2]) nt
        have tl : t ≠ l := fun e => by rw [e, hl5] at nt; cases nt
        have hlt := st _ _ hl5
        have ot := o5.same st
        have zt := z5.same st
        have Bt := B5.trans (RB.of st)
        have ht : (upd H5 t (.tup [.str x1, .str x2])) t = some (.tup [.str x1, .str x2]) := upd_same
        generalize upd H5 t (.tup [.str x1, .str x2]) = H6 at *
        refine ⟨t, _, rfl, .of ht, rfl, _, _, rfl, _, rfl, _, rfl, l, _, j, j.toNat, rfl, rfl, hlt, ixn_nat (by omega) (by rw [List.length_map]; omega), ?_⟩
        rw [strs_set]
        refine ⟨_, _, rfl, _, rfl, _, rfl, _, _, rfl, rfl, l, _, j + 1, (j + 1).toNat, rfl, rfl, upd_same, ixn_nat (by omega) (by rw [List.length_map, List.length_set]; omega), ?_⟩
        rw [strs_set]
        refine ⟨rfl, k _ _ ⟨_, _, l, (its.set j.toNat x1).set (j + 1).toNat x2, rfl, (Bt.grow nl ot).grow nl (ot.upd ot.ne), (zt.upd ot).upd (ot.upd ot.ne), nl, upd_same, by rw [List.length_set, List.length_set]; omega, mem_set_in (mem_set_in hin m1) m2⟩⟩
      · obtain ⟨s4, _⟩ := hq
        have ha4 := s4 _ _ ha3
        have hb4 := s4 _ _ hb3
        have hl4 := s4 _ _ hl3
        have o4 := o3.same s4
        have z4 := z3.same s4
        have B4 := B3.trans (RB.of s4)
        refine if_by (fun c H5 => H5 = H4 ∧ (c = true → 1 < its.length)) (fun Q' k' => ?_) (fun H5 hq => ?_) (fun H5 hq => ?_)
        · refine ⟨_, rfl, rfl, _, rfl, ite2 (fun _ => ?_) (fun _ => k' _ _ ⟨rfl, fun z => by cases z⟩)⟩
          refine ⟨_, rfl, a, _, rfl, .inl (.of ha4), _, _, rfl, rfl, _, rfl, k' _ _ ⟨rfl, fun z => ?_⟩⟩
          rw [List.length_map] at z
          have := of_decide_eq_true z
          omega
        · obtain ⟨rfl, hgt⟩ := hq
          have hgt := hgt rfl
          refine ⟨_, rfl, _, rfl, a, _, rfl, .inl (.of ha4), _, _, rfl, rfl, p, _, rfl, z4, by rw [List.length_map]; omega, wide8 (by rw [List.length_map]; omega) (by rw [List.length_map]; omega), fun H5 j b5 z5 j0 j1 => ?_⟩
          rw [List.length_map] at j1
          have bj : 0 ≤ j ∧ j < (its.length : Int) - 1 := ⟨j0, j1⟩
          have hl5 := b5.strs z4 hl4
          have o5 := b5.off _ _ hl4 o4
          have B5 := B4.trans b5
          have l5 : its.length ≤ 400 := li
          have lt1 : j.toNat < its.length := by omega
          have lt2 : (j + 1).toNat < its.length := by omega
          have e1 : atI (its.map V.str) (j + 1) = some (.str its[(j + 1).toNat]) := atI_ofR (by omega) (by rw [List.getElem?_map, List.getElem?_eq_getElem lt2]; rfl)
          have e2 : atI (its.map V.str) j = some (.str its[j.toNat]) := atI_ofR (by omega) (by rw [List.getElem?_map, List.getElem?_eq_getElem lt1]; rfl)
          have m1 := hin _ (List.getElem_mem lt2)
          have m2 := hin _ (List.getElem_mem lt1)
          generalize its[(j + 1).toNat] = x1 at e1 m1
          generalize its[j.toNat] = x2 at e2 m2
          refine ⟨_, rfl, _, rfl, _, _, rfl, rfl, l, _, _, _, rfl, rfl, .of hl5, e1, _, rfl, _, rfl, l, _, _, _, rfl, rfl, .of hl5, e2, (by show 2 ≤ sizeLine; decide), fun t nt => ?_⟩
          have st := same_upd (o := .tup [.str x1, .str x2]) nt
          have tl : t ≠ l := fun e => by rw [e, hl5] at nt; cases nt
          have hlt := st _ _ hl5
          have ot := o5.same st
          have zt := z5.same st
          have Bt := B5.trans (RB.of st)
          have ht : (upd H5 t (.tup [.str x1, .str x2])) t = some (.tup [.str x1, .str x2]) := upd_same
          generalize upd H5 t (.tup [.str x1, .str x2]) = H6 at *
          refine ⟨t, _, rfl, .of ht, rfl, _, _, rfl, _, rfl, _, rfl, l, _, j, j.toNat, rfl, rfl, hlt, ixn_nat (by omega) (by rw [List.length_map]; omega), ?_⟩
          rw [strs_set]
          refine ⟨_, _, rfl, _, rfl, _, rfl, _, _, rfl, rfl, l, _, j + 1, (j + 1).toNat, rfl, rfl, upd_same, ixn_nat (by omega) (by rw [List.length_map, List.length_set]; omega), ?_⟩
          rw [strs_set]
          refine ⟨rfl, k _ _ ⟨_, _, l, (its.set j.toNat x1).set (j + 1).toNat x2, rfl, (Bt.grow nl ot).grow nl (ot.upd ot.ne), (zt.upd ot).upd (ot.upd ot.ne), nl, upd_same, by rw [List.length_set, List.length_set]; omega, mem_set_in (mem_set_in hin m1) m2⟩⟩
        · obtain ⟨rfl, _⟩ := hq
          refine if_by (fun c H6 => Same H5 H6 ∧ (c = true → its ≠ [])) (fun Q' k' => ?_) (fun H6 hq => ?_) (fun H6 hq => ?_)
          · refine ⟨_, rfl, rfl, _, rfl, ite2 (fun _ => ?_) (fun _ => k' _ _ ⟨Same.refl _, fun z => by cases z⟩)⟩
            refine ⟨_, rfl, Nat.zero_le _, fun e ne => ?_⟩
            have se := same_upd (o := .lst []) ne
            refine ⟨.list (its.map PyData.str), .list [], .lst (.of (se _ _ ha4)) (dp_strW _), .lst (.of upd_same) .nil, shaped_strW fun x hx => okn x (hin x hx), shaped_nil, _, rfl, ?_⟩
            rw [eqv_nilSW]
            exact k' _ _ ⟨se, fun z e => by rw [e] at z; cases z⟩
          · obtain ⟨s6, hne⟩ := hq
            have hne := hne rfl
            have l1 : 1 ≤ its.length := by
              cases its with
              | nil => exact absurd rfl hne
              | cons x t => exact Nat.succ_pos _
            have ha6 := s6 _ _ ha4
            have hb6 := s6 _ _ hb4
            have hl6 := s6 _ _ hl4
            have o6 := o4.same s6
            have z6 := z4.same s6
            have B6 := B4.trans (RB.of s6)
            refine ⟨_, rfl, _, rfl, _, rfl, b, _, rfl, .inl (.of hb6), p, _, rfl, z6, by rw [List.length_map]; omega, wide8 (by omega) (by rw [List.length_map]; omega), fun H7 r b7 z7 r0 r1 => ?_⟩
            rw [List.length_map] at r1
            have ltn : r.toNat < ns.length := by omega
            have en : atI (ns.map V.str) r = some (.str ns[r.toNat]) := atI_ofR r0 (by rw [List.getElem?_map, List.getElem?_eq_getElem ltn]; rfl)
            have mn := List.getElem_mem ltn
            generalize ns[r.toNat] = x at en mn
            have ha7 := b7.strs z6 ha6
            have hb7 := b7.strs z6 hb6
            have hl7 := b7.strs z6 hl6
            have o7 := b7.off _ _ hl6 o6
            have B7 := B6.trans b7
            refine ⟨b, _, _, _, rfl, rfl, .of hb7, en, ?_⟩
            refine ⟨_, rfl, _, rfl, _, rfl, a, _, rfl, .inl (.of ha7), p, _, rfl, z7, by rw [List.length_map]; omega, wide8 (by omega) (by rw [List.length_map]; omega), fun H8 j b8 z8 j0 j1 => ?_⟩
            rw [List.length_map] at j1
            have hl8 := b8.strs z7 hl7
            have o8 := b8.off _ _ hl7 o7
            have B8 := B7.trans b8
            refine ⟨l, _, j, j.toNat, rfl, rfl, hl8, ixn_nat j0 (by rw [List.length_map]; omega), ?_⟩
            rw [strs_set]
            exact k _ _ ⟨_, _, l, its.set j.toNat x, rfl, B8.grow nl o8, z8.upd o8, nl, upd_same, by rw [List.length_set]; omega, mem_set_in hin mn⟩
          · obtain ⟨s6, _⟩ := hq
            have ha6 := s6 _ _ ha4
            have hb6 := s6 _ _ hb4
            have hl6 := s6 _ _ hl4
            have z6 := z4.same s6
            have B6 := B4.trans (RB.of s6)
            refine if_by (fun c H7 => H7 = H6) (fun Q' k' => ⟨_, rfl, rfl, _, rfl, k' _ _ rfl⟩) (fun H7 hq => ?_) (fun H7 hq => ?_)
            · subst hq
              refine ⟨_, rfl, _, rfl, a, _, rfl, .inl (.of ha6), _, _, rfl, rfl, p, _, rfl, z6, by rw [List.length_map]; omega, wide8 (by rw [List.length_map]; omega) (by rw [List.length_map]; omega), fun H8 j b8 z8 j0 j1 => ?_⟩
              rw [List.length_map] at j1
              have hb8 := b8.strs z6 hb6
              have hl8 := b8.strs z6 hl6
              have B8 := B6.trans b8
              have lt0 : 0 < ns.length := by omega
              have lt1 : 1 < ns.length := by omega
              have e0 : atI (ns.map V.str) 0 = some (.str ns[0]) := atI_ofR (by decide) (by rw [List.getElem?_map]; show (ns[0]?).map V.str = _; rw [List.getElem?_eq_getElem lt0]; rfl)
              have e1 : atI (ns.map V.str) 1 = some (.str ns[1]) := atI_ofR (by decide) (by rw [List.getElem?_map]; show (ns[1]?).map V.str = _; rw [List.getElem?_eq_getElem lt1]; rfl)
              have m0 := List.getElem_mem lt0
              have m1 := List.getElem_mem lt1
              generalize ns[0] = x0 at e0 m0
              generalize ns[1] = x1 at e1 m1
              refine ⟨_, rfl, _, rfl, j, rfl, l, _, rfl, .of hl8, fun u1 nu1 => ?_⟩
              rw [cutV_tkW _ j j0, ← List.map_take]
              have g1 := same_upd (o := .lst ((its.take j.toNat).map V.str)) nu1
              have hu1 : (upd H8 u1 (.lst ((its.take j.toNat).map V.str))) u1 = some (.lst ((its.take j.toNat).map V.str)) := upd_same
              refine ⟨_, rfl, b, _, _, _, rfl, rfl, .of (g1 _ _ hb8), e0, _, rfl, b, _, _, _, rfl, rfl, .of (g1 _ _ hb8), e1, (by show 2 ≤ sizeLine; decide), fun u2 nu2 => ?_⟩
              have g2 := g1.trans (same_upd (o := .lst [.str x0, .str x1]) nu2)
              refine ⟨u1, u2, _, _, rfl, rfl, same_upd nu2 _ _ hu1, upd_same, smallE (by rw [List.length_map, List.length_take]; show _ + 2 ≤ _; omega), fun u3 nu3 => ?_⟩
              have g3 := g2.trans (same_upd (o := .lst ((its.take j.toNat).map V.str ++ [.str x0, .str x1])) nu3)
              refine ⟨_, rfl, _, rfl, j, rfl, l, _, rfl, .of (g3 _ _ hl8), fun u4 nu4 => ?_⟩
              rw [cut_dropR _ j j0 (by rw [List.length_map]; omega), ← List.map_drop]
              have g4 := g3.trans (same_upd (o := .lst ((its.drop j.toNat).map V.str)) nu4)
              refine ⟨u3, u4, _, _, rfl, rfl, same_upd nu4 _ _ upd_same, upd_same, smallE (by simp only [List.length_append, List.length_map, List.length_take, List.length_drop, List.length_cons, List.length_nil]; omega), fun u5 nu5 => ?_⟩
              have g5 := g4.trans (same_upd (o := .lst ((its.take j.toNat).map V.str ++ [.str x0, .str x1] ++ (its.drop j.toNat).map V.str)) nu5)
              refine k _ _ ⟨_, _, u5, its.take j.toNat ++ [x0, x1] ++ its.drop j.toNat, rfl, B8.trans (RB.of g5), z8.same g5, B8.free z8 (g4.free nu5), ?_, ?_, fun x hx => ?_⟩
              · rw [upd_same, List.map_append, List.map_append]
                rfl
              · simp only [List.length_append, List.length_take, List.length_drop, List.length_cons, List.length_nil]
                omega
              · rcases List.mem_append.mp hx with h | h
                · rcases List.mem_append.mp h with h | h
                  · exact hin x (List.mem_of_mem_take h)
                  · rcases List.mem_cons.mp h with h | h
                    · rw [h]; exact m0
                    · rw [List.mem_singleton.mp h]; exact m1
                · exact hin x (List.mem_of_mem_drop h)
            · subst hq
              refine if_by (fun c H8 => H8 = H7) (fun Q' k' => ⟨_, rfl, rfl, _, rfl, k' _ _ rfl⟩) (fun H8 hq => ?_) (fun H8 hq => ?_)
              · subst hq
                refine ⟨_, rfl, p, 6, rfl, z6, by decide, by decide, fun H8 m b8 z8 m0 m1 => ⟨m, rfl, by omega, by omega, fun L5 nL5 => ?_⟩⟩
                have hb8 := b8.strs z6 hb6
                have B8 := B6.trans b8
                have n5 := z8.ne nL5
                have n5H : H L5 = none := B8.free z8 nL5
                have g5 := same_upd (o := .lst []) nL5
                refine lc_range (lo := 0) (n := m.toNat) (fun i H' => ∃ ks : List Str, RB p H H' ∧ Reel H' p ∧ Off H' p L5 ∧ H' L5 = some (.lst (ks.map V.str)) ∧ ks.length = i ∧ (∀ x ∈ ks, x ∈ ns) ∧ H' b = some (.lst (ns.map V.str)))
                  ⟨[], B8.trans (RB.of g5), z8.same g5, (z8.off nL5).upd n5, upd_same, rfl, (fun x h => by cases h), g5 _ _ hb8⟩ (fun i H9 hi hP => ?_) (fun H9 hP => ?_)
                · obtain ⟨ks, B9, z9, o9, h9, lk, ik, hb9⟩ := hP
                  refine ⟨rfl, yesT ⟨_, rfl, _, rfl, _, rfl, b, _, rfl, .inl (.of hb9), p, _, rfl, z9, by rw [List.length_map]; omega, wide8 (by omega) (by rw [List.length_map]; omega), fun H10 r b10 z10 r0 r1 => ?_⟩⟩
                  rw [List.length_map] at r1
                  have ltn : r.toNat < ns.length := by omega
                  have en : atI (ns.map V.str) r = some (.str ns[r.toNat]) := atI_ofR r0 (by rw [List.getElem?_map, List.getElem?_eq_getElem ltn]; rfl)
                  have mn := List.getElem_mem ltn
                  generalize ns[r.toNat] = x at en mn
                  have h10 := b10.strs z9 h9
                  have o10 := b10.off _ _ h9 o9
                  have hb10 := b10.strs z9 hb9
                  have nb : b ≠ L5 := ne_of_none hb8 nL5
                  refine ⟨b, _, _, _, rfl, rfl, .of hb10, en, _, h10, ?_, ks ++ [x], (B9.trans b10).grow n5H o10, z10.upd o10, o10.upd n5, ?_, ?_, fun y hy => ?_, ?_⟩
                  · rw [List.length_map, lk]
                    exact smallE (by omega)
                  · rw [upd_same, List.map_append]
                    rfl
                  · rw [List.length_append, lk]
                    rfl
                  · rcases List.mem_append.mp hy with h | h
                    · exact ik y h
                    · rw [List.mem_singleton.mp h]
                      exact mn
                  · rw [upd_ne nb]
                    exact hb10
                · obtain ⟨ks, B9, z9, o9, h9, lk, ik, hb9⟩ := hP
                  exact k _ _ ⟨_, _, L5, ks, rfl, B9, z9, n5H, h9, by omega, ik⟩
              · subst hq
                exact k _ _ ⟨_, _, l, its, rfl, B6, z6, nl, hl6, by omega, hin⟩
    · obtain ⟨y5, y6, L', out, rfl, bO, zO, nO, hO, lO, iO⟩ := hO
      exact ⟨_, rfl, q _ L' out bO zO nO hO lO iO⟩
end
end UP

set_option Elab.async false
set_option linter.all false
set_option maxRecDepth 100000
set_option maxHeartbeats 4000000
set_option pp.maxSteps 900
namespace UP
open PySem PySem.Spec PyProof.Rows L2
theorem simR_seqW {H : Hp} {p a : Addr} {rs : List Run} (z : Reel H p) (h : Runs H a rs) (l : rs.length ≤ 1000) : Sim (· ≠ p) H 2 (.ref a) (dSq rs) := by
  have ne := z.runs_ne h
  obtain ⟨xs, hx, hp⟩ := h
  refine .inr ⟨a, xs, _, rfl, ne, .inl hx, rfl, ?_, ?_⟩
  · have gen : ∀ (rs : List Run) (xs : List V), Paired (RunV H) xs rs → Paired (Sim (· ≠ p) H 1) xs (rs.map dP) := by
      intro rs
      induction rs with
      | nil =>
        intro xs h
        cases h
        exact .nil
      | cons r t ih =>
        intro xs h
        cases h with
        | cons h1 h2 => exact .cons (simR_run z h1) (ih _ h2)
    exact gen rs xs hp
  · rw [List.length_map]
    omega
theorem runR_front (c : Nat) (k : Str) (l : List Str) : (runR (List.replicate c k ++ l)).length ≤ l.length + 1 := by
  have gen : ∀ (l : List Str) (rs : List Run), (l.foldl (fun rs k => addR rs (k, 1)) rs).length ≤ rs.length + l.length := by
    intro l
    induction l with
    | nil => intro rs; exact Nat.le_refl _
    | cons k t ih =>
      intro rs
      have h1 := ih (addR rs (k, 1))
      have h2 := addR_len rs (k, 1)
      show (t.foldl (fun rs k => addR rs (k, 1)) (addR rs (k, 1))).length ≤ _
      rw [List.length_cons]
      omega
  unfold runR
  rw [List.foldl_append]
  cases c with
  | zero =>
    have := gen l []
    rw [List.length_nil] at this
    show (l.foldl _ []).length ≤ _
    omega
  | succ n =>
    rw [run_one n [] k (fun l hl => by cases hl)]
    have := gen l ([] ++ [(k, (n : Int) + 1)])
    rw [List.nil_append, List.length_singleton] at this
    rw [List.nil_append]
    omega
theorem pick3W (r : Int) (h0 : 0 ≤ r) (h1 : r < 3) (a b c : Int) (F : Int → Prop) (fa : F a) (fb : F b) (fc : F c) : ∃ g : Int, atI [V.int a, V.int b, V.int c] r = some (.int g) ∧ F g := by
  rcases (show r = 0 ∨ r = 1 ∨ r = 2 by omega) with e | e | e
  · rw [e]; exact ⟨a, rfl, fa⟩
  · rw [e]; exact ⟨b, rfl, fb⟩
  · rw [e]; exact ⟨c, rfl, fc⟩
theorem st_notlist {K : PySem.W.Frag} {H : Hp} {v : V} {st : Option Run} (h : StV H v st) : ∃ t, TyX K H v t ∧ PySem.W.kitOne K t (.type "list") = some false := by
  cases st with
  | none =>
    cases h
    exact ⟨.type "NoneType", .base .non, kit_ty (by decide +kernel)⟩
  | some r =>
    obtain ⟨t, rfl, ht⟩ := h
    exact ⟨.type "tuple", .base (.tup ht), kit_ty (by decide +kernel)⟩
def yS : Str := "yyyy"
def extra : List Str := ["aaa", "zzz", "other", "x"]
theorem extra_ok : ∀ k ∈ extra, KindOk k := by decide +kernel
theorem yyyy_no : ("yyyy" : Str) ∉ thirteen ∧ ("yyyy" : Str) ∉ extra := by decide +kernel
theorem yyyy_ok : KindOk "yyyy" := by decide +kernel
section
variable {P : Program} {w : World} {K : PySem.W.Frag} {mg : Str → Option Value} {base : Heap}
/-! law: slots 0:script 1:reel 2:k 3:names 4:size 5:items 6:front 7:varied 8:due 9:dressed 10:kept 11:found 12:state 13:one 14:other 15:turn -/
abbrev s_law : Stmt := topS 47
theorem sc_law : FnScope ["script", "reel", "k", "names", "size", "items", "front", "varied", "due", "dressed", "kept", "found", "state", "one", "other", "turn"] ["script"] (defScope s_law) := ⟨rfl, rfl, rfl, by decide +kernel, rfl, by decide +kernel, by decide +kernel⟩
def sp_law (K : PySem.W.Frag) : Sp := fun vs H Q _ => ∃ (a : Addr) (ns : List Int), vs = [.ref a] ∧ SqL K H a (ns.map V.int) ∧ ns.length ≤ 63 ∧ ∀ H', Q (.bl true) H'
theorem fn_law {f : Addr} {fd : FuncData} (F : Fun K "law" "law" s_law f fd) (T : Tx mg) (G_law_reel : Has P w K mg base 1 "_law_reel" ["script"] (sp_law_reel K)) (G_law_draw : Has P w K mg base 1 "_law_draw" ["reel", "many"] sp_law_draw)
    (G_law_names : Has P w K mg base 2 "_law_names" ["reel", "many"] sp_law_names) (G_law_end : Has P w K mg base 2 "_law_end" ["runs", "state"] sp_law_end) (G_law_dressed : Has P w K mg base 4 "_law_dressed" ["reel", "value"] (sp_law_dressed 2))
    (G_law_packed : Has P w K mg base 1 "_law_packed" ["items"] sp_law_packed) (G_law_varied : Has P w K mg base 2 "_law_varied" ["reel", "items", "names"] sp_law_varied) (G_law_equal : Has P w K mg base 3 "_law_equal" ["one", "other", "kinds"] sp_law_equal)
    (G_law_differs : Has P w K mg base 9 "_law_differs" ["one", "other"] sp_law_differs) (G_have_same_effect : Has P w K mg base 8 "have_same_effect" ["first", "second"] sp_have_same_effect) : FnC P w K mg base f fd ["script"] (sp_law K) := by
  refine fnC_of F sc_law (fun vs H Q E h => ?_) (fun cdv outer s H vs Q E hr h => ?_)
  · obtain ⟨_, _, rfl, _⟩ := h
    rfl
  · obtain ⟨a, ns, rfl, hS, l63, q⟩ := h
    have hr := Room.deeper (show Room (9 + 1) callerA from ⟨rfl, by decide, by decide⟩) (envOfC "law" (defScope s_law) s.heap.objs.size f cdv)
    refine ⟨_, (pss_cons (ps_set (i := 1) sc_law.nd rfl (by first | exact Or.inl rfl | exact Or.inr rfl) (pe_callH G_law_reel (hr.mono (by omega)) (by rfl) (pa_cons (pv 0) pa_nil)))
    (pss_cons (ps_for PassesOwn.never rfl (pi_range1 (by rfl) T.n_range (pa_cons (pe_op op_add pe_int (pe_callB (call_min2 rfl) (by rfl) T.n_min (by decide +kernel) (pa_cons (pe_callB call_len_seq (by rfl) T.n_len (by decide +kernel) (pa_cons (pv 0) pa_nil)) (pa_cons pe_int pa_nil)))) pa_nil)) (pg_name (i := 2) sc_law.nd rfl (by first | exact Or.inl rfl | exact Or.inr rfl))
      (pss_cons (ps_set (i := 3) sc_law.nd rfl (by first | exact Or.inl rfl | exact Or.inr rfl) (pe_callH G_law_names (hr.mono (by omega)) (by rfl) (pa_cons (pv 1) (pa_cons (pe_op op_add pe_int (pe_callH G_law_draw (hr.mono (by omega)) (by rfl) (pa_cons (pv 1) (pa_cons pe_int pa_nil)))) pa_nil))))
    (pss_cons (ps_set (i := 3) sc_law.nd rfl (by first | exact Or.inl rfl | exact Or.inr rfl) (pe_op op_cat (pe_op op_cat (pe_slice sl_list (pv 3) po_none (po_some pe_int)) (pe_slice sl_list (pe_slice sl_list (pe_lst (pa_cons pe_str (pa_cons pe_str (pa_cons pe_str (pa_cons pe_str pa_nil))))) (po_some (pe_callH G_law_draw (hr.mono (by omega)) (by rfl) (pa_cons (pv 1) (pa_cons pe_int pa_nil)))) po_none) po_none (po_some pe_int))) (pe_slice sl_list (pv 3) (po_some pe_int) po_none)))
    (pss_cons (ps_set (i := 4) sc_law.nd rfl (by first | exact Or.inl rfl | exact Or.inr rfl) (pe_callH G_law_draw (hr.mono (by omega)) (by rfl) (pa_cons (pv 1) (pa_cons (pe_ix ix_list (pe_lst (pa_cons pe_int (pa_cons pe_int (pa_cons pe_int pa_nil)))) (pe_op op_mod (pv 2) pe_int) (fun _ _ => rfl)) pa_nil))))
    (pss_cons (ps_setLc (i := 5) (own := [("turn", 15)]) rfl sc_law.nd rfl rfl (sw_true rfl rfl rfl (by decide +kernel)) (pi_range1 (by rfl) T.n_range (pa_cons (pv 4) pa_nil)) (blkOk_by (N := ["script", "reel", "k", "names", "size", "items", "front", "varied", "due", "dressed", "kept", "found", "state", "one", "other", "turn"]) (sc := defScope s_law) (by decide +kernel)) (fun _ _ _ _ _ => (pg_name (i := 15) sc_law.nd rfl (by first | exact Or.inl rfl | exact Or.inr rfl))) (fun _ _ _ _ _ => pts_nil) (fun _ _ _ _ _ => (pe_ix (ix_listK (K := K) rfl) (pv 3) (pe_callH G_law_draw (hr.mono (by omega)) (by rfl) (pa_cons (pv 1) (pa_cons (pe_callB (call_len_seqK (K := K) rfl) (by rfl) T.n_len (by decide +kernel) (pa_cons (pv 3) pa_nil)) pa_nil))) (fun _ _ => rfl))))
    (C8.pss_cut (ps_set (i := 6) sc_law.nd rfl (by first | exact Or.inl rfl | exact Or.inr rfl) (pe_op op_rep (pe_lst (pa_cons (pe_ix ix_list (pv 3) pe_int (fun _ _ => rfl)) pa_nil)) (pe_op op_mul (pe_callH G_law_draw (hr.mono (by omega)) (by rfl) (pa_cons (pv 1) (pa_cons (pe_ifExp (pt_cmpR op_eq (pv 2) pe_int (nomark _)) pe_int pe_int) pa_nil))) (pe_callTy call_int1 (by rfl) T.n_int (by decide +kernel) (pa_cons (pe_cmpR op_eq (pe_op op_mod (pv 2) pe_int) pe_int (nomark _)) pa_nil)))))
    (pss_cons (ps_set (i := 7) sc_law.nd rfl (by first | exact Or.inl rfl | exact Or.inr rfl) (pe_callH G_law_varied (hr.mono (by omega)) (by rfl) (pa_cons (pv 1) (pa_cons (pv 5) (pa_cons (pv 3) pa_nil)))))
    (pss_cons (ps_par (i := 13) (j := 14) (by rfl) sc_law.nd rfl rfl (by decide) rfl rfl (pa_cons (pe_callH G_law_packed (hr.mono (by omega)) (by rfl) (pa_cons (pe_op op_cat (pv 6) (pv 5)) pa_nil)) (pa_cons (pe_callH G_law_packed (hr.mono (by omega)) (by rfl) (pa_cons (pe_op op_cat (pv 6) (pv 7)) pa_nil)) pa_nil)) (by rfl))
    (pss_cons (ps_set (i := 8) sc_law.nd rfl (by first | exact Or.inl rfl | exact Or.inr rfl) (pe_callH G_law_equal (hr.mono (by omega)) (by rfl) (pa_cons (pv 13) (pa_cons (pv 14) (pa_cons (pe_op op_cat (pv 3) (pe_lst (pa_cons pe_str pa_nil))) pa_nil)))))
    (pss_cons (ps_set (i := 9) sc_law.nd rfl (by first | exact Or.inl rfl | exact Or.inr rfl) (pe_callH G_law_dressed (hr.mono (by omega)) (by rfl) (pa_cons (pv 1) (pa_cons (pv 13) pa_nil))))
    (pss_cons (ps_set (i := 10) sc_law.nd rfl (by first | exact Or.inl rfl | exact Or.inr rfl) (pe_callB (call_reprD (by rfl) (room70 hr)) (by rfl) T.n_repr (by decide +kernel) (pa_cons (pe_lst (pa_cons (pv 13) (pa_cons (pv 14) (pa_cons (pv 9) pa_nil)))) pa_nil)))
    (pss_cons (ps_set (i := 11) sc_law.nd rfl (by first | exact Or.inl rfl | exact Or.inr rfl) (pe_lst (pa_cons (pe_callH G_have_same_effect (hr.mono (by omega)) (by rfl) (pa_cons (pv 13) (pa_cons (pv 14) pa_nil))) (pa_cons (pe_callH G_have_same_effect (hr.mono (by omega)) (by rfl) (pa_cons (pv 14) (pa_cons (pv 9) pa_nil))) pa_nil))))
    (pss_cons (ps_if (PW.pt (pw_or (pt_cmpR op_ne (pe_callB (call_reprD (by rfl) (room70 hr)) (by rfl) T.n_repr (by decide +kernel) (pa_cons (pv 11) pa_nil)) (pe_callB (call_reprD (by rfl) (room70 hr)) (by rfl) T.n_repr (by decide +kernel) (pa_cons (pe_lst (pa_cons (pv 8) (pa_cons (pv 8) pa_nil))) pa_nil)) (nomark _)) (pw_or1 (pt_cmpR op_ne (pe_callB (call_reprD (by rfl) (room70 hr)) (by rfl) T.n_repr (by decide +kernel) (pa_cons (pe_lst (pa_cons (pv 13) (pa_cons (pv 14) (pa_cons (pv 9) pa_nil)))) pa_nil)) (pv 10) (nomark _))))) (pss_one (ps_ret pe_bl)) pss_nil)
    (pss_one (ps_for PassesOwn.never rfl (pi_list (pe_lst (pa_cons (pe_callH G_law_differs (hr.mono (by omega)) (by rfl) (pa_cons (pv 13) (pa_cons (pv 14) pa_nil))) (pa_cons (pe_callH G_law_differs (hr.mono (by omega)) (by rfl) (pa_cons (pv 14) (pa_cons (pv 9) pa_nil))) pa_nil)))) (pg_name (i := 12) sc_law.nd rfl (by first | exact Or.inl rfl | exact Or.inr rfl))
      (pss_cons (ps_if (pt_cmpR op_ne (pe_cmpR op_isN (pv 12) pe_non (nomark _)) (pv 8) (nomark _)) (pss_one (ps_ret pe_bl)) pss_nil)
    (pss_cons (ps_if (PW.pt (pw_and (pt_cmpR op_notN (pv 12) pe_non (nomark _)) (pw_and1 (pt_cmpR (op_eqD hr.units) (pe_callH G_law_end (hr.mono (by omega)) (by rfl) (pa_cons (pv 13) (pa_cons (pe_ix ix_list (pv 12) pe_int (fun _ _ => rfl)) pa_nil))) (pe_callH G_law_end (hr.mono (by omega)) (by rfl) (pa_cons (pv 14) (pa_cons (pe_ix ix_list (pv 12) pe_int (fun _ _ => rfl)) pa_nil))) (nomark _))))) (pss_one (ps_ret pe_bl)) pss_nil)
    (pss_one (ps_if (PW.pt (pw_and (pt_cmpR op_notN (pv 12) pe_non (nomark _)) (pw_and1 (pt_val (pe_callB call_isi (by rfl) T.n_isinstance (by decide +kernel) (pa_cons (pe_ix ix_list (pv 12) pe_int (fun _ _ => rfl)) (pa_cons (pe_bltn (v := .ty "list") (by rfl) T.n_list (by decide +kernel) rfl) pa_nil))))))) (pss_one (ps_ret pe_bl)) pss_nil)))))))))))))))))))
    (pss_one (ps_ret (pe_cmpR op_isBl (pe_callH G_have_same_effect (hr.mono (by omega)) (by rfl) (pa_cons (pe_lst pa_nil) (pa_cons (pe_lst pa_nil) pa_nil))) pe_bl (nomark _)))))), ?_⟩
    refine ⟨_, rfl, a, ns, rfl, hS, fun H1 p s1 np z1 => ?_⟩
    refine ⟨_, rfl, a, _, rfl, .inl (s1.seq hS), _, _, rfl, _, _, rfl, rfl, _, rfl, ?_, ?_, for_range (lo := 0) (n := _) (fun i σ H' => ∃ y2 y3 y4 y5 y6 y7 y8 y9 y10 y11 y12 y13 y14, σ = [some (.ref a), some (.ref p), y2, y3, y4, y5, y6, y7, y8, y9, y10, y11, y12, y13, y14, none] ∧ Reel H' p)
      ⟨none, none, none, none, none, none, none, none, none, none, none, none, none, rfl, z1⟩ (fun i σ H2 hi hP => ?_) (fun σ H2 hP => ?_)⟩
    · rw [List.length_map]
      split <;> omega
    · rw [List.length_map]
      split <;> omega
    · obtain ⟨y2, y3, y4, y5, y6, y7, y8, y9, y10, y11, y12, y13, y14, rfl, z2⟩ := hP
      clear z1
      -- names
      refine ⟨_, rfl, _, rfl, p, 3, rfl, z2, by decide, by decide, fun H3 r3 b3 z3 r30 r31 => ?_⟩
      refine ⟨_, _, rfl, rfl, p, _, rfl, z3, by omega, by omega, fun H4 n0 ks b4 z4 nn0 hn0 on0 lk okk hk3 => ?_⟩
      obtain ⟨knd, kso, k13⟩ := hk3
      have l2 : 2 ≤ ks.length ∧ ks.length ≤ 4 := by omega
      have e1 : (1 : Int).toNat = 1 := rfl
      refine ⟨_, rfl, 1, rfl, n0, _, rfl, .of hn0, fun u1 nu1 => ?_⟩
      rw [cutV_tkW _ 1 (by decide), ← List.map_take]
      have g1 := same_upd (o := .lst ((ks.take (1 : Int).toNat).map V.str)) nu1
      have hu1 : (upd H4 u1 (.lst ((ks.take (1 : Int).toNat).map V.str))) u1 = some (.lst ((ks.take (1 : Int).toNat).map V.str)) := upd_same
      refine ⟨(by show 4 ≤ sizeLine; decide), fun u2 nu2 => ?_⟩
      have g2 := g1.trans (same_upd (o := .lst [.str "aaa", .str "zzz", .str "other", .str "x"]) nu2)
      have hu2 : (upd (upd H4 u1 (.lst ((ks.take (1 : Int).toNat).map V.str))) u2 (.lst [.str "aaa", .str "zzz", .str "other", .str "x"])) u2 = some (.lst [.str "aaa", .str "zzz", .str "other", .str "x"]) := upd_same
      have hu1 := same_upd (o := .lst [.str "aaa", .str "zzz", .str "other", .str "x"]) nu2 _ _ hu1
      have hn5 := g2 _ _ hn0
      have z5 := z4.same g2
      have u2p : u2 ≠ p := (z4.same g1).ne nu2
      have u1p : u1 ≠ p := z4.ne nu1
      generalize upd (upd H4 u1 (.lst ((ks.take (1 : Int).toNat).map V.str))) u2 (.lst [.str "aaa", .str "zzz", .str "other", .str "x"]) = H5 at *
      have hu2 : H5 u2 = some (.lst (extra.map V.str)) := hu2
      refine ⟨_, rfl, p, 5, rfl, z5, by decide, by decide, fun H6 r6 b6 z6 r60 r61 => ?_⟩
      have hu1 := b6.strs z5 hu1
      have hu2 := b6.strs z5 hu2
      have hn6 := b6.strs z5 hn5
      refine ⟨r6, rfl, u2, _, rfl, .of hu2, fun u3 nu3 => ?_⟩
      rw [cut_dropR _ r6 r60 (by show r6 ≤ ((extra.map V.str).length : Int); rw [List.length_map]; show r6 ≤ 4; omega), ← List.map_drop]
      have g3 := same_upd (o := .lst ((extra.drop r6.toNat).map V.str)) nu3
      refine ⟨1, rfl, u3, _, rfl, .of upd_same, fun u4 nu4 => ?_⟩
      rw [cutV_tkW _ 1 (by decide), ← List.map_take]
      have g4 := g3.trans (same_upd (o := .lst (((extra.drop r6.toNat).take (1 : Int).toNat).map V.str)) nu4)
      obtain ⟨ex, eex⟩ : ∃ ex, ex = (extra.drop r6.toNat).take (1 : Int).toNat := ⟨_, rfl⟩
      have lex : ex.length ≤ 1 := by rw [eex, List.length_take]; show min 1 _ ≤ 1; omega
      have mex : ∀ x ∈ ex, x ∈ extra := fun x hx => by
        rw [eex] at hx
        exact List.mem_of_mem_drop (List.mem_of_mem_take hx)
      have hu4 : (upd (upd H6 u3 (.lst ((extra.drop r6.toNat).map V.str))) u4 (.lst (((extra.drop r6.toNat).take (1 : Int).toNat).map V.str))) u4 = some (.lst (ex.map V.str)) := by rw [eex]; exact upd_same
      have hu1 := g4 _ _ hu1
      have hn7 := g4 _ _ hn6
      have z7 := z6.same g4
      generalize upd (upd H6 u3 (.lst ((extra.drop r6.toNat).map V.str))) u4 (.lst (((extra.drop r6.toNat).take (1 : Int).toNat).map V.str)) = H7 at *
      refine ⟨u1, u4, _, _, rfl, rfl, hu1, hu4, smallE (by simp only [List.length_map, List.length_take]; omega), fun u5 nu5 => ?_⟩
      rw [← List.map_append]
      have g5 := same_upd (o := .lst ((ks.take (1 : Int).toNat ++ ex).map V.str)) nu5
      have hu5 : (upd H7 u5 (.lst ((ks.take (1 : Int).toNat ++ ex).map V.str))) u5 = some (.lst ((ks.take (1 : Int).toNat ++ ex).map V.str)) := upd_same
      have hn8 := g5 _ _ hn7
      have z8 := z7.same g5
      generalize upd H7 u5 (.lst ((ks.take (1 : Int).toNat ++ ex).map V.str)) = H8 at *
      refine ⟨_, rfl, 1, rfl, n0, _, rfl, .of hn8, fun u6 nu6 => ?_⟩
      rw [cut_dropR _ 1 (by decide) (by rw [List.length_map]; omega), ← List.map_drop]
      have g6 := same_upd (o := .lst ((ks.drop (1 : Int).toNat).map V.str)) nu6
      have hu6 : (upd H8 u6 (.lst ((ks.drop (1 : Int).toNat).map V.str))) u6 = some (.lst ((ks.drop (1 : Int).toNat).map V.str)) := upd_same
      have hu5 := g6 _ _ hu5
      have z9 := z8.same g6
      generalize upd H8 u6 (.lst ((ks.drop (1 : Int).toNat).map V.str)) = H9 at *
      refine ⟨u5, u6, _, _, rfl, rfl, hu5, hu6, smallE (by simp only [List.length_map, List.length_append, List.length_take, List.length_drop]; omega), fun m nm => ?_⟩
      rw [← List.map_append]
      obtain ⟨nm', enm⟩ : ∃ nm', nm' = ks.take (1 : Int).toNat ++ ex ++ ks.drop (1 : Int).toNat := ⟨_, rfl⟩
      rw [← enm]
      have ln : 2 ≤ nm'.length ∧ nm'.length ≤ 5 := by
        rw [enm]
        simp only [List.length_append, List.length_take, List.length_drop]
        have : (1 : Int).toNat = 1 := rfl
        omega
      have mnm : ∀ x ∈ nm', x ∈ ks ∨ x ∈ extra := fun x hx => by
        rw [enm] at hx
        rcases List.mem_append.mp hx with h | h
        · rcases List.mem_append.mp h with h | h
          · exact .inl (List.mem_of_mem_take h)
          · exact .inr (mex x h)
        · exact .inl (List.mem_of_mem_drop h)
      have okn : ∀ x ∈ nm', KindOk x := fun x hx => (mnm x hx).elim (okk x) (extra_ok x)
      have noy : ("yyyy" : Str) ∉ nm' := fun h => (mnm _ h).elim (fun h => yyyy_no.1 (k13 _ h)) (fun h => yyyy_no.2 h)
      have gm := same_upd (o := .lst (nm'.map V.str)) nm
      have hm : (upd H9 m (.lst (nm'.map V.str))) m = some (.lst (nm'.map V.str)) := upd_same
      have z10 := z9.same gm
      generalize upd H9 m (.lst (nm'.map V.str)) = H10 at *
      clear gm g6 g5 g4 g3 g2 g1 hu1 hu2 hu4 hu5 hu6 hn0 hn5 hn6 hn7 hn8 z9 z8 z7 z6 z5 z4 z3 z2 b3 b4 b6 nm nu6 nu5 nu4 nu3 nu2 nu1 enm eex e1
      -- size
      refine ⟨_, rfl, (by show 3 ≤ sizeLine; decide), fun v1 nv1 => ?_⟩
      obtain ⟨vl, evl⟩ : ∃ vl : List V, vl = [.int 7, .int 23, .int 41] := ⟨_, rfl⟩
      have gv := same_upd (o := .lst [.int 7, .int 23, .int 41]) nv1
      have hm1 := gv _ _ hm
      have hv1 : (upd H10 v1 (.lst [.int 7, .int 23, .int 41])) v1 = some (.lst [.int 7, .int 23, .int 41]) := upd_same
      have z11 := z10.same gv
      generalize upd H10 v1 (.lst [.int 7, .int 23, .int 41]) = H11 at *
      obtain ⟨sz, esz, sz1⟩ := pick3W ((0 + (i : Int)) % 3) (by omega) (by omega) 7 23 41 (fun g => 1 ≤ g ∧ g ≤ 41) (by decide) (by decide) (by decide)
      refine ⟨_, rfl, _, _, rfl, rfl, (by show (0 : Int) < 3; decide), v1, _, _, _, rfl, rfl, .of hv1, esz, p, sz, rfl, z11, sz1.1, wide8 (by omega) (by omega), fun H12 size b12 z12 si0 si1 => ?_⟩
      have hm2 := b12.strs z11 hm1
      have size40 : size ≤ 40 := by omega
      clear hm hm1 hv1 z10 z11 gv esz b12 nv1 evl
      -- items
      refine ⟨_, rfl, size, rfl, by omega, by omega, fun L nL => ?_⟩
      have Lp := z12.ne nL
      have gL := same_upd (o := .lst []) nL
      have mL : m ≠ L := ne_of_none hm2 nL
      refine lc_range (lo := 0) (n := size.toNat) (fun j H' => ∃ its : List Str, Reel H' p ∧ Off H' p L ∧ H' L = some (.lst (its.map V.str)) ∧ its.length = j ∧ (∀ x ∈ its, x ∈ nm') ∧ H' m = some (.lst (nm'.map V.str)))
        ⟨[], z12.same gL, (z12.off nL).upd Lp, upd_same, rfl, (fun x h => by cases h), gL _ _ hm2⟩ (fun j H13 hj hP => ?_) (fun H13 hP => ?_)
      · obtain ⟨its, z13, o13, h13, lits, iin, hm13⟩ := hP
        refine ⟨rfl, yesT ⟨_, rfl, _, rfl, _, rfl, m, _, rfl, .inl (.of hm13), p, _, rfl, z13, by rw [List.length_map]; omega, wide8 (by omega) (by rw [List.length_map]; omega), fun H14 r b14 z14 r0 r1 => ?_⟩⟩
        rw [List.length_map] at r1
        have ltn : r.toNat < nm'.length := by omega
        have en : atI (nm'.map V.str) r = some (.str nm'[r.toNat]) := atI_ofR r0 (by rw [List.getElem?_map, List.getElem?_eq_getElem ltn]; rfl)
        have mn := List.getElem_mem ltn
        generalize nm'[r.toNat] = x at en mn
        have h14 := b14.strs z13 h13
        have o14 := b14.off _ _ h13 o13
        have hm14 := b14.strs z13 hm13
        refine ⟨m, _, _, _, rfl, rfl, .of hm14, en, _, h14, ?_, its ++ [x], z14.upd o14, o14.upd Lp, ?_, ?_, fun y hy => ?_, ?_⟩
        · rw [List.length_map, lits]
          have hj : j < size.toNat := hj
          exact smallE (by omega)
        · rw [upd_same, List.map_append]
          rfl
        · rw [List.length_append, lits]
          rfl
        · rcases List.mem_append.mp hy with h | h
          · exact iin y h
          · rw [List.mem_singleton.mp h]
            exact mn
        · rw [upd_ne mL]
          exact hm14
      obtain ⟨its, z13, o13, h13, lits, iin, hm13⟩ := hP
      clear z12 hm2 o13 gL nL
      obtain ⟨k0, kt, ek0⟩ : ∃ k0 kt, nm' = k0 :: kt := by
        cases nm' with
        | nil => exact absurd ln.1 (by decide)
        | cons k0 kt => exact ⟨k0, kt, rfl⟩
      refine ⟨fun σ' H' => ∃ (fr : Addr) (c : Nat), σ' = [some (.ref a), some (.ref p), some (.int (0 + (i : Int))), some (.ref m), some (.int size), some (.ref L), some (.ref fr), y7, y8, y9, y10, y11, y12, y13, y14, none] ∧ Reel H' p ∧ H' m = some (.lst (nm'.map V.str)) ∧ H' L = some (.lst (its.map V.str)) ∧ H' fr = some (.lst ((List.replicate c k0).map V.str)) ∧ c ≤ 350, ?_, fun σ' H14 hM => ?_⟩
      · have e0 : atI (nm'.map V.str) 0 = some (.str k0) := by rw [ek0]; exact atI_ofR (by decide) rfl
        refine ⟨_, rfl, m, _, _, _, rfl, rfl, .of hm13, e0, (by show 1 ≤ sizeLine; decide), fun w1 nw1 => ?_⟩
        have gw := same_upd (o := .lst [.str k0]) nw1
        have hw1 : (upd H13 w1 (.lst [.str k0])) w1 = some (.lst [.str k0]) := upd_same
        have hm14 := gw _ _ hm13
        have h14 := gw _ _ h13
        have z14 := z13.same gw
        generalize upd H13 w1 (.lst [.str k0]) = H14 at *
        refine ⟨_, rfl, _, rfl, rfl, _, rfl, ite2 (fun _ => ?_) (fun _ => ?_)⟩
        all_goals
          refine ⟨p, _, rfl, z14, by decide, by decide, fun H15 r b15 z15 r0 r1 => ?_⟩
          have hw15 : H15 w1 = some (.lst [.str k0]) := b15.strs (ks := [k0]) z14 hw1
          have hm15 := b15.strs z14 hm14
          have h15 := b15.strs z14 h14
          refine ⟨_, rfl, _, _, rfl, rfl, (by show (0 : Int) < 3; decide), rfl, .inr ⟨_, rfl, _, _, rfl, rfl, .inr ⟨by split <;> decide, by split <;> decide⟩, ?_⟩⟩
          obtain ⟨e, ee, e01⟩ : ∃ e : Int, e = (if decide (V.int ((0 + (i : Int)) % 3) = V.int 2) = true then 1 else 0) ∧ (e = 0 ∨ e = 1) := ⟨_, rfl, by split <;> simp⟩
          rw [← ee]
          obtain ⟨c, ec, c350⟩ : ∃ c : Nat, r * e = (c : Int) ∧ c ≤ 350 := by
            rcases e01 with h | h
            · exact ⟨0, by rw [h, Int.mul_zero]; rfl, Nat.zero_le _⟩
            · exact ⟨r.toNat, by rw [h, Int.mul_one]; omega, by omega⟩
          dsimp only
          rw [ec]
          refine ⟨w1, c, [.str k0], rfl, rfl, hw15, by omega, by omega, smallE (by show 1 * ((c : Int)).toNat ≤ _; omega), fun fr nfr => ?_⟩
          rw [flat_one, Int.toNat_natCast]
          have gf := same_upd (o := .lst (List.replicate c (V.str k0))) nfr
          exact ⟨fr, c, rfl, z15.same gf, gf _ _ hm15, gf _ _ h15, by rw [upd_same, List.map_replicate], c350⟩
      obtain ⟨fr, c, rfl, z14, hm14, h14, hf14, c350⟩ := hM
      clear z13 h13 hm13
      have li : its.length ≤ 40 := by omega
      have frin : ∀ x ∈ List.replicate c k0, x ∈ nm' := fun x hx => by
        rw [List.eq_of_mem_replicate hx, ek0]
        exact List.mem_cons_self
      -- varied
      refine ⟨_, rfl, _, rfl, _, rfl, p, L, m, its, nm', rfl, z14, h14, by omega, hm14, ln.1, by omega, okn, iin, fun H15 va out b15 z15 nva hva lo oin => ?_⟩
      have h15 := b15.strs z14 h14
      have hm15 := b15.strs z14 hm14
      have hf15 := b15.strs z14 hf14
      clear z14 h14 hm14 hf14 b15
      -- one, other
      refine ⟨_, rfl, _, rfl, fr, L, _, _, rfl, rfl, hf15, h15, smallE (by simp only [List.length_map, List.length_replicate]; omega), fun q1 nq1 => ?_⟩
      rw [← List.map_append]
      obtain ⟨A, eA⟩ : ∃ A, A = List.replicate c k0 ++ its := ⟨_, rfl⟩
      obtain ⟨B, eB⟩ : ∃ B, B = List.replicate c k0 ++ out := ⟨_, rfl⟩
      have lA : A.length ≤ 400 := by rw [eA, List.length_append, List.length_replicate]; omega
      have lB : B.length ≤ 400 := by rw [eB, List.length_append, List.length_replicate]; omega
      have inA : ∀ x ∈ A, x ∈ nm' := fun x hx => by
        rw [eA] at hx
        exact (List.mem_append.mp hx).elim (frin x) (iin x)
      have inB : ∀ x ∈ B, x ∈ nm' := fun x hx => by
        rw [eB] at hx
        exact (List.mem_append.mp hx).elim (frin x) (oin x)
      have fewA : (runR A).length ≤ 100 := by
        have := runR_front c k0 its
        rw [eA]
        omega
      have fewB : (runR B).length ≤ 100 := by
        have := runR_front c k0 out
        rw [eB]
        omega
      obtain ⟨okA, l4A, itA⟩ := seq_runs lA fun x hx => okn x (inA x hx)
      obtain ⟨okB, l4B, itB⟩ := seq_runs lB fun x hx => okn x (inB x hx)
      have s20 : (setS (A ++ B)).length ≤ 20 := by
        have := nodup_sub (setS (A ++ B)) nm' (setS_nodup _) fun x hx => by
          rcases List.mem_append.mp (setS_mem.mp hx) with h | h
          · exact inA x h
          · exact inB x h
        omega
      have s20' : (setS (B ++ A)).length ≤ 20 := by
        have := nodup_sub (setS (B ++ A)) nm' (setS_nodup _) fun x hx => by
          rcases List.mem_append.mp (setS_mem.mp hx) with h | h
          · exact inB x h
          · exact inA x h
        omega
      rw [← eA]
      have g1 := same_upd (o := .lst (A.map V.str)) nq1
      refine ⟨q1, A, rfl, upd_same, by omega, fun x hx => okn x (inA x hx), fun H16 o1 s16 no1 ho1 => ?_⟩
      have s1516 := g1.trans s16
      refine ⟨_, rfl, _, rfl, fr, va, _, _, rfl, rfl, s1516 _ _ hf15, s1516 _ _ hva, smallE (by simp only [List.length_map, List.length_replicate]; omega), fun q2 nq2 => ?_⟩
      rw [← List.map_append, ← eB]
      have g2 := same_upd (o := .lst (B.map V.str)) nq2
      refine ⟨q2, B, rfl, upd_same, by omega, fun x hx => okn x (inB x hx), fun H17 o2 s17 no2 ho2 => ?_⟩
      have s1617 := g2.trans s17
      have s1517 := s1516.trans s1617
      have ho1 := ho1.same s1617
      have hm17 := s1517 _ _ hm15
      have z17 := z15.same s1517
      clear h15 hm15 hf15 hva z15 g1 s16 s1516 s1517 s1617 g2 s17 nq1 nq2 no1 no2 nva
      refine ⟨_, _, rfl, ?_⟩
      refine ⟨_, rfl, _, rfl, _, rfl, (by show 1 ≤ sizeLine; decide), fun y1 ny1 => ?_⟩
      have g1 := same_upd (o := .lst [.str "yyyy"]) ny1
      have hy1 : (upd H17 y1 (.lst [.str "yyyy"])) y1 = some (.lst [.str "yyyy"]) := upd_same
      refine ⟨m, y1, _, _, rfl, rfl, g1 _ _ hm17, hy1, smallE (by rw [List.length_map]; show nm'.length + 1 ≤ _; omega), fun y2 ny2 => ?_⟩
      have ey : nm'.map V.str ++ [V.str "yyyy"] = (nm' ++ [yS]).map V.str := by rw [List.map_append]; rfl
      rw [ey]
      have g2 := g1.trans (same_upd (o := .lst ((nm' ++ [yS]).map V.str)) ny2)
      refine ⟨o1, o2, y2, runR A, runR B, nm' ++ [yS], rfl, ho1.same g2, okA, l4A, ho2.same g2, okB, l4B, upd_same, fun k hk => ?_, fun H20 due s20a hdue => ?_⟩
      · rcases List.mem_append.mp hk with h | h
        · exact okn k h
        · rw [List.mem_singleton.mp h]
          exact yyyy_ok
      rw [itA, itB] at hdue
      have due_all : due = true ↔ AllEq A B := by
        constructor
        · intro h
          refine AllEq.of (o := "yyyy") ⟨fun z => noy (inA _ z), fun z => noy (inB _ z)⟩ (fun k hk n hn => hdue.mp h k ?_ n hn) (fun n hn => hdue.mp h "yyyy" (List.mem_append_right _ List.mem_cons_self) n hn)
          refine List.mem_append_left _ ?_
          rcases List.mem_append.mp hk with h | h
          · exact inA k h
          · exact inB k h
        · exact fun al => hdue.mpr fun k _ n hn => al k n hn
      have sA := g2.trans s20a
      have ho1 := ho1.same sA
      have ho2 := ho2.same sA
      have z20 := z17.same sA
      clear g1 g2 s20a sA hy1 ny1 ny2 ey z17 hm17 hdue
      -- dressed
      refine ⟨_, rfl, _, rfl, p, .ref o1, dSq (runR A), rfl, z20, simR_seqW z20 ho1 (by omega), fun H21 v9 b21 z21 h9 => ?_⟩
      have hd9 := sim_runs h9
      have ho1 := b21.runs z20 ho1
      have ho2 := b21.runs z20 ho2
      clear h9 b21 z20
      -- kept
      have nums : ∀ X : List Str, SeqOk (runR X) → ∀ r ∈ runR X, KindOk r.1 ∧ r.2.natAbs < 10 ^ 60 := fun X ok r hr => by
        have h := ok.2.1 r hr
        have h1 := h.2.1
        have h2 := h.2.2
        refine ⟨h.1, ?_⟩
        have : r.2.natAbs ≤ 1000000000000000000000000000000 := by omega
        exact Nat.lt_of_le_of_lt this (by decide)
      obtain ⟨d1, hd1, nd1⟩ := dps_runs (K := K) ho1.dress (nums A okA) fewA
      obtain ⟨d2, hd2, nd2⟩ := dps_runs (K := K) ho2.dress (nums B okB) fewB
      obtain ⟨d3, hd3, nd3⟩ := dps_runs (K := K) hd9 (nums A okA) fewA
      have nic : Nice ((41000 + 1) * 3) 3 (.list [d1, d2, d3]) := nice_list (w := 41000) (n := 2) (ds := [d1, d2, d3]) fun d hd => by
        rcases List.mem_cons.mp hd with e | hd
        · rw [e]; exact nd1
        · rcases List.mem_cons.mp hd with e | hd
          · rw [e]; exact nd2
          · rw [List.mem_singleton.mp hd]; exact nd3
      obtain ⟨n1, n2, n3⟩ := nic.fits (by decide) (by decide)
      have three : ∀ {H' : Hp} {x : Addr}, Same H21 H' → H' x = some (.lst [.ref o1, .ref o2, v9]) → Dp K H' (.ref x) (.list [d1, d2, d3]) := fun s h => .lst (.of h) (.cons (hd1 _ s) (.cons (hd2 _ s) (.cons (hd3 _ s) .nil)))
      refine ⟨_, rfl, _, rfl, _, rfl, (by show 3 ≤ sizeLine; decide), fun k1 nk1 => ?_⟩
      have g1 := same_upd (o := .lst [.ref o1, .ref o2, v9]) nk1
      refine ⟨k1, _, rfl, three g1 upd_same, n1, n2, n3, ?_⟩
      -- found
      refine ⟨_, rfl, _, rfl, .ref o1, .ref o2, runR A, runR B, rfl, (ho1.same g1).dress, okA, l4A, (ho2.same g1).dress, okB, l4B, by rw [itA, itB]; exact s20, fun H23 r1 s23 hr1 => ?_⟩
      rw [itA, itB] at hr1
      have g2 := g1.trans s23
      refine ⟨_, rfl, _, rfl, .ref o2, v9, runR B, runR A, rfl, (ho2.same g2).dress, okB, l4B, hd9.same g2, okA, l4A, by rw [itA, itB]; exact s20', fun H24 r2 s24 hr2 => ⟨(by show 2 ≤ sizeLine; decide), fun fl nfl => ?_⟩⟩
      rw [itA, itB] at hr2
      have e1 : r1 = due := Bool.eq_iff_iff.mpr (hr1.trans due_all.symm)
      have e2 : r2 = due := Bool.eq_iff_iff.mpr ((hr2.trans ⟨AllEq.symm, AllEq.symm⟩).trans due_all.symm)
      subst e1
      subst e2
      have g3 := g2.trans s24
      have g4 := g3.trans (same_upd (o := .lst [.bl r2, .bl r2]) nfl)
      have hfl : (upd H24 fl (.lst [.bl r2, .bl r2])) fl = some (.lst [.bl r2, .bl r2]) := upd_same
      generalize upd H24 fl (.lst [.bl r2, .bl r2]) = H25 at *
      have bools : (PyData.list [.bool r2, .bool r2]).showable = true ∧ SeqAt.shaped (.list [.bool r2, .bool r2]) = true ∧ (PyData.list [.bool r2, .bool r2]).shown.length ≤ sizeLine := by
        cases r2 <;> exact ⟨by decide +kernel, by decide +kernel, by decide +kernel⟩
      obtain ⟨c1, c2, c3⟩ := bools
      refine ⟨_, rfl, fl, .list [.bool r2, .bool r2], rfl, .lst (.of hfl) (.cons (.bl _) (.cons (.bl _) .nil)), c1, c2, c3, _, rfl, _, rfl, (by show 2 ≤ sizeLine; decide), fun f2 nf2 => ?_⟩
      have g5 := g4.trans (same_upd (o := .lst [.bl r2, .bl r2]) nf2)
      refine ⟨f2, .list [.bool r2, .bool r2], rfl, .lst (.of upd_same) (.cons (.bl _) (.cons (.bl _) .nil)), c1, c2, c3, rfl, _, rfl, iteN (by rw [decide_eq_true rfl]; rfl) ?_⟩
      refine ⟨_, rfl, _, rfl, _, rfl, (by show 3 ≤ sizeLine; decide), fun k2 nk2 => ?_⟩
      have g6 := g5.trans (same_upd (o := .lst [.ref o1, .ref o2, v9]) nk2)
      refine ⟨k2, _, rfl, three g6 upd_same, n1, n2, n3, _, rfl, rfl, _, rfl, iteN (by rw [decide_eq_true rfl]; rfl) ?_⟩
      generalize upd (upd H25 f2 (.lst [.bl r2, .bl r2])) k2 (.lst [.ref o1, .ref o2, v9]) = H26 at *
      have ho1 := ho1.same g6
      have ho2 := ho2.same g6
      have hd9 := hd9.same g6
      have z26 := z21.same g6
      clear three hd1 hd2 hd3 nd1 nd2 nd3 nic n1 n2 n3 c1 c2 c3 g1 g2 g3 g4 g5 g6 hr1 hr2 s23 s24 hfl nk1 nk2 nf2 nfl z21
      -- states that differ
      by_cases al : AllEq A B
      · have hdue : r2 = true := due_all.mpr al
        refine ⟨_, rfl, _, rfl, .ref o1, .ref o2, runR A, runR B, rfl, ho1.dress, okA, l4A, ho2.dress, okB, l4B, by rw [itA, itB]; exact s20, fun H27 l x k n s27 nl hl hx kk hn ne => ?_, fun H27 s27 _ => ?_⟩
        · rw [itA, itB] at ne hn
          exact absurd (al k n hn) ne
        refine ⟨_, rfl, _, rfl, .ref o2, v9, runR B, runR A, rfl, (ho2.same s27).dress, okB, l4B, hd9.same s27, okA, l4A, by rw [itA, itB]; exact s20', fun H28 l x k n s28 nl hl hx kk hn ne => ?_, fun H28 s28 _ => ?_⟩
        · rw [itA, itB] at ne hn
          exact absurd (al.symm k n hn) ne
        subst hdue
        refine ⟨(by show 2 ≤ sizeLine; decide), fun S nS => ⟨S, rfl, ⟨_, .of upd_same⟩, for_list (K := K) (a := S) (xs := [.non, .non]) (fun j σ H' => ∃ y12, σ = [some (.ref a), some (.ref p), some (.int (0 + (i : Int))), some (.ref m), some (.int size), some (.ref L), some (.ref fr), some (.ref va), some (.bl true), some v9, some (.str (PyData.list [d1, d2, d3]).shown), some (.ref fl), y12, some (.ref o1), some (.ref o2), none] ∧ H' S = some (.lst [.non, .non]) ∧ Reel H' p)
          ⟨_, rfl, upd_same, ((z26.same s27).same s28).same (same_upd nS)⟩ (fun j σ H' _ hP => ?_) (fun j x σ H29 ex hP => ?_) (fun σ H29 hP => ?_)⟩⟩
        · obtain ⟨_, _, h, _⟩ := hP
          exact .of h
        · obtain ⟨y12, rfl, hS, zS⟩ := hP
          have ex0 : x = .non := by
            match j, ex with
            | 0, ex => exact (Option.some.inj ex).symm
            | 1, ex => exact (Option.some.inj ex).symm
            | n + 2, ex => simp at ex
          subst ex0
          refine ⟨_, rfl, rfl, _, rfl, rfl, _, rfl, iteN (by decide +kernel) ?_⟩
          refine ⟨_, rfl, rfl, _, rfl, iteN (by decide +kernel) (iteF ?_)⟩
          refine ⟨_, rfl, rfl, _, rfl, iteN (by decide +kernel) (iteF ?_)⟩
          exact ⟨_, rfl, hS, zS⟩
        · obtain ⟨y12, rfl, hS, zS⟩ := hP
          exact ⟨_, _, _, _, _, _, _, _, _, _, _, _, _, rfl, zS⟩
      · have hdue : r2 = false := by
          cases r2 with
          | false => rfl
          | true => exact absurd (due_all.mp rfl) al
        subst hdue
        refine ⟨_, rfl, _, rfl, .ref o1, .ref o2, runR A, runR B, rfl, ho1.dress, okA, l4A, ho2.dress, okB, l4B, by rw [itA, itB]; exact s20, fun H27 S1 x1 k1 n1 s27 nS1 hS1 hx1 kk1 _ ne1 => ?_, fun H27 s27 al' => ?_⟩
        rotate_left
        · rw [itA, itB] at al'
          exact absurd al' al
        rw [itA, itB] at ne1
        refine ⟨_, rfl, _, rfl, .ref o2, v9, runR B, runR A, rfl, (ho2.same s27).dress, okB, l4B, hd9.same s27, okA, l4A, by rw [itA, itB]; exact s20', fun H28 S2 x2 k2 n2 s28 nS2 hS2 hx2 kk2 _ ne2 => ?_, fun H28 s28 al' => ?_⟩
        rotate_left
        · rw [itA, itB] at al'
          exact absurd al'.symm al
        rw [itA, itB] at ne2
        refine ⟨(by show 2 ≤ sizeLine; decide), fun S nS => ?_⟩
        have gS := same_upd (o := .lst [.ref S1, .ref S2]) nS
        have hS : (upd H28 S (.lst [.ref S1, .ref S2])) S = some (.lst [.ref S1, .ref S2]) := upd_same
        have hS1 := gS _ _ (s28 _ _ hS1)
        have hS2 := gS _ _ hS2
        have hx1 := (hx1.same s28).same gS
        have hx2 := hx2.same gS
        have ho1 := ((ho1.same s27).same s28).same gS
        have ho2 := ((ho2.same s27).same s28).same gS
        have zS := ((z26.same s27).same s28).same gS
        generalize upd H28 S (.lst [.ref S1, .ref S2]) = H29 at *
        refine ⟨S, rfl, ⟨_, .of hS⟩, for_list (K := K) (a := S) (xs := [.ref S1, .ref S2]) (fun j σ H' => ∃ y12, σ = [some (.ref a), some (.ref p), some (.int (0 + (i : Int))), some (.ref m), some (.int size), some (.ref L), some (.ref fr), some (.ref va), some (.bl false), some v9, some (.str (PyData.list [d1, d2, d3]).shown), some (.ref fl), y12, some (.ref o1), some (.ref o2), none] ∧ Same H29 H')
          ⟨_, rfl, Same.refl _⟩ (fun j σ H' _ hP => ?_) (fun j x σ H30 ex hP => ?_) (fun σ H30 hP => ?_)⟩
        · obtain ⟨_, _, h⟩ := hP
          exact .of (h _ _ hS)
        · obtain ⟨y12, rfl, sm⟩ := hP
          obtain ⟨T1, y, k, n, rfl, hT, hy, kk, ne⟩ : ∃ T1 y k n, x = .ref T1 ∧ H29 T1 = some (.lst [y]) ∧ StV H29 y (withR k ((n : Nat) : Int)) ∧ KindOk k ∧ ¬ EqK A B k n := by
            match j, ex with
            | 0, ex => exact ⟨S1, x1, k1, n1, (Option.some.inj ex).symm, hS1, hx1, kk1, ne1⟩
            | 1, ex => exact ⟨S2, x2, k2, n2, (Option.some.inj ex).symm, hS2, hx2, kk2, fun e => ne2 e.symm⟩
            | n + 2, ex => simp at ex
          have hT := sm _ _ hT
          have hy := hy.same sm
          have dn : decide (V.ref T1 = V.non) = false := decide_eq_false fun z => by cases z
          have posA : ∀ r ∈ runR A, 1 ≤ r.2 := fun r hr => (okA.2.1 r hr).2.1
          have posB : ∀ r ∈ runR B, 1 ≤ r.2 := fun r hr => (okB.2.1 r hr).2.1
          have po : PosO (withR k (n : Int)) := pos_with (by omega)
          have so : ∀ X : List Str, (∀ x ∈ X, x ∈ nm') → StOk (stI X (withR k (n : Int))) := fun X hX => stOk_stI _ _ (fun x hx => okn x (hX x hx)) (ok_with kk (by omega))
          refine ⟨_, rfl, rfl, _, rfl, rfl, _, rfl, iteN (by rw [dn]; decide +kernel) ?_⟩
          refine ⟨_, rfl, rfl, _, rfl, iteP (by rw [dn]; rfl) ?_⟩
          refine ⟨_, rfl, _, rfl, T1, _, _, y, rfl, rfl, .of hT, rfl, o1, runR A, y, withR k (n : Int), rfl, ho1.same sm, posA, hy, fun H31 v1 s31 hv1 => ?_⟩
          rw [st_items _ _ po posA, itA] at hv1
          refine ⟨_, rfl, _, rfl, T1, _, _, y, rfl, rfl, .of (s31 _ _ hT), rfl, o2, runR B, y, withR k (n : Int), rfl, (ho2.same sm).same s31, posB, hy.same s31, fun H32 v2 s32 hv2 => ?_⟩
          rw [st_items _ _ po posB, itB] at hv2
          refine ⟨dOt (stI A (withR k (n : Int))), dOt (stI B (withR k (n : Int))), dp_o (hv1.same s32), dp_o hv2, shaped_o (so A inA), shaped_o (so B inB), _, rfl, ?_⟩
          have ne' : ¬ stI A (withR k (n : Int)) = stI B (withR k (n : Int)) := ne
          rw [eqv_o, decide_eq_false ne']
          refine iteF ?_
          have s3032 := s31.trans s32
          refine ⟨_, rfl, rfl, _, rfl, iteP (by rw [dn]; rfl) ?_⟩
          refine ⟨_, rfl, T1, _, _, y, rfl, rfl, .of (s3032 _ _ hT), rfl, ?_⟩
          obtain ⟨tyy, hty, hk1⟩ := st_notlist (K := K) (hy.same s3032)
          exact ⟨y, _, tyy, _, false, rfl, .ty "list", hty, hk1, false, rfl, iteF ⟨_, rfl, sm.trans s3032⟩⟩
        · obtain ⟨y12, rfl, sm⟩ := hP
          exact ⟨_, _, _, _, _, _, _, _, _, _, _, _, _, rfl, zS.same sm⟩
    · obtain ⟨y2, y3, y4, y5, y6, y7, y8, y9, y10, y11, y12, y13, y14, rfl, z2⟩ := hP
      have okE : SeqOk [] := ⟨Nat.zero_le _, (fun r h => by cases h), (fun i x y h => by simp at h)⟩
      refine ⟨Nat.zero_le _, fun e ne => ⟨Nat.zero_le _, fun e2 ne2 => ?_⟩⟩
      have ge := same_upd (o := .lst []) ne2
      refine ⟨.ref e, .ref e2, [], [], rfl, ⟨e, [], rfl, .inl (ge _ _ upd_same), .nil⟩, okE, by decide, ⟨e2, [], rfl, .inl upd_same, .nil⟩, okE, by decide, by decide, fun H3 r s3 hr' => ?_⟩
      have er : r = true := hr'.mpr fun k n hn => rfl
      subst er
      exact ⟨true, true, rfl, rfl, q _⟩
end
end UP

set_option Elab.async false
set_option linter.all false
set_option maxRecDepth 100000
set_option maxHeartbeats 4000000
namespace UP
open PySem PySem.Spec PyProof.Rows L2
section
variable {K : PySem.W.Frag} {h : Heap} {mg : Str → Option Value}
theorem df_mk {x : Str} {st : Stmt} {f : Addr} {od an : Option Addr} {sl : Array (Option Value)} {oc kV dc pm cd ct : Value} (X : K.In h) (G : h.Ns mainGlobals mg) (a : PySem.W.nsIn K mainGlobals x = some (some (.ref f)))
    (l : K.lookup f = some ⟨oc, od, .func (PySem.W.fnOf x x (defArgs st) (defBody st) (defScope st) .none kV dc pm an cd ct), sl⟩) (c : PySem.W.codeIn K cd x = true) (k : PySem.W.keepIn K (.ref f) = true) : Df K mg x st :=
  ⟨f, _, PySem.W.mg_of X G a, fun_mk l c k⟩
theorem dfd_mk {x : Str} {st : Stmt} {f T : Addr} {od an od2 : Option Addr} {sl sl2 : Array (Option Value)} {n2 : Nat} {oc kV dc pm cd ct oc2 : Value} (X : K.In h) (G : h.Ns mainGlobals mg) (a : PySem.W.nsIn K mainGlobals x = some (some (.ref f)))
    (l : K.lookup f = some ⟨oc, od, .func (PySem.W.fnOf x x (defArgs st) (defBody st) (defScope st) (.ref T) kV dc pm an cd ct), sl⟩) (t : K.lookup T = some ⟨oc2, od2, .seq #[.none] n2, sl2⟩) (c : PySem.W.codeIn K cd x = true) (k : PySem.W.keepIn K (.ref f) = true) : DfD K mg x st [.non] :=
  ⟨f, _, PySem.W.mg_of X G a, ⟨⟨oc, od, _, kV, dc, pm, an, cd, ct, sl, rfl, l, c, .inr ⟨(by intro z; cases z), T, _, [.none], n2, rfl, t, rfl, .cons rfl .nil⟩, .inl rfl⟩, k⟩⟩
theorem cst_mk {x : Str} {i : Int} {t : Tok} (X : K.In h) (G : h.Ns mainGlobals mg) (a : PySem.W.nsIn K mainGlobals x = some (some (.int i t))) : ∃ t, mg x = some (.int i t) := ⟨t, PySem.W.mg_of X G a⟩
theorem cst_mkS {x : Str} {i : Str} {t : Tok} (X : K.In h) (G : h.Ns mainGlobals mg) (a : PySem.W.nsIn K mainGlobals x = some (some (.str i t))) : ∃ t, mg x = some (.str i t) := ⟨t, PySem.W.mg_of X G a⟩
theorem ex_mk {x : Str} {D : Addr} (X : K.In h) (G : h.Ns mainGlobals mg) (a : PySem.W.nsIn K mainGlobals x = some (some (.ref D))) (c : PySem.W.excIn K D [.type "ValueError", .type "Exception", .type "BaseException", .type "object"] "ValueError.__new__" = true) (k : PySem.W.keepIn K (.ref D) = true) (bs : PySem.W.subIn K (.ref D) (.type "BaseException") = some true) (t : PySem.W.typeIn K (.ref D) = some (.type "type")) (m : PySem.W.exmOne K (.ref D) (.ref D) = some true) : ∃ C, Ex K mg x C := ⟨D, PySem.W.mg_of X G a, c, k, bs, t, m⟩
end
/-- all that the top has written -/
structure Top (K : PySem.W.Frag) (mg : Str → Option Value) : Prop where
  T : Tx mg
  d_is_whole : Df K mg "is_whole" s_is_whole
  d_is_within : Df K mg "is_within" s_is_within
  d_is_listed : Df K mg "is_listed" s_is_listed
  d_is_couple : Df K mg "is_couple" s_is_couple
  d_is_kind : Df K mg "is_kind" s_is_kind
  d_is_run : Df K mg "is_run" s_is_run
  d_is_sequence : Df K mg "is_sequence" s_is_sequence
  d_checked_runs : Df K mg "checked_runs" s_checked_runs
  d_checked_short_runs : Df K mg "checked_short_runs" s_checked_short_runs
  d_length_of : Df K mg "length_of" s_length_of
  d_items_of : Df K mg "items_of" s_items_of
  d_state_with : Df K mg "state_with" s_state_with
  d_ending_from : Df K mg "ending_from" s_ending_from
  d_endings_of : Df K mg "endings_of" s_endings_of
  d_effects_up_to : Df K mg "effects_up_to" s_effects_up_to
  d_other_kind : Df K mg "other_kind" s_other_kind
  d_three_letters : Df K mg "three_letters" s_three_letters
  d_first_difference : Df K mg "first_difference" s_first_difference
  d_have_same_effect : Df K mg "have_same_effect" s_have_same_effect
  d_state_that_differs : Df K mg "state_that_differs" s_state_that_differs
  d_law_reel : Df K mg "_law_reel" s_law_reel
  d_law_draw : Df K mg "_law_draw" s_law_draw
  d_law_names : Df K mg "_law_names" s_law_names
  d_law_step : Df K mg "_law_step" s_law_step
  d_law_end : Df K mg "_law_end" s_law_end
  d_law_of : Df K mg "_law_of" s_law_of
  d_law_dressed : Df K mg "_law_dressed" s_law_dressed
  d_law_packed : Df K mg "_law_packed" s_law_packed
  d_law_varied : Df K mg "_law_varied" s_law_varied
  d_law_equal : Df K mg "_law_equal" s_law_equal
  d_law_differs : Df K mg "_law_differs" s_law_differs
  x_SameEffect : ∃ C, Ex K mg "SameEffect" C
theorem Top.law {P : Program} {w : World} {K : PySem.W.Frag} {mg : Str → Option Value} (Y : Top K mg) {f : Addr} {fd : FuncData} (F : Fun K "law" "law" s_law f fd) (base : Heap) : FnC P w K mg base f fd ["script"] (sp_law K) := by
  have T := Y.T
  obtain ⟨CX_SameEffect, X_SameEffect⟩ := Y.x_SameEffect
  have g_is_whole := ok_is_whole (P := P) (w := w) (base := base) Y.d_is_whole T
  have g_is_within := ok_is_within (P := P) (w := w) (base := base) Y.d_is_within g_is_whole
  have g_is_listed := ok_is_listed (P := P) (w := w) (base := base) Y.d_is_listed T
  have g_is_couple := ok_is_couple (P := P) (w := w) (base := base) Y.d_is_couple T
  have g_is_kind := ok_is_kind (P := P) (w := w) (base := base) Y.d_is_kind T
  have g_is_run := ok_is_run (P := P) (w := w) (base := base) Y.d_is_run T g_is_couple g_is_kind g_is_within
  have g_is_sequence := ok_is_sequence (P := P) (w := w) (base := base) Y.d_is_sequence T g_is_listed g_is_run
  have g_checked_runs := ok_checked_runs (P := P) (w := w) (base := base) Y.d_checked_runs T g_is_sequence
  have g_length_of := ok_length_of (P := P) (w := w) (base := base) Y.d_length_of T
  have g_state_with := ok_state_with (P := P) (w := w) (base := base) Y.d_state_with
  have g_checked_short_runs := ok_checked_short_runs (P := P) (w := w) (base := base) Y.d_checked_short_runs T g_checked_runs g_length_of
  have g_items_of := ok_items_of (P := P) (w := w) (base := base) Y.d_items_of T g_checked_short_runs
  have g_law_draw := ok_law_draw (P := P) (w := w) (base := base) Y.d_law_draw T
  have g_law_reel := ok_law_reel (P := P) (w := w) (base := base) Y.d_law_reel T
  have g_law_names := ok_law_names (P := P) (w := w) (base := base) Y.d_law_names T g_law_draw
  have g_law_step := ok_law_step (P := P) (w := w) (base := base) Y.d_law_step
  have g_law_dressed := ok_law_dressed (P := P) (w := w) (base := base) Y.d_law_dressed T g_law_draw 2
  have g_law_end := ok_law_end (P := P) (w := w) (base := base) Y.d_law_end g_law_step
  have g_law_of := ok_law_of (P := P) (w := w) (base := base) Y.d_law_of
  have g_ending_from := ok_ending_from (P := P) (w := w) (base := base) Y.d_ending_from T
  have g_endings_of := ok_endings_of (P := P) (w := w) (base := base) Y.d_endings_of T g_ending_from
  have g_effects_up_to := ok_effects_up_to (P := P) (w := w) (base := base) Y.d_effects_up_to T g_state_with
  have g_three_letters := ok_three_letters (P := P) (w := w) (base := base) Y.d_three_letters T
  have g_other_kind := ok_other_kind (P := P) (w := w) (base := base) Y.d_other_kind g_three_letters
  have g_first_difference := ok_first_difference (P := P) (w := w) (base := base) Y.d_first_difference T g_endings_of g_effects_up_to g_other_kind g_state_with
  have g_law_packed := ok_law_packed (P := P) (w := w) (base := base) Y.d_law_packed
  have g_have_same_effect := ok_have_same_effect (P := P) (w := w) (base := base) Y.d_have_same_effect g_items_of g_first_difference
  have gX_state_that_differs := okX_state_that_differs (P := P) (w := w) (base := base) Y.d_state_that_differs X_SameEffect g_items_of g_first_difference
  have g_law_differs := ok_law_differs (P := P) (w := w) (base := base) Y.d_law_differs X_SameEffect gX_state_that_differs
  have g_law_equal := ok_law_equal (P := P) (w := w) (base := base) Y.d_law_equal T g_law_end g_law_of
  have g_law_varied := ok_law_varied (P := P) (w := w) (base := base) Y.d_law_varied T g_law_draw
  exact fn_law F T g_law_reel g_law_draw g_law_names g_law_end g_law_dressed g_law_packed g_law_varied g_law_equal g_law_differs g_have_same_effect
theorem all_mk {P : Program} {w : World} {K : PySem.W.Frag} {h : Heap} {mg : Str → Option Value} {fa f : Addr} {od an : Option Addr} {sl : Array (Option Value)} {oc kV dc pm cd ct : Value} (X : K.In h) (G : h.Ns mainGlobals mg) (hfa : mg "law" = some (.ref fa)) (a : PySem.W.nsIn K mainGlobals "law" = some (some (.ref f)))
    (l : K.lookup f = some ⟨oc, od, .func (PySem.W.fnOf "law" "law" (defArgs s_law) (defBody s_law) (defScope s_law) .none kV dc pm an cd ct), sl⟩) (c : PySem.W.codeIn K cd "law" = true) (k : PySem.W.keepIn K (.ref f) = true) (Y : Top K mg) :
    ∃ fd : FuncData, (∀ (s : Shared) (v : Value), BindsTo s fd ⟨[v], []⟩ [("script", v)]) ∧ ∀ base : Heap, K.In base → base.Ns mainGlobals mg → FnC P w K mg base fa fd ["script"] (sp_law K) := by
  have e := hfa.symm.trans (PySem.W.mg_of X G a)
  cases e
  exact ⟨_, fun s v => .of_eq rfl, fun base _ _ => Y.law (fun_mk (st := s_law) l c k) base⟩
end UP
open PySem PySem.W PyProof.Rows
set_option maxHeartbeats 0 in
theorem PySem.Challenge.cw_unlikepairs_k18_equal_effects_holds : PySem.Challenge.rw_unlikepairs_k18_equal_effects.Holds := by
  w_on; o_law; k_head; (case hw => w_witness2)
  k_fill
  refine UP.walkC (l := PySem.Challenge.rw_unlikepairs_k18_equal_effects) (n := 63) (x := "script") (sp := fun w => UP.sp_law _) rfl (by decide) rfl (fun w h Y => PySem.W.kIn_of Y) ?F (fun _ _ a ns hl hS => ⟨a, ns, rfl, hS, hl, fun _ => rfl⟩)
  case F =>
    intro w mg fa h KX G hmg
    refine' UP.all_mk KX G hmg ?a ?l ?c ?k ?Y
    (case a => k_is); (case l => k_is); (case c => k_is); (case k => k_is)
    case Y =>
      constructor
      · constructor
        · refine' PySem.W.mg_none_of KX G ?z; (case z => k_is)
        · refine' PySem.W.mg_none_of KX G ?z; (case z => k_is)
        · refine' PySem.W.mg_none_of KX G ?z; (case z => k_is)
        · refine' PySem.W.mg_none_of KX G ?z; (case z => k_is)
        · refine' PySem.W.mg_none_of KX G ?z; (case z => k_is)
        · refine' PySem.W.mg_none_of KX G ?z; (case z => k_is)
        · refine' PySem.W.mg_none_of KX G ?z; (case z => k_is)
        · refine' PySem.W.mg_none_of KX G ?z; (case z => k_is)
        · refine' PySem.W.mg_none_of KX G ?z; (case z => k_is)
        · refine' PySem.W.mg_none_of KX G ?z; (case z => k_is)
        · refine' PySem.W.mg_none_of KX G ?z; (case z => k_is)
        · refine' PySem.W.mg_none_of KX G ?z; (case z => k_is)
        · refine' PySem.W.mg_none_of KX G ?z; (case z => k_is)
        · refine' PySem.W.mg_none_of KX G ?z; (case z => k_is)
        · refine' PySem.W.mg_none_of KX G ?z; (case z => k_is)
        · refine' PySem.W.mg_none_of KX G ?z; (case z => k_is)
        · refine' PySem.W.mg_none_of KX G ?z; (case z => k_is)
        · refine' PySem.W.mg_none_of KX G ?z; (case z => k_is)
        · refine' PySem.W.mg_none_of KX G ?z; (case z => k_is)
        · refine' PySem.W.mg_none_of KX G ?z; (case z => k_is)
        · refine' PySem.W.mg_none_of KX G ?z; (case z => k_is)
        · refine' UP.cst_mkS KX G ?z; (case z => k_is)
        · refine' UP.cst_mk KX G ?z; (case z => k_is)
        · refine' UP.cst_mk KX G ?z; (case z => k_is)
        · refine' UP.cst_mk KX G ?z; (case z => k_is)
        · refine' UP.cst_mk KX G ?z; (case z => k_is)
      · refine' UP.df_mk KX G ?a ?l ?c ?k; (case a => k_is); (case l => k_is); (case c => k_is); (case k => k_is)
      · refine' UP.df_mk KX G ?a ?l ?c ?k; (case a => k_is); (case l => k_is); (case c => k_is); (case k => k_is)
      · refine' UP.df_mk KX G ?a ?l ?c ?k; (case a => k_is); (case l => k_is); (case c => k_is); (case k => k_is)
      · refine' UP.df_mk KX G ?a ?l ?c ?k; (case a => k_is); (case l => k_is); (case c => k_is); (case k => k_is)
      · refine' UP.df_mk KX G ?a ?l ?c ?k; (case a => k_is); (case l => k_is); (case c => k_is); (case k => k_is)
      · refine' UP.df_mk KX G ?a ?l ?c ?k; (case a => k_is); (case l => k_is); (case c => k_is); (case k => k_is)
      · refine' UP.df_mk KX G ?a ?l ?c ?k; (case a => k_is); (case l => k_is); (case c => k_is); (case k => k_is)
      · refine' UP.df_mk KX G ?a ?l ?c ?k; (case a => k_is); (case l => k_is); (case c => k_is); (case k => k_is)
      · refine' UP.df_mk KX G ?a ?l ?c ?k; (case a => k_is); (case l => k_is); (case c => k_is); (case k => k_is)
      · refine' UP.df_mk KX G ?a ?l ?c ?k; (case a => k_is); (case l => k_is); (case c => k_is); (case k => k_is)
      · refine' UP.df_mk KX G ?a ?l ?c ?k; (case a => k_is); (case l => k_is); (case c => k_is); (case k => k_is)
      · refine' UP.df_mk KX G ?a ?l ?c ?k; (case a => k_is); (case l => k_is); (case c => k_is); (case k => k_is)
      · refine' UP.df_mk KX G ?a ?l ?c ?k; (case a => k_is); (case l => k_is); (case c => k_is); (case k => k_is)
      · refine' UP.df_mk KX G ?a ?l ?c ?k; (case a => k_is); (case l => k_is); (case c => k_is); (case k => k_is)
      · refine' UP.df_mk KX G ?a ?l ?c ?k; (case a => k_is); (case l => k_is); (case c => k_is); (case k => k_is)
      · refine' UP.df_mk KX G ?a ?l ?c ?k; (case a => k_is); (case l => k_is); (case c => k_is); (case k => k_is)
      · refine' UP.df_mk KX G ?a ?l ?c ?k; (case a => k_is); (case l => k_is); (case c => k_is); (case k => k_is)
      · refine' UP.df_mk KX G ?a ?l ?c ?k; (case a => k_is); (case l => k_is); (case c => k_is); (case k => k_is)
      · refine' UP.df_mk KX G ?a ?l ?c ?k; (case a => k_is); (case l => k_is); (case c => k_is); (case k => k_is)
      · refine' UP.df_mk KX G ?a ?l ?c ?k; (case a => k_is); (case l => k_is); (case c => k_is); (case k => k_is)
      · refine' UP.df_mk KX G ?a ?l ?c ?k; (case a => k_is); (case l => k_is); (case c => k_is); (case k => k_is)
      · refine' UP.df_mk KX G ?a ?l ?c ?k; (case a => k_is); (case l => k_is); (case c => k_is); (case k => k_is)
      · refine' UP.df_mk KX G ?a ?l ?c ?k; (case a => k_is); (case l => k_is); (case c => k_is); (case k => k_is)
      · refine' UP.df_mk KX G ?a ?l ?c ?k; (case a => k_is); (case l => k_is); (case c => k_is); (case k => k_is)
      · refine' UP.df_mk KX G ?a ?l ?c ?k; (case a => k_is); (case l => k_is); (case c => k_is); (case k => k_is)
      · refine' UP.df_mk KX G ?a ?l ?c ?k; (case a => k_is); (case l => k_is); (case c => k_is); (case k => k_is)
      · refine' UP.df_mk KX G ?a ?l ?c ?k; (case a => k_is); (case l => k_is); (case c => k_is); (case k => k_is)
      · refine' UP.df_mk KX G ?a ?l ?c ?k; (case a => k_is); (case l => k_is); (case c => k_is); (case k => k_is)
      · refine' UP.df_mk KX G ?a ?l ?c ?k; (case a => k_is); (case l => k_is); (case c => k_is); (case k => k_is)
      · refine' UP.df_mk KX G ?a ?l ?c ?k; (case a => k_is); (case l => k_is); (case c => k_is); (case k => k_is)
      · refine' UP.df_mk KX G ?a ?l ?c ?k; (case a => k_is); (case l => k_is); (case c => k_is); (case k => k_is)
      · refine' UP.ex_mk KX G ?a ?c ?k ?bs ?t ?m; (case a => k_is); (case c => first | k_exc | k_is); (case k => k_is); (case bs => k_is); (case t => k_is); (case m => kts_exm)
