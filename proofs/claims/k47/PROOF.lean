import PyProof.Rows.All
import Wide.All
import OpenK.AllK
import Wide.FinOn
import HandS.ForMost
import HandS.Wide
import HandS.IsInst
import HandS.Defaults
import HandS.Codes
import HandS.Style
import PyProof.ReprRoads
import PyProof.ReprLen
import HandS.Zip
import HandS.NoneIn
import HandS.TupAny
import HandS.Small
import HandS.RaiseMore
import HandS.Text
import HandS.More
import HandS.Iter
import KE.GoesZip
import KE.GoesMore
import KE.KDictZip
import HandS.ListItems
import PyProof.ListStr
import PyProof.CallFns
import PyProof.P3Eq
import PySem.Challenge.RW_unlikepairs_k47_whole_records_of_items
set_option Elab.async false
set_option linter.all false
set_option maxRecDepth 100000
set_option maxHeartbeats 4000000
namespace UP
open PySem PySem.Spec PyProof.Rows L2

/-! ### a def that keeps a promise, by its name -/
section
variable (P : Program) (w : World) (K : PySem.W.Frag) (mg : Str → Option Value) (base : Heap)
def Has (k : Nat) (x : Str) (ps : List Str) (sp : Sp) : Prop :=
  ∃ f fd, mg x = some (.ref f) ∧ PySem.W.keepIn K (.ref f) = true ∧ Binds K fd ps [] ∧ FnOk P w K mg base CX0 k f fd ps sp
def Df (x : Str) (st : Stmt) : Prop := ∃ f fd, mg x = some (.ref f) ∧ Fun K x x st f fd
end
theorem Df.of {K : PySem.W.Frag} {mg : Str → Option Value} {x : Str} {st : Stmt} {f : Addr} {fd : FuncData} (g : mg x = some (.ref f)) (F : Fun K x x st f fd) : Df K mg x st := ⟨f, fd, g, F⟩
section
variable {P : Program} {w : World} {K : PySem.W.Frag} {mg : Str → Option Value} {base : Heap}
theorem has_of {x : Str} {st : Stmt} {ps N : List Str} {k : Nat} {sp : Sp} (D : Df K mg x st) (S : FnScope N ps (defScope st))
    (hb : ∀ (kV doc pm : Value) (an : Option Addr) (cdv ct : Value) (us : List Value), us.length = ps.length → bindArgs (PySem.W.fnOf x x (defArgs st) (defBody st) (defScope st) .none kV doc pm an cdv ct) ⟨us, []⟩ = pure (ps.zip us))
    (len : ∀ vs H Q E, sp vs H Q E → vs.length = ps.length)
    (body : ∀ (f : Addr) (cdv : Value) (A : Around) (outer : List Env) (s : Shared) (H : Hp) (vs : List V) (Q : VK) (E : XK), Room k (A.deeper (envOfC x (defScope st) s.heap.objs.size f cdv)) → sp vs H Q E →
      ∃ t, PSs (cxOf CX0 P w K mg base N x (defScope st) f cdv A outer s H E).nox (defBody st) t ∧ t { nx := fun _ H' => Q .non H', rt := Q } (start N vs) H) :
    Has P w K mg base (k + 1) x ps sp := by
  obtain ⟨f, fd, g, F⟩ := D
  exact ⟨f, fd, g, F.kp, F.binds hb, F.ok S len fun cdv A outer s H vs Q E hr h => body f cdv A outer s H vs Q E hr h⟩
theorem Has.weak {x : Str} {ps : List Str} {k : Nat} {sp sp' : Sp} (h : Has P w K mg base k x ps sp) (e : sp = sp') : Has P w K mg base k x ps sp' := e ▸ h
end
section
variable {X : Cx}
theorem pe_callH {k : Nat} {x : Str} {ps : List Str} {sp : Sp} {p pos : Pos} {e : Expr} {es : List Expr} {t : TA} (G : Has X.prog X.w X.K X.mg X.base k x ps sp) (hr : Room k X.A) (hg : Gl X x) (ha : PA X (e :: es) t)
    (hdb : (x == ("__debug__" : Str)) = false := by decide) (he : starEach (e :: es) X.env = (false, eval e X.env) :: starEach es X.env := by rfl) (hpl : (backTo pos (starEach es X.env)).any (·.1) = false := by rfl) :
    PE X (.Call (.Name x p) (e :: es) [] pos) (tCall sp [] E0 t) := by
  obtain ⟨f, fd, g, kp, b, F⟩ := G
  exact pe_call F hr hg g kp b .nil pass0 ha hdb he hpl
theorem pe_glI {x : Str} {i : Int} {pos : Pos} (h : ∃ t, X.mg x = some (.int i t)) (hg : Gl X x) (hd : (x == ("__debug__" : Str)) = false := by decide) : PE X (.Name x pos) (tC (.int i)) := by
  obtain ⟨t, h⟩ := h
  exact pe_glob hg h ⟨t, rfl⟩ hd
end

/-! ### heaps -/
theorem same_upd {H : Hp} {p : Addr} {o : HO} (h : H p = none) : Same H (upd H p o) := fun b x e => by
  rw [upd_ne (ne_of_none e h)]
  exact e
/-- all but the object at sp is as it was -/
def But (sp : Addr) (H H' : Hp) : Prop := ∀ b o, b ≠ sp → H b = some o → H' b = some o
theorem Same.but {sp : Addr} {H H' : Hp} (h : Same H H') : But sp H H' := fun b o _ e => h b o e
theorem But.trans {sp : Addr} {H H1 H2 : Hp} (a : But sp H H1) (b : But sp H1 H2) : But sp H H2 := fun c o n e => b c o n (a c o n e)
theorem But.refl {sp : Addr} {H : Hp} : But sp H H := fun _ _ _ e => e
theorem but_upd {sp : Addr} {H : Hp} {o : HO} : But sp H (upd H sp o) := fun b x n e => by
  rw [upd_ne n]
  exact e
theorem small {n : Nat} (h : n ≤ 1000000) : n < sizeLine := Nat.lt_of_le_of_lt h (by decide)
theorem smallE {n : Nat} (h : n ≤ 1000000) : n ≤ sizeLine := Nat.le_of_lt (small h)

/-! ### runs and states -/
abbrev Run := Str × Int
def RunV (H : Hp) (v : V) (r : Run) : Prop := ∃ t, v = .ref t ∧ H t = some (.tup [.str r.1, .int r.2])
def Runs (H : Hp) (a : Addr) (rs : List Run) : Prop := ∃ xs, H a = some (.lst xs) ∧ Paired (RunV H) xs rs
def StV (H : Hp) (v : V) : Option Run → Prop
  | none => v = .non
  | some r => RunV H v r
theorem RunV.same {H H' : Hp} {v : V} {r : Run} (s : Same H H') (h : RunV H v r) : RunV H' v r := by
  obtain ⟨t, e, h⟩ := h
  exact ⟨t, e, s _ _ h⟩
theorem Paired.len {α β : Type} {F : α → β → Prop} : ∀ {l₁ : List α} {l₂ : List β}, Paired F l₁ l₂ → l₁.length = l₂.length
  | _, _, .nil => rfl
  | _, _, .cons _ t => congrArg Nat.succ (Paired.len t)
theorem Paired.at {α β : Type} {F : α → β → Prop} : ∀ {l₁ : List α} {l₂ : List β} {i : Nat} {x : α}, Paired F l₁ l₂ → l₁[i]? = some x → ∃ y, l₂[i]? = some y ∧ F x y
  | _, _, _, _, .nil, h => by simp at h
  | _, _, 0, _, .cons h _, e => by
    simp only [List.getElem?_cons_zero, Option.some.injEq] at e
    subst e
    exact ⟨_, by simp, h⟩
  | _, _, i + 1, _, .cons _ t, e => by
    simp only [List.getElem?_cons_succ] at e ⊢
    exact Paired.at t e
theorem Paired.at' {α β : Type} {F : α → β → Prop} : ∀ {l₁ : List α} {l₂ : List β} {i : Nat} {y : β}, Paired F l₁ l₂ → l₂[i]? = some y → ∃ x, l₁[i]? = some x ∧ F x y
  | _, _, _, _, .nil, h => by simp at h
  | _, _, 0, _, .cons h _, e => by
    simp only [List.getElem?_cons_zero, Option.some.injEq] at e
    subst e
    exact ⟨_, by simp, h⟩
  | _, _, i + 1, _, .cons _ t, e => by
    simp only [List.getElem?_cons_succ] at e ⊢
    exact Paired.at' t e
theorem Paired.imp {α β : Type} {F G : α → β → Prop} (f : ∀ a b, F a b → G a b) : ∀ {l₁ : List α} {l₂ : List β}, Paired F l₁ l₂ → Paired G l₁ l₂
  | _, _, .nil => .nil
  | _, _, .cons h t => .cons (f _ _ h) (Paired.imp f t)
theorem Paired.app {α β : Type} {F : α → β → Prop} : ∀ {l₁ m₁ : List α} {l₂ m₂ : List β}, Paired F l₁ l₂ → Paired F m₁ m₂ → Paired F (l₁ ++ m₁) (l₂ ++ m₂)
  | _, _, _, _, .nil, h => h
  | _, _, _, _, .cons h t, k => .cons h (Paired.app t k)
theorem Paired.dropp {α β : Type} {F : α → β → Prop} : ∀ {l₁ : List α} {l₂ : List β} (n : Nat), Paired F l₁ l₂ → Paired F (l₁.drop n) (l₂.drop n)
  | _, _, 0, h => h
  | _, _, n + 1, .nil => .nil
  | _, _, n + 1, .cons _ t => by
    simp only [List.drop_succ_cons]
    exact Paired.dropp n t
theorem Paired.takep {α β : Type} {F : α → β → Prop} : ∀ {l₁ : List α} {l₂ : List β} (n : Nat), Paired F l₁ l₂ → Paired F (l₁.take n) (l₂.take n)
  | _, _, 0, h => by simp only [List.take_zero]; exact .nil
  | _, _, n + 1, .nil => .nil
  | _, _, n + 1, .cons h t => by
    simp only [List.take_succ_cons]
    exact .cons h (Paired.takep n t)
theorem Runs.same {H H' : Hp} {a : Addr} {rs : List Run} (s : Same H H') (h : Runs H a rs) : Runs H' a rs := by
  obtain ⟨xs, e, p⟩ := h
  exact ⟨xs, s _ _ e, Paired.imp (fun _ _ => RunV.same s) p⟩
theorem StV.same {H H' : Hp} {v : V} {st : Option Run} (s : Same H H') (h : StV H v st) : StV H' v st := by
  cases st with
  | none => exact h
  | some r => exact RunV.same s h
/-- the spring: a list of three ints -/
def Spr (H : Hp) (sp : Addr) : Prop := ∃ d s c : Int, H sp = some (.lst [.int d, .int s, .int c]) ∧ 0 ≤ d ∧ d.natAbs < 2 ^ 20000 ∧ 0 ≤ s ∧ s < 2305843009213693951
theorem RunV.but {H H' : Hp} {sp : Addr} {v : V} {r : Run} (z : Spr H sp) (s : But sp H H') (h : RunV H v r) : RunV H' v r := by
  obtain ⟨t, e, h⟩ := h
  obtain ⟨_, _, _, hs, _⟩ := z
  exact ⟨t, e, s _ _ (ne_of h hs (by intro q; cases q)) h⟩
theorem Runs.ne {H : Hp} {sp a : Addr} {rs : List Run} (z : Spr H sp) (h : Runs H a rs) : a ≠ sp := by
  obtain ⟨xs, e, p⟩ := h
  obtain ⟨d, s, c, hs, _⟩ := z
  refine ne_of e hs fun q => ?_
  have q := HO.lst.inj q
  subst q
  cases p with
  | cons h _ =>
    obtain ⟨t, e, _⟩ := h
    cases e
theorem Runs.but {H H' : Hp} {sp a : Addr} {rs : List Run} (z : Spr H sp) (s : But sp H H') (h : Runs H a rs) : Runs H' a rs := by
  have n := Runs.ne z h
  obtain ⟨xs, e, p⟩ := h
  exact ⟨xs, s _ _ n e, Paired.imp (fun _ _ => RunV.but z s) p⟩
theorem StV.but {H H' : Hp} {sp : Addr} {v : V} {st : Option Run} (z : Spr H sp) (s : But sp H H') (h : StV H v st) : StV H' v st := by
  cases st with
  | none => exact h
  | some r => exact RunV.but z s h
theorem Spr.same {H H' : Hp} {sp : Addr} (z : Spr H sp) (s : Same H H') : Spr H' sp := by
  obtain ⟨d, e, c, hs, r⟩ := z
  exact ⟨d, e, c, s _ _ hs, r⟩
def KindOk (s : Str) : Prop := 1 ≤ s.length ∧ s.length ≤ 8 ∧ ∀ c ∈ s.cps.toList, 97 ≤ c ∧ c ≤ 122
def RunOk (r : Run) : Prop := KindOk r.1 ∧ 1 ≤ r.2 ∧ r.2 ≤ 1000000000000000000000000000000
def Alt (rs : List Run) : Prop := ∀ (i : Nat) (x y : Run), rs[i]? = some x → rs[i + 1]? = some y → x.1 ≠ y.1
def SeqOk (rs : List Run) : Prop := rs.length ≤ 400 ∧ (∀ r ∈ rs, RunOk r) ∧ Alt rs
end UP

set_option Elab.async false
set_option linter.all false
set_option maxRecDepth 100000
set_option maxHeartbeats 4000000
namespace UP
open PySem PySem.Spec PyProof.Rows L2
/-! ### repr of plain data, where no other repr is under way -/
def rRepr (K : PySem.W.Frag) : List V → Hp → VK → Prop := fun xs H Q => ∃ (a : Addr) (d : PyData), xs = [.ref a] ∧ Dp K H (.ref a) d ∧ d.showable = true ∧ SeqAt.shaped d = true ∧ d.shown.length ≤ sizeLine ∧ Q (.str d.shown) H
theorem call_reprD {X : Cx} (hg : X.A.guards = some []) (hu : X.A.units + 70 < cLine) : CallR X (.builtin "repr") (rRepr X.K) := by
  intro pins s σ H xs us Q I r h
  obtain ⟨a, d, rfl, dp, sh, sp, sz, q⟩ := h
  obtain ⟨u, rfl, ru⟩ := vals1 r
  cases (show u = Value.ref a from ru)
  obtain ⟨as, rd⟩ := Dp.reads I d (.ref a) (.ref a) dp rfl
  have dd := SeqAt.depth_of_shaped sp
  refine repr_of_reads' rd sh (PyData.noDict_hsm (PyData.hasDict_of_canLay d (SeqAt.canLay_of_shaped sp))) hg (by omega) (fun _ _ e => e) (fun h' u tk hk => ?_) sz
  exact ⟨.str d.shown, H, I.kept (t' := tk) hk, ⟨u, rfl⟩, q⟩
/-! ### the law's own call, around it nothing -/
structure FnC (P : Program) (w : World) (K : PySem.W.Frag) (mg : Str → Option Value) (base : Heap) (f : Addr) (fd : FuncData) (ps : List Str) (sp : Sp) : Prop where
  go : ∀ (out : List Env) (s : Shared) (H : Hp) (args : Args) (us : List Value) (vs : List V) (Q : VK) (E : XK), Env0 P w K mg base callerA out s H → BindsTo s fd args (ps.zip us) → Vals vs us → sp vs H Q E →
    codeAny (model P w) callerA (.call (.ref f) args) (CR CX0 out P w H s Q E) s
theorem callerA_room : Room 8 callerA := ⟨rfl, by decide, by decide⟩
section
variable {P : Program} {w : World} {K : PySem.W.Frag} {mg : Str → Option Value} {base : Heap}
theorem fnC_of {x : Str} {st : Stmt} {f : Addr} {fd : FuncData} {ps N : List Str} {sp : Sp} (F : Fun K x x st f fd) (S : FnScope N ps (defScope st)) (len : ∀ vs H Q E, sp vs H Q E → vs.length = ps.length)
    (body : ∀ (cdv : Value) (out : List Env) (s : Shared) (H : Hp) (vs : List V) (Q : VK) (E : XK), Room 7 (callerA.deeper (envOfC x (defScope st) s.heap.objs.size f cdv)) → sp vs H Q E →
      ∃ t, PSs (cxOf CX0 P w K mg base N x (defScope st) f cdv callerA out s H E).nox (defBody st) t ∧ t { nx := fun _ H' => Q .non H', rt := Q } (start N vs) H) : FnC P w K mg base f fd ps sp := by
  obtain ⟨oc, od, kV, doc, pm, an, cdv, ct, osl, rfl, lk, hcd⟩ := F.ex
  refine ⟨fun out s H args us vs Q E e0 hb rv hsp => ?_⟩
  have inS : K.In s.heap := e0.mod.kin.keeps fun b o z => (e0.bs b o z).1
  have noL : s.heap.NoLimit := e0.mod.nolimit.keeps fun b o z => (e0.bs b o z).1
  have kinds : ∀ y ∈ ps.zip us, (defScope st).names.lookup y.1 = some .local ∨ ((defScope st).names.lookup y.1 = some .cell ∧ ((cellsFrom (s.heap.objs.size + 1) (defScope st).names []).lookup y.1).isSome = true) := by
    intro y hy
    rcases S.par y.1 (List.of_mem_zip (a := y.1) (b := y.2) hy).1 with z | z
    · exact Or.inl z
    · exact Or.inr ⟨z, PySem.W.cellsFrom_some _ _ _ (Or.inl z)⟩
  refine codeAny_call_function callerA_room.depth (inS _ _ lk) rfl S.co S.gen rfl (PySem.W.codeRec_of inS hcd) (hb _ _ _ _ ?_)
  refine wpAny_newFunctionEnv_cells S.kind kinds fun env he s1 inC => ?_
  subst he
  refine ⟨noL.keeps inC.toInCall.keep, codeAny_func ?_⟩
  obtain ⟨t, ht0, hq⟩ := body cdv out s H vs Q E (callerA_room.deeper _) hsp
  have ht := PSs.nox ht0
  have I0 : Inv (cxOf CX0 P w K mg base N x (defScope st) f cdv callerA out s H E) [] (start N vs) H s1 := inv_start S rfl e0 (len _ _ _ _ hsp) rv inC
  refine wpAny_mono (ht.run [] s1 (start N vs) H _ I0 hq) (fun fl s2 h2 => ?_) fun _ _ z => z
  cases fl with
  | next =>
    obtain ⟨σ2, H2, J, q2⟩ := h2
    exact ⟨V.non, H2, J.os, J.bare, J.base, J.hok, rfl, q2⟩
  | ret u =>
    obtain ⟨v, σ2, H2, J, rv2, q2⟩ := h2
    exact ⟨v, H2, J.os, J.bare, J.base, J.hok, rv2, q2⟩
  | brk =>
    obtain ⟨_, _, _, z⟩ := h2
    exact z.elim
  | cont =>
    obtain ⟨_, _, _, z⟩ := h2
    exact z.elim
end
/-- the heap that holds the script alone, locked -/
def oneH (a : Addr) (o : Obj) (xs : List V) : Hp := fun b => if b = a then some (.frz o (.lst xs)) else none
theorem run_law {P : Program} {w : World} {K : PySem.W.Frag} {mg mb : Str → Option Value} {fa a : Addr} {fd : FuncData} {x : Str} {sp : Sp} {s : Shared} {vs : List Value} {ns : List Int}
    (kx : K.In s.heap) (gns : s.heap.Ns mainGlobals mg) (bns : s.heap.Ns builtinsNs mb) (bb : ∀ y : Str, y ≠ "__name__" → mb y = bootBuiltins y) (nl : s.heap.NoLimit) (gens : s.gens = #[])
    (ob : s.heap.get? a = some { cls := .type "list", data := .seq vs.toArray }) (hin : IntsAre vs ns) (len : ns.length ≤ sizeLine) (F : ∀ base : Heap, K.In base → base.Ns mainGlobals mg → FnC P w K mg base fa fd [x] sp)
    (bind : ∀ (s : Shared) (u : Value), BindsTo s fd ⟨[u], []⟩ [(x, u)]) (hsp : ∀ H : Hp, SqL K H a (ns.map V.int) → sp [.ref a] H (fun v _ => v = .bl true) fun _ _ _ => False) :
    codeAny (model P w) callerA (.call (.ref fa) ⟨[.ref a], []⟩) (fun r s' => r = .ok (.ret (.bool true)) ∧ OldK s.heap s'.heap ∧ s'.os = s.os ∧ AllBare s'.gens) s := by
  have rel := vals_ints hin
  have step : ∀ H : Hp, (H = (fun _ => none) ∨ (H = oneH a { cls := .type "list", data := .seq vs.toArray } (ns.map V.int) ∧ K.lookup a = none)) → SqL K H a (ns.map V.int) → HOk P w H s.heap →
      codeAny (model P w) callerA (.call (.ref fa) ⟨[.ref a], []⟩) (fun r s' => r = .ok (.ret (.bool true)) ∧ OldK s.heap s'.heap ∧ s'.os = s.os ∧ AllBare s'.gens) s := by
    intro H hH hS hok
    have only : ∀ b u, H b = some u → b = a ∧ u = .frz { cls := .type "list", data := .seq vs.toArray } (.lst (ns.map V.int)) ∧ K.lookup a = none := by
      intro b u e
      rcases hH with z | ⟨z, z2⟩
      · rw [z] at e
        cases e
      · rw [z] at e
        by_cases hb : b = a
        · have e := (if_pos hb).symm.trans e
          cases e
          exact ⟨hb, rfl, z2⟩
        · have e := (if_neg hb).symm.trans e
          cases e
    have free : ∀ {b : Addr} {o : Obj}, s.heap.get? b = some o → (b = a → False) → (hidT s.heap H).get? b = some o := by
      intro b o e n
      refine hidT_get e ?_
      cases q : H b with
      | none => rfl
      | some u => exact (n (only b u q).1).elim
    have nss : ∀ {b : Addr} {m : Str → Option Value}, s.heap.Ns b m → (hidT s.heap H).Ns b m := by
      intro b m ⟨o, es, ep, e, d, r⟩
      refine ⟨o, es, ep, free e fun z => ?_, d, r⟩
      subst z
      rw [ob] at e
      cases e
      cases d
    have kb : K.In (hidT s.heap H) := by
      intro b o e
      refine hidT_get (kx b o e) ?_
      cases q : H b with
      | none => rfl
      | some u =>
        obtain ⟨z1, _, z2⟩ := only b u q
        rw [z1, z2] at e
        cases e
    have md : Mod K mg (hidT s.heap H) := ⟨kb, nss gns, ⟨mb, nss bns, bb⟩, by obtain ⟨mc, h1, h2⟩ := nl; exact ⟨mc, nss h1, h2⟩⟩
    have env : Env0 P w K mg (hidT s.heap H) callerA [] s H := ⟨rfl, md, fun b o e => of_hidT e, Nat.le_of_eq (hidT_size _ _), trivial, (fun b hb => by cases hb), hok, .of_eq gens⟩
    refine codeAny_mono ((F _ kb (nss gns)).go [] s H ⟨[.ref a], []⟩ [.ref a] [.ref a] _ _ env (bind s (.ref a)) (.cons rfl .nil) (hsp H hS)) fun r s' h => ?_
    cases r with
    | error e => exact h.elim
    | ok fl =>
      cases fl with
      | next => exact h.elim
      | brk => exact h.elim
      | cont => exact h.elim
      | ret u =>
        obtain ⟨v, H', o1, o2, un, hok', rv, q⟩ := h
        have q : v = .bl true := q
        subst q
        cases (show u = Value.bool true from rv)
        refine ⟨rfl, OldK.of_keep fun b o e => ?_, o1, o2⟩
        cases q : H b with
        | none => exact un.keep b o e q (fun z => by cases z) (fun z => by cases z)
        | some u =>
          obtain ⟨_, z, _⟩ := only b u q
          subst z
          obtain ⟨e1, _⟩ := hok b _ q
          obtain ⟨e2, _⟩ := hok' b _ (un.frzs b _ _ q)
          rw [e] at e1
          cases e1
          exact e2
  cases hk : K.lookup a with
  | some o =>
    have e := kx a o hk
    rw [ob] at e
    cases e
    refine step (fun _ => none) (.inl rfl) (.inr ⟨_, vs.toArray, _, hk, rfl, rfl, rfl, ?_, by simpa using rel⟩) fun b u z => by cases z
    rw [List.size_toArray, hin.length]
    exact len
  | none =>
    have at_a : oneH a { cls := .type "list", data := .seq vs.toArray } (ns.map V.int) a = some (.frz { cls := .type "list", data := .seq vs.toArray } (.lst (ns.map V.int))) := if_pos rfl
    refine step _ (.inr ⟨rfl, hk⟩) (.inl (.inr ⟨_, at_a⟩)) fun b u z => ?_
    by_cases hb : b = a
    · subst hb
      rw [at_a] at z
      cases z
      exact ⟨ob, by rw [List.length_map]; exact len, vs, _, rel, ob⟩
    · have z := (if_neg hb).symm.trans z
      cases z
theorem walkC {l : PySem.W.OpenLaw} {n : Nat} {q : Program} {loose : List Str} {XP : (Str → Option Value) → Heap → Prop} {YP : World → Heap → Prop} {d : DefRec} {K : Params → PySem.W.Frag} {sp : World → Sp} {x : Str}
    (hn : l.most = some n) (n2 : n ≤ sizeLine) (df : d.params.defaults = []) (hY : ∀ (w : World) (h : Heap), YP w h → (K w.params).In h)
    (F : ∀ (w : World) (mg : Str → Option Value) (fa : Addr) (h : Heap), (K w.params).In h → h.Ns mainGlobals mg → mg d.name = some (.ref fa) →
      ∃ fd : FuncData, (∀ (s : Shared) (u : Value), BindsTo s fd ⟨[u], []⟩ [(x, u)]) ∧ ∀ base : Heap, (K w.params).In base → base.Ns mainGlobals mg → FnC l.prog w (K w.params) mg base fa fd [x] (sp w))
    (hsp : ∀ (w : World) (H : Hp) (a : Addr) (ns : List Int), ns.length ≤ n → SqL (K w.params) H a (ns.map V.int) → sp w [.ref a] H (fun v _ => v = .bl true) fun _ _ _ => False) :
    PySem.W.WalkO q loose XP YP l.row.toRowW d [] (fun f vs => PySem.call f vs) := by
  refine Att.attach_call hn df fun w s₀ s mg mb fa o pm cd doc a vs ns G Y ho hd hcd hmg hobj hints hlen hg => ?_
  have kx := hY w _ Y
  obtain ⟨fd, hb, hF⟩ := F w mg fa _ kx G.T.g hmg
  exact run_law kx G.T.g G.T.b G.T.builtins G.T.nolimit hg hobj hints (Nat.le_trans hlen n2) hF hb fun H hS => hsp w H a ns hlen hS
end UP

set_option Elab.async false
set_option linter.all false
set_option maxRecDepth 100000
set_option maxHeartbeats 4000000
namespace UP
open PySem PySem.Spec PyProof.Rows L2
/-! ### lists or tuples -/
def Sq2 (H : Hp) (a : Addr) (xs : List V) : Prop := H a = some (.lst xs) ∨ H a = some (.tup xs)
theorem Sq2.same {H H' : Hp} {a : Addr} {xs : List V} (s : Same H H') (h : Sq2 H a xs) : Sq2 H' a xs := h.elim (fun z => .inl (s _ _ z)) (fun z => .inr (s _ _ z))
/-- a walk over the items xs, from the heap H on -/
structure Wk (J : It) (H : Hp) (xs : List V) : Prop where
  go : ∀ i H', Same H H' → i < xs.length → J.go i H'
  stop : ∀ H', Same H H' → J.stop xs.length H'
  yld : ∀ i x H' H'', Same H H' → J.yld i H' x H'' → H'' = H' ∧ xs[i]? = some x
theorem wk_list {K : PySem.W.Frag} {H : Hp} {a : Addr} {xs : List V} (h : H a = some (.lst xs)) : Wk (Itl K a) H xs :=
  ⟨fun i H' s hi => ⟨xs, xs[i], .of (s _ _ h), List.getElem?_eq_getElem hi⟩, fun H' s => ⟨xs, .of (s _ _ h), Nat.le_refl _⟩, fun i x H' H'' s y => ⟨y.1, y.2 xs (.of (s _ _ h))⟩⟩
theorem wk_tup {K : PySem.W.Frag} {H : Hp} {a : Addr} {xs : List V} (h : H a = some (.tup xs)) : Wk (Itt K a) H xs :=
  ⟨fun i H' s hi => ⟨xs, xs[i], .of (s _ _ h), List.getElem?_eq_getElem hi⟩, fun H' s => ⟨xs, .of (s _ _ h), Nat.le_refl _⟩, fun i x H' H'' s y => ⟨y.1, y.2 xs (.of (s _ _ h))⟩⟩
def iSeqV (i : Nat) : TI := fun σ H R => ∃ a xs, σ[i]? = some (some (.ref a)) ∧ Sq2 H a xs ∧ ∀ J, Wk J H xs → R J H
section
variable {X : Cx}
theorem pi_seqV (i : Nat) {x : Str} {pos : Pos} {tg : Expr} (hN : X.N[i]? = some x := by rfl) (hv : Vis X.env.scope x := by first | exact Or.inl rfl | exact Or.inr (Or.inl rfl) | exact Or.inr (Or.inr rfl)) (hd : (x == ("__debug__" : Str)) = false := by decide)
    (hc : (x == ("__classdict__" : Str)) = false := by decide) : PI X tg (.Name x pos) (iSeqV i) := by
  refine ⟨fun pins s σ H R I hw => ?_⟩
  obtain ⟨a, xs, e, h, k⟩ := hw
  rcases h with h | h
  · exact (pi_list (pe_var hN hv hd hc)).run pins s σ H R I ⟨_, e, a, rfl, ⟨xs, .of h⟩, k _ (wk_list h)⟩
  · exact (pi_tup (pe_var hN hv hd hc)).run pins s σ H R I ⟨_, e, a, rfl, ⟨xs, .of h⟩, k _ (wk_tup h)⟩
def gAny (n : Nat) (t : TGs) : TG := fun v σ H Q => ∃ a xs, v = .ref a ∧ Sq2 H a xs ∧ xs.length = n ∧ t xs σ H Q
theorem pg_any {es : List Expr} {k n : Nat} {t : TGs} {pos : Pos} (hc : X.calm = true) (h : PGs X es t) (hn : (assignEach es X.env).length = n := by rfl) (hst : (assignEach es X.env).findIdx? (fun z => z.1) = none := by rfl) : PG X (.Tuple es k pos) (gAny n t) := by
  refine ⟨fun pins s σ H v u Q I r hw => ?_⟩
  obtain ⟨a, xs, e, hx, hl, hw⟩ := hw
  rcases hx with z | z
  · exact (pg_unl hc h hn hst).run pins s σ H v u Q I r ⟨a, xs, e, .of z, hl, hw⟩
  · exact (pg_tup hc h hn hst).run pins s σ H v u Q I r ⟨a, xs, e, .of z, hl, hw⟩
/-- zip(x, x[1:]) -/
structure WkZ (J : It) (H : Hp) (xs : List V) : Prop where
  go : ∀ i H', Same H H' → i + 1 < xs.length → J.go i H'
  stop : ∀ H', Same H H' → J.stop (xs.length - 1) H'
  yld : ∀ i x H' H'', Same H H' → J.yld i H' x H'' → ∃ T x1 x2, x = .ref T ∧ H' T = none ∧ H'' = upd H' T (.tup [x1, x2]) ∧ xs[i]? = some x1 ∧ (i + 1 < xs.length → xs[i + 1]? = some x2)
def iZip1 (i : Nat) : TI := fun σ H R => ∃ a xs, σ[i]? = some (some (.ref a)) ∧ Sq2 H a xs ∧ ∀ J H', Same H H' → WkZ J H' xs → R J H'
theorem cutt_one (xs : List V) : cutV xs (some 1) none = xs.drop 1 := by
  have e : HT.sIx xs.length 0 (some 1) = min 1 xs.length := HT.sIx_nat xs.length 0 1
  unfold cutV
  rw [e, HT.sIx_none]
  cases xs with
  | nil => rfl
  | cons x r =>
    have e1 : min 1 (x :: r).length = 1 := by simp only [List.length_cons]; omega
    rw [e1]
    simp
theorem pi_zip1 {i : Nat} {tg it : Expr} {tl th : TO} (h : PI X tg it (RZ.iZipA X.K (tCons (tVar i) (tCons (tSl (fun x lo hi H Q => rSlL X.K x lo hi H Q ∨ rSlA X.K x lo hi H Q) (tVar i) tl th) tNil))))
    (h1 : ∀ (σ : L2.St) (H : Hp) (Q : Option Int → Hp → Prop), Q (some 1) H → tl σ H Q) (h2 : ∀ (σ : L2.St) (H : Hp) (Q : Option Int → Hp → Prop), Q none H → th σ H Q) : PI X tg it (iZip1 i) := by
  refine ⟨fun pins s σ H R I hw => h.run pins s σ H R I ?_⟩
  obtain ⟨a, xs, e, hx, k⟩ := hw
  refine ⟨_, e, _, e, h1 σ H _ (h2 σ H _ ?_)⟩
  have gn : ∀ j : Nat, (xs.drop 1)[j]? = xs[j + 1]? := fun j => by rw [List.getElem?_drop, Nat.add_comm 1 j]
  rcases hx with hx | hx
  · refine .inl ⟨a, xs, rfl, .of hx, fun c nc => ?_⟩
    have sc : Same H (upd H c (.lst (cutV xs (some 1) none))) := fun b o z => by rw [upd_ne (ne_of_none z nc)]; exact z
    have hc : (upd H c (.lst (cutV xs (some 1) none))) c = some (.lst (xs.drop 1)) := by rw [upd_same, cutt_one]
    refine ⟨a, c, xs, xs.drop 1, rfl, .inl ⟨.of (sc _ _ hx), .of hc, k _ _ sc ⟨fun j H' sj hj => ?_, fun H' sj => ?_, fun j x H' H'' sj y => ?_⟩⟩⟩
    · exact ⟨xs, xs.drop 1, xs[j], xs[j + 1], .of (sj _ _ (sc _ _ hx)), .of (sj _ _ hc), List.getElem?_eq_getElem (by omega), by rw [gn]; exact List.getElem?_eq_getElem hj⟩
    · exact ⟨xs, xs.drop 1, .of (sj _ _ (sc _ _ hx)), .of (sj _ _ hc), .inr (by rw [List.length_drop]; exact Nat.le_refl _)⟩
    · obtain ⟨T, x1, x2, e1, e2, e3, f1, f2⟩ := y
      exact ⟨T, x1, x2, e1, e2, e3, f1 xs (.of (sj _ _ (sc _ _ hx))), fun _ => by rw [← gn]; exact f2 _ (.of (sj _ _ hc))⟩
  · refine .inr ⟨a, xs, rfl, .of hx, fun z => ?_, fun z c nc => ?_⟩
    · have lz : xs.length = 0 := by
        have z1 := z.1
        rw [show HT.sIx xs.length 0 (some 1) = min 1 xs.length from HT.sIx_nat xs.length 0 1] at z1
        omega
      refine ⟨a, a, xs, xs, rfl, .inr ⟨.of hx, .of hx, k _ _ (Same.refl _) ⟨fun j H' sj hj => by omega, fun H' sj => ⟨xs, xs, .of (sj _ _ hx), .of (sj _ _ hx), .inl (by omega)⟩, fun j x H' H'' sj y => ?_⟩⟩⟩
      obtain ⟨T, x1, x2, e1, e2, e3, f1, f2⟩ := y
      exact ⟨T, x1, x2, e1, e2, e3, f1 xs (.of (sj _ _ hx)), fun hj => by omega⟩
    · have sc : Same H (upd H c (.tup (cutV xs (some 1) none))) := fun b o z => by rw [upd_ne (ne_of_none z nc)]; exact z
      have hc : (upd H c (.tup (cutV xs (some 1) none))) c = some (.tup (xs.drop 1)) := by rw [upd_same, cutt_one]
      refine ⟨a, c, xs, xs.drop 1, rfl, .inr ⟨.of (sc _ _ hx), .of hc, k _ _ sc ⟨fun j H' sj hj => ?_, fun H' sj => ?_, fun j x H' H'' sj y => ?_⟩⟩⟩
      · exact ⟨xs, xs.drop 1, xs[j], xs[j + 1], .of (sj _ _ (sc _ _ hx)), .of (sj _ _ hc), List.getElem?_eq_getElem (by omega), by rw [gn]; exact List.getElem?_eq_getElem hj⟩
      · exact ⟨xs, xs.drop 1, .of (sj _ _ (sc _ _ hx)), .of (sj _ _ hc), .inr (by rw [List.length_drop]; exact Nat.le_refl _)⟩
      · obtain ⟨T, x1, x2, e1, e2, e3, f1, f2⟩ := y
        exact ⟨T, x1, x2, e1, e2, e3, f1 xs (.of (sj _ _ (sc _ _ hx))), fun _ => by rw [← gn]; exact f2 _ (.of (sj _ _ hc))⟩
end
/-! ### runs and states, dressed -/
def RunG (H : Hp) (v : V) (r : Run) : Prop := ∃ t, v = .ref t ∧ Sq2 H t [.str r.1, .int r.2]
def RunsG (H : Hp) (v : V) (rs : List Run) : Prop := ∃ a xs, v = .ref a ∧ Sq2 H a xs ∧ Paired (RunG H) xs rs
def StG (H : Hp) (v : V) : Option Run → Prop
  | none => v = .non
  | some r => RunG H v r
theorem RunG.same {H H' : Hp} {v : V} {r : Run} (s : Same H H') (h : RunG H v r) : RunG H' v r := by
  obtain ⟨t, e, h⟩ := h
  exact ⟨t, e, h.same s⟩
theorem RunsG.same {H H' : Hp} {v : V} {rs : List Run} (s : Same H H') (h : RunsG H v rs) : RunsG H' v rs := by
  obtain ⟨a, xs, e, hx, p⟩ := h
  exact ⟨a, xs, e, hx.same s, Paired.imp (fun _ _ => RunG.same s) p⟩
theorem StG.same {H H' : Hp} {v : V} {st : Option Run} (s : Same H H') (h : StG H v st) : StG H' v st := by
  cases st with
  | none => exact h
  | some r => exact RunG.same s h
theorem RunV.dress {H : Hp} {v : V} {r : Run} (h : RunV H v r) : RunG H v r := by
  obtain ⟨t, e, h⟩ := h
  exact ⟨t, e, .inr h⟩
theorem Runs.dress {H : Hp} {a : Addr} {rs : List Run} (h : Runs H a rs) : RunsG H (.ref a) rs := by
  obtain ⟨xs, hx, p⟩ := h
  exact ⟨a, xs, rfl, .inl hx, Paired.imp (fun _ _ => RunV.dress) p⟩
theorem StV.dress {H : Hp} {v : V} {st : Option Run} (h : StV H v st) : StG H v st := by
  cases st with
  | none => exact h
  | some r => exact RunV.dress h
theorem Sq2.but {H H' : Hp} {sp a : Addr} {xs : List V} (z : Spr H sp) (s : But sp H H') (h : Sq2 H a xs) (n : ∀ d e f, xs ≠ [.int d, .int e, .int f]) : Sq2 H' a xs := by
  obtain ⟨d, e, f, hs, _⟩ := z
  rcases h with h | h
  · exact .inl (s _ _ (ne_of h hs fun q => n d e f (HO.lst.inj q)) h)
  · exact .inr (s _ _ (ne_of h hs fun q => by cases q) h)
theorem RunG.but {H H' : Hp} {sp : Addr} {v : V} {r : Run} (z : Spr H sp) (s : But sp H H') (h : RunG H v r) : RunG H' v r := by
  obtain ⟨t, e, h⟩ := h
  exact ⟨t, e, h.but z s fun _ _ _ q => by cases q⟩
theorem RunsG.but {H H' : Hp} {sp : Addr} {v : V} {rs : List Run} (z : Spr H sp) (s : But sp H H') (h : RunsG H v rs) : RunsG H' v rs := by
  obtain ⟨a, xs, e, hx, p⟩ := h
  refine ⟨a, xs, e, hx.but z s fun d _ _ q => ?_, Paired.imp (fun _ _ => RunG.but z s) p⟩
  subst q
  cases p with
  | cons h _ =>
    obtain ⟨_, e, _⟩ := h
    cases e
theorem StG.but {H H' : Hp} {sp : Addr} {v : V} {st : Option Run} (z : Spr H sp) (s : But sp H H') (h : StG H v st) : StG H' v st := by
  cases st with
  | none => exact h
  | some r => exact RunG.but z s h
end UP

set_option Elab.async false
set_option linter.all false
set_option maxRecDepth 100000
set_option maxHeartbeats 4000000
namespace UP
open PySem PySem.Spec PyProof.Rows L2
def topS (i : Nat) : Stmt := PySem.Challenge.pw_unlikepairs_k47_whole_records_of_items.main.body.getD i (.Pass ⟨0, 0, 0, 0⟩)
structure Tx (mg : Str → Option Value) : Prop where
  n_isinstance : mg "isinstance" = none
  n_int : mg "int" = none
  n_bool : mg "bool" = none
  n_str : mg "str" = none
  n_list : mg "list" = none
  n_tuple : mg "tuple" = none
  n_len : mg "len" = none
  n_all : mg "all" = none
  n_zip : mg "zip" = none
  n_sum : mg "sum" = none
  n_min : mg "min" = none
  n_max : mg "max" = none
  n_abs : mg "abs" = none
  n_range : mg "range" = none
  n_repr : mg "repr" = none
  n_enumerate : mg "enumerate" = none
  n_any : mg "any" = none
  n_dict : mg "dict" = none
  n_sorted : mg "sorted" = none
  n_set : mg "set" = none
  n_reversed : mg "reversed" = none
  c_MAX_LETTERS : ∃ t, mg "MAX_LETTERS" = some (.int 8 t)
  c_MAX_ITEMS : ∃ t, mg "MAX_ITEMS" = some (.int 400 t)
  c_MAX_KINDS : ∃ t, mg "MAX_KINDS" = some (.int 12 t)
  c_MAX_ENTRIES : ∃ t, mg "MAX_ENTRIES" = some (.int 400 t)
section
variable {P : Program} {w : World} {K : PySem.W.Frag} {mg : Str → Option Value} {base : Heap}
theorem kit_lst {K : PySem.W.Frag} : PySem.W.kitAny K (.type "list") [.type "list", .type "tuple"] = some true := kitAny_cons (b := true) (kit_ty (by decide +kernel)) (fun z => nomatch z) (fun _ => rfl)
theorem kit_tup {K : PySem.W.Frag} : PySem.W.kitAny K (.type "tuple") [.type "list", .type "tuple"] = some true := kitAny_cons (b := false) (kit_ty (by decide +kernel)) (fun _ => kitAny_cons (b := true) (kit_ty (by decide +kernel)) (fun z => nomatch z) (fun _ => rfl)) (fun z => nomatch z)
/-! is_listed: slots 0:value 1:most -/
abbrev s_is_listed : Stmt := topS 11
theorem sc_is_listed : FnScope ["value", "most"] ["value", "most"] (defScope s_is_listed) := ⟨rfl, rfl, rfl, by decide +kernel, rfl, by decide +kernel, by decide +kernel⟩
def sp_is_listed : Sp := fun vs H Q _ => ∃ (a : Addr) (xs : List V) (m : Int), vs = [.ref a, .int m] ∧ Sq2 H a xs ∧ ∀ H', Same H H' → Q (.bl (decide ((xs.length : Int) ≤ m))) H'
theorem ok_is_listed (D : Df K mg "is_listed" s_is_listed) (T : Tx mg) : Has P w K mg base 1 "is_listed" ["value", "most"] sp_is_listed := by
  refine has_of D sc_is_listed (fun _ _ _ _ _ _ us hl => match us, hl with | [_, _], _ => rfl) (fun vs H Q E h => ?_) (fun f cdv A outer s H vs Q E hr h => ?_)
  · obtain ⟨a, xs, m, rfl, _⟩ := h
    rfl
  · obtain ⟨a, xs, m, rfl, hx, q⟩ := h
    refine ⟨_, (pss_one (ps_ret (pe_and (pe_callB call_isiT (by rfl) T.n_isinstance (by decide +kernel) (pa_cons (pv 0) (pa_cons (pe_tup (pa_cons (pe_bltn (v := .ty "list") (by rfl) T.n_list (by decide +kernel) rfl) (pa_cons (pe_bltn (v := .ty "tuple") (by rfl) T.n_tuple (by decide +kernel) rfl) pa_nil))) pa_nil))) (pe_one (pe_cmpR op_le (pe_callB call_len_seq (by rfl) T.n_len (by decide +kernel) (pa_cons (pv 0) pa_nil)) (pv 1) (nomark _)))))), ?_⟩
    refine ⟨_, rfl, (by show 2 ≤ sizeLine; decide), fun t nt => ?_⟩
    rcases hx with hx | hx
    · refine ⟨_, t, _, _, _, true, rfl, upd_same, .cons (.ty "list") (.cons (.ty "tuple") .nil), .base (.lst (same_upd nt _ _ hx)), kit_lst, true, rfl, iteT ?_⟩
      exact ⟨_, rfl, _, _, rfl, .inl (.of (same_upd nt _ _ hx)), _, rfl, _, _, rfl, rfl, q _ (same_upd nt)⟩
    · refine ⟨_, t, _, _, _, true, rfl, upd_same, .cons (.ty "list") (.cons (.ty "tuple") .nil), .base (.tup (same_upd nt _ _ hx)), kit_tup, true, rfl, iteT ?_⟩
      exact ⟨_, rfl, _, _, rfl, .inr (.of (same_upd nt _ _ hx)), _, rfl, _, _, rfl, rfl, q _ (same_upd nt)⟩
/-! is_couple: slots 0:value -/
abbrev s_is_couple : Stmt := topS 12
theorem sc_is_couple : FnScope ["value"] ["value"] (defScope s_is_couple) := ⟨rfl, rfl, rfl, by decide +kernel, rfl, by decide +kernel, by decide +kernel⟩
def sp_is_couple : Sp := fun vs H Q _ => ∃ (a : Addr) (xs : List V), vs = [.ref a] ∧ Sq2 H a xs ∧ xs.length = 2 ∧ ∀ H', Same H H' → Q (.bl true) H'
theorem ok_is_couple (D : Df K mg "is_couple" s_is_couple) (T : Tx mg) : Has P w K mg base 1 "is_couple" ["value"] sp_is_couple := by
  refine has_of D sc_is_couple (fun _ _ _ _ _ _ us hl => match us, hl with | [_], _ => rfl) (fun vs H Q E h => ?_) (fun f cdv A outer s H vs Q E hr h => ?_)
  · obtain ⟨a, xs, rfl, _⟩ := h
    rfl
  · obtain ⟨a, xs, rfl, hx, hl, q⟩ := h
    refine ⟨_, (pss_one (ps_ret (pe_and (pe_callB call_isiT (by rfl) T.n_isinstance (by decide +kernel) (pa_cons (pv 0) (pa_cons (pe_tup (pa_cons (pe_bltn (v := .ty "list") (by rfl) T.n_list (by decide +kernel) rfl) (pa_cons (pe_bltn (v := .ty "tuple") (by rfl) T.n_tuple (by decide +kernel) rfl) pa_nil))) pa_nil))) (pe_one (pe_cmpR op_eq (pe_callB call_len_seq (by rfl) T.n_len (by decide +kernel) (pa_cons (pv 0) pa_nil)) pe_int (nomark _)))))), ?_⟩
    refine ⟨_, rfl, (by show 2 ≤ sizeLine; decide), fun t nt => ?_⟩
    rcases hx with hx | hx
    · refine ⟨_, t, _, _, _, true, rfl, upd_same, .cons (.ty "list") (.cons (.ty "tuple") .nil), .base (.lst (same_upd nt _ _ hx)), kit_lst, true, rfl, iteT ⟨_, rfl, _, _, rfl, .inl (.of (same_upd nt _ _ hx)), rfl, ?_⟩⟩
      rw [hl]
      exact q _ (same_upd nt)
    · refine ⟨_, t, _, _, _, true, rfl, upd_same, .cons (.ty "list") (.cons (.ty "tuple") .nil), .base (.tup (same_upd nt _ _ hx)), kit_tup, true, rfl, iteT ⟨_, rfl, _, _, rfl, .inr (.of (same_upd nt _ _ hx)), rfl, ?_⟩⟩
      rw [hl]
      exact q _ (same_upd nt)
end
end UP

set_option Elab.async false
set_option linter.all false
set_option maxRecDepth 100000
set_option maxHeartbeats 4000000
namespace UP
open PySem PySem.Spec PyProof.Rows L2
theorem iteP {b : Bool} {A B : Prop} (h : b = true) (x : A) : if b = true then A else B := by
  rw [if_pos h]
  exact x
theorem iteN {b : Bool} {A B : Prop} (h : b = false) (x : B) : if b = true then A else B := by
  rw [if_neg (by rw [h]; decide)]
  exact x
theorem yesT {σ : L2.St} {H : Hp} {A B : Hp → Prop} (h : A H) : tYes σ H (fun b H3 => if b = true then A H3 else B H3) := by
  show (if true = true then A H else B H)
  exact iteT h
theorem lc_gen {J : It} {n : Nat} {g : TG} {tt : TT} {te : TE} {vs : List Nat} {σ : L2.St} {H1 : Hp} {D : Addr} {Qd : Hp → Prop} (Pv : Nat → Hp → Prop) (h0 : Pv 0 (upd H1 D (.lst [])))
    (hg : ∀ i H, i < n → Pv i H → J.go i H) (hst : ∀ H, Pv n H → J.stop n H)
    (hs : ∀ i x H H', i < n → Pv i H → J.yld i H x H' → g x (wipe σ vs) H' fun σ2 H2 => wipe σ2 vs = wipe σ vs ∧ tt σ2 H2 fun b H3 =>
      if b = true then te σ2 H3 fun y H4 => ∃ acc, H4 D = some (.lst acc) ∧ acc.length < sizeLine ∧ Pv (i + 1) (upd H4 D (.lst (acc ++ [y]))) else Pv (i + 1) H3) (hd : ∀ H, Pv n H → Qd H) :
    ∃ W : Nat → Nat → Hp → Prop, (∃ m, W 0 m (upd H1 D (.lst []))) ∧ ∀ i m H, W i m H →
      (J.stop i H ∧ Qd H) ∨ (J.go i H ∧ ∃ Nx : Hp → Prop, (∀ H', Nx H' → ∃ m', m' < m ∧ W (i + 1) m' H') ∧ ∀ x H', J.yld i H x H' → g x (wipe σ vs) H' fun σ2 H2 => wipe σ2 vs = wipe σ vs ∧ tt σ2 H2 fun b H3 =>
        if b = true then te σ2 H3 fun y H4 => ∃ acc, H4 D = some (.lst acc) ∧ acc.length < sizeLine ∧ Nx (upd H4 D (.lst (acc ++ [y]))) else Nx H3) := by
  refine ⟨fun i m H => m = n - i ∧ i ≤ n ∧ Pv i H, ⟨n, by simp, Nat.zero_le _, h0⟩, ?_⟩
  rintro i m H ⟨rfl, hi, p⟩
  by_cases hlt : i < n
  · exact .inr ⟨hg i H hlt p, Pv (i + 1), fun H' p' => ⟨n - (i + 1), by omega, rfl, hlt, p'⟩, fun x H' y => hs i x H H' hlt p y⟩
  · have e : i = n := by omega
    subst e
    exact .inl ⟨hst H p, hd H p⟩
section
variable {X : Cx} {K : PySem.W.Frag}
theorem ix_tupK (h : X.K = K) : IxR X (rIxT K) := h ▸ ix_tup
theorem ix_listK (h : X.K = K) : IxR X (rIxL K) := h ▸ ix_list
theorem pg_tupK {es : List Expr} {k : Nat} {t : TGs} {n : Nat} {pos : Pos} (h : X.K = K) (hc : X.calm = true) (hp : PGs X es t)
    (hn : (assignEach es X.env).length = n := by rfl) (hst : (assignEach es X.env).findIdx? (fun z => z.1) = none := by rfl) : PG X (.Tuple es k pos) (gTup K n t) := by
  subst h
  exact pg_tup hc hp hn hst
theorem call_len_seqK (h : X.K = K) : CallR X (.builtin "len") (fun xs H Q => ∃ p ys, xs = [.ref p] ∧ (SqL K H p ys ∨ SqT K H p ys) ∧ Q (.int ys.length) H) := by
  subst h
  exact call_len_seq
end
theorem ix_seqK {X : Cx} {K : PySem.W.Frag} (h : X.K = K) : IxR X (rIx K) := h ▸ ix_seq
/-! ### lists that grow -/
theorem same_grow {H H4 : Hp} {D : Addr} {o : HO} (n : H D = none) (s : Same H H4) : Same H (upd H4 D o) := fun b x e => by
  rw [upd_ne (ne_of_none e n)]
  exact s b x e
theorem RunV.grow {H : Hp} {D : Addr} {acc acc' : List V} {v : V} {r : Run} (hD : H D = some (.lst acc)) (h : RunV H v r) : RunV (upd H D (.lst acc')) v r := by
  obtain ⟨t, e, h⟩ := h
  refine ⟨t, e, ?_⟩
  rw [upd_ne (ne_of h hD (by intro q; cases q))]
  exact h
theorem prs_grow {H : Hp} {D : Addr} {acc acc' : List V} {xs : List V} {rs : List Run} (hD : H D = some (.lst acc)) (h : Paired (RunV H) xs rs) : Paired (RunV (upd H D (.lst acc'))) xs rs := Paired.imp (fun _ _ => RunV.grow hD) h
theorem prs_same {H H' : Hp} {xs : List V} {rs : List Run} (s : Same H H') (h : Paired (RunV H) xs rs) : Paired (RunV H') xs rs := Paired.imp (fun _ _ => RunV.same s) h
theorem take_snoc {α : Type} {l : List α} {i : Nat} {x : α} (h : l[i]? = some x) : l.take (i + 1) = l.take i ++ [x] := by
  rw [List.take_add_one, h]
  rfl
theorem lc_wk {J : It} {H0 H1 : Hp} {xs : List V} {g : TG} {tt : TT} {te : TE} {vs : List Nat} {σ : L2.St} {D : Addr} {Qd : Hp → Prop} (wk : Wk J H0 xs) (Pv : Nat → Hp → Prop) (hsm : ∀ i H, Pv i H → Same H0 H) (h0 : Pv 0 (upd H1 D (.lst [])))
    (hs : ∀ i x H, xs[i]? = some x → Pv i H → g x (wipe σ vs) H fun σ2 H2 => wipe σ2 vs = wipe σ vs ∧ tt σ2 H2 fun b H3 =>
      if b = true then te σ2 H3 fun y H4 => ∃ acc, H4 D = some (.lst acc) ∧ acc.length < sizeLine ∧ Pv (i + 1) (upd H4 D (.lst (acc ++ [y]))) else Pv (i + 1) H3) (hd : ∀ H, Pv xs.length H → Qd H) :
    ∃ W : Nat → Nat → Hp → Prop, (∃ m, W 0 m (upd H1 D (.lst []))) ∧ ∀ i m H, W i m H →
      (J.stop i H ∧ Qd H) ∨ (J.go i H ∧ ∃ Nx : Hp → Prop, (∀ H', Nx H' → ∃ m', m' < m ∧ W (i + 1) m' H') ∧ ∀ x H', J.yld i H x H' → g x (wipe σ vs) H' fun σ2 H2 => wipe σ2 vs = wipe σ vs ∧ tt σ2 H2 fun b H3 =>
        if b = true then te σ2 H3 fun y H4 => ∃ acc, H4 D = some (.lst acc) ∧ acc.length < sizeLine ∧ Nx (upd H4 D (.lst (acc ++ [y]))) else Nx H3) := by
  refine lc_gen Pv h0 (fun i H hi p => wk.go i H (hsm i H p) hi) (fun H p => wk.stop H (hsm _ H p)) (fun i x H H' hi p y => ?_) hd
  obtain ⟨e, ex⟩ := wk.yld i x H H' (hsm i H p) y
  subst e
  exact hs i x _ ex p
theorem for_wk {J : It} {H0 H : Hp} {xs : List V} {g : TG} {tb : TS} {D : Ends} {σ : L2.St} (wk : Wk J H0 xs) (Pv : Nat → L2.St → Hp → Prop) (hsm : ∀ i σ H, Pv i σ H → Same H0 H) (h0 : Pv 0 σ H)
    (hs : ∀ i x σ H, xs[i]? = some x → Pv i σ H → g x σ H fun σ2 H2 => tb { D with nx := Pv (i + 1), ct := Pv (i + 1), bk := D.nx } σ2 H2) (hd : ∀ σ H, Pv xs.length σ H → D.nx σ H) :
    ∃ W : Nat → Nat → L2.St → Hp → Prop, (∃ m, W 0 m σ H) ∧ ∀ i m σ H, W i m σ H →
      (J.stop i H ∧ D.nx σ H) ∨ (J.go i H ∧ ∃ N : L2.St → Hp → Prop, (∀ σ' H', N σ' H' → ∃ m', m' < m ∧ W (i + 1) m' σ' H') ∧ ∀ x H', J.yld i H x H' → g x σ H' fun σ2 H2 => tb { D with nx := N, ct := N, bk := D.nx } σ2 H2) := by
  refine ⟨fun i m σ H => m = xs.length - i ∧ i ≤ xs.length ∧ Pv i σ H, ⟨xs.length, by omega, Nat.zero_le _, h0⟩, ?_⟩
  rintro i m σ H ⟨rfl, hi, p⟩
  by_cases hlt : i < xs.length
  · refine Or.inr ⟨wk.go i H (hsm i σ H p) hlt, Pv (i + 1), fun σ' H' p' => ⟨xs.length - (i + 1), by omega, rfl, hlt, p'⟩, fun x H' y => ?_⟩
    obtain ⟨e, ex⟩ := wk.yld i x H H' (hsm i σ H p) y
    subst e
    exact hs i x σ _ ex p
  · have e : i = xs.length := by omega
    subst e
    exact Or.inl ⟨wk.stop H (hsm _ σ H p), hd σ H p⟩
section
variable {P : Program} {w : World} {K : PySem.W.Frag} {mg : Str → Option Value} {base : Heap}
theorem lex1 {c d : Nat} : (!decide (([c] : List Nat) < [d])) = decide (d ≤ c) := by
  have e : (([c] : List Nat) < [d]) ↔ c < d := by
    rw [List.cons_lt_cons_iff]
    simp
  by_cases h : c < d
  · rw [decide_eq_true (e.mpr h), decide_eq_false (by omega)]
    rfl
  · rw [decide_eq_false (fun z => h (e.mp z)), decide_eq_true (by omega)]
    rfl
/-! is_kind: slots 0:value 1:letter -/
abbrev s_is_kind : Stmt := topS 13
theorem sc_is_kind : FnScope ["value", "letter"] ["value"] (defScope s_is_kind) := ⟨rfl, rfl, rfl, by decide +kernel, rfl, by decide +kernel, by decide +kernel⟩
def sp_is_kind : Sp := fun vs H Q _ => ∃ z : Str, vs = [.str z] ∧ KindOk z ∧ ∀ H', Same H H' → Q (.bl true) H'
theorem ok_is_kind (D : Df K mg "is_kind" s_is_kind) (T : Tx mg) : Has P w K mg base 1 "is_kind" ["value"] sp_is_kind := by
  refine has_of D sc_is_kind (fun _ _ _ _ _ _ us hl => match us, hl with | [_], _ => rfl) (fun vs H Q E h => ?_) (fun f cdv A outer s H vs Q E hr h => ?_)
  · obtain ⟨n, rfl, _⟩ := h
    rfl
  · obtain ⟨z, rfl, ⟨k1, k2, k3⟩, q⟩ := h
    refine ⟨_, (pss_cons (ps_if (PW.pt (pw_or (pt_not (pt_val (pe_callB call_isi (by rfl) T.n_isinstance (by decide +kernel) (pa_cons (pv 0) (pa_cons (pe_bltn (v := .ty "str") (by rfl) T.n_str (by decide +kernel) rfl) pa_nil))))) (pw_or1 (pt_not (pt_chain op_le op_le pe_int (pe_callB call_len_str (by rfl) T.n_len (by decide +kernel) (pa_cons (pv 0) pa_nil)) (pe_glI T.c_MAX_LETTERS (by rfl))))))) (pss_one (ps_ret pe_bl)) pss_nil)
    (pss_one (ps_ret (pe_callB (cr_all rfl) (by rfl) T.n_all (by decide +kernel) (pa_cons (pe_lc (own := [("letter", 1)]) rfl sc_is_kind.nd (pi_str (pv 0)) (blkOk_by (N := ["value", "letter"]) (sc := defScope s_is_kind) (by decide +kernel)) (fun _ _ _ _ _ => (pg_name (i := 1) sc_is_kind.nd rfl (by first | exact Or.inl rfl | exact Or.inr rfl))) (fun _ _ _ _ _ => pts_nil) (fun _ _ _ _ _ => (pe_chain op_le_str op_le_str pe_str (pv 1) pe_str))) pa_nil))))), ?_⟩
    refine ⟨_, rfl, _, _, _, _, true, rfl, .ty "str", .base (.str z), kit_ty (by decide +kernel), true, rfl, iteF ?_⟩
    refine ⟨_, rfl, z, rfl, smallE (by omega), _, _, rfl, rfl, _, rfl, iteP (decide_eq_true (by omega)) ⟨_, _, rfl, rfl, _, rfl, iteN ?_ ?_⟩⟩
    · show (!decide ((z.length : Int) ≤ 8)) = false
      rw [decide_eq_true (by omega)]
      rfl
    refine ⟨_, rfl, z, rfl, fun L nL => lc_gen (n := z.cps.size) (fun i H' => Same H H' ∧ H' L = some (.lst ((List.replicate i true).map V.bl))) ⟨same_upd nL, upd_same⟩ (fun i H' hi _ => hi) (fun H' _ => Nat.le_refl _) (fun i x H1 H2 hi p y => ?_) (fun H' p => ?_)⟩
    · obtain ⟨rfl, c, ec, rfl⟩ := y
      obtain ⟨sm, hL⟩ := p
      have hc : 97 ≤ c ∧ c ≤ 122 := k3 c (by
        have := Array.mem_of_getElem? ec
        simpa using this)
      have ea : ("a" : Str).cps.toList = [97] := by decide +kernel
      have ez : ("z" : Str).cps.toList = [122] := by decide +kernel
      refine ⟨rfl, yesT ⟨_, rfl, _, _, rfl, rfl, _, rfl, iteP ?_ ⟨_, _, rfl, rfl, _, hL, ?_, ?_, ?_⟩⟩⟩
      · show (!decide (([c] : List Nat) < ("a" : Str).cps.toList)) = true
        rw [ea, lex1]
        exact decide_eq_true hc.1
      · simp only [List.length_map, List.length_replicate]
        exact small (by have : z.cps.size = z.length := rfl; omega)
      · intro b o e
        have nb : b ≠ L := ne_of_none e nL
        rw [upd_ne nb]
        exact sm b o e
      · rw [upd_same]
        have e1 : (!decide ((("z" : Str).cps.toList) < ([c] : List Nat))) = true := by
          rw [ez, lex1]
          exact decide_eq_true hc.2
        show some (HO.lst ((List.replicate i true).map V.bl ++ [V.bl (!decide ((("z" : Str).cps.toList) < ([c] : List Nat)))])) = _
        rw [e1, List.replicate_succ', List.map_append]
        rfl
    · refine ⟨L, _, rfl, .of p.2, ?_⟩
      have e : ((List.replicate z.cps.size true).all id) = true := by simp
      rw [e]
      exact q H' p.1
def StOk (st : Option Run) : Prop := ∀ r, st = some r → KindOk r.1 ∧ 1 ≤ r.2
theorem at0 {α : Type} {x y : α} : atI [x, y] 0 = some x := rfl
theorem at1 {α : Type} {x y : α} : atI [x, y] 1 = some y := rfl
theorem ix0 {K : PySem.W.Frag} {H : Hp} {t : Addr} {x y : V} {Q : VK} (h : Sq2 H t [x, y]) (q : Q x H) : rIx K (.ref t) (.int 0) H Q := h.elim (fun z => .inl ⟨t, _, 0, _, rfl, rfl, .of z, at0, q⟩) (fun z => .inr (.inl ⟨t, _, 0, _, rfl, rfl, .of z, at0, q⟩))
theorem ix1 {K : PySem.W.Frag} {H : Hp} {t : Addr} {x y : V} {Q : VK} (h : Sq2 H t [x, y]) (q : Q y H) : rIx K (.ref t) (.int 1) H Q := h.elim (fun z => .inl ⟨t, _, 1, _, rfl, rfl, .of z, at1, q⟩) (fun z => .inr (.inl ⟨t, _, 1, _, rfl, rfl, .of z, at1, q⟩))
theorem all_rep (n : Nat) : ((List.replicate n true).all id) = true := by simp
end
end UP

set_option Elab.async false
set_option linter.all false
set_option maxRecDepth 100000
set_option maxHeartbeats 4000000
namespace UP
open PySem PySem.Spec PyProof.Rows L2
section
variable {P : Program} {w : World} {K : PySem.W.Frag} {mg : Str → Option Value} {base : Heap}
def lenR (rs : List Run) : Int := (rs.map (·.2)).sum
end
end UP

set_option Elab.async false
set_option linter.all false
set_option maxRecDepth 100000
set_option maxHeartbeats 4000000
namespace UP
open PySem PySem.Spec PyProof.Rows L2
/-! ### the mirror of cut -/
theorem lenR_nil : lenR [] = 0 := rfl
theorem lenR_cons (r : Run) (l : List Run) : lenR (r :: l) = r.2 + lenR l := by
  unfold lenR
  rw [List.map_cons, List.sum_cons]
theorem lenR_app (l m : List Run) : lenR (l ++ m) = lenR l + lenR m := by
  induction l with
  | nil => rw [List.nil_append, lenR_nil]; omega
  | cons r t ih => rw [List.cons_append, lenR_cons, lenR_cons, ih]; omega
theorem lenR_snoc (l : List Run) (r : Run) : lenR (l ++ [r]) = lenR l + r.2 := by
  rw [lenR_app, lenR_cons, lenR_nil]
  omega
def sizeR (b s e c : Int) : Int := (if b + c < e then b + c else e) - (if b > s then b else s)
def pieceR (b s e : Int) (r : Run) : List Run := if 0 < sizeR b s e r.2 then [(r.1, sizeR b s e r.2)] else []
def cutR (s e : Int) : Int → List Run → List Run
  | _, [] => []
  | b, r :: t => pieceR b s e r ++ cutR s e (b + r.2) t
theorem cutR_snoc (s e : Int) : ∀ (l : List Run) (b : Int) (r : Run), cutR s e b (l ++ [r]) = cutR s e b l ++ pieceR (b + lenR l) s e r
  | [], b, r => by
    show pieceR b s e r ++ [] = [] ++ pieceR (b + lenR []) s e r
    rw [lenR_nil, Int.add_zero, List.append_nil, List.nil_append]
  | x :: t, b, r => by
    show pieceR b s e x ++ cutR s e (b + x.2) (t ++ [r]) = (pieceR b s e x ++ cutR s e (b + x.2) t) ++ pieceR (b + lenR (x :: t)) s e r
    rw [cutR_snoc s e t, lenR_cons, List.append_assoc, Int.add_assoc]
theorem pieceR_len (b s e : Int) (r : Run) : (pieceR b s e r).length ≤ 1 := by
  unfold pieceR
  split <;> simp
theorem cutR_len (s e : Int) : ∀ (l : List Run) (b : Int), (cutR s e b l).length ≤ l.length
  | [], _ => Nat.le_refl _
  | r :: t, b => by
    show (pieceR b s e r ++ cutR s e (b + r.2) t).length ≤ (r :: t).length
    have h1 := pieceR_len b s e r
    have h2 := cutR_len s e t (b + r.2)
    rw [List.length_append, List.length_cons]
    omega
section
variable {P : Program} {w : World} {K : PySem.W.Frag} {mg : Str → Option Value} {base : Heap}
end
end UP

set_option Elab.async false
set_option linter.all false
set_option maxRecDepth 100000
set_option maxHeartbeats 4000000
namespace UP
open PySem PySem.Spec PyProof.Rows L2
/-! ### the mirror of the states -/
def numR : Option Run → Int
  | none => 0
  | some r => r.2
def leavR : Option Run → Str → Int → Int
  | none, _, _ => 0
  | some r, k, c => if r.1 = k then 0 else if c < r.2 then c else r.2
def stepR : Option Run → Str → Int → Option Run
  | some r, k, c => if r.1 = k then some (k, r.2 + c) else if 0 < r.2 - c then some (r.1, r.2 - c) else if r.2 - c = 0 then none else some (k, -(r.2 - c))
  | none, k, c => some (k, c)
def withR (k : Str) (n : Int) : Option Run := if n = 0 then none else some (k, n)
def stR (rs : List Run) (st : Option Run) : Option Run := rs.foldl (fun s r => stepR s r.1 r.2) st
theorem stR_snoc (l : List Run) (r : Run) (st : Option Run) : stR (l ++ [r]) st = stepR (stR l st) r.1 r.2 := by
  unfold stR
  rw [List.foldl_append]
  rfl
section
variable {P : Program} {w : World} {K : PySem.W.Frag} {mg : Str → Option Value} {base : Heap}
/-! waiting_number: slots 0:state -/
abbrev s_waiting_number : Stmt := topS 20
theorem sc_waiting_number : FnScope ["state"] ["state"] (defScope s_waiting_number) := ⟨rfl, rfl, rfl, by decide +kernel, rfl, by decide +kernel, by decide +kernel⟩
def sp_waiting_number : Sp := fun vs H Q _ => ∃ (v : V) (st : Option Run), vs = [v] ∧ StV H v st ∧ Q (.int (numR st)) H
theorem ok_waiting_number (D : Df K mg "waiting_number" s_waiting_number) : Has P w K mg base 1 "waiting_number" ["state"] sp_waiting_number := by
  refine has_of D sc_waiting_number (fun _ _ _ _ _ _ us hl => match us, hl with | [_], _ => rfl) (fun vs H Q E h => ?_) (fun f cdv A outer s₀ H vs Q E hr h => ?_)
  · obtain ⟨a, rs, rfl, _⟩ := h
    rfl
  · obtain ⟨v, st, rfl, hv, q⟩ := h
    refine ⟨_, (pss_one (ps_ret (pe_ifExp (pt_cmpR op_isN (pv 0) pe_non (nomark _)) pe_int (pe_ix ix_tup (pv 0) pe_int (fun _ _ => rfl))))), ?_⟩
    cases st with
    | none =>
      cases hv
      exact ⟨_, rfl, rfl, _, rfl, iteP rfl q⟩
    | some r =>
      obtain ⟨t, rfl, ht⟩ := hv
      exact ⟨_, rfl, rfl, _, rfl, iteN rfl ⟨_, rfl, t, _, 1, _, rfl, rfl, .of ht, at1, q⟩⟩
/-! leaving_number: slots 0:state 1:kind 2:count -/
abbrev s_leaving_number : Stmt := topS 22
theorem sc_leaving_number : FnScope ["state", "kind", "count"] ["state", "kind", "count"] (defScope s_leaving_number) := ⟨rfl, rfl, rfl, by decide +kernel, rfl, by decide +kernel, by decide +kernel⟩
def sp_leaving_number : Sp := fun vs H Q _ => ∃ (v : V) (st : Option Run) (k : Str) (c : Int), vs = [v, .str k, .int c] ∧ StV H v st ∧ Q (.int (leavR st k c)) H
theorem ok_leaving_number (D : Df K mg "leaving_number" s_leaving_number) (T : Tx mg) : Has P w K mg base 1 "leaving_number" ["state", "kind", "count"] sp_leaving_number := by
  refine has_of D sc_leaving_number (fun _ _ _ _ _ _ us hl => match us, hl with | [_, _, _], _ => rfl) (fun vs H Q E h => ?_) (fun f cdv A outer s₀ H vs Q E hr h => ?_)
  · obtain ⟨a, rs, _, _, rfl, _⟩ := h
    rfl
  · obtain ⟨v, st, k, c, rfl, hv, q⟩ := h
    refine ⟨_, (pss_cons (ps_if (PW.pt (pw_or (pt_cmpR op_isN (pv 0) pe_non (nomark _)) (pw_or1 (pt_cmpR op_eq (pe_ix ix_tup (pv 0) pe_int (fun _ _ => rfl)) (pv 1) (nomark _))))) (pss_one (ps_ret pe_int)) pss_nil)
    (pss_one (ps_ret (pe_callB (call_min2 rfl) (by rfl) T.n_min (by decide +kernel) (pa_cons (pe_ix ix_tup (pv 0) pe_int (fun _ _ => rfl)) (pa_cons (pv 2) pa_nil)))))), ?_⟩
    cases st with
    | none =>
      cases hv
      exact ⟨_, rfl, rfl, _, rfl, iteP rfl (iteT q)⟩
    | some r =>
      obtain ⟨t, rfl, ht⟩ := hv
      refine ⟨_, rfl, rfl, _, rfl, iteN rfl ⟨_, rfl, t, _, 0, _, rfl, rfl, .of ht, at0, _, rfl, rfl, _, rfl, ?_⟩⟩
      by_cases e : r.1 = k
      · refine iteP (by rw [e]; exact decide_eq_true rfl) ?_
        rw [show leavR (some r) k c = 0 from if_pos e] at q
        exact q
      · refine iteN (decide_eq_false fun z => e (V.str.inj z)) ⟨_, rfl, t, _, 1, _, rfl, rfl, .of ht, at1, _, rfl, _, _, rfl, ?_⟩
        rw [show leavR (some r) k c = if c < r.2 then c else r.2 from if_neg e] at q
        exact q
/-! state_with: slots 0:kind 1:number -/
abbrev s_state_with : Stmt := topS 21
theorem sc_state_with : FnScope ["kind", "number"] ["kind", "number"] (defScope s_state_with) := ⟨rfl, rfl, rfl, by decide +kernel, rfl, by decide +kernel, by decide +kernel⟩
def sp_state_with : Sp := fun vs H Q _ => ∃ (k : Str) (n : Int), vs = [.str k, .int n] ∧ ∀ H' v', Same H H' → StV H' v' (withR k n) → Q v' H'
theorem ok_state_with (D : Df K mg "state_with" s_state_with) : Has P w K mg base 1 "state_with" ["kind", "number"] sp_state_with := by
  refine has_of D sc_state_with (fun _ _ _ _ _ _ us hl => match us, hl with | [_, _], _ => rfl) (fun vs H Q E h => ?_) (fun f cdv A outer s₀ H vs Q E hr h => ?_)
  · obtain ⟨k, n, rfl, _⟩ := h
    rfl
  · obtain ⟨k, n, rfl, q⟩ := h
    refine ⟨_, (pss_one (ps_ret (pe_ifExp (pt_cmpR op_eq (pv 1) pe_int (nomark _)) pe_non (pe_tup (pa_cons (pv 0) (pa_cons (pv 1) pa_nil)))))), ?_⟩
    refine ⟨_, rfl, rfl, _, rfl, ?_⟩
    by_cases e : n = 0
    · rw [show withR k n = none from if_pos e] at q
      exact iteP (decide_eq_true (by rw [e])) (q _ _ (Same.refl _) rfl)
    · rw [show withR k n = some (k, n) from if_neg e] at q
      refine iteN (decide_eq_false fun z => e (V.int.inj z)) ?_
      exact ⟨_, rfl, _, rfl, (by show 2 ≤ sizeLine; decide), fun n' nn => q _ _ (same_upd nn) ⟨n', rfl, upd_same⟩⟩
/-! state_after_run: slots 0:state 1:kind 2:count 3:left_over -/
abbrev s_state_after_run : Stmt := topS 23
theorem sc_state_after_run : FnScope ["state", "kind", "count", "left_over"] ["state", "kind", "count"] (defScope s_state_after_run) := ⟨rfl, rfl, rfl, by decide +kernel, rfl, by decide +kernel, by decide +kernel⟩
def sp_state_after_run : Sp := fun vs H Q _ => ∃ (v : V) (st : Option Run) (k : Str) (c : Int), vs = [v, .str k, .int c] ∧ StV H v st ∧ 1 ≤ c ∧ ∀ H' v', Same H H' → StV H' v' (stepR st k c) → Q v' H'
theorem ok_state_after_run (D : Df K mg "state_after_run" s_state_after_run) (G_waiting_number : Has P w K mg base 1 "waiting_number" ["state"] sp_waiting_number) (G_state_with : Has P w K mg base 1 "state_with" ["kind", "number"] sp_state_with) : Has P w K mg base 2 "state_after_run" ["state", "kind", "count"] sp_state_after_run := by
  refine has_of D sc_state_after_run (fun _ _ _ _ _ _ us hl => match us, hl with | [_, _, _], _ => rfl) (fun vs H Q E h => ?_) (fun f cdv A outer s₀ H vs Q E hr h => ?_)
  · obtain ⟨a, rs, _, _, rfl, _⟩ := h
    rfl
  · obtain ⟨v, st, k, c, rfl, hv, hc, q⟩ := h
    refine ⟨_, (pss_cons (ps_if (PW.pt (pw_and (pt_cmpR op_notN (pv 0) pe_non (nomark _)) (pw_and1 (pt_cmpR op_eq (pe_ix ix_tup (pv 0) pe_int (fun _ _ => rfl)) (pv 1) (nomark _))))) (pss_one (ps_ret (pe_tup (pa_cons (pv 1) (pa_cons (pe_op op_add (pe_ix ix_tup (pv 0) pe_int (fun _ _ => rfl)) (pv 2)) pa_nil))))) pss_nil)
    (pss_cons (ps_set (i := 3) sc_state_after_run.nd rfl (by first | exact Or.inl rfl | exact Or.inr rfl) (pe_op op_sub (pe_callH G_waiting_number (hr.mono (by omega)) (by rfl) (pa_cons (pv 0) pa_nil)) (pv 2)))
    (pss_cons (ps_if (pt_cmpR op_gt (pv 3) pe_int (nomark _)) (pss_one (ps_ret (pe_tup (pa_cons (pe_ix ix_tup (pv 0) pe_int (fun _ _ => rfl)) (pa_cons (pv 3) pa_nil))))) pss_nil)
    (pss_one (ps_ret (pe_callH G_state_with (hr.mono (by omega)) (by rfl) (pa_cons (pv 1) (pa_cons (pe_un un_neg (pv 3)) pa_nil)))))))), ?_⟩
    cases st with
    | none =>
      cases hv
      refine ⟨_, rfl, rfl, _, rfl, iteN rfl (iteF ?_)⟩
      refine ⟨_, rfl, _, none, rfl, rfl, _, rfl, _, _, rfl, rfl, ?_⟩
      refine ⟨_, rfl, _, _, rfl, rfl, _, rfl, iteN (decide_eq_false (by show ¬ (0 : Int) < 0 - c; omega)) ?_⟩
      refine ⟨_, rfl, _, rfl, _, rfl, k, -(0 - c), rfl, fun H' v' s h => q H' v' s ?_⟩
      have e : withR k (-(0 - c)) = some (k, c) := by
        unfold withR
        rw [if_neg (by omega), show -(0 - c) = c by omega]
      rw [e] at h
      exact h
    | some r =>
      obtain ⟨t, rfl, ht⟩ := hv
      refine ⟨_, rfl, rfl, _, rfl, iteP rfl ⟨_, rfl, t, _, 0, _, rfl, rfl, .of ht, at0, _, rfl, rfl, _, rfl, ?_⟩⟩
      by_cases e : r.1 = k
      · have es : stepR (some r) k c = some (k, r.2 + c) := if_pos e
        rw [es] at q
        refine iteP (by rw [e]; exact decide_eq_true rfl) ?_
        exact ⟨_, rfl, _, rfl, t, _, 1, _, rfl, rfl, .of ht, at1, _, rfl, _, _, rfl, rfl, (by show 2 ≤ sizeLine; decide), fun n nn => q _ _ (same_upd nn) ⟨n, rfl, upd_same⟩⟩
      · refine iteN (decide_eq_false fun z => e (V.str.inj z)) ?_
        have es : stepR (some r) k c = if 0 < r.2 - c then some (r.1, r.2 - c) else if r.2 - c = 0 then none else some (k, -(r.2 - c)) := if_neg e
        rw [es] at q
        refine ⟨_, rfl, _, some r, rfl, ⟨t, rfl, ht⟩, _, rfl, _, _, rfl, rfl, ?_⟩
        refine ⟨_, rfl, _, _, rfl, rfl, _, rfl, ?_⟩
        by_cases e1 : 0 < r.2 - c
        · rw [if_pos e1] at q
          refine iteP (decide_eq_true e1) ?_
          exact ⟨_, rfl, t, _, 0, _, rfl, rfl, .of ht, at0, _, rfl, (by show 2 ≤ sizeLine; decide), fun n nn => q _ _ (same_upd nn) ⟨n, rfl, upd_same⟩⟩
        · rw [if_neg e1] at q
          refine iteN (decide_eq_false e1) ⟨_, rfl, _, rfl, _, rfl, k, -(r.2 - c), rfl, fun H' v' s h => q H' v' s ?_⟩
          have e3 : withR k (-(r.2 - c)) = if r.2 - c = 0 then none else some (k, -(r.2 - c)) := by
            unfold withR
            by_cases e2 : r.2 - c = 0
            · rw [if_pos e2, if_pos (by omega)]
            · rw [if_neg e2, if_neg (by omega)]
          rw [e3] at h
          exact h
end
end UP

set_option Elab.async false
set_option linter.all false
set_option maxRecDepth 100000
set_option maxHeartbeats 4000000
namespace UP
open PySem PySem.Spec PyProof.Rows L2
def DfD (K : PySem.W.Frag) (mg : Str → Option Value) (x : Str) (st : Stmt) (dvs : List V) : Prop := ∃ f fd, mg x = some (.ref f) ∧ FunD K x x (defArgs st) (defBody st) (defScope st) dvs [] f fd
/-- a def whose last parameter, kw, has the default None -/
def HasD (P : Program) (w : World) (K : PySem.W.Frag) (mg : Str → Option Value) (base : Heap) (k : Nat) (x : Str) (ps : List Str) (n : Nat) (kw : Str) (sp : Sp) : Prop :=
  ∃ f fd, mg x = some (.ref f) ∧ PySem.W.keepIn K (.ref f) = true ∧ Binds K fd ps [] ∧ (∃ ds, Vals [.non] ds ∧ Binds K fd ps ds) ∧ KBn K fd ps n [kw] (fun us ws => us ++ ws) (fun vs zs => vs ++ zs) ∧ FnOk P w K mg base CX0 k f fd ps sp
section
variable {P : Program} {w : World} {K : PySem.W.Frag} {mg : Str → Option Value} {base : Heap}
theorem HasD.has {k n : Nat} {x kw : Str} {ps : List Str} {sp : Sp} (h : HasD P w K mg base k x ps n kw sp) : Has P w K mg base k x ps sp := by
  obtain ⟨f, fd, g, kp, b, _, _, F⟩ := h
  exact ⟨f, fd, g, kp, b, F⟩
theorem has_ofD {x kw : Str} {st : Stmt} {ps N : List Str} {k n : Nat} {sp : Sp} (D : DfD K mg x st [.non]) (S : FnScope N ps (defScope st)) (hpn : ps.length = n + 1)
    (hb : ∀ (T : Addr) (kV doc pm : Value) (an : Option Addr) (cdv ct : Value) (us its : List Value), us.length = n + 1 → its.length = 1 →
      ∃ k, bindArgs (PySem.W.fnOf x x (defArgs st) (defBody st) (defScope st) (.ref T) kV doc pm an cdv ct) ⟨us, []⟩ = seqItems? (.ref T) >>= k ∧ k (some its.toArray) = pure (ps.zip us))
    (hb1 : ∀ (T : Addr) (kV doc pm : Value) (an : Option Addr) (cdv ct : Value) (us its : List Value), us.length = n → its.length = 1 →
      ∃ k, bindArgs (PySem.W.fnOf x x (defArgs st) (defBody st) (defScope st) (.ref T) kV doc pm an cdv ct) ⟨us, []⟩ = seqItems? (.ref T) >>= k ∧ k (some its.toArray) = pure (ps.zip (us ++ its)))
    (hb2 : ∀ (T : Addr) (kV doc pm : Value) (an : Option Addr) (cdv ct : Value) (us its : List Value) (v : Value), us.length = n → its.length = 1 →
      ∃ k, bindArgs (PySem.W.fnOf x x (defArgs st) (defBody st) (defScope st) (.ref T) kV doc pm an cdv ct) ⟨us, [(kw, v)]⟩ = seqItems? (.ref T) >>= k ∧ k (some its.toArray) = pure (ps.zip (us ++ [v])))
    (len : ∀ vs H Q E, sp vs H Q E → vs.length = ps.length)
    (body : ∀ (f : Addr) (cdv : Value) (A : Around) (outer : List Env) (s : Shared) (H : Hp) (vs : List V) (Q : VK) (E : XK), Room k (A.deeper (envOfC x (defScope st) s.heap.objs.size f cdv)) → sp vs H Q E →
      ∃ t, PSs (cxOf CX0 P w K mg base N x (defScope st) f cdv A outer s H E).nox (defBody st) t ∧ t { nx := fun _ H' => Q .non H', rt := Q } (start N vs) H) :
    HasD P w K mg base (k + 1) x ps n kw sp := by
  obtain ⟨f, fd, g, F⟩ := D
  have B0 : Binds K fd ps [] := by
    obtain ⟨ds, v, b⟩ := F.binds1 (n + 1) 1 (ps := ps) (by intro z; cases z) (by rw [hpn]; rfl) fun T kV doc pm an cdv ct us its h1 h2 => by
      obtain ⟨k, e1, e2⟩ := hb T kV doc pm an cdv ct us its h1 h2
      refine ⟨k, e1, ?_⟩
      have h3 : its.length ≤ 1 := Nat.le_of_eq h2
      rw [e2, List.drop_of_length_le h3, List.append_nil]
    cases v
    exact b
  have B1 : ∃ ds, Vals [V.non] ds ∧ Binds K fd ps ds := by
    obtain ⟨ds, v, b⟩ := F.binds1 n 0 (ps := ps) (by intro z; cases z) (by rw [hpn]; rfl) fun T kV doc pm an cdv ct us its h1 h2 => by
      obtain ⟨k, e1, e2⟩ := hb1 T kV doc pm an cdv ct us its h1 h2
      exact ⟨k, e1, by rw [e2, List.drop_zero]⟩
    exact ⟨ds, v, b⟩
  have B2 : KBn K fd ps n [kw] (fun us ws => us ++ ws) (fun vs zs => vs ++ zs) := by
    refine ⟨fun s us ws X l1 l2 => ?_, fun r1 r2 => r1.append r2⟩
    obtain ⟨oc, od, dV, kV, doc, pm, an, cdv, ct, osl, rfl, lk, hcd, hD, _⟩ := F.ex
    rcases hD with ⟨z, _⟩ | ⟨_, T, o, its, m, rfl, lT, oT, rT⟩
    · cases z
    · match ws, l2 with
      | [v], _ =>
        obtain ⟨k, e1, e2⟩ := hb2 T kV doc pm an cdv ct us its v l1 rT.length.symm
        refine BindsTo.of_looks fun M => ?_
        show PySem.W.Looks M s.heap (bindArgs _ ⟨us, [(kw, v)]⟩) _
        rw [e1]
        exact looks_items X lT oT (.of_pure e2)
  refine ⟨f, fd, g, F.kp, B0, B1, B2, F.ok S len fun cdv A outer s H vs Q E hr h => ?_⟩
  obtain ⟨t, p, q⟩ := body f cdv A outer s H vs Q E hr h
  exact ⟨t, p.nox, q⟩
end
section
variable {X : Cx}
/-- the default taken -/
theorem pe_callDH {k n : Nat} {x kw : Str} {ps : List Str} {sp : Sp} {p pos : Pos} {e : Expr} {es : List Expr} {t : TA} (G : HasD X.prog X.w X.K X.mg X.base k x ps n kw sp) (hr : Room k X.A) (hg : Gl X x) (ha : PA X (e :: es) t)
    (hdb : (x == ("__debug__" : Str)) = false := by decide) (he : starEach (e :: es) X.env = (false, eval e X.env) :: starEach es X.env := by rfl) (hpl : (backTo pos (starEach es X.env)).any (·.1) = false := by rfl) :
    PE X (.Call (.Name x p) (e :: es) [] pos) (tCall sp [.non] E0 t) := by
  obtain ⟨f, fd, g, kp, _, ⟨ds, v, b⟩, _, F⟩ := G
  exact pe_call F hr hg g kp b v pass0 ha hdb he hpl
/-- the last one by its name -/
theorem pe_callNH {k n : Nat} {x kw : Str} {ps : List Str} {sp : Sp} {p pos : Pos} {e : Expr} {es : List Expr} {kws : List Keyword} {t tk : TA} (G : HasD X.prog X.w X.K X.mg X.base k x ps n kw sp) (hr : Room k X.A) (hg : Gl X x) (ha : PA X (e :: es) t) (hk : PK X kws tk)
    (h1 : (backToKw pos (keywordEach kws X.env)).all (·.1.isSome) = true := by rfl) (h2 : (backToKw pos (keywordEach kws X.env)).filterMap (·.1) = [kw] := by rfl) (hdb : (x == ("__debug__" : Str)) = false := by decide)
    (he : starEach (e :: es) X.env = (false, eval e X.env) :: starEach es X.env := by rfl) (hpl : ((backTo pos (starEach (e :: es) X.env)).any (·.1) || (backToKw pos (keywordEach kws X.env)).any (·.1.isNone)) = false := by rfl) :
    PE X (.Call (.Name x p) (e :: es) kws pos) (tCallN n 1 sp (fun vs zs => vs ++ zs) E0 t tk) := by
  obtain ⟨f, fd, g, kp, _, _, b, F⟩ := G
  exact pe_callN F hr hg g kp b pass0 ha hk h1 h2 hdb he hpl
end
section
variable {P : Program} {w : World} {K : PySem.W.Frag} {mg : Str → Option Value} {base : Heap}
theorem SeqOk.pos {rs : List Run} (h : SeqOk rs) : ∀ r ∈ rs, 1 ≤ r.2 := fun r m => (h.2.1 r m).2.1
theorem pieceR_pos {b s e : Int} {r x : Run} (h : x ∈ pieceR b s e r) : 1 ≤ x.2 := by
  unfold pieceR at h
  split at h
  · rename_i z
    simp only [List.mem_singleton] at h
    subst h
    show 1 ≤ sizeR b s e r.2
    omega
  · cases h
theorem cutR_pos {s e : Int} : ∀ {l : List Run} {b : Int}, ∀ x ∈ cutR s e b l, 1 ≤ x.2
  | [], _, x, h => by cases h
  | r :: t, b, x, h => by
    rcases List.mem_append.mp (show x ∈ pieceR b s e r ++ cutR s e (b + r.2) t from h) with h | h
    · exact pieceR_pos h
    · exact cutR_pos x h
end
end UP

set_option Elab.async false
set_option linter.all false
set_option maxRecDepth 100000
set_option maxHeartbeats 4000000
namespace UP
open PySem PySem.Spec PyProof.Rows L2
section
variable {P : Program} {w : World} {K : PySem.W.Frag} {mg : Str → Option Value} {base : Heap}
end
end UP

set_option Elab.async false
set_option linter.all false
set_option maxRecDepth 100000
set_option maxHeartbeats 4000000
namespace UP
open PySem PySem.Spec PyProof.Rows L2
/-! ### data -/
def dRun (r : Run) : PyData := .tuple [.str r.1, .int r.2]
theorem dp_run {K : PySem.W.Frag} {H : Hp} {v : V} {r : Run} (h : RunV H v r) : Dp K H v (dRun r) := by
  obtain ⟨t, rfl, h⟩ := h
  exact .tup (.of h) (.cons (.str _) (.cons (.int _) .nil))
theorem dp_all {K : PySem.W.Frag} {H : Hp} : ∀ {xs : List V} {rs : List Run}, Paired (RunV H) xs rs → DpAll K H xs (rs.map dRun)
  | _, _, .nil => .nil
  | _, _, .cons h t => .cons (dp_run h) (dp_all t)
theorem KindOk.str {s : Str} (h : KindOk s) : PyData.strOk s = true := by
  unfold PyData.strOk
  rw [Array.all_eq_true']
  intro c hc
  have := h.2.2 c (by simpa using hc)
  exact decide_eq_true (by omega)
theorem can_run {r : Run} (h : KindOk r.1) : (dRun r).canLay0 = true := by
  simp [dRun, PyData.canLay0, PyData.canLayAll0, h.str]
theorem can_runs : ∀ {rs : List Run}, (∀ r ∈ rs, KindOk r.1) → PyData.canLayAll0 (rs.map dRun) = true
  | [], _ => by simp [PyData.canLayAll0]
  | r :: t, h => by
    rw [List.map_cons, PyData.canLayAll0, can_run (h r (List.mem_cons_self ..)), can_runs fun x hx => h x (List.mem_cons_of_mem _ hx)]
    rfl
theorem depth_run (r : Run) : (dRun r).depth ≤ 2 := by
  simp [dRun, PyData.depth, PyData.depthAll]
theorem depth_runs : ∀ (rs : List Run), PyData.depthAll (rs.map dRun) ≤ 2
  | [] => by simp [PyData.depthAll]
  | r :: t => by
    rw [List.map_cons, PyData.depthAll]
    exact Nat.max_le.mpr ⟨depth_run r, depth_runs t⟩
theorem shaped_runs {rs : List Run} (h : ∀ r ∈ rs, KindOk r.1) : SeqAt.shaped (.list (rs.map dRun)) = true := by
  unfold SeqAt.shaped
  rw [PyData.canLay0, can_runs h, PyData.depth]
  have := depth_runs rs
  exact decide_eq_true (by omega)
theorem shaped_run {r : Run} (h : KindOk r.1) : SeqAt.shaped (dRun r) = true := by
  unfold SeqAt.shaped
  rw [can_run h]
  have := depth_run r
  exact decide_eq_true (by omega)
theorem shaped_nil : SeqAt.shaped (.list []) = true := by decide
theorem eqv_nil (rs : List Run) : PyData.eqv (.list (rs.map dRun)) (.list []) = rs.isEmpty := by
  cases rs with
  | nil => simp [PyData.eqv, PyData.eqvAll]
  | cons r t => simp [PyData.eqv, PyData.eqvAll]
theorem sb {sp : Addr} {H H' : Hp} (h : Same H H') : But sp H H' := fun b o _ e => h b o e
theorem But.free {sp : Addr} {H H' : Hp} (b : But sp H H') (z : Spr H' sp) {p : Addr} (h : H' p = none) : H p = none := by
  by_cases e : p = sp
  · subst e
    obtain ⟨_, _, _, h1, _⟩ := z
    rw [h1] at h
    cases h
  · cases q : H p with
    | none => rfl
    | some o =>
      rw [b p o e q] at h
      cases h
theorem Spr.ne {sp p : Addr} {H : Hp} (z : Spr H sp) (h : H p = none) : p ≠ sp := by
  obtain ⟨_, _, _, h1, _⟩ := z
  exact fun e => by rw [e, h1] at h; cases h
instance (s : Str) : Decidable (KindOk s) := by
  unfold KindOk
  infer_instance
section
variable {P : Program} {w : World} {K : PySem.W.Frag} {mg : Str → Option Value} {base : Heap}
end
end UP

set_option Elab.async false
set_option linter.all false
set_option maxRecDepth 100000
set_option maxHeartbeats 4000000
namespace UP
open PySem PySem.Spec PyProof.Rows L2
theorem pe_bmK {X : Cx} {K : PySem.W.Frag} {e : Expr} {c : String} {r : V → List V → Hp → VK → Prop} {to : TE} {t : TA} (h : X.K = K) (p : PE X e (tBM X.K c r to t)) : PE X e (tBM K c r to t) := h ▸ p
theorem if_by {c : TT} {t u : TS} {D : Ends} {σ : L2.St} {H : Hp} (R : Bool → Hp → Prop) (h : ∀ Q' : Bool → Hp → Prop, (∀ b H', R b H' → Q' b H') → c σ H Q') (ht : ∀ H', R true H' → t D σ H') (hu : ∀ H', R false H' → u D σ H') : tIfS c t u D σ H := by
  refine h _ fun b H' r => ?_
  cases b with
  | true => exact iteT (ht H' r)
  | false => exact iteF (hu H' r)
theorem erase_map {α β : Type} (f : α → β) : ∀ (l : List α) (i : Nat), (l.map f).eraseIdx i = (l.eraseIdx i).map f
  | [], _ => rfl
  | x :: t, 0 => rfl
  | x :: t, i + 1 => by
    simp only [List.map_cons, List.eraseIdx_cons_succ]
    rw [erase_map f t i]
def eight : List Str := ["a", "b", "c", "ab", "zz", "abcdefgh", "aa", "z"]
theorem eight_ok : ∀ s ∈ eight, KindOk s := by decide +kernel
theorem alt_snoc {l : List Run} {x : Run} (h : Alt l) (k : ∀ y, l[l.length - 1]? = some y → y.1 ≠ x.1) : Alt (l ++ [x]) := by
  intro i a b ha hb
  by_cases h1 : i + 1 < l.length
  · rw [List.getElem?_append_left (by omega)] at ha
    rw [List.getElem?_append_left h1] at hb
    exact h i a b ha hb
  · by_cases h2 : i + 1 = l.length
    · rw [List.getElem?_append_left (by omega)] at ha
      rw [List.getElem?_append_right (by omega), h2, Nat.sub_self] at hb
      cases hb
      rw [show i = l.length - 1 by omega] at ha
      exact k a ha
    · rw [List.getElem?_append_right (by omega)] at hb
      rw [List.getElem?_eq_none (by simp; omega)] at hb
      cases hb
theorem pow62 {x : Int} (h0 : 0 ≤ x) (h1 : x ≤ 1000000) : -(2 ^ 62) ≤ x ∧ x < 2 ^ 62 := by omega
theorem wide8 {m : Int} (h0 : 0 ≤ m) (h1 : m ≤ 1000000000000000000000000000000000000000000000000000000000000) : m.natAbs < 2 ^ 8000 :=
  Nat.lt_of_lt_of_le (show m.natAbs < 2 ^ 256 by omega) (Nat.pow_le_pow_right (by decide) (by decide))
section
variable {P : Program} {w : World} {K : PySem.W.Frag} {mg : Str → Option Value} {base : Heap}
end
end UP

set_option Elab.async false
set_option linter.all false
set_option maxRecDepth 100000
set_option maxHeartbeats 4000000
namespace UP
open PySem PySem.Spec PyProof.Rows L2
def scR (t : Int) (rs : List Run) : List Run := rs.map fun r => (r.1, r.2 * t)
def toldR (ws : List Run) : Option Run := match ws with
  | [] => none
  | r :: _ => some (r.1, (ws.length : Int))
def repR (k : Str) (n : Int) : Option Run := if n = 0 then none else some (k, n)
theorem repR_zero (k : Str) : repR k 0 = none := if_pos rfl
theorem repR_pos {k : Str} {n : Int} (h : 0 < n) : repR k n = some (k, n) := if_neg (by omega)
def PosO (st : Option Run) : Prop := ∀ r, st = some r → 1 ≤ r.2
theorem stepR_pos {st : Option Run} {k : Str} {c : Int} (h : PosO st) (hc : 1 ≤ c) : PosO (stepR st k c) := by
  intro r e
  cases st with
  | none =>
    cases e
    exact hc
  | some x =>
    have hx := h x rfl
    have e : (if x.1 = k then some (k, x.2 + c) else if 0 < x.2 - c then some (x.1, x.2 - c) else if x.2 - c = 0 then none else some (k, -(x.2 - c))) = some r := e
    by_cases h1 : x.1 = k
    · rw [if_pos h1] at e
      cases e
      show 1 ≤ x.2 + c
      omega
    · rw [if_neg h1] at e
      by_cases h2 : 0 < x.2 - c
      · rw [if_pos h2] at e
        cases e
        show 1 ≤ x.2 - c
        omega
      · rw [if_neg h2] at e
        by_cases h3 : x.2 - c = 0
        · rw [if_pos h3] at e
          cases e
        · rw [if_neg h3] at e
          cases e
          show 1 ≤ -(x.2 - c)
          omega
theorem stR_cons (r : Run) (l : List Run) (st : Option Run) : stR (r :: l) st = stR l (stepR st r.1 r.2) := rfl
theorem stR_pos : ∀ {rs : List Run} {st : Option Run}, PosO st → (∀ r ∈ rs, 1 ≤ r.2) → PosO (stR rs st)
  | [], _, h, _ => h
  | r :: t, st, h, k => by
    rw [stR_cons]
    exact stR_pos (stepR_pos h (k r (List.mem_cons_self ..))) fun x hx => k x (List.mem_cons_of_mem _ hx)
theorem StOk.pos {st : Option Run} (h : StOk st) : PosO st := fun r e => (h r e).2
section
variable {P : Program} {w : World} {K : PySem.W.Frag} {mg : Str → Option Value} {base : Heap}
end
end UP

set_option Elab.async false
set_option linter.all false
set_option maxRecDepth 100000
set_option maxHeartbeats 4000000
namespace UP
open PySem PySem.Spec PyProof.Rows L2
/-! ### plain data, by depth -/
def Dsc (v : V) (d : PyData) : Prop := (v = .non ∧ d = .none) ∨ (∃ b, v = .bl b ∧ d = .bool b) ∨ (∃ i, v = .int i ∧ d = .int i) ∨ ∃ s, v = .str s ∧ d = .str s
def Dt (H : Hp) : Nat → V → PyData → Prop
  | 0, v, d => Dsc v d
  | n + 1, v, d => Dsc v d ∨ (∃ a xs ds, v = .ref a ∧ H a = some (.lst xs) ∧ d = .list ds ∧ Paired (Dt H n) xs ds ∧ ds.length ≤ 100000) ∨ ∃ a xs ds, v = .ref a ∧ H a = some (.tup xs) ∧ d = .tuple ds ∧ Paired (Dt H n) xs ds ∧ ds.length ≤ 100000
theorem Dt.same {H H' : Hp} (s : Same H H') : ∀ {n : Nat} {v : V} {d : PyData}, Dt H n v d → Dt H' n v d
  | 0, _, _, h => h
  | n + 1, v, d, h => by
    rcases h with h | ⟨a, xs, ds, e, h, e2, p, l⟩ | ⟨a, xs, ds, e, h, e2, p, l⟩
    · exact .inl h
    · exact .inr (.inl ⟨a, xs, ds, e, s _ _ h, e2, Paired.imp (fun _ _ z => Dt.same s z) p, l⟩)
    · exact .inr (.inr ⟨a, xs, ds, e, s _ _ h, e2, Paired.imp (fun _ _ z => Dt.same s z) p, l⟩)
theorem dsc_ref {a : Addr} {d : PyData} (h : Dsc (.ref a) d) : False := by
  rcases h with ⟨h, _⟩ | ⟨_, h, _⟩ | ⟨_, h, _⟩ | ⟨_, h, _⟩ <;> cases h
theorem dsc_lst {v : V} {ds : List PyData} (h : Dsc v (.list ds)) : False := by
  rcases h with ⟨_, h⟩ | ⟨_, _, h⟩ | ⟨_, _, h⟩ | ⟨_, _, h⟩ <;> cases h
theorem dsc_tup {v : V} {ds : List PyData} (h : Dsc v (.tuple ds)) : False := by
  rcases h with ⟨_, h⟩ | ⟨_, _, h⟩ | ⟨_, _, h⟩ | ⟨_, _, h⟩ <;> cases h
theorem dsc_one {v v' : V} {d : PyData} (h : Dsc v d) (h' : Dsc v' d) : v = v' := by
  rcases h with ⟨e, z⟩ | ⟨x, e, z⟩ | ⟨x, e, z⟩ | ⟨x, e, z⟩ <;> subst z <;> rcases h' with ⟨e', z⟩ | ⟨y, e', z⟩ | ⟨y, e', z⟩ | ⟨y, e', z⟩ <;> cases z <;> rw [e, e']
theorem kit_no {K : PySem.W.Frag} {c : String} (h1 : kitB c "list" = some false) (h2 : kitB c "tuple" = some false) : PySem.W.kitAny K (.type c) [.type "list", .type "tuple"] = some false :=
  kitAny_cons (b := false) (kit_ty h1) (fun _ => kitAny_cons (b := false) (kit_ty h2) (fun _ => rfl) (fun z => nomatch z)) (fun z => nomatch z)
theorem ixL {K : PySem.W.Frag} {x y : V} {H : Hp} {Q : VK} (h : rIxL K x y H Q) : rIx K x y H Q := .inl h
theorem ixT {K : PySem.W.Frag} {x y : V} {H : Hp} {Q : VK} (h : rIxT K x y H Q) : rIx K x y H Q := .inr (.inl h)
section
variable {P : Program} {w : World} {K : PySem.W.Frag} {mg : Str → Option Value} {base : Heap}
end
end UP

set_option Elab.async false
set_option linter.all false
set_option maxRecDepth 100000
set_option maxHeartbeats 4000000
namespace UP
open PySem PySem.Spec PyProof.Rows L2
/-! ### a walk over one object that stays, whatever else is changed -/
structure WkA (J : It) (H : Hp) (a : Addr) (xs : List V) : Prop where
  go : ∀ i H', H' a = H a → i < xs.length → J.go i H'
  stop : ∀ H', H' a = H a → J.stop xs.length H'
  yld : ∀ i x H' H'', H' a = H a → J.yld i H' x H'' → H'' = H' ∧ xs[i]? = some x
def iSeqA (i : Nat) : TI := fun σ H R => ∃ a xs, σ[i]? = some (some (.ref a)) ∧ Sq2 H a xs ∧ ∀ J, WkA J H a xs → R J H
section
variable {X : Cx}
theorem wka_list {K : PySem.W.Frag} {H : Hp} {a : Addr} {xs : List V} (h : H a = some (.lst xs)) : WkA (Itl K a) H a xs :=
  ⟨fun i H' e hi => ⟨xs, xs[i], .of (e.trans h), List.getElem?_eq_getElem hi⟩, fun H' e => ⟨xs, .of (e.trans h), Nat.le_refl _⟩, fun i x H' H'' e y => ⟨y.1, y.2 xs (.of (e.trans h))⟩⟩
theorem wka_tup {K : PySem.W.Frag} {H : Hp} {a : Addr} {xs : List V} (h : H a = some (.tup xs)) : WkA (Itt K a) H a xs :=
  ⟨fun i H' e hi => ⟨xs, xs[i], .of (e.trans h), List.getElem?_eq_getElem hi⟩, fun H' e => ⟨xs, .of (e.trans h), Nat.le_refl _⟩, fun i x H' H'' e y => ⟨y.1, y.2 xs (.of (e.trans h))⟩⟩
theorem pi_seqA (i : Nat) {x : Str} {pos : Pos} {tg : Expr} (hN : X.N[i]? = some x := by rfl) (hv : Vis X.env.scope x := by first | exact Or.inl rfl | exact Or.inr (Or.inl rfl) | exact Or.inr (Or.inr rfl)) (hd : (x == ("__debug__" : Str)) = false := by decide)
    (hc : (x == ("__classdict__" : Str)) = false := by decide) : PI X tg (.Name x pos) (iSeqA i) := by
  refine ⟨fun pins s σ H R I hw => ?_⟩
  obtain ⟨a, xs, e, h, k⟩ := hw
  rcases h with h | h
  · exact (pi_list (pe_var hN hv hd hc)).run pins s σ H R I ⟨_, e, a, rfl, ⟨xs, .of h⟩, k _ (wka_list h)⟩
  · exact (pi_tup (pe_var hN hv hd hc)).run pins s σ H R I ⟨_, e, a, rfl, ⟨xs, .of h⟩, k _ (wka_tup h)⟩
end
theorem lc_wka {J : It} {H0 H1 : Hp} {a : Addr} {xs : List V} {g : TG} {tt : TT} {te : TE} {vs : List Nat} {σ : L2.St} {D : Addr} {Qd : Hp → Prop} (wk : WkA J H0 a xs) (Pv : Nat → Hp → Prop) (hsm : ∀ i H, Pv i H → H a = H0 a) (h0 : Pv 0 (upd H1 D (.lst [])))
    (hs : ∀ i x H, xs[i]? = some x → Pv i H → g x (wipe σ vs) H fun σ2 H2 => wipe σ2 vs = wipe σ vs ∧ tt σ2 H2 fun b H3 =>
      if b = true then te σ2 H3 fun y H4 => ∃ acc, H4 D = some (.lst acc) ∧ acc.length < sizeLine ∧ Pv (i + 1) (upd H4 D (.lst (acc ++ [y]))) else Pv (i + 1) H3) (hd : ∀ H, Pv xs.length H → Qd H) :
    ∃ W : Nat → Nat → Hp → Prop, (∃ m, W 0 m (upd H1 D (.lst []))) ∧ ∀ i m H, W i m H →
      (J.stop i H ∧ Qd H) ∨ (J.go i H ∧ ∃ Nx : Hp → Prop, (∀ H', Nx H' → ∃ m', m' < m ∧ W (i + 1) m' H') ∧ ∀ x H', J.yld i H x H' → g x (wipe σ vs) H' fun σ2 H2 => wipe σ2 vs = wipe σ vs ∧ tt σ2 H2 fun b H3 =>
        if b = true then te σ2 H3 fun y H4 => ∃ acc, H4 D = some (.lst acc) ∧ acc.length < sizeLine ∧ Nx (upd H4 D (.lst (acc ++ [y]))) else Nx H3) := by
  refine lc_gen Pv h0 (fun i H hi p => wk.go i H (hsm i H p) hi) (fun H p => wk.stop H (hsm _ H p)) (fun i x H H' hi p y => ?_) hd
  obtain ⟨e, ex⟩ := wk.yld i x H H' (hsm i H p) y
  subst e
  exact hs i x _ ex p
theorem for_gen {J : It} {n : Nat} {H : Hp} {g : TG} {tb : TS} {D : Ends} {σ : L2.St} (Pv : Nat → L2.St → Hp → Prop) (h0 : Pv 0 σ H) (hg : ∀ i σ H, i < n → Pv i σ H → J.go i H) (hst : ∀ σ H, Pv n σ H → J.stop n H)
    (hs : ∀ i x σ H H', i < n → Pv i σ H → J.yld i H x H' → g x σ H' fun σ2 H2 => tb { D with nx := Pv (i + 1), ct := Pv (i + 1), bk := D.nx } σ2 H2) (hd : ∀ σ H, Pv n σ H → D.nx σ H) :
    ∃ W : Nat → Nat → L2.St → Hp → Prop, (∃ m, W 0 m σ H) ∧ ∀ i m σ H, W i m σ H →
      (J.stop i H ∧ D.nx σ H) ∨ (J.go i H ∧ ∃ N : L2.St → Hp → Prop, (∀ σ' H', N σ' H' → ∃ m', m' < m ∧ W (i + 1) m' σ' H') ∧ ∀ x H', J.yld i H x H' → g x σ H' fun σ2 H2 => tb { D with nx := N, ct := N, bk := D.nx } σ2 H2) := by
  refine ⟨fun i m σ H => m = n - i ∧ i ≤ n ∧ Pv i σ H, ⟨n, by omega, Nat.zero_le _, h0⟩, ?_⟩
  rintro i m σ H ⟨rfl, hi, p⟩
  by_cases hlt : i < n
  · exact Or.inr ⟨hg i σ H hlt p, Pv (i + 1), fun σ' H' p' => ⟨n - (i + 1), by omega, rfl, hlt, p'⟩, fun x H' y => hs i x σ H H' hlt p y⟩
  · have e : i = n := by omega
    subst e
    exact Or.inl ⟨hst σ H p, hd σ H p⟩
theorem for_wka {J : It} {H0 H : Hp} {a : Addr} {xs : List V} {g : TG} {tb : TS} {D : Ends} {σ : L2.St} (wk : WkA J H0 a xs) (Pv : Nat → L2.St → Hp → Prop) (hsm : ∀ i σ H, Pv i σ H → H a = H0 a) (h0 : Pv 0 σ H)
    (hs : ∀ i x σ H, xs[i]? = some x → Pv i σ H → g x σ H fun σ2 H2 => tb { D with nx := Pv (i + 1), ct := Pv (i + 1), bk := D.nx } σ2 H2) (hd : ∀ σ H, Pv xs.length σ H → D.nx σ H) :
    ∃ W : Nat → Nat → L2.St → Hp → Prop, (∃ m, W 0 m σ H) ∧ ∀ i m σ H, W i m σ H →
      (J.stop i H ∧ D.nx σ H) ∨ (J.go i H ∧ ∃ N : L2.St → Hp → Prop, (∀ σ' H', N σ' H' → ∃ m', m' < m ∧ W (i + 1) m' σ' H') ∧ ∀ x H', J.yld i H x H' → g x σ H' fun σ2 H2 => tb { D with nx := N, ct := N, bk := D.nx } σ2 H2) := by
  refine for_gen Pv h0 (fun i σ H hi p => wk.go i H (hsm i σ H p) hi) (fun σ H p => wk.stop H (hsm _ σ H p)) (fun i x σ H H' hi p y => ?_) hd
  obtain ⟨e, ex⟩ := wk.yld i x H H' (hsm i σ H p) y
  subst e
  exact hs i x σ _ ex p
theorem Sq2.eq {H H' : Hp} {a : Addr} {xs : List V} (h : Sq2 H a xs) (s : Same H H') : H' a = H a := h.elim (fun z => (s _ _ z).trans z.symm) (fun z => (s _ _ z).trans z.symm)
/-! ### data without its dress -/
def Sim (N : Addr → Prop) (H : Hp) : Nat → V → PyData → Prop
  | 0, v, d => Dsc v d
  | n + 1, v, d => Dsc v d ∨ ∃ a xs ds, v = .ref a ∧ N a ∧ Sq2 H a xs ∧ d = .list ds ∧ Paired (Sim N H n) xs ds ∧ ds.length ≤ 1000
theorem Sim.keep {N N' : Addr → Prop} {H H' : Hp} (hn : ∀ a, N a → N' a) (hk : ∀ a o, N a → H a = some o → H' a = some o) : ∀ {n : Nat} {v : V} {d : PyData}, Sim N H n v d → Sim N' H' n v d
  | 0, _, _, h => h
  | n + 1, v, d, h => by
    rcases h with h | ⟨a, xs, ds, e, na, hx, e2, p, l⟩
    · exact .inl h
    · exact .inr ⟨a, xs, ds, e, hn a na, hx.elim (fun z => .inl (hk _ _ na z)) (fun z => .inr (hk _ _ na z)), e2, Paired.imp (fun _ _ z => Sim.keep hn hk z) p, l⟩
theorem Sim.dsc {N : Addr → Prop} {H : Hp} {v : V} {d : PyData} : ∀ {n : Nat}, Dsc v d → Sim N H n v d
  | 0, h => h
  | n + 1, h => .inl h
section
variable {P : Program} {w : World} {K : PySem.W.Frag} {mg : Str → Option Value} {base : Heap}
end
end UP

set_option Elab.async false
set_option linter.all false
set_option maxRecDepth 100000
set_option maxHeartbeats 4000000
namespace UP
open PySem PySem.Spec PyProof.Rows L2
/-! ### waiting items one by one -/
def plS (ws : List Run) (k : Str) (n : Nat) : List Run := match ws with
  | [] => [(k, (n : Int))]
  | r :: t => if r.1 = k then (r :: t) ++ [(k, (n : Int))] else t
def plP (ws : List Run) (k : Str) (n : Nat) : List (Int × Int) := match ws with
  | [] => []
  | r :: _ => if r.1 = k then [] else [(r.2, (n : Int))]
def plA (ws : List Run) (n : Nat) : List Str → List Run
  | [] => ws
  | k :: t => plA (plS ws k n) (n + 1) t
def psR (ws : List Run) (n : Nat) : List Str → List (Int × Int)
  | [] => []
  | k :: t => plP ws k n ++ psR (plS ws k n) (n + 1) t
theorem plA_snoc : ∀ (l : List Str) (ws : List Run) (n : Nat) (k : Str), plA ws n (l ++ [k]) = plS (plA ws n l) k (n + l.length)
  | [], ws, n, k => rfl
  | x :: t, ws, n, k => by
    show plA (plS ws x n) (n + 1) (t ++ [k]) = plS (plA (plS ws x n) (n + 1) t) k (n + (x :: t).length)
    rw [plA_snoc t, List.length_cons, show n + 1 + t.length = n + (t.length + 1) by omega]
theorem psR_snoc : ∀ (l : List Str) (ws : List Run) (n : Nat) (k : Str), psR ws n (l ++ [k]) = psR ws n l ++ plP (plA ws n l) k (n + l.length)
  | [], ws, n, k => by
    show plP ws k n ++ [] = [] ++ plP ws k (n + 0)
    rw [List.append_nil, List.nil_append, Nat.add_zero]
  | x :: t, ws, n, k => by
    show plP ws x n ++ psR (plS ws x n) (n + 1) (t ++ [k]) = (plP ws x n ++ psR (plS ws x n) (n + 1) t) ++ plP (plA (plS ws x n) (n + 1) t) k (n + (x :: t).length)
    rw [psR_snoc t, List.length_cons, List.append_assoc, show n + 1 + t.length = n + (t.length + 1) by omega]
def plMs (ws : List Run) (ks : List Str) : List (List Run) := (List.range (ks.length + 1)).map fun m => plA ws 0 (ks.take m)
theorem plMs_snoc (ws : List Run) (l : List Str) (k : Str) : plMs ws (l ++ [k]) = plMs ws l ++ [plA ws 0 (l ++ [k])] := by
  unfold plMs
  rw [List.length_append, List.length_cons, List.length_nil, Nat.zero_add, List.range_succ, List.map_append]
  congr 1
  · refine List.map_congr_left fun m hm => ?_
    have : m ≤ l.length := by
      have := List.mem_range.mp hm
      omega
    rw [List.take_append_of_le_length this]
  · rw [List.map_singleton, List.take_of_length_le (by rw [List.length_append]; exact Nat.le_refl _)]
theorem plMs_nil (ws : List Run) : plMs ws [] = [ws] := rfl
theorem plMs_len (ws : List Run) (l : List Str) : (plMs ws l).length = l.length + 1 := by
  unfold plMs
  rw [List.length_map, List.length_range]
theorem plS_len (ws : List Run) (k : Str) (n : Nat) : (plS ws k n).length ≤ ws.length + 1 := by
  cases ws with
  | nil => exact Nat.le_refl _
  | cons r t =>
    show (if r.1 = k then (r :: t) ++ [(k, (n : Int))] else t).length ≤ _
    split
    · rw [List.length_append]
      exact Nat.le_refl _
    · rw [List.length_cons]
      omega
theorem plA_len : ∀ (l : List Str) (ws : List Run) (n : Nat), (plA ws n l).length ≤ ws.length + l.length
  | [], ws, n => Nat.le_refl _
  | k :: t, ws, n => by
    have h1 := plA_len t (plS ws k n) (n + 1)
    have h2 := plS_len ws k n
    show (plA (plS ws k n) (n + 1) t).length ≤ _
    rw [List.length_cons]
    omega
theorem plP_len (ws : List Run) (k : Str) (n : Nat) : (plP ws k n).length ≤ 1 := by
  cases ws with
  | nil => exact Nat.zero_le _
  | cons r t =>
    show (if r.1 = k then [] else [(r.2, (n : Int))]).length ≤ 1
    split <;> simp
theorem psR_len : ∀ (l : List Str) (ws : List Run) (n : Nat), (psR ws n l).length ≤ l.length
  | [], ws, n => Nat.le_refl _
  | k :: t, ws, n => by
    have h1 := psR_len t (plS ws k n) (n + 1)
    have h2 := plP_len ws k n
    show (plP ws k n ++ psR (plS ws k n) (n + 1) t).length ≤ _
    rw [List.length_append, List.length_cons]
    omega
theorem plS_kinds {ws : List Run} {k : Str} {n : Nat} (h : ∀ r ∈ ws, KindOk r.1) (hk : KindOk k) : ∀ r ∈ plS ws k n, KindOk r.1 := by
  intro r hr
  cases ws with
  | nil =>
    rw [List.mem_singleton.mp (show r ∈ [(k, (n : Int))] from hr)]
    exact hk
  | cons x t =>
    have hr : r ∈ (if x.1 = k then (x :: t) ++ [(k, (n : Int))] else t) := hr
    by_cases e : x.1 = k
    · rw [if_pos e] at hr
      rcases List.mem_append.mp hr with z | z
      · exact h r z
      · rw [List.mem_singleton.mp z]
        exact hk
    · rw [if_neg e] at hr
      exact h r (List.mem_cons_of_mem _ hr)
theorem plA_kinds : ∀ {l : List Str} {ws : List Run} {n : Nat}, (∀ r ∈ ws, KindOk r.1) → (∀ k ∈ l, KindOk k) → ∀ r ∈ plA ws n l, KindOk r.1
  | [], _, _, h, _ => h
  | k :: t, ws, n, h, hl => plA_kinds (l := t) (plS_kinds h (hl k (List.mem_cons_self ..))) fun x hx => hl x (List.mem_cons_of_mem _ hx)
def w0R : Option Run → List Run
  | none => []
  | some r => List.replicate r.2.toNat (r.1, -1)
def itR (rs : List Run) : List Str := rs.flatMap fun r => List.replicate r.2.toNat r.1
theorem itR_snoc (l : List Run) (r : Run) : itR (l ++ [r]) = itR l ++ List.replicate r.2.toNat r.1 := by
  unfold itR
  rw [List.flatMap_append]
  simp
def PV (H : Hp) (v : V) (p : Int × Int) : Prop := ∃ t, v = .ref t ∧ H t = some (.tup [.int p.1, .int p.2])
theorem PV.same {H H' : Hp} {v : V} {p : Int × Int} (s : Same H H') (h : PV H v p) : PV H' v p := by
  obtain ⟨t, e, h⟩ := h
  exact ⟨t, e, s _ _ h⟩
theorem PV.grow {H : Hp} {D : Addr} {acc acc' : List V} {v : V} {p : Int × Int} (hD : H D = some (.lst acc)) (h : PV H v p) : PV (upd H D (.lst acc')) v p := by
  obtain ⟨t, e, h⟩ := h
  refine ⟨t, e, ?_⟩
  rw [upd_ne (ne_of h hD (by intro q; cases q))]
  exact h
theorem Runs.grow {H : Hp} {D a : Addr} {acc acc' : List V} {ws : List Run} (hD : H D = some (.lst acc)) (n : a ≠ D) (h : Runs H a ws) : Runs (upd H D (.lst acc')) a ws := by
  obtain ⟨xs, hx, hp⟩ := h
  refine ⟨xs, ?_, prs_grow hD hp⟩
  rw [upd_ne n]
  exact hx
/-- a list of runs apart from two others -/
def WL (H : Hp) (M N : Addr) (v : V) (ws : List Run) : Prop := ∃ a, v = .ref a ∧ a ≠ M ∧ a ≠ N ∧ Runs H a ws
theorem WL.same {H H' : Hp} {M N : Addr} {v : V} {ws : List Run} (s : Same H H') (h : WL H M N v ws) : WL H' M N v ws := by
  obtain ⟨a, e, n1, n2, h⟩ := h
  exact ⟨a, e, n1, n2, h.same s⟩
/-- what the play keeps -/
structure Pl (H0 H : Hp) (W M N : Addr) (ws0 : List Run) (ks ls : List Str) : Prop where
  sm : Same H0 H
  wm : W ≠ M
  wn : W ≠ N
  wr : Runs H W (plA ws0 0 ls)
  ms : ∃ xs, H M = some (.lst xs) ∧ Paired (WL H M N) xs (plMs ws0 ks)
  ps : ∃ ys, H N = some (.lst ys) ∧ Paired (PV H) ys (psR ws0 0 ls)
theorem flat_one {α : Type} (x : α) : ∀ n : Nat, (List.replicate n [x]).flatten = List.replicate n x
  | 0 => rfl
  | n + 1 => by
    rw [List.replicate_succ, List.flatten_cons, flat_one x n]
    rfl
theorem paired_rep {α β : Type} {F : α → β → Prop} {a : α} {b : β} (h : F a b) : ∀ n : Nat, Paired F (List.replicate n a) (List.replicate n b)
  | 0 => .nil
  | n + 1 => .cons h (paired_rep h n)
theorem len_items {rs : List Run} (h : ∀ r ∈ rs, 1 ≤ r.2 ∧ r.2 ≤ 1000) : (itR rs).length ≤ 1000 * rs.length := by
  induction rs with
  | nil => exact Nat.le_refl _
  | cons r t ih =>
    have e : itR (r :: t) = List.replicate r.2.toNat r.1 ++ itR t := rfl
    have h1 := h r (List.mem_cons_self ..)
    have h2 := ih fun x hx => h x (List.mem_cons_of_mem _ hx)
    rw [e, List.length_append, List.length_replicate, List.length_cons]
    omega
end UP

set_option Elab.async false
set_option linter.all false
set_option maxRecDepth 100000
set_option maxHeartbeats 4000000
namespace UP
open PySem PySem.Spec PyProof.Rows L2
section
variable {P : Program} {w : World} {K : PySem.W.Frag} {mg : Str → Option Value} {base : Heap}
end
end UP

set_option Elab.async false
set_option linter.all false
set_option maxRecDepth 100000
set_option maxHeartbeats 4000000
namespace UP
open PySem PySem.Spec PyProof.Rows L2
/-! ### one arrival after the other -/
def stI (ks : List Str) (st : Option Run) : Option Run := ks.foldl (fun s k => stepR s k 1) st
theorem stI_app (l m : List Str) (st : Option Run) : stI (l ++ m) st = stI m (stI l st) := List.foldl_append ..
theorem step_same {r : Run} {k : Str} {c : Int} (h : r.1 = k) : stepR (some r) k c = some (k, r.2 + c) := if_pos h
theorem step_other {r : Run} {k : Str} {c : Int} (h : r.1 ≠ k) : stepR (some r) k c = if 0 < r.2 - c then some (r.1, r.2 - c) else if r.2 - c = 0 then none else some (k, -(r.2 - c)) := if_neg h
theorem step_step {s : Option Run} {k : Str} {c : Int} (h : PosO s) (hc : 1 ≤ c) : stepR (stepR s k 1) k c = stepR s k (1 + c) := by
  cases s with
  | none => exact step_same (r := (k, 1)) rfl
  | some r =>
    have r1 := h r rfl
    by_cases e : r.1 = k
    · rw [step_same e, step_same e, step_same (r := (k, r.2 + 1)) rfl]
      show some (k, r.2 + 1 + c) = _
      rw [Int.add_assoc]
    · rw [step_other e, step_other e]
      by_cases h1 : 0 < r.2 - 1
      · rw [if_pos h1, step_other (r := (r.1, r.2 - 1)) e]
        show (if 0 < r.2 - 1 - c then some (r.1, r.2 - 1 - c) else if r.2 - 1 - c = 0 then none else some (k, -(r.2 - 1 - c))) = _
        rw [show r.2 - 1 - c = r.2 - (1 + c) by omega]
      · have e2 : r.2 - 1 = 0 := by omega
        rw [if_neg h1, if_pos e2, if_neg (by omega), if_neg (by omega)]
        show some (k, c) = _
        rw [show -(r.2 - (1 + c)) = c by omega]
theorem it_step : ∀ (n : Nat) (s : Option Run) (k : Str), PosO s → stI (List.replicate (n + 1) k) s = stepR s k ((n : Int) + 1)
  | 0, s, k, _ => rfl
  | n + 1, s, k, h => by
    show stI (List.replicate (n + 1) k) (stepR s k 1) = _
    rw [it_step n _ k (stepR_pos h (by decide)), step_step h (by omega)]
    congr 1
    omega
theorem st_items : ∀ (rs : List Run) (st : Option Run), PosO st → (∀ r ∈ rs, 1 ≤ r.2) → stR rs st = stI (itR rs) st
  | [], st, _, _ => rfl
  | r :: t, st, h, k => by
    have c1 := k r (List.mem_cons_self ..)
    have e : itR (r :: t) = List.replicate r.2.toNat r.1 ++ itR t := rfl
    obtain ⟨n, hn⟩ : ∃ n : Nat, r.2.toNat = n + 1 := ⟨r.2.toNat - 1, by omega⟩
    rw [e, stI_app, hn, it_step n _ _ h, stR_cons, show ((n : Int) + 1) = r.2 by omega]
    exact st_items t _ (stepR_pos h c1) fun x hx => k x (List.mem_cons_of_mem _ hx)
theorem take_app {α : Type} : ∀ (l m : List α) (n : Nat), (l ++ m).take n = l.take n ++ m.take (n - l.length)
  | [], m, n => by
    rw [List.nil_append, List.take_nil, List.nil_append, List.length_nil, Nat.sub_zero]
  | x :: t, m, 0 => by
    rw [List.take_zero, List.take_zero, Nat.zero_sub, List.take_zero]
    rfl
  | x :: t, m, n + 1 => by
    rw [List.cons_append, List.take_succ_cons, take_app t m n, List.take_succ_cons, List.length_cons, Nat.add_sub_add_right]
    rfl
theorem it_app (l m : List Run) : itR (l ++ m) = itR l ++ itR m := List.flatMap_append ..
theorem cut_items (e : Int) : ∀ (rs : List Run) (b : Int), 0 ≤ b → (∀ r ∈ rs, 1 ≤ r.2) → itR (cutR 0 e b rs) = (itR rs).take (e - b).toNat
  | [], b, _, _ => by
    show ([] : List Str) = ([] : List Str).take _
    rw [List.take_nil]
  | r :: t, b, hb, k => by
    have c1 := k r (List.mem_cons_self ..)
    have ih := cut_items e t (b + r.2) (by omega) fun x hx => k x (List.mem_cons_of_mem _ hx)
    have e1 : cutR 0 e b (r :: t) = pieceR b 0 e r ++ cutR 0 e (b + r.2) t := rfl
    have e2 : itR (r :: t) = List.replicate r.2.toNat r.1 ++ itR t := rfl
    rw [e1, it_app, ih, e2, take_app, List.length_replicate, List.take_replicate, show (e - (b + r.2)).toNat = (e - b).toNat - r.2.toNat by omega]
    congr 1
    have es : sizeR b 0 e r.2 = (if b + r.2 < e then b + r.2 else e) - b := by
      unfold sizeR
      by_cases h0 : b > 0
      · rw [if_pos h0]
      · rw [if_neg h0, show b = 0 by omega]
    by_cases hs : 0 < sizeR b 0 e r.2
    · rw [show pieceR b 0 e r = [(r.1, sizeR b 0 e r.2)] from if_pos hs]
      show List.replicate (sizeR b 0 e r.2).toNat r.1 ++ [] = _
      rw [List.append_nil]
      congr 1
      rw [es] at hs ⊢
      split <;> omega
    · rw [show pieceR b 0 e r = [] from if_neg hs]
      rw [es] at hs
      rw [show min (e - b).toNat r.2.toNat = 0 by split at hs <;> omega]
      rfl
theorem len_it : ∀ (rs : List Run), (∀ r ∈ rs, 1 ≤ r.2) → ((itR rs).length : Int) = lenR rs
  | [], _ => rfl
  | r :: t, k => by
    have c1 := k r (List.mem_cons_self ..)
    have ih := len_it t fun x hx => k x (List.mem_cons_of_mem _ hx)
    have e2 : itR (r :: t) = List.replicate r.2.toNat r.1 ++ itR t := rfl
    rw [e2, List.length_append, List.length_replicate, lenR_cons]
    omega
/-! ### what is told of waiting items -/
def Uni (ws : List Run) : Prop := ∀ x ∈ ws, ∀ y ∈ ws, x.1 = y.1
theorem uni_plS {ws : List Run} {k : Str} {n : Nat} (h : Uni ws) : Uni (plS ws k n) := by
  cases ws with
  | nil =>
    intro x hx y hy
    rw [List.mem_singleton.mp (show x ∈ [(k, (n : Int))] from hx), List.mem_singleton.mp (show y ∈ [(k, (n : Int))] from hy)]
  | cons r t =>
    by_cases e : r.1 = k
    · rw [show plS (r :: t) k n = (r :: t) ++ [(k, (n : Int))] from if_pos e]
      have all : ∀ x ∈ (r :: t) ++ [(k, (n : Int))], x.1 = k := by
        intro x hx
        rcases List.mem_append.mp hx with z | z
        · rw [h x z r (List.mem_cons_self ..)]
          exact e
        · rw [List.mem_singleton.mp z]
      intro x hx y hy
      rw [all x hx, all y hy]
    · rw [show plS (r :: t) k n = t from if_neg e]
      exact fun x hx y hy => h x (List.mem_cons_of_mem _ hx) y (List.mem_cons_of_mem _ hy)
theorem told_plS {ws : List Run} {k : Str} {n : Nat} (h : Uni ws) : toldR (plS ws k n) = stepR (toldR ws) k 1 := by
  cases ws with
  | nil => rfl
  | cons r t =>
    by_cases e : r.1 = k
    · rw [show plS (r :: t) k n = (r :: t) ++ [(k, (n : Int))] from if_pos e]
      show some (r.1, (((r :: t) ++ [(k, (n : Int))]).length : Int)) = stepR (some (r.1, ((r :: t).length : Int))) k 1
      rw [step_same (r := (r.1, ((r :: t).length : Int))) e, List.length_append, e]
      show some (k, (((r :: t).length + 1 : Nat) : Int)) = some (k, ((r :: t).length : Int) + 1)
      rw [Int.natCast_add]
      rfl
    · rw [show plS (r :: t) k n = t from if_neg e]
      show toldR t = stepR (some (r.1, ((r :: t).length : Int))) k 1
      rw [step_other (r := (r.1, ((r :: t).length : Int))) e]
      cases t with
      | nil => rfl
      | cons x u =>
        have ex : x.1 = r.1 := h x (List.mem_cons_of_mem _ (List.mem_cons_self ..)) r (List.mem_cons_self ..)
        show some (x.1, ((x :: u).length : Int)) = if 0 < ((r :: x :: u).length : Int) - 1 then some (r.1, ((r :: x :: u).length : Int) - 1) else _
        rw [List.length_cons, List.length_cons, List.length_cons, if_pos (by omega), ex]
        congr 2
        omega
theorem told_plA : ∀ (l : List Str) (ws : List Run) (n : Nat), Uni ws → toldR (plA ws n l) = stI l (toldR ws)
  | [], _, _, _ => rfl
  | k :: t, ws, n, h => by
    show toldR (plA (plS ws k n) (n + 1) t) = stI t (stepR (toldR ws) k 1)
    rw [told_plA t _ _ (uni_plS h), told_plS h]
theorem uni_w0 (st : Option Run) : Uni (w0R st) := by
  cases st with
  | none => intro x hx; cases hx
  | some r =>
    intro x hx y hy
    rw [List.eq_of_mem_replicate hx, List.eq_of_mem_replicate hy]
theorem told_w0 {st : Option Run} (h : PosO st) : toldR (w0R st) = st := by
  cases st with
  | none => rfl
  | some r =>
    have r1 := h r rfl
    obtain ⟨n, hn⟩ : ∃ n : Nat, r.2.toNat = n + 1 := ⟨r.2.toNat - 1, by omega⟩
    show toldR (List.replicate r.2.toNat (r.1, (-1 : Int))) = some r
    rw [hn, List.replicate_succ]
    show some (r.1, (((r.1, (-1 : Int)) :: List.replicate n (r.1, (-1 : Int))).length : Int)) = some r
    rw [List.length_cons, List.length_replicate, show ((n + 1 : Nat) : Int) = r.2 by omega]
/-! ### all counts multiplied -/
def scO (t : Int) (st : Option Run) : Option Run := st.map fun r => (r.1, r.2 * t)
theorem lt_sc {a b t : Int} (ht : 0 < t) : a * t < b * t ↔ a < b :=
  ⟨fun h => by
    by_cases z : a < b
    · exact z
    · have := Int.mul_le_mul_of_nonneg_right (show b ≤ a by omega) (Int.le_of_lt ht)
      omega, fun h => Int.mul_lt_mul_of_pos_right h ht⟩
theorem size_sc {b s e c t : Int} (ht : 0 < t) : sizeR (b * t) (s * t) (e * t) (c * t) = sizeR b s e c * t := by
  unfold sizeR
  rw [← Int.add_mul, Int.sub_mul]
  congr 1
  · by_cases h : b + c < e
    · rw [if_pos h, if_pos ((lt_sc ht).mpr h)]
    · rw [if_neg h, if_neg fun z => h ((lt_sc ht).mp z)]
  · by_cases h : b > s
    · rw [if_pos h, if_pos ((lt_sc ht).mpr h)]
    · rw [if_neg h, if_neg fun z => h ((lt_sc ht).mp z)]
theorem pos_sc {a t : Int} (ht : 0 < t) : 0 < a * t ↔ 0 < a := by
  have := lt_sc (a := 0) (b := a) ht
  rw [Int.zero_mul] at this
  exact this
theorem piece_sc {b s e t : Int} {r : Run} (ht : 0 < t) : pieceR (b * t) (s * t) (e * t) (r.1, r.2 * t) = scR t (pieceR b s e r) := by
  unfold pieceR
  show (if 0 < sizeR (b * t) (s * t) (e * t) (r.2 * t) then [(r.1, sizeR (b * t) (s * t) (e * t) (r.2 * t))] else []) = _
  rw [size_sc ht]
  by_cases h : 0 < sizeR b s e r.2
  · rw [if_pos h, if_pos ((pos_sc ht).mpr h)]
    rfl
  · rw [if_neg h, if_neg fun z => h ((pos_sc ht).mp z)]
    rfl
theorem cut_sc {s e t : Int} (ht : 0 < t) : ∀ (rs : List Run) (b : Int), cutR (s * t) (e * t) (b * t) (scR t rs) = scR t (cutR s e b rs)
  | [], _ => rfl
  | r :: u, b => by
    have ih := cut_sc (s := s) (e := e) ht u (b + r.2)
    show pieceR (b * t) (s * t) (e * t) (r.1, r.2 * t) ++ cutR (s * t) (e * t) (b * t + r.2 * t) (scR t u) = scR t (pieceR b s e r ++ cutR s e (b + r.2) u)
    rw [← Int.add_mul, ih, piece_sc ht]
    unfold scR
    rw [List.map_append]
theorem step_sc {st : Option Run} {k : Str} {c t : Int} (ht : 0 < t) : stepR (scO t st) k (c * t) = scO t (stepR st k c) := by
  cases st with
  | none => rfl
  | some r =>
    show stepR (some (r.1, r.2 * t)) k (c * t) = _
    by_cases e : r.1 = k
    · rw [step_same (r := (r.1, r.2 * t)) e, step_same e]
      show some (k, r.2 * t + c * t) = some (k, (r.2 + c) * t)
      rw [Int.add_mul]
    · rw [step_other (r := (r.1, r.2 * t)) e, step_other e]
      show (if 0 < r.2 * t - c * t then some (r.1, r.2 * t - c * t) else if r.2 * t - c * t = 0 then none else some (k, -(r.2 * t - c * t))) = _
      rw [← Int.sub_mul]
      by_cases h : 0 < r.2 - c
      · rw [if_pos h, if_pos ((pos_sc ht).mpr h)]
        rfl
      · rw [if_neg h, if_neg fun z => h ((pos_sc ht).mp z)]
        by_cases h2 : r.2 - c = 0
        · rw [if_pos h2, h2, Int.zero_mul, if_pos rfl]
          rfl
        · have h3 : (r.2 - c) * t ≠ 0 := Int.mul_ne_zero h2 (by omega)
          rw [if_neg h2, if_neg h3]
          show some (k, -((r.2 - c) * t)) = some (k, -(r.2 - c) * t)
          rw [Int.neg_mul]
theorem st_sc {t : Int} (ht : 0 < t) : ∀ (rs : List Run) (st : Option Run), stR (scR t rs) (scO t st) = scO t (stR rs st)
  | [], _ => rfl
  | r :: u, st => by
    show stR (scR t u) (stepR (scO t st) r.1 (r.2 * t)) = scO t (stR u (stepR st r.1 r.2))
    rw [step_sc ht, st_sc ht u]
theorem len_sc {t : Int} : ∀ (rs : List Run), lenR (scR t rs) = lenR rs * t
  | [] => by
    show (0 : Int) = 0 * t
    rw [Int.zero_mul]
  | r :: u => by
    show lenR ((r.1, r.2 * t) :: scR t u) = _
    rw [lenR_cons, lenR_cons, len_sc u, Int.add_mul]
/-- the multiplied state at a multiplied moment -/
theorem whole_sc {t : Int} {rs : List Run} {st : Option Run} {p : Nat} (ht : 0 < t) (h : PosO st) (k : ∀ r ∈ rs, 1 ≤ r.2) :
    stR (cutR 0 ((p : Int) * t) 0 (scR t rs)) (scO t st) = scO t (toldR (plA (w0R st) 0 ((itR rs).take p))) := by
  have e := cut_sc (s := 0) (e := (p : Int)) ht rs 0
  rw [Int.zero_mul] at e
  rw [e, st_sc ht, told_plA _ _ _ (uni_w0 st), told_w0 h, st_items _ _ h cutR_pos, cut_items _ _ _ (Int.le_refl _) k, Int.sub_zero, Int.toNat_natCast]
end UP

set_option Elab.async false
set_option linter.all false
set_option maxRecDepth 100000
set_option maxHeartbeats 4000000
namespace UP
open PySem PySem.Spec PyProof.Rows L2
theorem room70 {A : Around} {k : Nat} (hr : Room k A) : A.units + 70 < cLine := by
  have := hr.un
  omega
theorem call_list_ofK {X : Cx} {K : PySem.W.Frag} (h : X.K = K) : CallR X (.type "list") (fun xs H Q => ∃ p ys, xs = [.ref p] ∧ (SqL K H p ys ∨ SqT K H p ys) ∧ ∀ l, H l = none → Q (.ref l) (upd H l (.lst ys))) := by
  subst h
  exact call_list_of
/-! ### data that a repr takes -/
structure Nice (w n : Nat) (d : PyData) : Prop where
  can : d.canLay0 = true
  dep : d.depth ≤ n
  sho : d.showable = true
  lea : d.leavesShort 100 = true
  wei : d.weight ≤ w
theorem Nice.mono {w w' n n' : Nat} {d : PyData} (h : Nice w n d) (h1 : w ≤ w') (h2 : n ≤ n') : Nice w' n' d := ⟨h.can, Nat.le_trans h.dep h2, h.sho, h.lea, Nat.le_trans h.wei h1⟩
theorem Nice.fits {w n : Nat} {d : PyData} (h : Nice w n d) (hw : w ≤ 150000) (hn : n ≤ 64) : d.showable = true ∧ SeqAt.shaped d = true ∧ d.shown.length ≤ sizeLine := by
  refine ⟨h.sho, ?_, ?_⟩
  · unfold SeqAt.shaped
    rw [h.can]
    have := h.dep
    exact decide_eq_true (by omega)
  · have h1 := PyData.shown_le 100 (by decide) d h.lea
    have h2 := h.wei
    have h3 : d.shown.length ≤ 16000000 := by omega
    exact Nat.le_trans h3 (by decide)
theorem nice_none : Nice 0 0 .none := ⟨rfl, Nat.le_refl _, rfl, rfl, Nat.le_refl _⟩
theorem nice_str {s : Str} (h : KindOk s) : Nice 8 0 (.str s) := by
  refine ⟨?_, Nat.le_refl _, rfl, ?_, h.2.1⟩
  · rw [PyData.canLay0]
    exact h.str
  · rw [PyData.leavesShort, List.all_eq_true]
    intro c hc
    have := h.2.2 c hc
    exact decide_eq_true (by omega)
theorem nice_int {i : Int} (h : i.natAbs < 10 ^ 60) : Nice 201 0 (.int i) := by
  have h2 : i.natAbs < 2 ^ 200 := Nat.lt_of_lt_of_le h (by decide)
  have h3 : i.natAbs.log2 < 200 := by
    by_cases z : i.natAbs = 0
    · rw [z]
      decide
    · exact (Nat.log2_lt z).mpr h2
  refine ⟨by rw [PyData.canLay0], Nat.le_refl _, ?_, ?_, ?_⟩
  · rw [PyData.showable]
    exact decide_eq_true (by omega)
  · rw [PyData.leavesShort]
    refine decide_eq_true ?_
    have e := int_text_length_le10 (k := 60) (by decide) h
    show (Str.ofString (toString i)).length ≤ 100
    rw [PySem.ofString_length]
    omega
  · rw [PyData.weight]
    split <;> omega
theorem nice_items {w n : Nat} : ∀ {ds : List PyData}, (∀ d ∈ ds, Nice w n d) → PyData.canLayAll0 ds = true ∧ PyData.depthAll ds ≤ n ∧ PyData.showableAll ds = true ∧ PyData.leavesShortAll 100 ds = true ∧ PyData.weightAll ds ≤ (w + 1) * ds.length
  | [], _ => ⟨rfl, Nat.zero_le _, rfl, rfl, Nat.zero_le _⟩
  | d :: t, h => by
    have h1 := h d (List.mem_cons_self ..)
    obtain ⟨a, b, c, e, f⟩ := nice_items (ds := t) fun x hx => h x (List.mem_cons_of_mem _ hx)
    refine ⟨?_, ?_, ?_, ?_, ?_⟩
    · rw [PyData.canLayAll0, h1.can, a]
      rfl
    · rw [PyData.depthAll]
      exact Nat.max_le.mpr ⟨h1.dep, b⟩
    · rw [PyData.showableAll, h1.sho, c]
      rfl
    · rw [PyData.leavesShortAll, h1.lea, e]
      rfl
    · have h2 := h1.wei
      rw [PyData.weightAll, List.length_cons, Nat.mul_succ]
      omega
theorem nice_list {w n : Nat} {ds : List PyData} (h : ∀ d ∈ ds, Nice w n d) : Nice ((w + 1) * ds.length) (n + 1) (.list ds) := by
  obtain ⟨a, b, c, e, f⟩ := nice_items h
  exact ⟨by rw [PyData.canLay0]; exact a, by rw [PyData.depth]; omega, by rw [PyData.showable]; exact c, by rw [PyData.leavesShort]; exact e, by rw [PyData.weight]; exact f⟩
theorem nice_tup {w n : Nat} {ds : List PyData} (h : ∀ d ∈ ds, Nice w n d) : Nice ((w + 1) * ds.length) (n + 1) (.tuple ds) := by
  obtain ⟨a, b, c, e, f⟩ := nice_items h
  exact ⟨by rw [PyData.canLay0]; exact a, by rw [PyData.depth]; omega, by rw [PyData.showable]; exact c, by rw [PyData.leavesShort]; exact e, by rw [PyData.weight]; exact f⟩
/-- v stands for d at H and at every heap that keeps H -/
def DpS (K : PySem.W.Frag) (H : Hp) (v : V) (d : PyData) : Prop := ∀ H', Same H H' → Dp K H' v d
theorem DpS.same {K : PySem.W.Frag} {H H' : Hp} {v : V} {d : PyData} (s : Same H H') (h : DpS K H v d) : DpS K H' v d := fun H2 s2 => h H2 (s.trans s2)
theorem dps_all {K : PySem.W.Frag} {H : Hp} {F : PyData → Prop} : ∀ {xs : List V}, (∀ x ∈ xs, ∃ d, DpS K H x d ∧ F d) → ∃ ds, (∀ H', Same H H' → DpAll K H' xs ds) ∧ ds.length = xs.length ∧ ∀ d ∈ ds, F d
  | [], _ => ⟨[], fun _ _ => .nil, rfl, fun d h => by cases h⟩
  | x :: t, h => by
    obtain ⟨d, h1, h2⟩ := h x (List.mem_cons_self ..)
    obtain ⟨ds, a, b, c⟩ := dps_all (xs := t) fun y hy => h y (List.mem_cons_of_mem _ hy)
    refine ⟨d :: ds, fun H' s => .cons (h1 H' s) (a H' s), congrArg Nat.succ b, fun z hz => ?_⟩
    rcases List.mem_cons.mp hz with e | e
    · rw [e]
      exact h2
    · exact c z e
theorem dps_seq {K : PySem.W.Frag} {H : Hp} {a : Addr} {xs : List V} {w n : Nat} (hx : Sq2 H a xs) (h : ∀ x ∈ xs, ∃ d, DpS K H x d ∧ Nice w n d) : ∃ d, DpS K H (.ref a) d ∧ Nice ((w + 1) * xs.length) (n + 1) d := by
  obtain ⟨ds, h1, h2, h3⟩ := dps_all h
  rcases hx with z | z
  · exact ⟨.list ds, fun H' s => .lst (.of (s _ _ z)) (h1 H' s), by rw [← h2]; exact nice_list h3⟩
  · exact ⟨.tuple ds, fun H' s => .tup (.of (s _ _ z)) (h1 H' s), by rw [← h2]; exact nice_tup h3⟩
theorem dps_run {K : PySem.W.Frag} {H : Hp} {v : V} {r : Run} (h : RunG H v r) (k : KindOk r.1) (c : r.2.natAbs < 10 ^ 60) : ∃ d, DpS K H v d ∧ Nice 404 1 d := by
  obtain ⟨t, rfl, h⟩ := h
  have := dps_seq (K := K) (w := 201) (n := 0) h fun x hx => by
    rcases List.mem_cons.mp hx with e | e
    · rw [e]
      exact ⟨.str r.1, fun _ _ => .str _, (nice_str k).mono (by decide) (Nat.le_refl _)⟩
    · rw [List.mem_singleton.mp e]
      exact ⟨.int r.2, fun _ _ => .int _, nice_int c⟩
  exact this
theorem dps_runs {K : PySem.W.Frag} {H : Hp} {v : V} {rs : List Run} (h : RunsG H v rs) (k : ∀ r ∈ rs, KindOk r.1 ∧ r.2.natAbs < 10 ^ 60) (l : rs.length ≤ 100) : ∃ d, DpS K H v d ∧ Nice 41000 2 d := by
  obtain ⟨a, xs, rfl, hx, hp⟩ := h
  have lx : xs.length = rs.length := Paired.len hp
  obtain ⟨d, h1, h2⟩ := dps_seq (K := K) (w := 404) (n := 1) hx fun x hx => by
    obtain ⟨i, hi, e⟩ := List.mem_iff_getElem.mp hx
    obtain ⟨r, er, hr⟩ := Paired.at hp (List.getElem?_eq_getElem hi)
    rw [e] at hr
    have := k r (List.mem_of_getElem? er)
    exact dps_run hr this.1 this.2
  exact ⟨d, h1, h2.mono (by rw [lx]; omega) (Nat.le_refl _)⟩
theorem dps_st {K : PySem.W.Frag} {H : Hp} {v : V} {st : Option Run} (h : StG H v st) (k : ∀ r, st = some r → KindOk r.1 ∧ r.2.natAbs < 10 ^ 60) : ∃ d, DpS K H v d ∧ Nice 41000 2 d := by
  cases st with
  | none =>
    cases h
    exact ⟨.none, fun _ _ => .non, nice_none.mono (by decide) (by decide)⟩
  | some r =>
    obtain ⟨d, h1, h2⟩ := dps_run (K := K) h (k r rfl).1 (k r rfl).2
    exact ⟨d, h1, h2.mono (by decide) (by decide)⟩
theorem dps_two {K : PySem.W.Frag} {H : Hp} {a : Addr} {x y : V} (h : H a = some (.lst [x, y])) (hx : ∃ d, DpS K H x d ∧ Nice 41000 2 d) (hy : ∃ d, DpS K H y d ∧ Nice 41000 2 d) : ∃ d, DpS K H (.ref a) d ∧ Nice 82002 3 d := by
  have := dps_seq (K := K) (a := a) (xs := [x, y]) (w := 41000) (n := 2) (.inl h) fun z hz => by
    rcases List.mem_cons.mp hz with e | e
    · rw [e]
      exact hx
    · rw [List.mem_singleton.mp e]
      exact hy
  exact this
/-! ### dressed and undressed -/
def dP (r : Run) : PyData := .list [.str r.1, .int r.2]
def dSq (rs : List Run) : PyData := .list (rs.map dP)
def dSt : Option Run → PyData
  | none => .none
  | some r => dP r
theorem sim_pair {N : Addr → Prop} {H : Hp} {n : Nat} (r : Run) : Paired (Sim N H n) [V.str r.1, V.int r.2] [PyData.str r.1, PyData.int r.2] := .cons (Sim.dsc (.inr (.inr (.inr ⟨_, rfl, rfl⟩)))) (.cons (Sim.dsc (.inr (.inr (.inl ⟨_, rfl, rfl⟩)))) .nil)
theorem sim_run {H : Hp} {sp : Addr} {v : V} {r : Run} {n : Nat} (z : Spr H sp) (h : RunV H v r) : Sim (· ≠ sp) H (n + 1) v (dP r) := by
  obtain ⟨t, rfl, h⟩ := h
  obtain ⟨_, _, _, hs, _⟩ := z
  exact .inr ⟨t, _, _, rfl, ne_of h hs (by intro q; cases q), .inr h, rfl, sim_pair r, Nat.le_of_ble_eq_true rfl⟩
theorem sim_seq {H : Hp} {sp a : Addr} {rs : List Run} (z : Spr H sp) (h : Runs H a rs) (l : rs.length ≤ 1000) : Sim (· ≠ sp) H 2 (.ref a) (dSq rs) := by
  have na := Runs.ne z h
  obtain ⟨xs, hx, hp⟩ := h
  refine .inr ⟨a, xs, _, rfl, na, .inl hx, rfl, ?_, by rw [List.length_map]; exact l⟩
  have gen : ∀ {xs : List V} {rs : List Run}, Paired (RunV H) xs rs → Paired (Sim (· ≠ sp) H 1) xs (rs.map dP) := by
    intro xs rs h
    induction h with
    | nil => exact .nil
    | cons h _ ih => exact .cons (sim_run z h) ih
  exact gen hp
theorem sim_st {H : Hp} {sp : Addr} {v : V} {st : Option Run} (z : Spr H sp) (h : StV H v st) : Sim (· ≠ sp) H 2 v (dSt st) := by
  cases st with
  | none =>
    cases h
    exact .inl (.inl ⟨rfl, rfl⟩)
  | some r => exact sim_run z h
theorem sim_one {N : Addr → Prop} {H : Hp} {n : Nat} {v : V} {r : Run} (h : Sim N H (n + 1) v (dP r)) : RunG H v r := by
  rcases h with h | ⟨a, xs, ds, rfl, _, hx, e, p, _⟩
  · exact (dsc_lst h).elim
  · cases e
    have scal : ∀ {m : Nat} {x : V} {s : Str}, Sim N H m x (.str s) → x = .str s := by
      intro m x s h
      have h : Dsc x (.str s) := by
        cases m with
        | zero => exact h
        | succ m =>
          rcases h with h | ⟨_, _, _, _, _, _, e, _⟩
          · exact h
          · cases e
      rcases h with ⟨_, e⟩ | ⟨_, _, e⟩ | ⟨_, _, e⟩ | ⟨y, e1, e⟩ <;> cases e
      exact e1
    have scai : ∀ {m : Nat} {x : V} {s : Int}, Sim N H m x (.int s) → x = .int s := by
      intro m x s h
      have h : Dsc x (.int s) := by
        cases m with
        | zero => exact h
        | succ m =>
          rcases h with h | ⟨_, _, _, _, _, _, e, _⟩
          · exact h
          · cases e
      rcases h with ⟨_, e⟩ | ⟨_, _, e⟩ | ⟨y, e1, e⟩ | ⟨_, _, e⟩ <;> cases e
      exact e1
    cases p with
    | cons h1 p1 =>
      cases p1 with
      | cons h2 p2 =>
        cases p2
        rw [scal h1, scai h2] at hx
        exact ⟨a, rfl, hx⟩
theorem sim_all {N : Addr → Prop} {H : Hp} : ∀ (rs : List Run) (xs : List V), Paired (Sim N H 1) xs (rs.map dP) → Paired (RunG H) xs rs
  | [], xs, h => by
    cases h
    exact .nil
  | r :: t, xs, h => by
    cases h with
    | cons h1 h2 => exact .cons (sim_one h1) (sim_all t _ h2)
theorem sim_runs {N : Addr → Prop} {H : Hp} {v : V} {rs : List Run} (h : Sim N H 2 v (dSq rs)) : RunsG H v rs := by
  rcases h with h | ⟨a, xs, ds, rfl, _, hx, e, p, _⟩
  · exact (dsc_lst h).elim
  · cases e
    refine ⟨a, xs, rfl, hx, ?_⟩
    exact sim_all rs xs p
theorem sim_stg {N : Addr → Prop} {H : Hp} {v : V} {st : Option Run} (h : Sim N H 2 v (dSt st)) : StG H v st := by
  cases st with
  | none =>
    rcases h with h | ⟨_, _, _, _, _, _, e, _⟩
    · rcases h with ⟨e, _⟩ | ⟨_, _, e⟩ | ⟨_, _, e⟩ | ⟨_, _, e⟩
      · exact e
      all_goals cases e
    · cases e
  | some r => exact sim_one h
/-! ### one by one -/
theorem at_moment {rs : List Run} {st : Option Run} {m : Nat} (h : PosO st) (k : ∀ r ∈ rs, 1 ≤ r.2) : stR (cutR 0 (m : Int) 0 rs) st = toldR (plA (w0R st) 0 ((itR rs).take m)) := by
  rw [told_plA _ _ _ (uni_w0 st), told_w0 h, st_items _ _ h cutR_pos, cut_items _ _ _ (Int.le_refl _) k, Int.sub_zero, Int.toNat_natCast]
theorem at_end {rs : List Run} {st : Option Run} (h : PosO st) (k : ∀ r ∈ rs, 1 ≤ r.2) : stR rs st = toldR (plA (w0R st) 0 (itR rs)) := by
  rw [told_plA _ _ _ (uni_w0 st), told_w0 h, st_items _ _ h k]
theorem plMs_get (ws : List Run) (ks : List Str) {n : Nat} (h : n ≤ ks.length) : (plMs ws ks)[n]? = some (plA ws 0 (ks.take n)) := by
  unfold plMs
  rw [List.getElem?_map, List.getElem?_range (by omega)]
  rfl
def dO : Option Run → PyData
  | none => .none
  | some r => dRun r
theorem dt_st {H : Hp} {v : V} {st : Option Run} {n : Nat} (h : StV H v st) : Dt H (n + 1) v (dO st) := by
  cases st with
  | none =>
    cases h
    exact .inl (.inl ⟨rfl, rfl⟩)
  | some r =>
    obtain ⟨t, rfl, h⟩ := h
    refine .inr (.inr ⟨t, _, _, rfl, h, rfl, .cons ?_ (.cons ?_ .nil), Nat.le_of_ble_eq_true rfl⟩)
    · cases n with
      | zero => exact .inr (.inr (.inr ⟨_, rfl, rfl⟩))
      | succ m => exact .inl (.inr (.inr (.inr ⟨_, rfl, rfl⟩)))
    · cases n with
      | zero => exact .inr (.inr (.inl ⟨_, rfl, rfl⟩))
      | succ m => exact .inl (.inr (.inr (.inl ⟨_, rfl, rfl⟩)))
theorem w0_len {st : Option Run} (h : ∀ r, st = some r → r.2 ≤ 1000) : (w0R st).length ≤ 1000 := by
  cases st with
  | none => exact Nat.zero_le _
  | some r =>
    have := h r rfl
    show (List.replicate r.2.toNat (r.1, (-1 : Int))).length ≤ 1000
    rw [List.length_replicate]
    omega
theorem w0_kinds {st : Option Run} (h : StOk st) : ∀ r ∈ w0R st, KindOk r.1 := by
  cases st with
  | none => intro r h; cases h
  | some x =>
    intro r hr
    rw [List.eq_of_mem_replicate hr]
    exact (h x rfl).1
theorem it_kinds {rs : List Run} (h : ∀ r ∈ rs, KindOk r.1) : ∀ k ∈ itR rs, KindOk k := by
  intro k hk
  obtain ⟨r, h1, h2⟩ := List.mem_flatMap.mp hk
  rw [List.eq_of_mem_replicate h2]
  exact h r h1
end UP

set_option Elab.async false
set_option linter.all false
set_option maxRecDepth 100000
set_option maxHeartbeats 4000000
namespace UP
open PySem PySem.Spec PyProof.Rows L2
theorem paired_snoc {α β : Type} {F : α → β → Prop} : ∀ {xs : List α} (l : List β) (y : β), Paired F xs (l ++ [y]) → ∃ xs0 x, xs = xs0 ++ [x] ∧ Paired F xs0 l ∧ F x y
  | _, [], y, h => by
    cases h with
    | cons h1 h2 =>
      cases h2
      exact ⟨[], _, rfl, .nil, h1⟩
  | _, z :: l, y, h => by
    cases h with
    | cons h1 h2 =>
      obtain ⟨xs0, x, e, h3, h4⟩ := paired_snoc l y h2
      exact ⟨_ :: xs0, x, by rw [e]; rfl, .cons h1 h3, h4⟩
theorem set_last {α : Type} : ∀ (l : List α) (x y : α), (l ++ [x]).set l.length y = l ++ [y]
  | [], _, _ => rfl
  | z :: l, x, y => congrArg (z :: ·) (set_last l x y)
theorem ixN_last {n : Nat} : ixN (n + 1) (-1) = some n := by
  unfold ixN
  simp
  omega
/-! ### one more run -/
def addR (rs : List Run) (r : Run) : List Run := match rs.getLast? with
  | none => [r]
  | some l => if l.1 = r.1 then rs.dropLast ++ [(r.1, l.2 + r.2)] else rs ++ [r]
def joinR (rs cs : List Run) : List Run := cs.foldl addR rs
theorem joinR_snoc (rs cs : List Run) (r : Run) : joinR rs (cs ++ [r]) = addR (joinR rs cs) r := by
  unfold joinR
  rw [List.foldl_append]
  rfl
theorem addR_len (rs : List Run) (r : Run) : (addR rs r).length ≤ rs.length + 1 := by
  unfold addR
  split
  · exact Nat.le_add_left _ _
  · split
    · rw [List.length_append, List.length_dropLast]
      simp only [List.length_cons, List.length_nil]
      omega
    · rw [List.length_append]
      exact Nat.le_refl _
theorem joinR_len : ∀ (cs rs : List Run), (joinR rs cs).length ≤ rs.length + cs.length
  | [], _ => Nat.le_refl _
  | c :: t, rs => by
    have h1 := joinR_len t (addR rs c)
    have h2 := addR_len rs c
    show (joinR (addR rs c) t).length ≤ _
    rw [List.length_cons]
    omega
theorem RunV.butL {H H' : Hp} {p : Addr} {xs : List V} {v : V} {r : Run} (hp : H p = some (.lst xs)) (b : But p H H') (h : RunV H v r) : RunV H' v r := by
  obtain ⟨t, e, h⟩ := h
  exact ⟨t, e, b _ _ (ne_of h hp (by intro q; cases q)) h⟩
section
variable {P : Program} {w : World} {K : PySem.W.Frag} {mg : Str → Option Value} {base : Heap}
/-! add_run: slots 0:runs 1:kind 2:count -/
abbrev s_add_run : Stmt := topS 17
theorem sc_add_run : FnScope ["runs", "kind", "count"] ["runs", "kind", "count"] (defScope s_add_run) := ⟨rfl, rfl, rfl, by decide +kernel, rfl, by decide +kernel, by decide +kernel⟩
def sp_add_run : Sp := fun vs H Q _ => ∃ (a : Addr) (rs : List Run) (r : Run), vs = [.ref a, .str r.1, .int r.2] ∧ Runs H a rs ∧ rs.length ≤ 100000 ∧ ∀ H', But a H H' → Runs H' a (addR rs r) → Q .non H'
theorem ok_add_run (D : Df K mg "add_run" s_add_run) : Has P w K mg base 1 "add_run" ["runs", "kind", "count"] sp_add_run := by
  refine has_of D sc_add_run (fun _ _ _ _ _ _ us hl => match us, hl with | [_, _, _], _ => rfl) (fun vs H Q E h => ?_) (fun f cdv A outer s₀ H vs Q E hr h => ?_)
  · obtain ⟨a, R, n, rfl, _⟩ := h
    rfl
  · obtain ⟨a, rs, r, rfl, ⟨xs, hx, hp⟩, l4, q⟩ := h
    have lx : xs.length = rs.length := Paired.len hp
    have app : ∀ (u : Addr), H u = none → (addR rs r = rs ++ [r]) → Q .non (upd (upd H u (.tup [.str r.1, .int r.2])) a (.lst (xs ++ [.ref u]))) := by
      intro u nn e
      refine q _ (fun b o nb eb => ?_) ⟨_, upd_same, ?_⟩
      · rw [upd_ne nb]
        exact same_upd nn _ _ eb
      · rw [e]
        exact Paired.app (prs_grow (same_upd nn _ _ hx) (prs_same (same_upd nn) hp)) (.cons (RunV.grow (same_upd nn _ _ hx) ⟨u, rfl, upd_same⟩) .nil)
    refine ⟨_, (pss_one (ps_if (PW.pt (pw_and (pt_truth (pv 0) (by intro _; rfl)) (pw_and1 (pt_cmpR op_eq (pe_ix ix_tup (pe_ix ix_list (pv 0) (pe_un un_neg pe_int) (fun _ _ => rfl)) pe_int (fun _ _ => rfl)) (pv 1) (nomark _))))) (pss_one (ps_asg (pe_tup (pa_cons (pv 1) (pa_cons (pe_op op_add (pe_ix ix_tup (pe_ix ix_list (pv 0) (pe_un un_neg pe_int) (fun _ _ => rfl)) pe_int (fun _ _ => rfl)) (pv 2)) pa_nil))) (pg_sub (pv 0) (pe_un un_neg pe_int) set_list))) (pss_one (ps_expr (pe_bm PySem.F.plainAttrs_list PySem.F.slot_list_append PySem.F.type_list_append mt_append (pv 0) (pa_cons (pe_tup (pa_cons (pv 1) (pa_cons (pv 2) pa_nil))) pa_nil)))))), ?_⟩
    rcases List.eq_nil_or_concat rs with e0 | ⟨R0, l, e0⟩
    · subst e0
      cases hp
      exact ⟨_, rfl, false, .inl ⟨[], .of hx, rfl⟩, iteF (iteF ⟨_, rfl, .inl ⟨rfl, _, SqL.of hx⟩, _, rfl, _, rfl, (by show 2 ≤ sizeLine; decide), fun u nn => ⟨a, _, _, rfl, rfl, same_upd nn _ _ hx, (by show 0 < sizeLine; decide), app u nn rfl⟩⟩)⟩
    · rw [List.concat_eq_append] at e0
      subst e0
      obtain ⟨ys0, y, rfl, hy0, ⟨tl, rfl, htl⟩⟩ := paired_snoc R0 l hp
      have exl : atI (ys0 ++ [V.ref tl]) (-1) = some (.ref tl) := atI_last _ _
      refine ⟨_, rfl, true, .inl ⟨_, .of hx, by cases ys0 <;> rfl⟩, iteT ⟨_, rfl, 1, rfl, a, _, -1, _, rfl, rfl, .of hx, exl, tl, _, 0, _, rfl, rfl, .of htl, at0, _, rfl, rfl, _, rfl, ite2 (fun e1 => ?_) (fun e1 => ?_)⟩⟩
      · have e1 : l.1 = r.1 := V.str.inj (of_decide_eq_true e1)
        have er : addR (R0 ++ [l]) r = R0 ++ [(r.1, l.2 + r.2)] := by
          unfold addR
          rw [List.getLast?_concat, List.dropLast_concat]
          exact if_pos e1
        refine ⟨_, rfl, _, rfl, 1, rfl, a, _, -1, _, rfl, rfl, .of hx, exl, tl, _, 1, _, rfl, rfl, .of htl, at1, _, rfl, _, _, rfl, rfl, (by show 2 ≤ sizeLine; decide), fun u nn => ⟨_, rfl, 1, rfl, a, _, -1, ys0.length, rfl, rfl, same_upd nn _ _ hx, ?_, ?_⟩⟩
        · rw [List.length_append]
          exact ixN_last
        · rw [set_last]
          refine q _ (fun b o nb eb => ?_) ⟨_, upd_same, ?_⟩
          · rw [upd_ne nb]
            exact same_upd nn _ _ eb
          · rw [er]
            exact Paired.app (prs_grow (same_upd nn _ _ hx) (prs_same (same_upd nn) hy0)) (.cons (RunV.grow (same_upd nn _ _ hx) ⟨u, rfl, upd_same⟩) .nil)
      · have e1 : ¬ l.1 = r.1 := fun z => e1 (decide_eq_true (by rw [z]))
        have er : addR (R0 ++ [l]) r = (R0 ++ [l]) ++ [r] := by
          unfold addR
          rw [List.getLast?_concat]
          exact if_neg e1
        exact ⟨_, rfl, .inl ⟨rfl, _, SqL.of hx⟩, _, rfl, _, rfl, (by show 2 ≤ sizeLine; decide), fun u nn => ⟨a, _, _, rfl, rfl, same_upd nn _ _ hx, small (by omega), app u nn er⟩⟩
end
end UP

set_option Elab.async false
set_option linter.all false
set_option maxRecDepth 100000
set_option maxHeartbeats 4000000
namespace UP
open PySem PySem.Spec PyProof.Rows L2
def runR (ks : List Str) : List Run := ks.foldl (fun rs k => addR rs (k, 1)) []
theorem runR_snoc (ks : List Str) (k : Str) : runR (ks ++ [k]) = addR (runR ks) (k, 1) := by
  unfold runR
  rw [List.foldl_append]
  rfl
theorem runR_len (ks : List Str) : (runR ks).length ≤ ks.length := by
  have gen : ∀ (ks : List Str) (rs : List Run), (ks.foldl (fun rs k => addR rs (k, 1)) rs).length ≤ rs.length + ks.length := by
    intro ks
    induction ks with
    | nil => intro rs; exact Nat.le_refl _
    | cons k t ih =>
      intro rs
      have h1 := ih (addR rs (k, 1))
      have h2 := addR_len rs (k, 1)
      show (t.foldl (fun rs k => addR rs (k, 1)) (addR rs (k, 1))).length ≤ _
      rw [List.length_cons]
      omega
  have := gen ks []
  rw [List.length_nil, Nat.zero_add] at this
  exact this
section
variable {P : Program} {w : World} {K : PySem.W.Frag} {mg : Str → Option Value} {base : Heap}
/-! runs_of: slots 0:items 1:runs 2:kind 3:item -/
abbrev s_runs_of : Stmt := topS 18
theorem sc_runs_of : FnScope ["items", "runs", "kind", "item"] ["items"] (defScope s_runs_of) := ⟨rfl, rfl, rfl, by decide +kernel, rfl, by decide +kernel, by decide +kernel⟩
def sp_runs_of : Sp := fun vs H Q _ => ∃ (a : Addr) (ks : List Str), vs = [.ref a] ∧ Sq2 H a (ks.map V.str) ∧ ks.length ≤ 400 ∧ (∀ k ∈ ks, KindOk k) ∧ ∀ H' p, Same H H' → H p = none → Runs H' p (runR ks) → Q (.ref p) H'
theorem ok_runs_of (D : Df K mg "runs_of" s_runs_of) (T : Tx mg) (G_is_listed : Has P w K mg base 1 "is_listed" ["value", "most"] sp_is_listed) (G_is_kind : Has P w K mg base 1 "is_kind" ["value"] sp_is_kind) (G_add_run : Has P w K mg base 1 "add_run" ["runs", "kind", "count"] sp_add_run) :
    Has P w K mg base 2 "runs_of" ["items"] sp_runs_of := by
  refine has_of D sc_runs_of (fun _ _ _ _ _ _ us hl => match us, hl with | [_], _ => rfl) (fun vs H Q E h => ?_) (fun f cdv A outer s₀ H vs Q E hr h => ?_)
  · obtain ⟨a, R, rfl, _⟩ := h
    rfl
  · obtain ⟨a, ks, rfl, hx, l4, ok, q⟩ := h
    have lx : (ks.map V.str).length = ks.length := List.length_map _
    refine ⟨_, (pss_cons (ps_if (PW.pt (pw_or (pt_not (pt_val (pe_callH G_is_listed (hr.mono (by omega)) (by rfl) (pa_cons (pv 0) (pa_cons (pe_glI T.c_MAX_ITEMS (by rfl)) pa_nil))))) (pw_or1 (pt_not (pt_val (pe_callB (cr_all rfl) (by rfl) T.n_all (by decide +kernel) (pa_cons (pe_lc (own := [("item", 3)]) rfl sc_runs_of.nd (pi_seqA 0) (blkOk_by (N := ["items", "runs", "kind", "item"]) (sc := defScope s_runs_of) (by decide +kernel)) (fun _ _ _ _ _ => (pg_name (i := 3) sc_runs_of.nd rfl (by first | exact Or.inl rfl | exact Or.inr rfl))) (fun _ _ _ _ _ => pts_nil) (fun _ _ _ _ _ => (pe_callH G_is_kind (hr.mono (by omega)) (by rfl) (pa_cons (pv 3) pa_nil)))) pa_nil))))))) (pss_one ps_never) pss_nil)
    (pss_cons (ps_set (i := 1) sc_runs_of.nd rfl (by first | exact Or.inl rfl | exact Or.inr rfl) (pe_lst pa_nil))
    (pss_cons (ps_for PassesOwn.never rfl (pi_seqA 0) (pg_name (i := 2) sc_runs_of.nd rfl (by first | exact Or.inl rfl | exact Or.inr rfl))
      (pss_one (ps_expr (pe_callH G_add_run (hr.mono (by omega)) (by rfl) (pa_cons (pv 1) (pa_cons (pv 2) (pa_cons pe_int pa_nil)))))))
    (pss_one (ps_ret (pv 1)))))), ?_⟩
    refine ⟨_, rfl, a, _, 400, rfl, hx, fun H1 s1 => ⟨_, rfl, iteN ?_ ?_⟩⟩
    · show (!decide (((ks.map V.str).length : Int) ≤ 400)) = false
      rw [decide_eq_true (by omega)]
      rfl
    refine ⟨a, _, rfl, hx.same s1, fun J wk L nL => lc_wka wk (fun i H' => Same H1 H' ∧ H' L = some (.lst ((List.replicate i true).map V.bl))) (fun _ _ p => (hx.same s1).eq p.1) ⟨same_upd nL, upd_same⟩ (fun i x H2 ex p => ?_) (fun H2 p => ?_)⟩
    · obtain ⟨sm, hL⟩ := p
      have hi : i < ks.length := by
        have := (List.getElem?_eq_some_iff.mp ex).1
        omega
      rw [List.getElem?_map, List.getElem?_eq_getElem hi] at ex
      cases ex
      refine ⟨rfl, yesT ⟨_, rfl, ks[i], rfl, ok _ (List.getElem_mem hi), fun H3 s3 => ⟨_, s3 _ _ hL, ?_, same_grow nL (sm.trans s3), ?_⟩⟩⟩
      · simp only [List.length_map, List.length_replicate]
        exact small (by omega)
      · rw [upd_same, List.replicate_succ', List.map_append]
        rfl
    · obtain ⟨s2, hL⟩ := p
      refine ⟨L, _, rfl, .of hL, _, rfl, iteN ?_ ?_⟩
      · rw [all_rep]
        rfl
      have sA := s1.trans s2
      refine ⟨Nat.zero_le _, fun p np => ?_⟩
      have npH : H p = none := sA.free np
      have hx3 := (hx.same sA).same (same_upd (o := .lst []) np)
      have nap : a ≠ p := by
        rcases hx.same sA with z | z
        · exact ne_of_none z np
        · exact ne_of_none z np
      refine ⟨a, _, rfl, hx3, fun J wk => for_wka wk (fun i σ H' => ∃ y2, σ = [some (.ref a), some (.ref p), y2, none] ∧ But p (upd H2 p (.lst [])) H' ∧ Runs H' p (runR (ks.take i)))
        (fun i σ H' hP => ?_) ⟨none, rfl, (fun _ _ _ e => e), [], upd_same, .nil⟩ (fun i x σ H4 ex hP => ?_) (fun σ H4 hP => ?_)⟩
      · obtain ⟨_, _, bt, _⟩ := hP
        rcases hx3 with z | z
        · exact (bt _ _ nap z).trans z.symm
        · exact (bt _ _ nap z).trans z.symm
      · obtain ⟨y2, rfl, bt, hR⟩ := hP
        have hi : i < ks.length := by
          have := (List.getElem?_eq_some_iff.mp ex).1
          omega
        rw [List.getElem?_map, List.getElem?_eq_getElem hi] at ex
        cases ex
        have hl := runR_len (ks.take i)
        rw [List.length_take] at hl
        refine ⟨_, rfl, _, rfl, p, _, (ks[i], 1), rfl, hR, by omega, fun H5 b5 h5 => ⟨_, rfl, bt.trans b5, ?_⟩⟩
        rw [take_snoc (List.getElem?_eq_getElem hi), runR_snoc]
        exact h5
      · obtain ⟨y2, rfl, bt, hR⟩ := hP
        rw [List.take_of_length_le (by omega)] at hR
        refine ⟨_, rfl, q H4 p (fun b o e => ?_) npH hR⟩
        exact bt _ _ (ne_of_none e npH) (same_upd np _ _ (sA _ _ e))
end
end UP

set_option Elab.async false
set_option linter.all false
set_option maxRecDepth 100000
set_option maxHeartbeats 4000000
namespace UP
open PySem PySem.Spec PyProof.Rows L2
theorem Alt.tail {r : Run} {t : List Run} (h : Alt (r :: t)) : Alt t := fun i x y hx hy => h (i + 1) x y hx hy
theorem addR_new {rs : List Run} {r : Run} (h : ∀ l, rs.getLast? = some l → l.1 ≠ r.1) : addR rs r = rs ++ [r] := by
  unfold addR
  cases e : rs.getLast? with
  | none =>
    rw [List.getLast?_eq_none_iff.mp e]
    rfl
  | some l => exact if_neg (h l e)
theorem addR_more (R : List Run) (l r : Run) (h : l.1 = r.1) : addR (R ++ [l]) r = R ++ [(r.1, l.2 + r.2)] := by
  unfold addR
  rw [List.getLast?_concat, List.dropLast_concat]
  exact if_pos h
theorem join_alt : ∀ (cs rs : List Run), Alt cs → (∀ l c, rs.getLast? = some l → cs.head? = some c → l.1 ≠ c.1) → joinR rs cs = rs ++ cs
  | [], rs, _, _ => by
    rw [List.append_nil]
    rfl
  | c :: t, rs, a, h => by
    show joinR (addR rs c) t = rs ++ c :: t
    rw [addR_new fun l hl => h l c hl rfl, join_alt t (rs ++ [c]) a.tail (fun l d hl hd => ?_), List.append_assoc]
    · rfl
    · rw [List.getLast?_concat] at hl
      cases hl
      cases t with
      | nil => cases hd
      | cons e u =>
        cases hd
        exact a 0 _ _ rfl rfl
theorem join_more (R : List Run) (l c : Run) (t : List Run) (a : Alt (c :: t)) (h : l.1 = c.1) : joinR (R ++ [l]) (c :: t) = R ++ [(c.1, l.2 + c.2)] ++ t := by
  show joinR (addR (R ++ [l]) c) t = _
  rw [addR_more R l c h, join_alt t _ a.tail (fun l' d hl hd => ?_)]
  rw [List.getLast?_concat] at hl
  cases hl
  cases t with
  | nil => cases hd
  | cons e u =>
    cases hd
    exact a 0 c _ rfl rfl
/-! ### items and runs -/
theorem run_more : ∀ (n : Nat) (R : List Run) (k : Str) (c : Int), (List.replicate n k).foldl (fun rs k => addR rs (k, 1)) (R ++ [(k, c)]) = R ++ [(k, c + (n : Int))]
  | 0, R, k, c => by
    rw [show c + ((0 : Nat) : Int) = c by omega]
    rfl
  | n + 1, R, k, c => by
    show (List.replicate n k).foldl (fun rs k => addR rs (k, 1)) (addR (R ++ [(k, c)]) (k, 1)) = _
    rw [addR_more R (k, c) (k, 1) rfl, run_more n R k (c + 1), show c + 1 + (n : Int) = c + ((n + 1 : Nat) : Int) by omega]
theorem run_one (n : Nat) (rs : List Run) (k : Str) (h : ∀ l, rs.getLast? = some l → l.1 ≠ k) : (List.replicate (n + 1) k).foldl (fun rs k => addR rs (k, 1)) rs = rs ++ [(k, (n : Int) + 1)] := by
  show (List.replicate n k).foldl (fun rs k => addR rs (k, 1)) (addR rs (k, 1)) = _
  rw [addR_new (r := (k, 1)) h, run_more n rs k 1, show (1 : Int) + (n : Int) = (n : Int) + 1 by omega]
theorem run_items : ∀ (rs R : List Run), Alt rs → (∀ r ∈ rs, 1 ≤ r.2) → (∀ l c, R.getLast? = some l → rs.head? = some c → l.1 ≠ c.1) → (itR rs).foldl (fun rs k => addR rs (k, 1)) R = R ++ rs
  | [], R, _, _, _ => by
    rw [List.append_nil]
    rfl
  | r :: t, R, a, p, h => by
    have c1 := p r (List.mem_cons_self ..)
    obtain ⟨n, hn⟩ : ∃ n : Nat, r.2.toNat = n + 1 := ⟨r.2.toNat - 1, by omega⟩
    have e : itR (r :: t) = List.replicate r.2.toNat r.1 ++ itR t := rfl
    rw [e, List.foldl_append, hn, run_one n R r.1 (fun l hl => h l r hl rfl), show (n : Int) + 1 = r.2 by omega, run_items t (R ++ [(r.1, r.2)]) a.tail (fun x hx => p x (List.mem_cons_of_mem _ hx)) (fun l d hl hd => ?_), List.append_assoc]
    · rfl
    · rw [List.getLast?_concat] at hl
      cases hl
      cases t with
      | nil => cases hd
      | cons e u =>
        cases hd
        exact a 0 _ _ rfl rfl
theorem run_it {rs : List Run} (a : Alt rs) (p : ∀ r ∈ rs, 1 ≤ r.2) : runR (itR rs) = rs := by
  have := run_items rs [] a p (fun l c hl => by cases hl)
  rw [List.nil_append] at this
  exact this
theorem it_one (k : Str) (c : Int) : itR [(k, c)] = List.replicate c.toNat k := by
  show List.replicate c.toNat k ++ [] = _
  rw [List.append_nil]
theorem it_add (rs : List Run) (k : Str) (p : ∀ r ∈ rs, 1 ≤ r.2) : itR (addR rs (k, 1)) = itR rs ++ [k] := by
  rcases List.eq_nil_or_concat rs with e0 | ⟨R0, l, e0⟩
  · subst e0
    rfl
  · rw [List.concat_eq_append] at e0
    subst e0
    have c1 := p l (List.mem_append.mpr (.inr (List.mem_singleton.mpr rfl)))
    by_cases h : l.1 = k
    · rw [addR_more R0 l (k, 1) h, it_app, it_app, List.append_assoc, it_one]
      congr 1
      have e : itR [l] = List.replicate l.2.toNat l.1 := it_one l.1 l.2
      show List.replicate (l.2 + 1).toNat k = itR [l] ++ [k]
      rw [e, h, show (l.2 + 1).toNat = l.2.toNat + 1 by omega, List.replicate_succ']
    · rw [addR_new (fun l' hl => by rw [List.getLast?_concat] at hl; cases hl; exact h), it_app]
      rfl
/-- what holds of the runs of some kinds -/
structure RunsOf (rs : List Run) (ks : List Str) : Prop where
  it : itR rs = ks
  pos : ∀ r ∈ rs, 1 ≤ r.2
  mem : ∀ r ∈ rs, r.1 ∈ ks
  alt : Alt rs
theorem runs_snoc {rs : List Run} {ks : List Str} {k : Str} (h : RunsOf rs ks) : RunsOf (addR rs (k, 1)) (ks ++ [k]) := by
  obtain ⟨i, p, m, a⟩ := h
  refine ⟨by rw [it_add rs k p, i], ?_, ?_, ?_⟩
  all_goals
    rcases List.eq_nil_or_concat rs with e0 | ⟨R0, l, e0⟩
  · subst e0
    intro r hr
    rw [List.mem_singleton.mp (show r ∈ [(k, (1 : Int))] from hr)]
    exact Int.le_refl 1
  · rw [List.concat_eq_append] at e0
    subst e0
    have c1 := p l (List.mem_append.mpr (.inr (List.mem_singleton.mpr rfl)))
    intro r hr
    by_cases h : l.1 = k
    · rw [addR_more R0 l (k, 1) h] at hr
      rcases List.mem_append.mp hr with z | z
      · exact p r (List.mem_append.mpr (.inl z))
      · rw [List.mem_singleton.mp z]
        show 1 ≤ l.2 + 1
        omega
    · rw [addR_new (fun l' hl => by rw [List.getLast?_concat] at hl; cases hl; exact h)] at hr
      rcases List.mem_append.mp hr with z | z
      · exact p r z
      · rw [List.mem_singleton.mp z]
        exact Int.le_refl 1
  · subst e0
    intro r hr
    rw [List.mem_singleton.mp (show r ∈ [(k, (1 : Int))] from hr)]
    exact List.mem_append.mpr (.inr (List.mem_singleton.mpr rfl))
  · rw [List.concat_eq_append] at e0
    subst e0
    intro r hr
    by_cases h : l.1 = k
    · rw [addR_more R0 l (k, 1) h] at hr
      rcases List.mem_append.mp hr with z | z
      · exact List.mem_append.mpr (.inl (m r (List.mem_append.mpr (.inl z))))
      · rw [List.mem_singleton.mp z]
        exact List.mem_append.mpr (.inr (List.mem_singleton.mpr rfl))
    · rw [addR_new (fun l' hl => by rw [List.getLast?_concat] at hl; cases hl; exact h)] at hr
      rcases List.mem_append.mp hr with z | z
      · exact List.mem_append.mpr (.inl (m r z))
      · rw [List.mem_singleton.mp z]
        exact List.mem_append.mpr (.inr (List.mem_singleton.mpr rfl))
  · subst e0
    intro i x y hx hy
    cases hy
  · rw [List.concat_eq_append] at e0
    subst e0
    by_cases h : l.1 = k
    · rw [addR_more R0 l (k, 1) h]
      have e : (R0 ++ [((k, (1 : Int)).1, l.2 + (k, (1 : Int)).2)]).map (·.1) = (R0 ++ [l]).map (·.1) := by
        rw [List.map_append, List.map_append]
        show R0.map (·.1) ++ [k] = R0.map (·.1) ++ [l.1]
        rw [h]
      intro i x y hx hy
      have ex := congrArg (fun z : List Str => z[i]?) e
      have ey := congrArg (fun z : List Str => z[i + 1]?) e
      simp only [List.getElem?_map] at ex ey
      rw [hx] at ex
      rw [hy] at ey
      cases gx : (R0 ++ [l])[i]? with
      | none => rw [gx] at ex; cases ex
      | some x' =>
        cases gy : (R0 ++ [l])[i + 1]? with
        | none => rw [gy] at ey; cases ey
        | some y' =>
          rw [gx] at ex
          rw [gy] at ey
          have ex : x.1 = x'.1 := Option.some.inj ex
          have ey : y.1 = y'.1 := Option.some.inj ey
          rw [ex, ey]
          exact a i x' y' gx gy
    · rw [addR_new (fun l' hl => by rw [List.getLast?_concat] at hl; cases hl; exact h)]
      refine alt_snoc a fun y hy => ?_
      rw [← List.getLast?_eq_getElem?, List.getLast?_concat] at hy
      cases hy
      exact h
theorem runs_of_all : ∀ (ks l : List Str) (R : List Run), RunsOf R l → RunsOf (ks.foldl (fun rs k => addR rs (k, 1)) R) (l ++ ks)
  | [], l, R, h => by
    rw [List.append_nil]
    exact h
  | k :: t, l, R, h => by
    have := runs_of_all t (l ++ [k]) _ (runs_snoc (k := k) h)
    rw [List.append_assoc] at this
    exact this
theorem runs_all (ks : List Str) : RunsOf (runR ks) ks := runs_of_all ks [] [] ⟨rfl, (fun r h => by cases h), (fun r h => by cases h), fun i x y hx => by simp at hx⟩
theorem len_mem {rs : List Run} (p : ∀ r ∈ rs, 1 ≤ r.2) : ∀ r ∈ rs, r.2 ≤ lenR rs := by
  induction rs with
  | nil => intro r h; cases h
  | cons x t ih =>
    intro r hr
    have c1 := p x (List.mem_cons_self ..)
    have ih' := ih fun y hy => p y (List.mem_cons_of_mem _ hy)
    rw [lenR_cons]
    have nn : 0 ≤ lenR t := by
      have := len_it t fun y hy => p y (List.mem_cons_of_mem _ hy)
      omega
    rcases List.mem_cons.mp hr with e | e
    · rw [e]
      omega
    · have := ih' r e
      omega
theorem seq_runs {ks : List Str} (l : ks.length ≤ 400) (ok : ∀ k ∈ ks, KindOk k) : SeqOk (runR ks) ∧ lenR (runR ks) ≤ 400 ∧ itR (runR ks) = ks := by
  obtain ⟨i, p, m, a⟩ := runs_all ks
  have ll := len_it (runR ks) p
  rw [i] at ll
  refine ⟨⟨?_, fun r hr => ⟨ok _ (m r hr), p r hr, ?_⟩, a⟩, by omega, i⟩
  · exact Nat.le_trans (runR_len ks) l
  · have := len_mem p r hr
    omega
end UP

set_option Elab.async false
set_option linter.all false
set_option maxRecDepth 100000
set_option maxHeartbeats 4000000
set_option pp.maxSteps 300
namespace UP
open PySem PySem.Spec PyProof.Rows L2
/-! ### the bag: a list of the cells, the next one, the rest of a large one, the number of draws, a mixed number -/
structure BagS where
  ns : List Int
  i : Int
  r : Int
  d : Int
  t : Int
def Bag (H : Hp) (p cl : Addr) (n : Nat) : Prop := ∃ b : BagS, H p = some (.lst [.ref cl, .int b.i, .int b.r, .int b.d, .int b.t]) ∧ H cl = some (.lst (b.ns.map V.int)) ∧ b.ns.length ≤ 63 ∧ 0 ≤ b.i ∧ b.i ≤ b.ns.length ∧ 0 ≤ b.r ∧ 0 ≤ b.d ∧ b.d ≤ n ∧ 0 ≤ b.t ∧ b.t < 2305843009213693951
theorem Bag.same {H H' : Hp} {p cl : Addr} {n : Nat} (z : Bag H p cl n) (s : Same H H') : Bag H' p cl n := by
  obtain ⟨b, h1, h2, r⟩ := z
  exact ⟨b, s _ _ h1, s _ _ h2, r⟩
theorem Bag.mono {H : Hp} {p cl : Addr} {n m : Nat} (z : Bag H p cl n) (l : n ≤ m) : Bag H p cl m := by
  obtain ⟨b, h1, h2, h3, h4, h5, h6, h7, h8, h9⟩ := z
  exact ⟨b, h1, h2, h3, h4, h5, h6, h7, by omega, h9⟩
theorem Bag.ne {H : Hp} {p cl q : Addr} {n : Nat} (z : Bag H p cl n) (h : H q = none) : q ≠ p := by
  obtain ⟨b, h1, _⟩ := z
  exact (ne_of_none h1 h).symm
theorem bag_ints {cl : Addr} {a b c d : Int} {ns : List Int} : HO.lst (ns.map V.int) ≠ .lst [.ref cl, .int a, .int b, .int c, .int d] := by
  intro q
  cases ns with
  | nil => cases q
  | cons x t => cases q
theorem Bag.cl_ne {H : Hp} {p cl : Addr} {n : Nat} (z : Bag H p cl n) : cl ≠ p := by
  obtain ⟨b, h1, h2, _⟩ := z
  exact ne_of h2 h1 bag_ints
/-- what is kept apart from the bag's list keeps the bag -/
theorem Bag.keep {H H' : Hp} {p cl : Addr} {n : Nat} (z : Bag H p cl n) (k : ∀ o, H p = some o → H' p = some o) (c : ∀ o, H cl = some o → H' cl = some o) : Bag H' p cl n := by
  obtain ⟨b, h1, h2, r⟩ := z
  exact ⟨b, k _ h1, c _ h2, r⟩
theorem at50 {α : Type} {x y z u w : α} : atI [x, y, z, u, w] 0 = some x := rfl
theorem at51 {α : Type} {x y z u w : α} : atI [x, y, z, u, w] 1 = some y := rfl
theorem at52 {α : Type} {x y z u w : α} : atI [x, y, z, u, w] 2 = some z := rfl
theorem at53 {α : Type} {x y z u w : α} : atI [x, y, z, u, w] 3 = some u := rfl
theorem at54 {α : Type} {x y z u w : α} : atI [x, y, z, u, w] 4 = some w := rfl
theorem atI_ofB {α : Type} {l : List α} {i : Int} {x : α} (h0 : 0 ≤ i) (h : l[i.toNat]? = some x) : atI l i = some x := by
  have : i < l.length := by
    obtain ⟨q, _⟩ := List.getElem?_eq_some_iff.mp h
    omega
  unfold atI ixN
  rw [if_pos h0, if_pos (by omega)]
  exact h
theorem p18 : (10 : Int) ^ ((18 : Int).toNat) = 1000000000000000000 := by decide +kernel
theorem wideB {m : Int} (h0 : 0 ≤ m) (h1 : m ≤ 1000000000000000000000000000000000000000000000000000000000000) : m.natAbs < 2 ^ 8000 :=
  Nat.lt_of_le_of_lt (m := 1000000000000000000000000000000000000000000000000000000000000) (by omega) (by decide +kernel)
section
variable {P : Program} {w : World} {K : PySem.W.Frag} {mg : Str → Option Value} {base : Heap}
/-! _law_bag: slots 0:script 1:total 2:cell -/
abbrev s_law_bag : Stmt := topS 46
theorem sc_law_bag : FnScope ["script", "total", "cell"] ["script"] (defScope s_law_bag) := ⟨rfl, rfl, rfl, by decide +kernel, rfl, by decide +kernel, by decide +kernel⟩
def sp_law_bag (K : PySem.W.Frag) : Sp := fun vs H Q _ => ∃ (a : Addr) (ns : List Int), vs = [.ref a] ∧ SqL K H a (ns.map V.int) ∧ ns.length ≤ 63 ∧ ∀ H' p cl, Same H H' → H p = none → H cl = none → Bag H' p cl 0 → Q (.ref p) H'
theorem ok_law_bag (D : Df K mg "_law_bag" s_law_bag) (T : Tx mg) : Has P w K mg base 1 "_law_bag" ["script"] (sp_law_bag K) := by
  refine has_of D sc_law_bag (fun _ _ _ _ _ _ us hl => match us, hl with | [_], _ => rfl) (fun vs H Q E h => ?_) (fun f cdv A outer s₀ H vs Q E hr h => ?_)
  · obtain ⟨_, _, rfl, _⟩ := h
    rfl
  · obtain ⟨a, ns, rfl, hS, l63, q⟩ := h
    refine ⟨_, (pss_cons (ps_set (i := 1) sc_law_bag.nd rfl (by first | exact Or.inl rfl | exact Or.inr rfl) pe_int)
    (pss_cons (ps_for PassesOwn.never rfl (pi_list (pv 0)) (pg_name (i := 2) sc_law_bag.nd rfl (by first | exact Or.inl rfl | exact Or.inr rfl))
      (pss_one (ps_set (i := 1) sc_law_bag.nd rfl (by first | exact Or.inl rfl | exact Or.inr rfl) (pe_op op_mod (pe_op op_add (pe_op op_add (pe_op op_mul (pv 1) pe_int) (pe_op op_mod (pv 2) pe_int)) pe_int) pe_int))))
    (pss_one (ps_ret (pe_lst (pa_cons (pe_callTy call_list_of (by rfl) T.n_list (by decide +kernel) (pa_cons (pv 0) pa_nil)) (pa_cons pe_int (pa_cons pe_int (pa_cons pe_int (pa_cons (pv 1) pa_nil)))))))))), ?_⟩
    refine ⟨_, rfl, a, rfl, ⟨_, hS⟩, for_list (K := K) (a := a) (xs := ns.map V.int) (fun i σ H' => ∃ (t : Int) (y : Option V), σ = [some (.ref a), some (.int t), y] ∧ H' = H ∧ 0 ≤ t ∧ t < 2305843009213693951)
      ⟨1, none, rfl, rfl, by decide, by decide⟩ (fun i σ H' _ hP => ?_) (fun i x σ H1 ex hP => ?_) (fun σ H1 hP => ?_)⟩
    · obtain ⟨_, _, _, rfl, _⟩ := hP
      exact hS
    · obtain ⟨t, y, rfl, rfl, t0, t1⟩ := hP
      rw [List.getElem?_map] at ex
      cases e : ns[i]? with
      | none =>
        rw [e] at ex
        cases ex
      | some c =>
        rw [e] at ex
        cases ex
        refine ⟨_, rfl, _, _, rfl, rfl, .inr ⟨by decide, by decide⟩, _, rfl, _, _, rfl, rfl, (by show (0 : Int) < _; decide), _, _, rfl, rfl, _, _, rfl, rfl, _, _, rfl, rfl, (by show (0 : Int) < _; decide), ?_⟩
        exact ⟨_, _, rfl, rfl, Int.emod_nonneg _ (by decide), Int.emod_lt_of_pos _ (by decide)⟩
    · obtain ⟨t, y, rfl, rfl, t0, t1⟩ := hP
      refine ⟨_, rfl, a, _, rfl, .inl hS, fun cl ncl => ⟨_, rfl, (by show 5 ≤ sizeLine; decide), fun p np => ?_⟩⟩
      have s1 := same_upd (o := .lst (ns.map V.int)) ncl
      have s2 := same_upd (o := .lst [.ref cl, .int 0, .int 0, .int 0, .int t]) np
      exact q _ p cl (s1.trans s2) (s1.free np) ncl ⟨⟨ns, 0, 0, 0, t⟩, upd_same, s2 _ _ upd_same, l63, Int.le_refl _, by show (0 : Int) ≤ _; omega, Int.le_refl _, Int.le_refl _, by show (0 : Int) ≤ ((0 : Nat) : Int); decide, t0, t1⟩
/-! _law_stir: slots 0:number 1:place 2:one 3:two -/
abbrev s_law_stir : Stmt := topS 47
theorem sc_law_stir : FnScope ["number", "place", "one", "two"] ["number", "place"] (defScope s_law_stir) := ⟨rfl, rfl, rfl, by decide +kernel, rfl, by decide +kernel, by decide +kernel⟩
def sp_law_stir : Sp := fun vs H Q _ => ∃ (a d : Int), vs = [.int a, .int d] ∧ 0 ≤ a ∧ a < 2305843009213693951 ∧ 0 ≤ d ∧ d ≤ 1000000000000000 ∧ ∀ r, Q (.int r) H
theorem ok_law_stir (D : Df K mg "_law_stir" s_law_stir) (T : Tx mg) : Has P w K mg base 1 "_law_stir" ["number", "place"] sp_law_stir := by
  refine has_of D sc_law_stir (fun _ _ _ _ _ _ us hl => match us, hl with | [_, _], _ => rfl) (fun vs H Q E h => ?_) (fun f cdv A outer s₀ H vs Q E hr h => ?_)
  · obtain ⟨_, _, rfl, _⟩ := h
    rfl
  · obtain ⟨a, d, rfl, a0, a1, d0, d1, q⟩ := h
    refine ⟨_, (pss_cons (ps_set (i := 2) sc_law_stir.nd rfl (by first | exact Or.inl rfl | exact Or.inr rfl) (pe_op op_mod (pe_op op_add (pe_op op_add (pe_op op_mul (pv 0) pe_int) (pe_op op_mul (pv 1) pe_int)) pe_int) pe_int))
    (pss_cons (ps_set (i := 3) sc_law_stir.nd rfl (by first | exact Or.inl rfl | exact Or.inr rfl) (pe_op op_mod (pe_op op_mul (pv 2) (pv 2)) pe_int))
    (pss_one (ps_ret (pe_op op_fdiv (pe_op op_mod (pe_op op_add (pe_op op_add (pe_op op_mul (pv 3) pe_int) (pe_op op_mul (pe_op op_mul (pv 1) (pv 1)) pe_int)) (pe_op op_fdiv (pv 2) pe_int)) pe_int) pe_int))))), ?_⟩
    refine ⟨_, rfl, _, _, rfl, rfl, .inr ⟨by decide, by decide⟩, _, rfl, _, _, rfl, rfl, .inr ⟨by decide, by decide⟩, _, _, rfl, rfl, _, _, rfl, rfl, _, _, rfl, rfl, (by show (0 : Int) < _; decide), ?_⟩
    have e0 := Int.emod_nonneg (a * 998244353 + d * 1000000007 + 5) (b := 2305843009213693951) (by decide)
    have e1 := Int.emod_lt_of_pos (a * 998244353 + d * 1000000007 + 5) (b := 2305843009213693951) (by decide)
    generalize (a * 998244353 + d * 1000000007 + 5) % 2305843009213693951 = one at *
    refine ⟨_, rfl, _, rfl, _, _, rfl, rfl, .inl ⟨by omega, by omega⟩, _, _, rfl, rfl, (by show (0 : Int) < _; decide), ?_⟩
    refine ⟨_, rfl, _, _, rfl, rfl, .inr ⟨by decide, by decide⟩, _, rfl, _, rfl, _, _, rfl, rfl, .inl ⟨by omega, by omega⟩, _, _, rfl, rfl, .inr ⟨by decide, by decide⟩, _, _, rfl, rfl, _, rfl, _, _, rfl, rfl, ⟨by decide, by decide⟩, _, _, rfl, rfl, _, _, rfl, rfl, (by show (0 : Int) < _; decide), _, _, rfl, rfl, ⟨by decide, by decide⟩, q _⟩
/-! _law_draw: slots 0:bag 1:bound 2:found 3:cell -/
abbrev s_law_draw : Stmt := topS 48
theorem sc_law_draw : FnScope ["bag", "bound", "found", "cell"] ["bag", "bound"] (defScope s_law_draw) := ⟨rfl, rfl, rfl, by decide +kernel, rfl, by decide +kernel, by decide +kernel⟩
def sp_law_draw : Sp := fun vs H Q _ => ∃ (p cl : Addr) (n : Nat) (m : Int), vs = [.ref p, .int m] ∧ Bag H p cl n ∧ n + 1 ≤ 1000000000000000 ∧ 1 ≤ m ∧ m.natAbs < 2 ^ 8000 ∧ ∀ H' r, But p H H' → Bag H' p cl (n + 1) → 0 ≤ r → r < m → Q (.int r) H'
theorem ok_law_draw (D : Df K mg "_law_draw" s_law_draw) (T : Tx mg) (G_law_stir : Has P w K mg base 1 "_law_stir" ["number", "place"] sp_law_stir) : Has P w K mg base 2 "_law_draw" ["bag", "bound"] sp_law_draw := by
  refine has_of D sc_law_draw (fun _ _ _ _ _ _ us hl => match us, hl with | [_, _], _ => rfl) (fun vs H Q E h => ?_) (fun f cdv A outer s₀ H vs Q E hr h => ?_)
  · obtain ⟨_, _, _, _, rfl, _⟩ := h
    rfl
  · obtain ⟨p, cl, n, m, rfl, z, nb, m1, m2, q⟩ := h
    have z0 := z
    have cp := z.cl_ne
    obtain ⟨⟨ns, i, r, d, t⟩, hp, hc, l63, i0, i1, r0, d0, d1, t0, t1⟩ := z
    have hp : H p = some (.lst [.ref cl, .int i, .int r, .int d, .int t]) := hp
    have hc : H cl = some (.lst (ns.map V.int)) := hc
    have l63 : ns.length ≤ 63 := l63
    have i0 : 0 ≤ i := i0
    have i1 : i ≤ ns.length := i1
    have r0 : 0 ≤ r := r0
    have d0 : 0 ≤ d := d0
    have d1 : d ≤ n := d1
    have t0 : 0 ≤ t := t0
    have t1 : t < 2305843009213693951 := t1
    have e0 : ∀ x : Int, 0 ≤ x % m := fun x => Int.emod_nonneg _ (by omega)
    have e1 : ∀ x : Int, x % m < m := fun x => Int.emod_lt_of_pos _ (by omega)
    refine ⟨_, (pss_cons (ps_if (pt_cmpR op_eq (pv 1) pe_int (nomark _)) (pss_one (ps_ret pe_int)) pss_nil)
    (pss_cons (ps_asg (pe_op op_add (pe_ix ix_list (pv 0) pe_int (fun _ _ => rfl)) pe_int) (pg_sub (pv 0) pe_int set_list))
    (pss_cons (ps_if (PW.pt (pw_and (pt_cmpR op_lt (pe_ix ix_list (pv 0) pe_int (fun _ _ => rfl)) pe_int (nomark _)) (pw_and1 (pt_cmpR op_eq (pe_ix ix_list (pv 0) pe_int (fun _ _ => rfl)) (pe_callB call_len_seq (by rfl) T.n_len (by decide +kernel) (pa_cons (pe_ix ix_list (pv 0) pe_int (fun _ _ => rfl)) pa_nil)) (nomark _))))) (pss_one (ps_ret (pe_op op_mod (pe_callH G_law_stir (hr.mono (by omega)) (by rfl) (pa_cons (pe_ix ix_list (pv 0) pe_int (fun _ _ => rfl)) (pa_cons (pe_ix ix_list (pv 0) pe_int (fun _ _ => rfl)) pa_nil))) (pv 1)))) pss_nil)
    (C8.pss_cut (ps_if (pt_cmpR op_lt (pe_ix ix_list (pv 0) pe_int (fun _ _ => rfl)) pe_int (nomark _)) (pss_cons (ps_set (i := 3) sc_law_draw.nd rfl (by first | exact Or.inl rfl | exact Or.inr rfl) (pe_ix ix_list (pe_ix ix_list (pv 0) pe_int (fun _ _ => rfl)) (pe_ix ix_list (pv 0) pe_int (fun _ _ => rfl)) (fun _ _ => rfl)))
    (pss_cons (ps_asg (pe_op op_add (pe_ix ix_list (pv 0) pe_int (fun _ _ => rfl)) pe_int) (pg_sub (pv 0) pe_int set_list))
    (pss_cons (ps_if (pt_cmpR op_lt (pv 3) (pe_op op_pow pe_int pe_int) (nomark _)) (pss_one (ps_ret (pe_op op_mod (pe_callH G_law_stir (hr.mono (by omega)) (by rfl) (pa_cons (pe_op op_mod (pv 3) pe_int) (pa_cons (pe_ix ix_list (pv 0) pe_int (fun _ _ => rfl)) pa_nil))) (pv 1)))) pss_nil)
    (pss_one (ps_asg (pe_op op_sub (pv 3) (pe_op op_pow pe_int pe_int)) (pg_sub (pv 0) pe_int set_list)))))) pss_nil)
    (pss_cons (ps_set (i := 2) sc_law_draw.nd rfl (by first | exact Or.inl rfl | exact Or.inr rfl) (pe_op op_mod (pe_ix ix_list (pv 0) pe_int (fun _ _ => rfl)) (pv 1)))
    (pss_cons (ps_asg (pe_op op_fdivW (pe_ix ix_list (pv 0) pe_int (fun _ _ => rfl)) (pv 1)) (pg_sub (pv 0) pe_int set_list))
    (pss_one (ps_ret (pv 2))))))))), ?_⟩
    refine ⟨_, rfl, rfl, _, rfl, ite2 (fun _ => ?_) (fun _ => ?_)⟩
    · exact q _ _ But.refl (z0.mono (Nat.le_succ _)) (Int.le_refl _) (by omega)
    refine ⟨_, rfl, p, _, 3, _, rfl, rfl, .of hp, at53, _, _, rfl, rfl, _, rfl, p, _, 3, 3, rfl, rfl, hp, rfl, ?_⟩
    have B1 : But p H (upd H p (.lst [.ref cl, .int i, .int r, .int (d + 1), .int t])) := but_upd
    have hp1 : (upd H p (.lst [.ref cl, .int i, .int r, .int (d + 1), .int t])) p = some (.lst [.ref cl, .int i, .int r, .int (d + 1), .int t]) := upd_same
    have hc1 := B1 _ _ cp hc
    show tSeq _ _ _ _ (upd H p (.lst [.ref cl, .int i, .int r, .int (d + 1), .int t]))
    generalize upd H p (.lst [.ref cl, .int i, .int r, .int (d + 1), .int t]) = H1 at *
    have lm : (ns.map V.int).length = ns.length := List.length_map ..
    have mk : ∀ (H' : Hp) (i' r' : Int), But p H1 H' → H' p = some (.lst [.ref cl, .int i', .int r', .int (d + 1), .int t]) → 0 ≤ i' → i' ≤ ns.length → 0 ≤ r' → But p H H' ∧ Bag H' p cl (n + 1) := fun H' i' r' b hb j0 j1 k0 =>
      ⟨B1.trans b, ⟨ns, i', r', d + 1, t⟩, hb, b _ _ cp hc1, l63, j0, j1, k0, by show 0 ≤ d + 1; omega, by show d + 1 ≤ ((n + 1 : Nat) : Int); omega, t0, t1⟩
    have out : ∀ (H' : Hp) (i' r' x : Int), But p H1 H' → H' p = some (.lst [.ref cl, .int i', .int r', .int (d + 1), .int t]) → 0 ≤ i' → i' ≤ ns.length → 0 ≤ r' → Q (.int (x % m)) H' := fun H' i' r' x b hb j0 j1 k0 => by
      obtain ⟨k1, k2⟩ := mk H' i' r' b hb j0 j1 k0
      exact q _ _ k1 k2 (e0 x) (e1 x)
    refine ⟨_, rfl, p, _, 2, _, rfl, rfl, .of hp1, at52, _, _, rfl, rfl, _, rfl, ?_⟩
    have rest : ∀ (H2 : Hp) (i' r' : Int), But p H1 H2 → H2 p = some (.lst [.ref cl, .int i', .int r', .int (d + 1), .int t]) → 0 ≤ i' → i' ≤ ns.length → 0 ≤ r' →
        ∀ H3, H3 = upd H2 p (.lst [.ref cl, .int i', .int (r' / m), .int (d + 1), .int t]) → Q (.int (r' % m)) H3 := fun H2 i' r' b hb j0 j1 k0 H3 e3 => by
      subst e3
      exact out _ i' (r' / m) r' (b.trans but_upd) upd_same j0 j1 (Int.ediv_nonneg k0 (by omega))
    by_cases c2 : r < 2
    · refine iteP (decide_eq_true c2) ⟨_, rfl, p, _, 1, _, rfl, rfl, .of hp1, at51, _, rfl, p, _, 0, _, rfl, rfl, .of hp1, at50, cl, _, rfl, .inl (.of hc1), rfl, _, rfl, ?_⟩
      rw [lm]
      by_cases ci : i = ns.length
      · refine iteP (decide_eq_true (by rw [ci])) ⟨_, rfl, p, _, 4, _, rfl, rfl, .of hp1, at54, _, rfl, p, _, 3, _, rfl, rfl, .of hp1, at53, t, d + 1, rfl, t0, t1, by omega, by omega, fun x => ⟨_, rfl, _, _, rfl, rfl, (by omega), ?_⟩⟩
        exact out _ i r x But.refl hp1 i0 i1 r0
      · have ci2 : i < ns.length := by omega
        refine iteN (decide_eq_false (fun z => ci (V.int.inj z))) ?_
        obtain ⟨c, ec⟩ : ∃ c, ns[i.toNat]? = some c := ⟨_, List.getElem?_eq_getElem (by omega)⟩
        have eci : atI (ns.map V.int) i = some (.int c) := atI_ofB i0 (by rw [List.getElem?_map, ec]; rfl)
        refine ⟨fun σ' H' => ∃ i' r' y3, σ' = [some (.ref p), some (.int m), none, y3] ∧ But p H1 H' ∧ H' p = some (.lst [.ref cl, .int i', .int r', .int (d + 1), .int t]) ∧ 0 ≤ i' ∧ i' ≤ ns.length ∧ 0 ≤ r', ?_, fun σ' H2 hM => ?_⟩
        · refine ⟨_, rfl, p, _, 2, _, rfl, rfl, .of hp1, at52, _, _, rfl, rfl, _, rfl, iteP (decide_eq_true c2) ?_⟩
          refine ⟨_, rfl, p, _, 0, _, rfl, rfl, .of hp1, at50, _, rfl, p, _, 1, _, rfl, rfl, .of hp1, at51, cl, _, i, _, rfl, rfl, .of hc1, eci, ?_⟩
          refine ⟨_, rfl, p, _, 1, _, rfl, rfl, .of hp1, at51, _, _, rfl, rfl, _, rfl, p, _, 1, 1, rfl, rfl, hp1, rfl, ?_⟩
          have B2 : But p H1 (upd H1 p (.lst [.ref cl, .int (i + 1), .int r, .int (d + 1), .int t])) := but_upd
          have hp2 : (upd H1 p (.lst [.ref cl, .int (i + 1), .int r, .int (d + 1), .int t])) p = some (.lst [.ref cl, .int (i + 1), .int r, .int (d + 1), .int t]) := upd_same
          show tSeq _ _ _ _ (upd H1 p (.lst [.ref cl, .int (i + 1), .int r, .int (d + 1), .int t]))
          generalize upd H1 p (.lst [.ref cl, .int (i + 1), .int r, .int (d + 1), .int t]) = H2 at *
          refine ⟨_, rfl, _, _, rfl, rfl, ⟨by decide, by decide, by decide⟩, _, _, rfl, rfl, _, rfl, ite2 (fun c3 => ?_) (fun c3 => ?_)⟩
          · refine ⟨_, rfl, _, _, rfl, rfl, (by show (0 : Int) < _; decide), _, rfl, p, _, 3, _, rfl, rfl, .of hp2, at53, _, d + 1, rfl, Int.emod_nonneg _ (by decide), Int.emod_lt_of_pos _ (by decide), by omega, by omega, fun x => ⟨_, rfl, _, _, rfl, rfl, (by omega), ?_⟩⟩
            exact out _ (i + 1) r x B2 hp2 (by omega) (by omega) r0
          · have c3 : ¬ c < (10 : Int) ^ ((18 : Int).toNat) := fun z => c3 (decide_eq_true z)
            refine ⟨_, rfl, _, _, rfl, rfl, ⟨by decide, by decide, by decide⟩, _, _, rfl, rfl, _, rfl, p, _, 2, 2, rfl, rfl, hp2, rfl, ?_⟩
            exact ⟨i + 1, _, _, rfl, B2.trans but_upd, upd_same, by omega, by omega, by omega⟩
        · obtain ⟨i', r', y3, rfl, b2, hp2, j0, j1, k0⟩ := hM
          refine ⟨_, rfl, p, _, 2, _, rfl, rfl, .of hp2, at52, _, rfl, _, _, rfl, rfl, (by omega), ?_⟩
          refine ⟨_, rfl, p, _, 2, _, rfl, rfl, .of hp2, at52, _, rfl, _, _, rfl, rfl, wide_div (by omega) m2 (by decide) (by decide), _, rfl, p, _, 2, 2, rfl, rfl, hp2, rfl, ?_⟩
          exact ⟨_, rfl, rest H2 i' r' b2 hp2 j0 j1 k0 _ rfl⟩
    · refine iteN (decide_eq_false c2) ?_
      refine ⟨fun σ' H' => σ' = [some (.ref p), some (.int m), none, none] ∧ H' = H1, ?_, fun σ' H2 hM => ?_⟩
      · exact ⟨_, rfl, p, _, 2, _, rfl, rfl, .of hp1, at52, _, _, rfl, rfl, _, rfl, iteN (decide_eq_false c2) ⟨rfl, rfl⟩⟩
      · obtain ⟨rfl, rfl⟩ := hM
        refine ⟨_, rfl, p, _, 2, _, rfl, rfl, .of hp1, at52, _, rfl, _, _, rfl, rfl, (by omega), ?_⟩
        refine ⟨_, rfl, p, _, 2, _, rfl, rfl, .of hp1, at52, _, rfl, _, _, rfl, rfl, wide_div (by omega) m2 (by decide) (by decide), _, rfl, p, _, 2, 2, rfl, rfl, hp1, rfl, ?_⟩
        exact ⟨_, rfl, rest _ i r But.refl hp1 i0 i1 r0 _ rfl⟩
end
end UP

set_option Elab.async false
set_option linter.all false
set_option maxRecDepth 100000
set_option maxHeartbeats 4000000
set_option pp.maxSteps 300
namespace UP
open PySem PySem.Spec PyProof.Rows L2
/-! ### texts -/
theorem sIx_m1 (n d : Nat) : HT.sIx (n + 1) d (some (-1)) = n := by
  show (if (-1 : Int) < 0 then ((-1 : Int) + ((n + 1 : Nat) : Int)).toNat else min (-1 : Int).toNat (n + 1)) = n
  rw [if_pos (by decide)]
  omega
theorem cut_head {a z : Str} {c : Nat} (h : TL.tl z = TL.tl a ++ [c]) : cutS z none (some (-1)) = a := by
  have hl : z.length = a.length + 1 := by
    rw [TL.len_tl, h, List.length_append, ← TL.len_tl]
    rfl
  refine TL.ext_tl ?_
  unfold cutS
  rw [hl, sIx_m1, HT.sIx_none]
  show ((TL.tl z).drop 0).take (a.length - 0) = _
  rw [h, List.drop_zero, Nat.sub_zero, TL.len_tl, List.take_left]
theorem cut_tail {a z : Str} {c : Nat} (h : TL.tl z = TL.tl a ++ [c]) : cutS z (some (-1)) none = ⟨#[c]⟩ := by
  have hl : z.length = a.length + 1 := by
    rw [TL.len_tl, h, List.length_append, ← TL.len_tl]
    rfl
  refine TL.ext_tl ?_
  unfold cutS
  rw [hl, sIx_m1, HT.sIx_none]
  show ((TL.tl z).drop a.length).take (a.length + 1 - a.length) = [c]
  rw [h, TL.len_tl, List.drop_left, show (TL.tl a).length + 1 - (TL.tl a).length = 1 by omega]
  rfl
theorem at_tail {a z : Str} {c : Nat} (h : TL.tl z = TL.tl a ++ [c]) : atI z.cps.toList (-1) = some c := by
  show atI (TL.tl z) (-1) = some c
  rw [h]
  exact atI_last _ _
theorem tl_sp : TL.tl (" " : Str) = [32] := by decide +kernel
theorem join_len (ws : List Str) : (Txt.join " " ws).length ≤ (ws.map (·.length)).sum + ws.length := by
  rw [TL.len_tl, TL.join_eq, TL.tl_join, tl_sp]
  have : ∀ l : List Str, (TL.joinL [32] (l.map TL.tl)).length ≤ (l.map (·.length)).sum + l.length := by
    intro l
    induction l with
    | nil => exact Nat.zero_le _
    | cons p t ih =>
      cases t with
      | nil =>
        show (TL.tl p).length ≤ p.length + 0 + 1
        rw [← TL.len_tl]
        omega
      | cons q r =>
        show (TL.tl p ++ ([32] ++ TL.joinL [32] ((q :: r).map TL.tl))).length ≤ (p.length + ((q :: r).map (·.length)).sum) + ((q :: r).length + 1)
        rw [List.length_append, List.length_append, ← TL.len_tl]
        show p.length + (1 + _) ≤ _
        omega
  exact this ws
theorem sum_le {ws : List Str} {n : Nat} (h : ∀ w ∈ ws, w.length ≤ n) : (ws.map (·.length)).sum ≤ n * ws.length := by
  induction ws with
  | nil => exact Nat.zero_le _
  | cons p t ih =>
    have h1 := h p (List.mem_cons_self ..)
    have h2 := ih fun w hw => h w (List.mem_cons_of_mem _ hw)
    show p.length + (t.map (·.length)).sum ≤ n * (t.length + 1)
    rw [Nat.mul_succ]
    omega
/-- words without a blank are found again -/
theorem split_words {ws : List Str} (ne : ws ≠ []) (h : ∀ w ∈ ws, 32 ∉ TL.tl w) : Txt.split (Txt.join " " ws) " " = ws := TL.split_join tl_sp (by decide +kernel) ne h
theorem join_ne {ws : List Str} (ne : ws ≠ []) (h : ∀ w ∈ ws, TL.tl w ≠ []) : Txt.join " " ws ≠ "" := fun e => by
  have e2 := congrArg TL.tl e
  rw [TL.join_eq, TL.tl_join, show TL.tl ("" : Str) = [] by decide +kernel] at e2
  cases ws with
  | nil => exact ne rfl
  | cons p t =>
    have hp := h p (List.mem_cons_self ..)
    cases t with
    | nil => exact hp e2
    | cons q r =>
      have e2 : TL.tl p ++ (TL.tl (" " : Str) ++ TL.joinL (TL.tl (" " : Str)) ((q :: r).map TL.tl)) = [] := e2
      exact hp (List.append_eq_nil_iff.mp e2).1
theorem join_nil : Txt.join " " [] = "" := by
  refine TL.ext_tl ?_
  rw [TL.join_eq, TL.tl_join]
  exact (show TL.tl ("" : Str) = [] by decide +kernel).symm
theorem kind_tl {k : Str} (h : KindOk k) {c : Nat} (hc : c ∈ TL.tl k) : 97 ≤ c ∧ c ≤ 122 := h.2.2 c hc
/-! ### entries of records -/
abbrev En := Option Str × Bool
def actS (b : Bool) : Str := if b then "waits" else "leaves"
def sgnS (b : Bool) : Str := if b then "+" else "-"
def sgnC (b : Bool) : Nat := if b then 43 else 45
def kdS (k : Option Str) : Str := k.getD "?"
def koV : Option Str → V
  | none => .non
  | some s => .str s
def wdS (e : En) : Str := kdS e.1 ++ sgnS e.2
def EnOk (e : En) : Prop := ∀ k, e.1 = some k → KindOk k
theorem tl_sgn (b : Bool) : TL.tl (sgnS b) = [sgnC b] := by cases b <;> decide +kernel
theorem tl_q : TL.tl ("?" : Str) = [63] := by decide +kernel
theorem sgn_eq (b : Bool) : (⟨#[sgnC b]⟩ : Str) = sgnS b := TL.ext_tl (tl_sgn b).symm
theorem tl_wd (e : En) : TL.tl (wdS e) = TL.tl (kdS e.1) ++ [sgnC e.2] := by
  unfold wdS
  rw [TL.tl_append, tl_sgn]
theorem kd_free {e : En} (h : EnOk e) : 32 ∉ TL.tl (kdS e.1) := fun hm => by
  obtain ⟨k, b⟩ := e
  cases k with
  | none =>
    have hm : 32 ∈ TL.tl ("?" : Str) := hm
    rw [tl_q] at hm
    exact absurd hm (by decide)
  | some k =>
    have := kind_tl (h k rfl) hm
    omega
theorem wd_free {e : En} (h : EnOk e) : 32 ∉ TL.tl (wdS e) := fun hm => by
  rw [tl_wd] at hm
  rcases List.mem_append.mp hm with z | z
  · exact kd_free h z
  · have := List.mem_singleton.mp z
    obtain ⟨k, b⟩ := e
    cases b
    · exact absurd (show (32 : Nat) = 45 from this) (by decide)
    · exact absurd (show (32 : Nat) = 43 from this) (by decide)
theorem wd_ne (e : En) : TL.tl (wdS e) ≠ [] := by
  rw [tl_wd]
  simp
theorem kd_len {e : En} (h : EnOk e) : (kdS e.1).length ≤ 8 := by
  obtain ⟨k, b⟩ := e
  cases k with
  | none =>
    show ("?" : Str).length ≤ 8
    decide +kernel
  | some k => exact (h k rfl).2.1
theorem sgn_len (b : Bool) : (sgnS b).length = 1 := by
  rw [TL.len_tl, tl_sgn]
  rfl
theorem wd_len {e : En} (h : EnOk e) : (wdS e).length ≤ 9 := by
  have := kd_len h
  rw [TL.len_tl, tl_wd, List.length_append, ← TL.len_tl]
  show (kdS e.1).length + 1 ≤ 9
  omega
theorem kd_q {e : En} (h : EnOk e) : kdS e.1 = "?" ↔ e.1 = none := by
  obtain ⟨k, b⟩ := e
  cases k with
  | none => exact ⟨fun _ => rfl, fun _ => rfl⟩
  | some k =>
    refine ⟨fun z => ?_, fun z => by cases z⟩
    have z : k = "?" := z
    have h := h k rfl
    rw [z] at h
    exact absurd h (by decide +kernel)
/-- a record's text -/
def rtS (es : List En) : Str := Txt.join " " (es.map wdS)
theorem rt_len {es : List En} (h : ∀ e ∈ es, EnOk e) (l : es.length ≤ 400) : (rtS es).length ≤ 4000 := by
  have h1 := join_len (es.map wdS)
  have h2 := sum_le (ws := es.map wdS) (n := 9) (fun w hw => by
    obtain ⟨e, he, rfl⟩ := List.mem_map.mp hw
    exact wd_len (h e he))
  rw [List.length_map] at h1 h2
  show (Txt.join " " (es.map wdS)).length ≤ 4000
  omega
def EnV (H : Hp) (v : V) (e : En) : Prop := ∃ t, v = .ref t ∧ H t = some (.tup [koV e.1, .str (actS e.2)])
def EnG (H : Hp) (v : V) (e : En) : Prop := ∃ t, v = .ref t ∧ Sq2 H t [koV e.1, .str (actS e.2)]
def RecG (H : Hp) (v : V) (es : List En) : Prop := ∃ a xs, v = .ref a ∧ Sq2 H a xs ∧ Paired (EnG H) xs es
def Rec (H : Hp) (a : Addr) (es : List En) : Prop := ∃ xs, H a = some (.lst xs) ∧ Paired (EnV H) xs es
theorem EnV.tk {H H' : Hp} {v : V} {e : En} (h : EnV H v e) (k : ∀ t xs, H t = some (.tup xs) → H' t = some (.tup xs)) : EnV H' v e := by
  obtain ⟨t, rfl, ht⟩ := h
  exact ⟨t, rfl, k _ _ ht⟩
theorem EnV.same {H H' : Hp} {v : V} {e : En} (s : Same H H') (h : EnV H v e) : EnV H' v e := h.tk fun _ _ e => s _ _ e
theorem EnG.same {H H' : Hp} {v : V} {e : En} (s : Same H H') (h : EnG H v e) : EnG H' v e := by
  obtain ⟨t, rfl, ht⟩ := h
  exact ⟨t, rfl, ht.same s⟩
theorem RecG.same {H H' : Hp} {v : V} {es : List En} (s : Same H H') (h : RecG H v es) : RecG H' v es := by
  obtain ⟨a, xs, rfl, hx, hp⟩ := h
  exact ⟨a, xs, rfl, hx.same s, Paired.imp (fun _ _ z => EnG.same s z) hp⟩
theorem EnV.dress {H : Hp} {v : V} {e : En} (h : EnV H v e) : EnG H v e := by
  obtain ⟨t, rfl, ht⟩ := h
  exact ⟨t, rfl, .inr ht⟩
theorem Rec.dress {H : Hp} {a : Addr} {es : List En} (h : Rec H a es) : RecG H (.ref a) es := by
  obtain ⟨xs, hx, hp⟩ := h
  exact ⟨a, xs, rfl, .inl hx, Paired.imp (fun _ _ => EnV.dress) hp⟩
theorem Rec.same {H H' : Hp} {a : Addr} {es : List En} (s : Same H H') (h : Rec H a es) : Rec H' a es := by
  obtain ⟨xs, hx, hp⟩ := h
  exact ⟨xs, s _ _ hx, Paired.imp (fun _ _ z => EnV.same s z) hp⟩
/-! ### the written dicts -/
structure TexT (K : PySem.W.Frag) (w : World) (mg : Str → Option Value) (aM aA : Addr) : Prop where
  a_MARKS : mg "MARKS" = some (.ref aM)
  m1 : KDct K w aM "waits" (.str "+")
  m2 : KDct K w aM "leaves" (.str "-")
  a_ACTIONS : mg "ACTIONS" = some (.ref aA)
  a1 : KDct K w aA "+" (.str "waits")
  a2 : KDct K w aA "-" (.str "leaves")
section
variable {X : Cx} {K : PySem.W.Frag} {w : World}
theorem ix_kdictK (h : X.K = K) (h2 : X.w = w) : IxR X (rIxD K w) := by
  subst h
  subst h2
  exact ix_kdict
end
theorem TexT.mk_ {K : PySem.W.Frag} {w : World} {mg : Str → Option Value} {aM aA : Addr} (T : TexT K w mg aM aA) (b : Bool) : KDct K w aM (actS b) (.str (sgnS b)) := by
  cases b
  · exact T.m2
  · exact T.m1
theorem TexT.ac_ {K : PySem.W.Frag} {w : World} {mg : Str → Option Value} {aM aA : Addr} (T : TexT K w mg aM aA) (b : Bool) : KDct K w aA (sgnS b) (.str (actS b)) := by
  cases b
  · exact T.a2
  · exact T.a1
theorem act_in (b : Bool) : inV (.str (actS b)) [.str "waits", .str "leaves"] = true := by cases b <;> decide +kernel
theorem sgn_in (b : Bool) : inV (.str (sgnS b)) [.str "+", .str "-"] = true := by cases b <;> decide +kernel
end UP

set_option Elab.async false
set_option linter.all false
set_option maxRecDepth 100000
set_option maxHeartbeats 4000000
set_option pp.maxSteps 300
namespace UP
open PySem PySem.Spec PyProof.Rows L2
section
variable {P : Program} {w : World} {K : PySem.W.Frag} {mg : Str → Option Value} {base : Heap} {aM aA : Addr}
/-! is_entry: slots 0:value -/
abbrev s_is_entry : Stmt := topS 26
theorem sc_is_entry : FnScope ["value"] ["value"] (defScope s_is_entry) := ⟨rfl, rfl, rfl, by decide +kernel, rfl, by decide +kernel, by decide +kernel⟩
def sp_is_entry : Sp := fun vs H Q _ => ∃ (v : V) (e : En), vs = [v] ∧ EnG H v e ∧ EnOk e ∧ ∀ H', Same H H' → Q (.bl true) H'
theorem ok_is_entry (D : Df K mg "is_entry" s_is_entry) (T : Tx mg) (G_is_couple : Has P w K mg base 1 "is_couple" ["value"] sp_is_couple) (G_is_kind : Has P w K mg base 1 "is_kind" ["value"] sp_is_kind) : Has P w K mg base 2 "is_entry" ["value"] sp_is_entry := by
  refine has_of D sc_is_entry (fun _ _ _ _ _ _ us hl => match us, hl with | [_], _ => rfl) (fun vs H Q E h => ?_) (fun f cdv A outer s H vs Q E hr h => ?_)
  · obtain ⟨v, r, rfl, _⟩ := h
    rfl
  · obtain ⟨v, e, rfl, ⟨t, rfl, ht⟩, ok, q⟩ := h
    refine ⟨_, (pss_cons (ps_if (PW.pt (pw_or (pt_not (pt_val (pe_callH G_is_couple (hr.mono (by omega)) (by rfl) (pa_cons (pv 0) pa_nil)))) (pw_or1 (pt_not (pt_val (pe_callB call_isi (by rfl) T.n_isinstance (by decide +kernel) (pa_cons (pe_ix ix_seq (pv 0) pe_int (fun _ _ => rfl)) (pa_cons (pe_bltn (v := .ty "str") (by rfl) T.n_str (by decide +kernel) rfl) pa_nil)))))))) (pss_one (ps_ret pe_bl)) pss_nil)
    (pss_one (ps_ret (pe_and (pe_or (pe_cmpR op_isN (pe_ix ix_seq (pv 0) pe_int (fun _ _ => rfl)) pe_non (nomark _)) (pe_one (pe_callH G_is_kind (hr.mono (by omega)) (by rfl) (pa_cons (pe_ix ix_seq (pv 0) pe_int (fun _ _ => rfl)) pa_nil)))) (pe_one (pe_cmpR op_in_seq (pe_ix ix_seq (pv 0) pe_int (fun _ _ => rfl)) (pe_tup (pa_cons pe_str (pa_cons pe_str pa_nil))) (by with_unfolding_all rfl))))))), ?_⟩
    refine ⟨_, rfl, t, _, rfl, ht, rfl, fun H1 s1 => ⟨true, rfl, iteN rfl ?_⟩⟩
    refine ⟨_, rfl, ix1 (ht.same s1) ⟨_, _, _, _, true, rfl, .ty "str", .base (.str _), kit_ty (by decide +kernel), true, rfl, iteF ?_⟩⟩
    have ht1 := ht.same s1
    obtain ⟨k, b⟩ := e
    have fin : ∀ H2 t2, Same H H2 → H2 t2 = none → Q (.bl (inV (.str (actS b)) [.str "waits", .str "leaves"])) (upd H2 t2 (.tup [.str "waits", .str "leaves"])) := fun H2 t2 s2 n2 => by
      rw [act_in]
      exact q _ (s2.trans (same_upd n2))
    cases k with
    | none =>
      refine ⟨_, rfl, ix0 ht1 ⟨rfl, true, rfl, iteT ?_⟩⟩
      exact ⟨true, rfl, iteT ⟨_, rfl, ix1 ht1 ⟨(by show 2 ≤ sizeLine; decide), fun t2 n2 => ⟨t2, _, rfl, .inr (.of upd_same), rfl, rfl, fin _ t2 s1 n2⟩⟩⟩⟩
    | some k =>
      refine ⟨_, rfl, ix0 ht1 ⟨rfl, false, rfl, iteF ?_⟩⟩
      refine ⟨_, rfl, ix0 ht1 ⟨k, rfl, ok k rfl, fun H2 s2 => ⟨true, rfl, iteT ?_⟩⟩⟩
      exact ⟨_, rfl, ix1 (ht1.same s2) ⟨(by show 2 ≤ sizeLine; decide), fun t2 n2 => ⟨t2, _, rfl, .inr (.of upd_same), rfl, rfl, fin _ t2 (s1.trans s2) n2⟩⟩⟩
/-! is_record: slots 0:value 1:entry -/
abbrev s_is_record : Stmt := topS 27
theorem sc_is_record : FnScope ["value", "entry"] ["value"] (defScope s_is_record) := ⟨rfl, rfl, rfl, by decide +kernel, rfl, by decide +kernel, by decide +kernel⟩
def sp_is_record : Sp := fun vs H Q _ => ∃ (v : V) (es : List En), vs = [v] ∧ RecG H v es ∧ (∀ e ∈ es, EnOk e) ∧ es.length ≤ 400 ∧ ∀ H', Same H H' → Q (.bl true) H'
theorem ok_is_record (D : Df K mg "is_record" s_is_record) (T : Tx mg) (G_is_listed : Has P w K mg base 1 "is_listed" ["value", "most"] sp_is_listed) (G_is_entry : Has P w K mg base 2 "is_entry" ["value"] sp_is_entry) : Has P w K mg base 3 "is_record" ["value"] sp_is_record := by
  refine has_of D sc_is_record (fun _ _ _ _ _ _ us hl => match us, hl with | [_], _ => rfl) (fun vs H Q E h => ?_) (fun f cdv A outer s H vs Q E hr h => ?_)
  · obtain ⟨v, r, rfl, _⟩ := h
    rfl
  · obtain ⟨v, es, rfl, ⟨a, xs, rfl, hx, hp⟩, ok, l4, q⟩ := h
    have lx : xs.length = es.length := Paired.len hp
    refine ⟨_, (pss_one (ps_ret (pe_and (pe_callH G_is_listed (hr.mono (by omega)) (by rfl) (pa_cons (pv 0) (pa_cons (pe_glI T.c_MAX_ENTRIES (by rfl)) pa_nil))) (pe_one (pe_callB (cr_all rfl) (by rfl) T.n_all (by decide +kernel) (pa_cons (pe_lc (own := [("entry", 1)]) rfl sc_is_record.nd (pi_seqV 0) (blkOk_by (N := ["value", "entry"]) (sc := defScope s_is_record) (by decide +kernel)) (fun _ _ _ _ _ => (pg_name (i := 1) sc_is_record.nd rfl (by first | exact Or.inl rfl | exact Or.inr rfl))) (fun _ _ _ _ _ => pts_nil) (fun _ _ _ _ _ => (pe_callH G_is_entry (hr.mono (by omega)) (by rfl) (pa_cons (pv 1) pa_nil)))) pa_nil)))))), ?_⟩
    refine ⟨_, rfl, a, xs, 400, rfl, hx, fun H1 s1 => ?_⟩
    rw [decide_eq_true (show (xs.length : Int) ≤ 400 by omega)]
    refine ⟨true, rfl, iteT ?_⟩
    refine ⟨a, xs, rfl, hx.same s1, fun J wk L nL => lc_wk wk (fun i H' => Same H1 H' ∧ H' L = some (.lst ((List.replicate i true).map V.bl))) (fun _ _ p => p.1) ⟨same_upd nL, upd_same⟩ (fun i x H2 ex p => ?_) (fun H2 p => ?_)⟩
    · obtain ⟨sm, hL⟩ := p
      obtain ⟨r, er, hr1⟩ := Paired.at hp ex
      have hi : i < xs.length := (List.getElem?_eq_some_iff.mp ex).1
      refine ⟨rfl, yesT ⟨_, rfl, x, r, rfl, EnG.same (s1.trans sm) hr1, ok r (List.mem_of_getElem? er), fun H3 s3 => ⟨_, s3 _ _ hL, ?_, same_grow nL (sm.trans s3), ?_⟩⟩⟩
      · simp only [List.length_map, List.length_replicate]
        exact small (by omega)
      · rw [upd_same, List.replicate_succ', List.map_append]
        rfl
    · refine ⟨L, _, rfl, .of p.2, ?_⟩
      rw [all_rep]
      exact q _ (s1.trans p.1)
end
end UP

set_option Elab.async false
set_option linter.all false
set_option maxRecDepth 100000
set_option maxHeartbeats 4000000
namespace UP
open PySem PySem.Spec PyProof.Rows L2
section
variable {X : Cx} {K : PySem.W.Frag}
theorem op_notIn_seqK (h : X.K = K) : OpR X (compareOp .NotIn) (rIn K true) := h ▸ op_notIn_seq
theorem op_in_seqK (h : X.K = K) : OpR X (compareOp .In) (rIn K false) := h ▸ op_in_seq
end
def KsOk (ks : List Str) : Prop := 0 < ks.length ∧ ks.length ≤ 12 ∧ (∀ k ∈ ks, KindOk k) ∧ ∀ (i : Nat) (x y : Str), ks[i]? = some x → ks[i + 1]? = some y → x.cps.toList < y.cps.toList
theorem strR_of {x y : Str} (h : x.cps.toList = y.cps.toList) : x = y := by
  cases x with
  | mk a =>
    cases y with
    | mk b =>
      congr 1
      exact Array.ext' h
theorem rising_next : ∀ (l : List Str) (p : Str), risingS p l = true → ∀ (i : Nat) (x y : Str), (p :: l)[i]? = some x → (p :: l)[i + 1]? = some y → ltCps y.cps.toList x.cps.toList = false
  | [], p, _, i, x, y, _, h2 => by simp at h2
  | z :: t, p, h, 0, x, y, h1, h2 => by
    cases h1
    cases h2
    have h : (!ltCps z.cps.toList p.cps.toList && risingS z t) = true := h
    rw [Bool.and_eq_true] at h
    have := h.1
    cases e : ltCps z.cps.toList p.cps.toList with
    | false => rfl
    | true => rw [e] at this; cases this
  | z :: t, p, h, i + 1, x, y, h1, h2 => by
    have h : (!ltCps z.cps.toList p.cps.toList && risingS z t) = true := h
    rw [Bool.and_eq_true] at h
    exact rising_next t z h.2 i x y h1 h2
theorem ks_of {ks : List Str} (l0 : 0 < ks.length) (l1 : ks.length ≤ 12) (ok : ∀ k ∈ ks, KindOk k) (nd : ks.Nodup ∧ sortedS ks = true) : KsOk ks := by
  refine ⟨l0, l1, ok, fun i x y hx hy => ?_⟩
  cases ks with
  | nil => cases hx
  | cons p t =>
    have h := rising_next t p nd.2 i x y hx hy
    rw [ltCps_eq] at h
    have h := of_decide_eq_false h
    by_cases c : x.cps.toList < y.cps.toList
    · exact c
    · exfalso
      have e : x = y := strR_of (List.le_antisymm h c)
      obtain ⟨h1, e1⟩ := List.getElem?_eq_some_iff.mp hx
      obtain ⟨h2, e2⟩ := List.getElem?_eq_some_iff.mp hy
      have i1 := List.Nodup.idxOf_getElem nd.1 i h1
      have i2 := List.Nodup.idxOf_getElem nd.1 (i + 1) h2
      rw [e1, e] at i1
      rw [e2] at i2
      omega
theorem dp_strl {K : PySem.W.Frag} {H : Hp} : ∀ (l : List Str), DpAll K H (l.map V.str) (l.map PyData.str)
  | [] => .nil
  | x :: t => .cons (.str x) (dp_strl t)
theorem shaped_strl {l : List Str} (h : ∀ s ∈ l, KindOk s) : SeqAt.shaped (.list (l.map PyData.str)) = true := by
  have c : ∀ {l : List Str}, (∀ s ∈ l, KindOk s) → PyData.canLayAll0 (l.map PyData.str) = true ∧ PyData.depthAll (l.map PyData.str) ≤ 1 := by
    intro l h
    induction l with
    | nil => exact ⟨by simp [PyData.canLayAll0], by simp [PyData.depthAll]⟩
    | cons x t ih =>
      obtain ⟨h1, h2⟩ := ih fun s hs => h s (List.mem_cons_of_mem _ hs)
      refine ⟨?_, ?_⟩
      · rw [List.map_cons, PyData.canLayAll0, h1]
        simp [PyData.canLay0, (h x (List.mem_cons_self ..)).str]
      · rw [List.map_cons, PyData.depthAll]
        exact Nat.max_le.mpr ⟨by simp [PyData.depth], h2⟩
  obtain ⟨h1, h2⟩ := c h
  unfold SeqAt.shaped
  rw [PyData.canLay0, h1, PyData.depth]
  exact decide_eq_true (by omega)
theorem eqv_nilS (l : List Str) : PyData.eqv (.list (l.map PyData.str)) (.list []) = l.isEmpty := by
  cases l with
  | nil => simp [PyData.eqv, PyData.eqvAll]
  | cons r t => simp [PyData.eqv, PyData.eqvAll]
theorem filter_snoc {p : Str → Bool} {l : List Str} {i : Nat} {x : Str} (h : l[i]? = some x) : (l.take (i + 1)).filter p = (l.take i).filter p ++ if p x = true then [x] else [] := by
  rw [take_snoc h, List.filter_append]
  congr 1
  cases e : p x <;> simp [e]
theorem str_at {ks : List Str} {i : Nat} {x : V} (h : (ks.map V.str)[i]? = some x) : ∃ k, ks[i]? = some k ∧ x = .str k := by
  rw [List.getElem?_map] at h
  cases e : ks[i]? with
  | none =>
    rw [e] at h
    cases h
  | some n =>
    rw [e] at h
    exact ⟨n, rfl, (Option.some.inj h).symm⟩
theorem empty_iff {l : List Str} : l.isEmpty = true ↔ l = [] := by
  cases l <;> simp
section
variable {P : Program} {w : World} {K : PySem.W.Frag} {mg : Str → Option Value} {base : Heap}
/-! is_kinds: slots 0:value 1:kind 2:following -/
abbrev s_is_kinds : Stmt := topS 14
theorem sc_is_kinds : FnScope ["value", "kind", "following"] ["value"] (defScope s_is_kinds) := ⟨rfl, rfl, rfl, by decide +kernel, rfl, by decide +kernel, by decide +kernel⟩
def sp_is_kinds : Sp := fun vs H Q _ => ∃ (a : Addr) (ks : List Str), vs = [.ref a] ∧ Sq2 H a (ks.map V.str) ∧ KsOk ks ∧ ∀ H', Same H H' → Q (.bl true) H'
theorem ok_is_kinds (D : Df K mg "is_kinds" s_is_kinds) (T : Tx mg) (G_is_listed : Has P w K mg base 1 "is_listed" ["value", "most"] sp_is_listed) (G_is_kind : Has P w K mg base 1 "is_kind" ["value"] sp_is_kind) : Has P w K mg base 2 "is_kinds" ["value"] sp_is_kinds := by
  refine has_of D sc_is_kinds (fun _ _ _ _ _ _ us hl => match us, hl with | [_], _ => rfl) (fun vs H Q E h => ?_) (fun f cdv A outer s H vs Q E hr h => ?_)
  · obtain ⟨v, r, rfl, _⟩ := h
    rfl
  · obtain ⟨a, ks, rfl, hx, ⟨l0, l1, okk, asc⟩, q⟩ := h
    refine ⟨_, (pss_cons (ps_if (PW.pt (pw_or (pt_not (pt_val (pe_callH G_is_listed (hr.mono (by omega)) (by rfl) (pa_cons (pv 0) (pa_cons (pe_glI T.c_MAX_KINDS (by rfl)) pa_nil))))) (pw_or (pt_cmpR op_eq (pe_callB call_len_seq (by rfl) T.n_len (by decide +kernel) (pa_cons (pv 0) pa_nil)) pe_int (nomark _)) (pw_or1 (pt_not (pt_val (pe_callB (cr_all rfl) (by rfl) T.n_all (by decide +kernel) (pa_cons (pe_lc (own := [("kind", 1)]) rfl sc_is_kinds.nd (pi_seqV 0) (blkOk_by (N := ["value", "kind", "following"]) (sc := defScope s_is_kinds) (by decide +kernel)) (fun _ _ _ _ _ => (pg_name (i := 1) sc_is_kinds.nd rfl (by first | exact Or.inl rfl | exact Or.inr rfl))) (fun _ _ _ _ _ => pts_nil) (fun _ _ _ _ _ => (pe_callH G_is_kind (hr.mono (by omega)) (by rfl) (pa_cons (pv 1) pa_nil)))) pa_nil)))))))) (pss_one (ps_ret pe_bl)) pss_nil)
    (pss_one (ps_ret (pe_callB (cr_all rfl) (by rfl) T.n_all (by decide +kernel) (pa_cons (pe_lc (own := [("kind", 1), ("following", 2)]) rfl sc_is_kinds.nd (pi_zip1 (i := 0) (RZ.pi_zipA (by rfl) T.n_zip (pa_cons (pv 0) (pa_cons (pe_slice (SlR.or sl_list sl_tupA) (pv 0) (po_some pe_int) po_none) pa_nil))) (fun _ _ _ q => ⟨1, rfl, q⟩) (fun _ _ _ q => q)) (blkOk_by (N := ["value", "kind", "following"]) (sc := defScope s_is_kinds) (by decide +kernel)) (fun _ _ _ _ _ => (pg_tupK (K := K) (n := 2) rfl rfl (pgs_cons (pg_name (i := 1) sc_is_kinds.nd rfl (by first | exact Or.inl rfl | exact Or.inr rfl)) (pgs_cons (pg_name (i := 2) sc_is_kinds.nd rfl (by first | exact Or.inl rfl | exact Or.inr rfl)) pgs_nil)))) (fun _ _ _ _ _ => pts_nil) (fun _ _ _ _ _ => (pe_cmpR op_lt_str (pv 1) (pv 2) (nomark _)))) pa_nil))))), ?_⟩
    refine ⟨_, rfl, a, _, 12, rfl, hx, fun H1 s1 => ⟨_, rfl, iteN ?_ ?_⟩⟩
    · show (!decide (((ks.map V.str).length : Int) ≤ 12)) = false
      rw [List.length_map, decide_eq_true (by omega)]
      rfl
    refine ⟨_, rfl, a, _, rfl, (hx.same s1).elim (fun z => .inl (.of z)) (fun z => .inr (.of z)), rfl, _, rfl, iteN ?_ ?_⟩
    · refine decide_eq_false fun z => ?_
      have z := V.int.inj z
      rw [List.length_map] at z
      omega
    refine ⟨a, _, rfl, hx.same s1, fun J wk L nL => lc_wk wk (fun i H' => Same H1 H' ∧ H' L = some (.lst ((List.replicate i true).map V.bl))) (fun _ _ p => p.1) ⟨same_upd nL, upd_same⟩ (fun i x H2 ex p => ?_) (fun H2 p => ?_)⟩
    · obtain ⟨sm, hL⟩ := p
      obtain ⟨k, ek, rfl⟩ := str_at ex
      have hi : i < ks.length := (List.getElem?_eq_some_iff.mp ek).1
      refine ⟨rfl, yesT ⟨_, rfl, k, rfl, okk k (List.mem_of_getElem? ek), fun H3 s3 => ⟨_, s3 _ _ hL, ?_, same_grow nL (sm.trans s3), ?_⟩⟩⟩
      · simp only [List.length_map, List.length_replicate]
        exact small (by omega)
      · rw [upd_same, List.replicate_succ', List.map_append]
        rfl
    · refine ⟨L, _, rfl, .of p.2, _, rfl, iteN ?_ ?_⟩
      · rw [all_rep]
        rfl
      have s2 : Same H H2 := s1.trans p.1
      refine ⟨a, _, rfl, hx.same s2, fun J Hc sc wk M nM => ?_⟩
      have sA : Same H Hc := s2.trans sc
      refine lc_gen (n := (ks.map V.str).length - 1) (fun i H' => Same Hc H' ∧ H' M = some (.lst ((List.replicate i true).map V.bl))) ⟨same_upd nM, upd_same⟩ (fun i H' hi p => wk.go i H' p.1 (by omega)) (fun H' p => wk.stop H' p.1) (fun i x H3 H4 hi p y => ?_) (fun H' p => ?_)
      · obtain ⟨T', x1, x2, rfl, nT, rfl, g1, g2⟩ := wk.yld i x H3 H4 p.1 y
        obtain ⟨sm, hM⟩ := p
        have g2 := g2 (by omega)
        obtain ⟨k1, e1, rfl⟩ := str_at g1
        obtain ⟨k2, e2, rfl⟩ := str_at g2
        have hi2 : i < ks.length := (List.getElem?_eq_some_iff.mp e1).1
        refine ⟨T', _, rfl, .of upd_same, rfl, _, _, rfl, _, _, rfl, rfl, rfl, yesT ?_⟩
        refine ⟨_, rfl, _, rfl, _, _, rfl, rfl, _, same_upd nT _ _ hM, ?_, same_grow nM (sm.trans (same_upd nT)), ?_⟩
        · simp only [List.length_map, List.length_replicate]
          exact small (by omega)
        · rw [upd_same, List.replicate_succ', List.map_append, decide_eq_true (asc i k1 k2 e1 e2)]
          rfl
      · refine ⟨M, _, rfl, .of p.2, ?_⟩
        rw [all_rep]
        exact q _ (sA.trans p.1)
/-! check_kinds: slots 0:kinds -/
abbrev s_check_kinds : Stmt := topS 15
theorem sc_check_kinds : FnScope ["kinds"] ["kinds"] (defScope s_check_kinds) := ⟨rfl, rfl, rfl, by decide +kernel, rfl, by decide +kernel, by decide +kernel⟩
def sp_check_kinds : Sp := fun vs H Q _ => ∃ (a : Addr) (ks : List Str), vs = [.ref a] ∧ Sq2 H a (ks.map V.str) ∧ KsOk ks ∧ ∀ H', Same H H' → Q .non H'
theorem ok_check_kinds (D : Df K mg "check_kinds" s_check_kinds) (G_is_kinds : Has P w K mg base 2 "is_kinds" ["value"] sp_is_kinds) : Has P w K mg base 3 "check_kinds" ["kinds"] sp_check_kinds := by
  refine has_of D sc_check_kinds (fun _ _ _ _ _ _ us hl => match us, hl with | [_], _ => rfl) (fun vs H Q E h => ?_) (fun f cdv A outer s H vs Q E hr h => ?_)
  · obtain ⟨v, r, rfl, _⟩ := h
    rfl
  · obtain ⟨a, ks, rfl, hx, ok, q⟩ := h
    refine ⟨_, (pss_one (ps_if (pt_not (pt_val (pe_callH G_is_kinds (hr.mono (by omega)) (by rfl) (pa_cons (pv 0) pa_nil)))) (pss_one ps_never) pss_nil)), ?_⟩
    exact ⟨_, rfl, a, ks, rfl, hx, ok, fun H1 s1 => ⟨_, rfl, iteF (q _ s1)⟩⟩
end
end UP
set_option Elab.async false
set_option linter.all false
set_option maxRecDepth 100000
set_option maxHeartbeats 4000000
set_option pp.maxSteps 600
namespace UP
open PySem PySem.Spec PyProof.Rows L2
/-! ### records: the mathematics -/
def nxtE (l : Nat) (e : En) : Nat := if e.2 = true then l + 1 else l - 1
/-- what is left of the epoch under way, and the epochs behind it -/
def splE : Nat → List En → List En × List (List En)
  | _, [] => ([], [])
  | l, e :: t => if l = 0 then ([], (e :: (splE (nxtE l e) t).1) :: (splE (nxtE l e) t).2) else (e :: (splE (nxtE l e) t).1, (splE (nxtE l e) t).2)
def epsE (es : List En) : List (List En) := (splE 0 es).2
def lvlE : Nat → List En → Nat
  | l, [] => l
  | l, e :: t => lvlE (nxtE l e) t
theorem lvlE_app (l : Nat) (a b : List En) : lvlE l (a ++ b) = lvlE (lvlE l a) b := by
  induction a generalizing l with
  | nil => rfl
  | cons e t ih => exact ih _
theorem spl_zero (es : List En) : (splE 0 es).1 = [] := by
  cases es with
  | nil => rfl
  | cons e t => rw [splE, if_pos rfl]
/-- the epochs so far, and what comes -/
def attE (eps : List (List En)) (l : Nat) (r : List En × List (List En)) : List (List En) := if l = 0 then eps ++ r.2 else eps.dropLast ++ (eps.getLastD [] ++ r.1) :: r.2
/-- one entry more -/
def putE (eps : List (List En)) (l : Nat) (e : En) : List (List En) := if l = 0 then eps ++ [[e]] else eps.dropLast ++ [eps.getLastD [] ++ [e]]
def goE : List (List En) → Nat → List En → List (List En)
  | eps, _, [] => eps
  | eps, l, e :: t => goE (putE eps l e) (nxtE l e) t
theorem goE_app : ∀ (a b : List En) (eps : List (List En)) (l : Nat), goE eps l (a ++ b) = goE (goE eps l a) (lvlE l a) b
  | [], _, _, _ => rfl
  | e :: t, b, eps, l => goE_app t b _ _
theorem putE_ne (eps : List (List En)) (l : Nat) (e : En) : putE eps l e ≠ [] := by
  unfold putE
  split <;> simp
theorem goE_eq : ∀ (es : List En) (eps : List (List En)) (l : Nat), (l ≠ 0 → eps ≠ []) → goE eps l es = attE eps l (splE l es)
  | [], eps, l, h => by
    unfold attE
    rw [splE]
    split
    · rw [List.append_nil]
      rfl
    · next c =>
      have hn := h c
      rw [List.append_nil]
      show eps = _
      have : eps.getLastD [] = eps.getLast hn := by
        rw [List.getLastD_eq_getLast?, List.getLast?_eq_some_getLast hn]
        rfl
      rw [this]
      exact (List.dropLast_concat_getLast hn).symm
  | e :: t, eps, l, h => by
    rw [goE, goE_eq t _ _ (fun _ => putE_ne _ _ _), splE]
    by_cases c : l = 0
    · rw [if_pos c]
      unfold attE putE
      rw [if_pos c, if_pos c]
      by_cases c2 : nxtE l e = 0
      · rw [if_pos c2, c2, spl_zero]
        simp
      · rw [if_neg c2]
        simp
    · rw [if_neg c]
      unfold attE putE
      rw [if_neg c, if_neg c]
      by_cases c2 : nxtE l e = 0
      · rw [if_pos c2, c2, spl_zero]
        simp
      · rw [if_neg c2]
        simp
theorem go_eps (es : List En) : goE [] 0 es = epsE es := by
  rw [goE_eq es [] 0 (fun h => absurd rfl h)]
  unfold attE epsE
  rw [if_pos rfl, List.nil_append]
/-- the epochs one behind the other are the record -/
theorem spl_join : ∀ (es : List En) (l : Nat), (splE l es).1 ++ (splE l es).2.flatten = es
  | [], _ => rfl
  | e :: t, l => by
    rw [splE]
    split
    · show [] ++ ((e :: (splE (nxtE l e) t).1) :: (splE (nxtE l e) t).2).flatten = _
      rw [List.flatten_cons, List.nil_append, List.cons_append, spl_join t]
    · rw [List.cons_append, spl_join t]
theorem eps_join (es : List En) : (epsE es).flatten = es := by
  have := spl_join es 0
  rw [spl_zero] at this
  exact this
theorem spl_ne : ∀ (es : List En) (l : Nat), ∀ ep ∈ (splE l es).2, ep ≠ []
  | [], _, ep, h => by cases h
  | e :: t, l, ep, h => by
    rw [splE] at h
    split at h
    · rcases List.mem_cons.mp h with z | z
      · rw [z]; simp
      · exact spl_ne t _ ep z
    · exact spl_ne t _ ep h
theorem eps_ne {es : List En} : ∀ ep ∈ epsE es, ep ≠ [] := spl_ne es 0
theorem eps_len (es : List En) : (epsE es).length ≤ es.length := by
  have h := congrArg List.length (eps_join es)
  rw [List.length_flatten] at h
  have gen : ∀ (L : List (List En)), (∀ ep ∈ L, ep ≠ []) → L.length ≤ (L.map List.length).sum := by
    intro L
    induction L with
    | nil => intro _; exact Nat.le_refl _
    | cons a t ih =>
      intro k
      have h1 := List.length_pos_iff.mpr (k a (List.mem_cons_self ..))
      have h2 := ih fun ep he => k ep (List.mem_cons_of_mem _ he)
      rw [List.map_cons, List.sum_cons, List.length_cons]
      omega
  have := gen (epsE es) eps_ne
  omega
theorem eps_mem {es ep : List En} (h : ep ∈ epsE es) : ∀ e ∈ ep, e ∈ es := fun e he => by
  rw [← eps_join es]
  exact List.mem_flatten.mpr ⟨ep, h, he⟩
theorem ep_len {es ep : List En} (h : ep ∈ epsE es) : ep.length ≤ es.length := by
  have e := congrArg List.length (eps_join es)
  rw [List.length_flatten] at e
  have : ep.length ≤ ((epsE es).map List.length).sum := by
    have gen : ∀ (L : List (List En)), ep ∈ L → ep.length ≤ (L.map List.length).sum := by
      intro L
      induction L with
      | nil => intro h; cases h
      | cons a t ih =>
        intro h
        rw [List.map_cons, List.sum_cons]
        rcases List.mem_cons.mp h with z | z
        · rw [z]; omega
        · have := ih z
          omega
    exact gen _ h
  omega
/-! ### options -/
def knE (ep : List En) (b : Bool) : List Str := ep.filterMap fun e => if e.2 = b then e.1 else none
def optW (ks : List Str) (ep : List En) : List Str := match ep with
  | [] => []
  | e :: _ => if e.2 = true then ks.filter (fun k => !(decide (k ∈ knE ep false)) && (knE ep true).all fun w => decide (k = w)) else []
def optL (ks : List Str) (w : Str) (e : En) : List Str := if e.2 = true then [w] else match e.1 with
  | none => ks.filter fun k => !decide (k = w)
  | some k => [k]
def numP (ks : List Str) (ep : List En) : List Nat := (optW ks ep).length :: ep.tail.map fun e => (optL ks (ks.headD "") e).length
def numE (ks : List Str) (es : List En) : List Nat := (epsE es).flatMap (numP ks)
def prodN (l : List Nat) : Nat := l.foldl (· * ·) 1
def cntE (ks : List Str) (es : List En) : Nat := prodN (numE ks es)
def optP (ks : List Str) (ep : List En) (w : Str) : List (List Str) := optW ks ep :: ep.tail.map (optL ks w)
def optE (ks : List Str) : List (List En) → List Str → List (List Str)
  | [], _ => []
  | ep :: r, its => optP ks ep (its.headD "") ++ optE ks r (its.drop ep.length)
end UP

set_option Elab.async false
set_option linter.all false
set_option maxRecDepth 100000
set_option maxHeartbeats 4000000
set_option pp.maxSteps 900
namespace UP
open PySem PySem.Spec PyProof.Rows L2
theorem cr_allK {X : Cx} {K : PySem.W.Frag} (h : X.K = K) (hc : X.calm = true) : CallR X (.builtin "all") (rAll K) := h ▸ cr_all hc
def InK (ks : List Str) (es : List En) : Prop := ∀ e ∈ es, ∀ k, e.1 = some k → k ∈ ks
theorem flat_strs (ks : List Str) : (ks.map V.str).all flatV = true := by
  rw [List.all_map, List.all_eq_true]
  intro k _
  rfl
theorem inV_strs (k : Str) (ks : List Str) : inV (.str k) (ks.map V.str) = decide (k ∈ ks) := by
  unfold inV
  rw [List.any_map]
  induction ks with
  | nil => rfl
  | cons x t ih =>
    rw [List.any_cons, ih]
    by_cases e : k = x
    · subst e
      simp [eqV]
    · have e2 : ¬ x = k := fun z => e z.symm
      simp [eqV, e, e2]
theorem filt_snoc {α : Type} {p : α → Bool} {l : List α} {i : Nat} {x : α} (h : l[i]? = some x) : (l.take (i + 1)).filter p = (l.take i).filter p ++ if p x = true then [x] else [] := by
  rw [take_snoc h, List.filter_append]
  congr 1
  cases e : p x <;> simp [e]
theorem act_eq (x b : Bool) : decide (V.str (actS x) = V.str (actS b)) = decide (x = b) := by
  cases x <;> cases b <;> decide +kernel
theorem str_dec (a b : Str) : decide (V.str a = V.str b) = decide (a = b) := decide_eq_decide.mpr ⟨fun h => V.str.inj h, fun h => congrArg V.str h⟩
theorem kn_snoc {es : List En} {i : Nat} {e : En} {b : Bool} (h : es[i]? = some e) : knE (es.take (i + 1)) b = knE (es.take i) b ++ (if e.2 = b then e.1 else none).toList := by
  unfold knE
  rw [take_snoc h, List.filterMap_append]
  congr 1
  all_goals (rw [List.filterMap_cons, List.filterMap_nil]; cases (if e.2 = b then e.1 else none) <;> rfl)
theorem kn_len (es : List En) (b : Bool) : (knE es b).length ≤ es.length := List.length_filterMap_le _ _
theorem yes_non : (!decide (V.non = V.non)) = false := by rw [decide_eq_true rfl]; rfl
theorem no_non (k : Str) : (!decide (V.str k = V.non)) = true := by rw [decide_eq_false (fun z => by cases z)]; rfl
theorem if_gen {c : TT} {t u rest : TS} {D : Ends} {σ : L2.St} {H : Hp} (Ok : L2.St → Hp → Prop) (h : ∀ R : L2.St → Hp → Prop, (∀ σ' H', Ok σ' H' → R σ' H') → tIfS c t u { D with nx := R } σ H) (k : ∀ σ' H', Ok σ' H' → rest D σ' H') : tSeq (tIfS c t u) rest D σ H := h (rest D) k
theorem EnV.grow {H : Hp} {D : Addr} {acc : List V} {o : HO} {v : V} {e : En} (hD : H D = some (.lst acc)) (h : EnV H v e) : EnV (upd H D o) v e := h.tk fun t xs z => by
  rw [upd_ne (ne_of z hD (by intro y; cases y))]
  exact z
theorem paired_last {α β : Type} {F : α → β → Prop} : ∀ {xs : List α} {ys : List β}, Paired F xs ys → xs ≠ [] → ∃ xi x yi y, xs = xi ++ [x] ∧ ys = yi ++ [y] ∧ Paired F xi yi ∧ F x y
  | _, _, .nil, h => absurd rfl h
  | [x], [y], .cons h .nil, _ => ⟨[], x, [], y, rfl, rfl, .nil, h⟩
  | x :: x2 :: t, y :: y2 :: u, .cons h p, _ => by
    obtain ⟨xi, x', yi, y', e1, e2, h1, h2⟩ := paired_last p (by simp)
    exact ⟨x :: xi, x', y :: yi, y', by rw [e1]; rfl, by rw [e2]; rfl, .cons h h1, h2⟩
/-! ### epochs in the heap -/
def EpV (H : Hp) (v : V) (ep : List En) : Prop := ∃ t, v = .ref t ∧ Rec H t ep
def Eps (H : Hp) (p : Addr) (L : List (List En)) : Prop := ∃ refs, H p = some (.lst refs) ∧ Paired (EpV H) refs L
theorem EpV.same {H H' : Hp} {v : V} {ep : List En} (s : Same H H') (h : EpV H v ep) : EpV H' v ep := by
  obtain ⟨t, e, h⟩ := h
  exact ⟨t, e, h.same s⟩
theorem Eps.same {H H' : Hp} {p : Addr} {L : List (List En)} (s : Same H H') (h : Eps H p L) : Eps H' p L := by
  obtain ⟨refs, e, h⟩ := h
  exact ⟨refs, s _ _ e, Paired.imp (fun _ _ z => EpV.same s z) h⟩
theorem EpV.grow {H : Hp} {D : Addr} {acc : List V} {o : HO} {t : Addr} {ep : List En} (hD : H D = some (.lst acc)) (n : t ≠ D) (h : EpV H (.ref t) ep) : EpV (upd H D o) (.ref t) ep := by
  obtain ⟨t', e, xs, hx, hp⟩ := h
  cases e
  exact ⟨t, rfl, xs, by rw [upd_ne n]; exact hx, Paired.imp (fun _ _ z => EnV.grow hD z) hp⟩
theorem eps_grow {H : Hp} {D : Addr} {acc : List V} {o : HO} (hD : H D = some (.lst acc)) {refs : List V} {L : List (List En)} (h : Paired (EpV H) refs L) : (∀ t, V.ref t ∈ refs → t ≠ D) → Paired (EpV (upd H D o)) refs L := by
  induction h with
  | nil => intro _; exact .nil
  | @cons x ep _ _ h _ ih =>
    intro n
    obtain ⟨t, rfl, hr⟩ := h
    exact .cons (EpV.grow hD (n t (List.mem_cons_self ..)) ⟨t, rfl, hr⟩) (ih fun t ht => n t (List.mem_cons_of_mem _ ht))
section
variable {P : Program} {w : World} {K : PySem.W.Frag} {mg : Str → Option Value} {base : Heap}
/-! checked_entries: slots 0:kinds 1:record 2:kind 3:action -/
abbrev s_checked_entries : Stmt := topS 28
theorem sc_checked_entries : FnScope ["kinds", "record", "kind", "action"] ["kinds", "record"] (defScope s_checked_entries) := ⟨rfl, rfl, rfl, by decide +kernel, rfl, by decide +kernel, by decide +kernel⟩
def sp_checked_entries : Sp := fun vs H Q _ => ∃ (a : Addr) (v : V) (ks : List Str) (es : List En), vs = [.ref a, v] ∧ Sq2 H a (ks.map V.str) ∧ KsOk ks ∧ RecG H v es ∧ InK ks es ∧ es.length ≤ 400 ∧ ∀ H' p, Same H H' → H p = none → Rec H' p es → Q (.ref p) H'
theorem ok_checked_entries (D : Df K mg "checked_entries" s_checked_entries) (T : Tx mg) (G_check_kinds : Has P w K mg base 3 "check_kinds" ["kinds"] sp_check_kinds) (G_is_record : Has P w K mg base 3 "is_record" ["value"] sp_is_record) : Has P w K mg base 4 "checked_entries" ["kinds", "record"] sp_checked_entries := by
  refine has_of D sc_checked_entries (fun _ _ _ _ _ _ us hl => match us, hl with | [_, _], _ => rfl) (fun vs H Q E h => ?_) (fun f cdv A outer s H vs Q E hr h => ?_)
  · obtain ⟨_, _, _, _, rfl, _⟩ := h
    rfl
  · obtain ⟨a, v, ks, es, rfl, ha, kso, hv, ink, l4, q⟩ := h
    refine ⟨_, (pss_cons (ps_expr (pe_callH G_check_kinds (hr.mono (by omega)) (by rfl) (pa_cons (pv 0) pa_nil)))
    (pss_cons (ps_if (pt_not (pt_val (pe_callH G_is_record (hr.mono (by omega)) (by rfl) (pa_cons (pv 1) pa_nil)))) (pss_one ps_never) pss_nil)
    (pss_cons (ps_if (pt_not (pt_val (pe_callB (cr_all rfl) (by rfl) T.n_all (by decide +kernel) (pa_cons (pe_lc (own := [("kind", 2), ("action", 3)]) rfl sc_checked_entries.nd (pi_seqV 1) (blkOk_by (N := ["kinds", "record", "kind", "action"]) (sc := defScope s_checked_entries) (by decide +kernel)) (fun _ _ _ _ _ => (pg_any (n := 2) rfl (pgs_cons (pg_name (i := 2) sc_checked_entries.nd rfl (by first | exact Or.inl rfl | exact Or.inr rfl)) (pgs_cons (pg_name (i := 3) sc_checked_entries.nd rfl (by first | exact Or.inl rfl | exact Or.inr rfl)) pgs_nil)))) (fun _ _ _ _ _ => pts_nil) (fun _ _ _ _ _ => (pe_or (pe_cmpR op_isN (pv 2) pe_non (nomark _)) (pe_one (pe_cmpR (op_in_seqK (K := K) rfl) (pv 2) (pv 0) (by with_unfolding_all rfl)))))) pa_nil)))) (pss_one ps_never) pss_nil)
    (pss_one (ps_ret (pe_lc (own := [("kind", 2), ("action", 3)]) rfl sc_checked_entries.nd (pi_seqV 1) (blkOk_by (N := ["kinds", "record", "kind", "action"]) (sc := defScope s_checked_entries) (by decide +kernel)) (fun _ _ _ _ _ => (pg_any (n := 2) rfl (pgs_cons (pg_name (i := 2) sc_checked_entries.nd rfl (by first | exact Or.inl rfl | exact Or.inr rfl)) (pgs_cons (pg_name (i := 3) sc_checked_entries.nd rfl (by first | exact Or.inl rfl | exact Or.inr rfl)) pgs_nil)))) (fun _ _ _ _ _ => pts_nil) (fun _ _ _ _ _ => (pe_tup (pa_cons (pv 2) (pa_cons (pv 3) pa_nil)))))))))), ?_⟩
    have ok : ∀ e ∈ es, EnOk e := fun e he k hk => kso.2.2.1 k (ink e he k hk)
    refine ⟨_, rfl, a, ks, rfl, ha, kso, fun H1 s1 => ?_⟩
    refine ⟨_, rfl, v, es, rfl, hv.same s1, ok, l4, fun H2 s2 => ⟨true, rfl, iteF ?_⟩⟩
    have s12 := s1.trans s2
    obtain ⟨b, xs, rfl, hx, hp⟩ := hv
    have lx : xs.length = es.length := Paired.len hp
    refine ⟨b, xs, rfl, hx.same s12, fun J wk L nL => lc_wk wk (fun i H' => Same H2 H' ∧ H' L = some (.lst ((List.replicate i true).map V.bl))) (fun _ _ p => p.1) ⟨same_upd nL, upd_same⟩ (fun i x H3 ex p => ?_) (fun H3 p => ?_)⟩
    · obtain ⟨sm, hL⟩ := p
      obtain ⟨e, ee, hr1⟩ := Paired.at hp ex
      obtain ⟨t, rfl, ht⟩ := EnG.same (s12.trans sm) hr1
      have hi : i < xs.length := (List.getElem?_eq_some_iff.mp ex).1
      have fin : (List.map V.bl (List.replicate i true)).length < sizeLine ∧ Same H2 (upd H3 L (.lst (List.map V.bl (List.replicate i true) ++ [V.bl true]))) ∧ (upd H3 L (.lst (List.map V.bl (List.replicate i true) ++ [V.bl true]))) L = some (.lst ((List.replicate (i + 1) true).map V.bl)) := by
        refine ⟨?_, same_grow nL sm, ?_⟩
        · simp only [List.length_map, List.length_replicate]
          exact small (by omega)
        · rw [upd_same, List.replicate_succ', List.map_append]
          rfl
      refine ⟨t, _, rfl, ht, rfl, _, _, rfl, _, _, rfl, rfl, rfl, yesT ?_⟩
      obtain ⟨k, c⟩ := e
      cases k with
      | none => exact ⟨_, rfl, rfl, _, rfl, iteP (decide_eq_true rfl) ⟨_, hL, fin⟩⟩
      | some k =>
        refine ⟨_, rfl, rfl, _, rfl, iteN (decide_eq_false (fun z => by cases z)) ⟨_, rfl, _, rfl, a, _, rfl, ((ha.same s12).same sm).elim (fun z => .inl (.of z)) (fun z => .inr (.of z)), rfl, flat_strs ks, ?_⟩⟩
        have e9 : inV (koV (some k)) (ks.map V.str) = true := by
          show inV (.str k) _ = true
          rw [inV_strs]
          exact decide_eq_true (ink _ (List.mem_of_getElem? ee) k rfl)
        show (fun y H4 => _) (V.bl (inV (koV (some k)) (ks.map V.str))) H3
        rw [e9]
        exact ⟨_, hL, fin⟩
    obtain ⟨s3, hL⟩ := p
    refine ⟨L, _, rfl, .of hL, ?_⟩
    rw [all_rep]
    refine ⟨true, rfl, iteF ?_⟩
    have s13 := s12.trans s3
    refine ⟨b, xs, rfl, hx.same s13, fun J wk L nL => lc_wk wk (fun i H' => Same H3 H' ∧ ∃ ys, H' L = some (.lst ys) ∧ Paired (EnV H') ys (es.take i)) (fun _ _ p => p.1) ⟨same_upd nL, [], upd_same, .nil⟩ (fun i x H4 ex p => ?_) (fun H4 p => ?_)⟩
    · obtain ⟨sm, ys, hL, hy⟩ := p
      obtain ⟨e, ee, hr1⟩ := Paired.at hp ex
      obtain ⟨t, rfl, ht⟩ := EnG.same (s13.trans sm) hr1
      have hi : i < xs.length := (List.getElem?_eq_some_iff.mp ex).1
      refine ⟨t, _, rfl, ht, rfl, _, _, rfl, _, _, rfl, rfl, rfl, yesT ⟨_, rfl, _, rfl, (by show 2 ≤ sizeLine; decide), fun n nn => ⟨ys, same_upd nn _ _ hL, ?_, same_grow nL (sm.trans (same_upd nn)), ys ++ [.ref n], upd_same, ?_⟩⟩⟩
      · have := Paired.len hy
        rw [List.length_take] at this
        exact small (by omega)
      · rw [take_snoc ee]
        exact Paired.app (Paired.imp (fun _ _ z => EnV.grow (same_upd nn _ _ hL) (EnV.same (same_upd nn) z)) hy) (.cons (EnV.grow (same_upd nn _ _ hL) ⟨n, rfl, upd_same⟩) .nil)
    · obtain ⟨sm, ys, hL, hy⟩ := p
      rw [lx, List.take_length] at hy
      exact q _ _ (s13.trans sm) (s13.free nL) ⟨ys, hL, hy⟩
/-! known_kinds: slots 0:entries 1:wanted 2:kind 3:action -/
abbrev s_known_kinds : Stmt := topS 29
theorem sc_known_kinds : FnScope ["entries", "wanted", "kind", "action"] ["entries", "wanted"] (defScope s_known_kinds) := ⟨rfl, rfl, rfl, by decide +kernel, rfl, by decide +kernel, by decide +kernel⟩
def sp_known_kinds : Sp := fun vs H Q _ => ∃ (a : Addr) (es : List En) (b : Bool), vs = [.ref a, .str (actS b)] ∧ Rec H a es ∧ es.length ≤ 400 ∧ ∀ H' p, Same H H' → H p = none → H' p = some (.lst ((knE es b).map V.str)) → Q (.ref p) H'
theorem ok_known_kinds (D : Df K mg "known_kinds" s_known_kinds) : Has P w K mg base 1 "known_kinds" ["entries", "wanted"] sp_known_kinds := by
  refine has_of D sc_known_kinds (fun _ _ _ _ _ _ us hl => match us, hl with | [_, _], _ => rfl) (fun vs H Q E h => ?_) (fun f cdv A outer s H vs Q E hr h => ?_)
  · obtain ⟨_, _, _, rfl, _⟩ := h
    rfl
  · obtain ⟨a, es, b, rfl, ⟨xs, hx, hp⟩, l4, q⟩ := h
    refine ⟨_, (pss_one (ps_ret (pe_lc (own := [("kind", 2), ("action", 3)]) rfl sc_known_kinds.nd (pi_list (pv 0)) (blkOk_by (N := ["entries", "wanted", "kind", "action"]) (sc := defScope s_known_kinds) (by decide +kernel)) (fun _ _ _ _ _ => (pg_tupK (K := K) (n := 2) rfl rfl (pgs_cons (pg_name (i := 2) sc_known_kinds.nd rfl (by first | exact Or.inl rfl | exact Or.inr rfl)) (pgs_cons (pg_name (i := 3) sc_known_kinds.nd rfl (by first | exact Or.inl rfl | exact Or.inr rfl)) pgs_nil)))) (fun _ _ _ _ _ => pts_one (PW.pt (pw_and (pt_cmpR op_eq (pv 3) (pv 1) (nomark _)) (pw_and1 (pt_cmpR op_notN (pv 2) pe_non (nomark _)))))) (fun _ _ _ _ _ => (pv 2))))), ?_⟩
    have lx := Paired.len hp
    refine ⟨_, rfl, a, rfl, ⟨xs, .of hx⟩, fun L nL => lc_list (K := K) (a := a) (xs := xs) (fun i H' => Same H H' ∧ H' L = some (.lst ((knE (es.take i) b).map V.str))) ⟨same_upd nL, upd_same⟩ (fun i H' _ p => .of (p.1 _ _ hx)) (fun i x H1 ex hP => ?_) (fun H1 hP => ?_)⟩
    · obtain ⟨sm, hL⟩ := hP
      obtain ⟨e, ee, hr1⟩ := Paired.at hp ex
      obtain ⟨t, rfl, ht⟩ := EnV.same sm hr1
      have hi : i < xs.length := (List.getElem?_eq_some_iff.mp ex).1
      refine ⟨t, _, rfl, .of ht, rfl, _, _, rfl, _, _, rfl, rfl, rfl, _, rfl, _, rfl, rfl, _, rfl, ?_⟩
      rw [kn_snoc ee]
      obtain ⟨k, c⟩ := e
      by_cases hc : c = b
      · subst hc
        refine iteP (decide_eq_true rfl) ⟨_, rfl, rfl, _, rfl, ?_⟩
        rw [if_pos rfl]
        cases k with
        | none =>
          refine iteN yes_non ⟨sm, ?_⟩
          show _ = some (HO.lst ((_ ++ []).map V.str))
          rw [List.append_nil]
          exact hL
        | some k =>
          refine iteP (no_non k) ⟨_, rfl, _, hL, ?_, same_grow nL sm, ?_⟩
          · have h1 := kn_len (es.take i) c
            rw [List.length_take] at h1
            rw [List.length_map]
            exact small (by omega)
          · rw [upd_same, List.map_append]
            rfl
      · refine iteN ((act_eq c b).trans (decide_eq_false hc)) (iteF ⟨sm, ?_⟩)
        rw [if_neg hc]
        show _ = some (HO.lst ((_ ++ []).map V.str))
        rw [List.append_nil]
        exact hL
    · obtain ⟨sm, hL⟩ := hP
      rw [lx, List.take_length] at hL
      exact q _ _ sm nL hL
/-! epochs_of: slots 0:entries 1:epochs 2:level 3:kind 4:action -/
abbrev s_epochs_of : Stmt := topS 30
theorem sc_epochs_of : FnScope ["entries", "epochs", "level", "kind", "action"] ["entries"] (defScope s_epochs_of) := ⟨rfl, rfl, rfl, by decide +kernel, rfl, by decide +kernel, by decide +kernel⟩
def sp_epochs_of : Sp := fun vs H Q _ => ∃ (a : Addr) (es : List En), vs = [.ref a] ∧ Rec H a es ∧ es.length ≤ 400 ∧ ∀ H' p refs, Same H H' → H p = none → H' p = some (.lst refs) → Paired (EpV H') refs (epsE es) → (∀ t, V.ref t ∈ refs → H t = none) → Q (.ref p) H'
theorem ok_epochs_of (D : Df K mg "epochs_of" s_epochs_of) (T : Tx mg) : Has P w K mg base 1 "epochs_of" ["entries"] sp_epochs_of := by
  refine has_of D sc_epochs_of (fun _ _ _ _ _ _ us hl => match us, hl with | [_], _ => rfl) (fun vs H Q E h => ?_) (fun f cdv A outer s H vs Q E hr h => ?_)
  · obtain ⟨_, _, rfl, _⟩ := h
    rfl
  · obtain ⟨a, es, rfl, ⟨xs, hx, hp⟩, l4, q⟩ := h
    have lx := Paired.len hp
    refine ⟨_, (pss_cons (ps_set (i := 1) sc_epochs_of.nd rfl (by first | exact Or.inl rfl | exact Or.inr rfl) (pe_lst pa_nil))
    (pss_cons (ps_set (i := 2) sc_epochs_of.nd rfl (by first | exact Or.inl rfl | exact Or.inr rfl) pe_int)
    (pss_cons (ps_for PassesOwn.never rfl (pi_list (pv 0)) (pg_tup rfl (pgs_cons (pg_name (i := 3) sc_epochs_of.nd rfl (by first | exact Or.inl rfl | exact Or.inr rfl)) (pgs_cons (pg_name (i := 4) sc_epochs_of.nd rfl (by first | exact Or.inl rfl | exact Or.inr rfl)) pgs_nil)))
      (pss_cons (ps_if (pt_cmpR op_eq (pv 2) pe_int (nomark _)) (pss_one (ps_expr (pe_bm PySem.F.plainAttrs_list PySem.F.slot_list_append PySem.F.type_list_append mt_append (pv 1) (pa_cons (pe_lst pa_nil) pa_nil)))) pss_nil)
    (pss_cons (ps_expr (pe_bm PySem.F.plainAttrs_list PySem.F.slot_list_append PySem.F.type_list_append mt_append (pe_ix ix_list (pv 1) (pe_un un_neg pe_int) (fun _ _ => rfl)) (pa_cons (pe_tup (pa_cons (pv 3) (pa_cons (pv 4) pa_nil))) pa_nil)))
    (pss_one (ps_set (i := 2) sc_epochs_of.nd rfl (by first | exact Or.inl rfl | exact Or.inr rfl) (pe_ifExp (pt_cmpR op_eq (pv 4) pe_str (nomark _)) (pe_op op_add (pv 2) pe_int) (pe_callB (call_max2 rfl) (by rfl) T.n_max (by decide +kernel) (pa_cons (pe_op op_sub (pv 2) pe_int) (pa_cons pe_int pa_nil)))))))))
    (pss_one (ps_ret (pv 1)))))), ?_⟩
    refine ⟨Nat.zero_le _, fun E0 nE => ?_⟩
    have aE : a ≠ E0 := ne_of_none hx nE
    refine ⟨_, rfl, a, rfl, ⟨xs, .of (same_upd nE _ _ hx)⟩, for_list (K := K) (a := a) (xs := xs) (fun i σ H' => ∃ refs y3 y4, σ = [some (.ref a), some (.ref E0), some (.int ((lvlE 0 (es.take i) : Nat) : Int)), y3, y4] ∧ Same H H' ∧ H' E0 = some (.lst refs) ∧ Paired (EpV H') refs (goE [] 0 (es.take i)) ∧ refs.Nodup ∧ (∀ t, V.ref t ∈ refs → H t = none ∧ t ≠ E0) ∧ refs.length ≤ i)
      ⟨[], none, none, rfl, same_upd nE, upd_same, .nil, List.nodup_nil, (fun t h => by cases h), Nat.le_refl _⟩ (fun i σ H' _ hP => ?_) (fun i x σ H1 ex hP => ?_) (fun σ H1 hP => ?_)⟩
    · obtain ⟨_, _, _, _, sm, _⟩ := hP
      exact .of (sm _ _ hx)
    · obtain ⟨refs, y3, y4, rfl, sm, hE, hr1, nd, fr, lr⟩ := hP
      obtain ⟨e, ee, he⟩ := Paired.at hp ex
      obtain ⟨t, rfl, ht⟩ := EnV.same sm he
      have hi : i < xs.length := (List.getElem?_eq_some_iff.mp ex).1
      have et : es.take (i + 1) = es.take i ++ [e] := take_snoc ee
      have eg : goE [] 0 (es.take (i + 1)) = putE (goE [] 0 (es.take i)) (lvlE 0 (es.take i)) e := by rw [et, goE_app]; rfl
      have el : lvlE 0 (es.take (i + 1)) = nxtE (lvlE 0 (es.take i)) e := by rw [et, lvlE_app]; rfl
      have hne : lvlE 0 (es.take i) ≠ 0 → refs ≠ [] := fun c z => by
        have : goE [] 0 (es.take i) ≠ [] := by
          cases h5 : es.take i with
          | nil => rw [h5] at c; exact absurd rfl c
          | cons e0 t0 =>
            intro z0
            have hj := congrArg List.flatten z0
            rw [go_eps, eps_join] at hj
            cases hj
        rw [z] at hr1
        cases h6 : goE [] 0 (es.take i) with
        | nil => exact this h6
        | cons _ _ => rw [h6] at hr1; cases hr1
      have hfl : ((putE (goE [] 0 (es.take i)) (lvlE 0 (es.take i)) e).flatten).length ≤ 400 := by
        rw [← eg, go_eps, eps_join, List.length_take]
        omega
      rw [eg, el]
      generalize goE [] 0 (es.take i) = EP at *
      generalize lvlE 0 (es.take i) = l at *
      refine ⟨t, _, rfl, .of ht, rfl, _, _, rfl, _, _, rfl, rfl, ?_⟩
      dsimp only
      refine if_gen (fun σ' H' => σ' = [some (.ref a), some (.ref E0), some (.int (l : Int)), some (koV e.1), some (.str (actS e.2))] ∧ ∃ refs EP', Same H H' ∧ H' E0 = some (.lst refs) ∧ Paired (EpV H') refs EP' ∧ refs.Nodup ∧ (∀ t, V.ref t ∈ refs → H t = none ∧ t ≠ E0) ∧ refs.length ≤ i + 1 ∧ refs ≠ [] ∧ putE EP l e = EP'.dropLast ++ [EP'.getLastD [] ++ [e]]) (fun R k => ?_) (fun σ' H2 hO => ?_)
      · refine ⟨_, rfl, rfl, _, rfl, ?_⟩
        by_cases c : l = 0
        · refine iteP (decide_eq_true (by rw [c]; rfl)) ?_
          refine ⟨_, rfl, .inl ⟨rfl, _, SqL.of hE⟩, Nat.zero_le _, fun n nn => ⟨E0, _, _, rfl, rfl, same_upd nn _ _ hE, small (by omega), ?_⟩⟩
          have hnE : n ≠ E0 := fun z => by rw [z, hE] at nn; cases nn
          have hn : H n = none := sm.free nn
          refine k _ _ ⟨rfl, refs ++ [.ref n], EP ++ [[]], ?_, upd_same, ?_, ?_, ?_, ?_, by simp, ?_⟩
          · exact same_grow nE (sm.trans (same_upd nn))
          · refine Paired.app (eps_grow (same_upd nn _ _ hE) (Paired.imp (fun _ _ z => EpV.same (same_upd nn) z) hr1) fun t ht => (fr t ht).2) (.cons ⟨n, rfl, [], ?_, .nil⟩ .nil)
            rw [upd_ne hnE, upd_same]
          · refine List.nodup_append.mpr ⟨nd, List.nodup_cons.mpr ⟨by simp, List.nodup_nil⟩, fun b hb c hc => ?_⟩
            rw [List.mem_singleton.mp hc]
            intro z
            rw [z] at hb
            obtain ⟨j, hj, ej⟩ := List.mem_iff_getElem.mp hb
            obtain ⟨r', _, ⟨t', e', ys', h', _⟩⟩ := Paired.at hr1 (List.getElem?_eq_getElem hj)
            rw [ej] at e'
            cases e'
            rw [h'] at nn
            cases nn
          · intro t' ht'
            rcases List.mem_append.mp ht' with z | z
            · exact fr t' z
            · cases List.mem_singleton.mp z
              exact ⟨hn, hnE⟩
          · rw [List.length_append]
            show refs.length + 1 ≤ i + 1
            omega
          · unfold putE
            rw [if_pos c]
            simp
        · refine iteN (decide_eq_false (fun z => c (by have := V.int.inj z; omega))) ?_
          refine k _ _ ⟨rfl, refs, EP, sm, hE, hr1, nd, fr, by omega, hne c, ?_⟩
          unfold putE
          rw [if_neg c]
      · obtain ⟨rfl, refs2, EP2, sm2, hE2, hr2, nd2, fr2, lr2, ne2, ep2⟩ := hO
        rw [ep2] at hfl ⊢
        obtain ⟨ri, rl, Ei, El, rfl, rfl, hri, tl, rfl, yl, htl, hyl⟩ := paired_last hr2 ne2
        have hd : (Ei ++ [El]).dropLast = Ei := List.dropLast_concat
        have hg : (Ei ++ [El]).getLastD [] = El := by rw [List.getLastD_eq_getLast?, List.getLast?_concat]; rfl
        rw [hd, hg] at hfl ⊢
        have ntl := fr2 tl (List.mem_append.mpr (.inr (List.mem_cons_self ..)))
        have lyl : yl.length ≤ 400 := by
          rw [List.flatten_append, List.length_append, List.flatten_cons, List.flatten_nil, List.append_nil, List.length_append] at hfl
          have := Paired.len hyl
          omega
        refine ⟨_, rfl, 1, rfl, E0, _, -1, _, rfl, rfl, .of hE2, atI_last _ _, .inl ⟨rfl, _, SqL.of htl⟩, _, rfl, _, rfl, (by show 2 ≤ sizeLine; decide), fun n nn => ⟨tl, _, _, rfl, rfl, same_upd nn _ _ htl, small (by omega), ?_⟩⟩
        have sn := same_upd (o := .tup [koV e.1, .str (actS e.2)]) nn
        have htl3 := sn _ _ htl
        have hn3 : (upd H2 n (.tup [koV e.1, .str (actS e.2)])) n = some (.tup [koV e.1, .str (actS e.2)]) := upd_same
        have hE3 := sn _ _ hE2
        have hri3 := Paired.imp (fun _ _ z => EpV.same sn z) hri
        have hyl3 := Paired.imp (fun _ _ z => EnV.same sn z) hyl
        have sm3 := sm2.trans sn
        generalize upd H2 n (.tup [koV e.1, .str (actS e.2)]) = H3 at *
        have fin : ∀ l' : Int, l' = ((nxtE l e : Nat) : Int) → ∃ refs y3 y4, [some (V.ref a), some (.ref E0), some (.int l'), some (koV e.1), some (.str (actS e.2))] = [some (.ref a), some (.ref E0), some (.int ((nxtE l e : Nat) : Int)), y3, y4] ∧ Same H (upd H3 tl (.lst (yl ++ [.ref n]))) ∧ (upd H3 tl (.lst (yl ++ [.ref n]))) E0 = some (.lst refs) ∧ Paired (EpV (upd H3 tl (.lst (yl ++ [.ref n])))) refs (Ei ++ [El ++ [e]]) ∧ refs.Nodup ∧ (∀ t, V.ref t ∈ refs → H t = none ∧ t ≠ E0) ∧ refs.length ≤ i + 1 := fun l' hl' => by
          refine ⟨ri ++ [.ref tl], _, _, by rw [hl'], same_grow ntl.1 sm3, by rw [upd_ne ntl.2.symm]; exact hE3, ?_, nd2, fr2, lr2⟩
          refine Paired.app (eps_grow htl3 hri3 fun t' ht' z => ?_) (.cons ⟨tl, rfl, _, upd_same, Paired.app (Paired.imp (fun _ _ z => EnV.grow htl3 z) hyl3) (.cons (EnV.grow htl3 ⟨n, rfl, hn3⟩) .nil)⟩ .nil)
          rw [z] at ht'
          exact (List.nodup_append.mp nd2).2.2 _ ht' _ (List.mem_cons_self ..) rfl
        refine ⟨_, rfl, rfl, _, rfl, ?_⟩
        obtain ⟨ke, c⟩ := e
        cases c with
        | true =>
          refine iteP (decide_eq_true rfl) ⟨_, rfl, _, _, rfl, rfl, fin _ ?_⟩
          unfold nxtE
          rw [if_pos rfl]
          omega
        | false =>
          refine iteN (decide_eq_false (show ¬ (V.str (actS false) = V.str (actS true)) by decide +kernel)) ⟨_, rfl, _, _, rfl, rfl, _, _, rfl, fin _ ?_⟩
          show (if (0 : Int) > (l : Int) - 1 then (0 : Int) else (l : Int) - 1) = ((if false = true then l + 1 else l - 1 : Nat) : Int)
          rw [if_neg (show ¬ (false = true) by decide)]
          split <;> omega
    · obtain ⟨refs, y3, y4, rfl, sm, hE, hr1, nd, fr, lr⟩ := hP
      rw [lx, List.take_length, go_eps] at hr1
      exact ⟨_, rfl, q _ _ refs sm nE hE hr1 (fun t ht => (fr t ht).1)⟩
end
end UP

set_option Elab.async false
set_option linter.all false
set_option maxRecDepth 100000
set_option maxHeartbeats 4000000
set_option pp.maxSteps 900
namespace UP
open PySem PySem.Spec PyProof.Rows L2
/-- the kinds that may wait -/
def pW (ep : List En) (k : Str) : Bool := !(decide (k ∈ knE ep false)) && (knE ep true).all fun w => decide (k = w)
theorem optW_eq (ks : List Str) (e : En) (r : List En) : optW ks (e :: r) = if e.2 = true then ks.filter (pW (e :: r)) else [] := rfl
theorem bl_all {f : Str → Bool} : ∀ l : List Str, ((l.map f).all id) = l.all f
  | [] => rfl
  | x :: t => by rw [List.map_cons, List.all_cons, List.all_cons, bl_all t]; rfl
theorem optW_len (ks : List Str) (ep : List En) : (optW ks ep).length ≤ ks.length := by
  cases ep with
  | nil => exact Nat.zero_le _
  | cons e r =>
    rw [optW_eq]
    split
    · exact List.length_filter_le _ _
    · exact Nat.zero_le _
theorem optL_len (ks : List Str) (w : Str) (e : En) (h : 0 < ks.length) : (optL ks w e).length ≤ ks.length := by
  unfold optL
  split
  · exact h
  · split
    · exact List.length_filter_le _ _
    · exact h
section
variable {P : Program} {w : World} {K : PySem.W.Frag} {mg : Str → Option Value} {base : Heap}
/-! waiting_options: slots 0:kinds 1:epoch 2:waiting 3:leaving 4:kind 5:each -/
abbrev s_waiting_options : Stmt := topS 31
theorem sc_waiting_options : FnScope ["kinds", "epoch", "waiting", "leaving", "kind", "each"] ["kinds", "epoch"] (defScope s_waiting_options) := ⟨rfl, rfl, rfl, by decide +kernel, rfl, by decide +kernel, by decide +kernel⟩
def sp_waiting_options : Sp := fun vs H Q _ => ∃ (a b : Addr) (ks : List Str) (ep : List En), vs = [.ref a, .ref b] ∧ Sq2 H a (ks.map V.str) ∧ ks.length ≤ 12 ∧ Rec H b ep ∧ ep ≠ [] ∧ ep.length ≤ 400 ∧ ∀ H' p, Same H H' → H p = none → H' p = some (.lst ((optW ks ep).map V.str)) → Q (.ref p) H'
theorem ok_waiting_options (D : Df K mg "waiting_options" s_waiting_options) (T : Tx mg) (G_known_kinds : Has P w K mg base 1 "known_kinds" ["entries", "wanted"] sp_known_kinds) : Has P w K mg base 2 "waiting_options" ["kinds", "epoch"] sp_waiting_options := by
  refine has_of D sc_waiting_options (fun _ _ _ _ _ _ us hl => match us, hl with | [_, _], _ => rfl) (fun vs H Q E h => ?_) (fun f cdv A outer s H vs Q E hr h => ?_)
  · obtain ⟨_, _, _, _, rfl, _⟩ := h
    rfl
  · obtain ⟨a, b, ks, ep, rfl, ha, l12, ⟨xs, hx, hp⟩, ne, l4, q⟩ := h
    refine ⟨_, (pss_cons (ps_if (pt_cmpR op_eq (pe_ix ix_tup (pe_ix ix_list (pv 1) pe_int (fun _ _ => rfl)) pe_int (fun _ _ => rfl)) pe_str (nomark _)) (pss_one (ps_ret (pe_lst pa_nil))) pss_nil)
    (pss_cons (ps_set (i := 2) sc_waiting_options.nd rfl (by first | exact Or.inl rfl | exact Or.inr rfl) (pe_callH G_known_kinds (hr.mono (by omega)) (by rfl) (pa_cons (pv 1) (pa_cons pe_str pa_nil))))
    (pss_cons (ps_set (i := 3) sc_waiting_options.nd rfl (by first | exact Or.inl rfl | exact Or.inr rfl) (pe_callH G_known_kinds (hr.mono (by omega)) (by rfl) (pa_cons (pv 1) (pa_cons pe_str pa_nil))))
    (pss_one (ps_ret (pe_lc (own := [("kind", 4)]) rfl sc_waiting_options.nd (pi_seqV 0) (blkOk_by (N := ["kinds", "epoch", "waiting", "leaving", "kind", "each"]) (sc := defScope s_waiting_options) (by decide +kernel)) (fun _ _ _ _ _ => (pg_name (i := 4) sc_waiting_options.nd rfl (by first | exact Or.inl rfl | exact Or.inr rfl))) (fun _ _ _ _ _ => pts_one (PW.pt (pw_and (pt_cmpR (op_notIn_seqK (K := K) rfl) (pv 4) (pv 3) (by with_unfolding_all rfl)) (pw_and1 (pt_val (pe_callB (cr_allK (K := K) rfl rfl) (by rfl) T.n_all (by decide +kernel) (pa_cons (pe_lc (own := [("each", 5)]) rfl sc_waiting_options.nd (pi_seqV 2) (blkOk_by (N := ["kinds", "epoch", "waiting", "leaving", "kind", "each"]) (sc := relS _ (defScope s_waiting_options)) (by decide +kernel)) (fun _ _ _ _ _ => (pg_name (i := 5) sc_waiting_options.nd rfl (by first | exact Or.inl rfl | exact Or.inr rfl))) (fun _ _ _ _ _ => pts_nil) (fun _ _ _ _ _ => (pe_cmpR op_eq (pv 4) (pv 5) (nomark _)))) pa_nil))))))) (fun _ _ _ _ _ => (pv 4)))))))), ?_⟩
    cases hp with
    | nil => exact absurd rfl ne
    | @cons x0 e0 xr er h0 hpr =>
    have hp : Paired (EnV H) (x0 :: xr) (e0 :: er) := .cons h0 hpr
    obtain ⟨t, rfl, ht⟩ := h0
    refine ⟨_, rfl, b, _, 0, _, rfl, rfl, .of hx, atI_ofB (Int.le_refl _) rfl, t, _, 1, _, rfl, rfl, .of ht, rfl, rfl, _, rfl, ?_⟩
    rw [optW_eq] at q
    by_cases c : e0.2 = true
    · rw [if_pos c] at q
      refine iteN (decide_eq_false (by rw [c]; show ¬ (V.str (actS true) = V.str (actS false)); decide +kernel)) ?_
      refine ⟨_, rfl, b, e0 :: er, true, rfl, ⟨_, hx, hp⟩, l4, fun H1 p1 s1 n1 h1 => ?_⟩
      refine ⟨_, rfl, b, e0 :: er, false, rfl, ⟨_, s1 _ _ hx, Paired.imp (fun _ _ z => EnV.same s1 z) hp⟩, l4, fun H2 p2 s2 n2 h2 => ?_⟩
      have h1 := s2 _ _ h1
      have s12 := s1.trans s2
      have ha2 := ha.same s12
      have l1 := kn_len (e0 :: er) true
      clear hx hpr ht n1 n2
      generalize e0 :: er = ep at *
      refine ⟨a, _, rfl, ha2, fun J wk L nL => lc_wk wk (fun i H' => Same H2 H' ∧ H' L = some (.lst (((ks.take i).filter (pW ep)).map V.str))) (fun _ _ p => p.1) ⟨same_upd nL, upd_same⟩ (fun i x H3 ex p => ?_) (fun H3 p => ?_)⟩
      · obtain ⟨sm, hL⟩ := p
        obtain ⟨k, ek, rfl⟩ := str_at ex
        have hi : i < ks.length := (List.getElem?_eq_some_iff.mp ek).1
        refine ⟨rfl, _, rfl, _, rfl, p2, _, rfl, .inl (.of (sm _ _ h2)), rfl, flat_strs _, _, rfl, ?_⟩
        rw [if_pos rfl, inV_strs, filt_snoc ek]
        by_cases c1 : k ∈ knE ep false
        · have e1 : pW ep k = false := by unfold pW; rw [decide_eq_true c1]; rfl
          rw [decide_eq_true c1, e1]
          refine iteF (iteF ⟨sm, ?_⟩)
          rw [if_neg (by decide), List.append_nil]
          exact hL
        · have e1 : pW ep k = (knE ep true).all fun w => decide (k = w) := by unfold pW; rw [decide_eq_false c1]; rfl
          rw [decide_eq_false c1, e1]
          refine iteT ⟨p1, _, rfl, .inl (sm _ _ h1), fun J2 wk2 M nM => lc_wk wk2 (fun j H' => Same H3 H' ∧ H' M = some (.lst ((((knE ep true).take j).map fun w => decide (k = w)).map V.bl))) (fun _ _ p => p.1) ⟨same_upd nM, upd_same⟩ (fun j y H4 ey p => ?_) (fun H4 p => ?_)⟩
          · obtain ⟨sm4, hM⟩ := p
            obtain ⟨w, ew, rfl⟩ := str_at ey
            have hj : j < (knE ep true).length := (List.getElem?_eq_some_iff.mp ew).1
            refine ⟨rfl, yesT ⟨_, rfl, _, rfl, rfl, _, hM, ?_, same_grow nM sm4, ?_⟩⟩
            · simp only [List.length_map, List.length_take]
              exact small (by omega)
            · rw [upd_same, take_snoc ew, List.map_append, List.map_append, str_dec]
              rfl
          · obtain ⟨sm4, hM⟩ := p
            rw [List.length_map, List.take_length] at hM
            refine ⟨M, _, rfl, .of hM, ?_⟩
            rw [bl_all]
            have hL4 := sm4 _ _ hL
            refine ⟨_, rfl, ?_⟩
            cases e2 : (knE ep true).all fun w => decide (k = w) with
            | false =>
              refine iteF ⟨sm.trans sm4, ?_⟩
              rw [if_neg (by decide), List.append_nil]
              exact hL4
            | true =>
              refine iteT ⟨_, rfl, _, hL4, ?_, same_grow nL (sm.trans sm4), ?_⟩
              · have := List.length_filter_le (pW ep) (ks.take i)
                rw [List.length_take] at this
                rw [List.length_map]
                exact small (by omega)
              · rw [upd_same, if_pos rfl, List.map_append]
                rfl
      · obtain ⟨sm, hL⟩ := p
        rw [List.length_map, List.take_length] at hL
        exact q _ _ (s12.trans sm) (s12.free nL) hL
    · have c : e0.2 = false := by simpa using c
      rw [if_neg (by rw [c]; decide)] at q
      refine iteP (decide_eq_true (by rw [c]; rfl)) ⟨Nat.zero_le _, fun p np => q _ _ (same_upd np) np upd_same⟩
/-! later_options: slots 0:kinds 1:entry 2:waiting 3:kind 4:action 5:each -/
abbrev s_later_options : Stmt := topS 32
theorem sc_later_options : FnScope ["kinds", "entry", "waiting", "kind", "action", "each"] ["kinds", "entry", "waiting"] (defScope s_later_options) := ⟨rfl, rfl, rfl, by decide +kernel, rfl, by decide +kernel, by decide +kernel⟩
def sp_later_options : Sp := fun vs H Q _ => ∃ (a : Addr) (v : V) (ks : List Str) (e : En) (wt : Str), vs = [.ref a, v, .str wt] ∧ Sq2 H a (ks.map V.str) ∧ ks.length ≤ 12 ∧ EnV H v e ∧ ∀ H' p, Same H H' → H p = none → H' p = some (.lst ((optL ks wt e).map V.str)) → Q (.ref p) H'
theorem ok_later_options (D : Df K mg "later_options" s_later_options) : Has P w K mg base 1 "later_options" ["kinds", "entry", "waiting"] sp_later_options := by
  refine has_of D sc_later_options (fun _ _ _ _ _ _ us hl => match us, hl with | [_, _, _], _ => rfl) (fun vs H Q E h => ?_) (fun f cdv A outer s H vs Q E hr h => ?_)
  · obtain ⟨_, _, _, _, _, rfl, _⟩ := h
    rfl
  · obtain ⟨a, v, ks, ⟨ke, c⟩, wt, rfl, ha, l12, ⟨t, rfl, ht⟩, q⟩ := h
    refine ⟨_, (pss_cons (ps_asg (pv 1) (pg_tup rfl (pgs_cons (pg_name (i := 3) sc_later_options.nd rfl (by first | exact Or.inl rfl | exact Or.inr rfl)) (pgs_cons (pg_name (i := 4) sc_later_options.nd rfl (by first | exact Or.inl rfl | exact Or.inr rfl)) pgs_nil))))
    (pss_cons (ps_if (pt_cmpR op_eq (pv 4) pe_str (nomark _)) (pss_one (ps_ret (pe_lst (pa_cons (pv 2) pa_nil)))) pss_nil)
    (pss_cons (ps_if (pt_cmpR op_isN (pv 3) pe_non (nomark _)) (pss_one (ps_ret (pe_lc (own := [("each", 5)]) rfl sc_later_options.nd (pi_seqV 0) (blkOk_by (N := ["kinds", "entry", "waiting", "kind", "action", "each"]) (sc := defScope s_later_options) (by decide +kernel)) (fun _ _ _ _ _ => (pg_name (i := 5) sc_later_options.nd rfl (by first | exact Or.inl rfl | exact Or.inr rfl))) (fun _ _ _ _ _ => pts_one (pt_cmpR op_ne (pv 5) (pv 2) (nomark _))) (fun _ _ _ _ _ => (pv 5))))) pss_nil)
    (pss_one (ps_ret (pe_lst (pa_cons (pv 3) pa_nil))))))), ?_⟩
    refine ⟨_, rfl, t, _, rfl, .of ht, rfl, _, _, rfl, _, _, rfl, rfl, ?_⟩
    refine ⟨_, rfl, rfl, _, rfl, ?_⟩
    cases c with
    | true =>
      exact iteP (decide_eq_true rfl) ⟨_, rfl, (by show 1 ≤ sizeLine; decide), fun p np => q _ _ (same_upd np) np upd_same⟩
    | false =>
      refine iteN (decide_eq_false (show ¬ (V.str (actS false) = V.str (actS true)) by decide +kernel)) ⟨_, rfl, rfl, _, rfl, ?_⟩
      cases ke with
      | some k =>
        refine iteN (decide_eq_false (fun z => by cases z)) ⟨_, rfl, (by show 1 ≤ sizeLine; decide), fun p np => q _ _ (same_upd np) np upd_same⟩
      | none =>
        refine iteP (decide_eq_true rfl) ⟨a, _, rfl, ha, fun J wk L nL => lc_wk wk (fun i H' => Same H H' ∧ H' L = some (.lst (((ks.take i).filter fun k => !decide (k = wt)).map V.str))) (fun _ _ p => p.1) ⟨same_upd nL, upd_same⟩ (fun i x H3 ex p => ?_) (fun H3 p => ?_)⟩
        · obtain ⟨sm, hL⟩ := p
          obtain ⟨k, ek, rfl⟩ := str_at ex
          have hi : i < ks.length := (List.getElem?_eq_some_iff.mp ek).1
          refine ⟨rfl, _, rfl, _, rfl, rfl, _, rfl, ?_⟩
          rw [str_dec, filt_snoc ek]
          cases e2 : decide (k = wt) with
          | true =>
            refine iteF ⟨sm, ?_⟩
            rw [if_neg (by decide), List.append_nil]
            exact hL
          | false =>
            refine iteT ⟨_, rfl, _, hL, ?_, same_grow nL sm, ?_⟩
            · have := List.length_filter_le (fun k => !decide (k = wt)) (ks.take i)
              rw [List.length_take] at this
              rw [List.length_map]
              exact small (by omega)
            · rw [upd_same, if_pos (by decide), List.map_append]
              rfl
        · obtain ⟨sm, hL⟩ := p
          rw [List.length_map, List.take_length] at hL
          exact q _ _ sm nL hL
end
end UP

set_option Elab.async false
set_option linter.all false
set_option maxRecDepth 100000
set_option maxHeartbeats 4000000
set_option pp.maxSteps 600
namespace UP
open PySem PySem.Spec PyProof.Rows L2
/-! ### zip of two values, each a list, a tuple or a text -/
inductive Sd where
  | lst (a : Addr) (xs : List V)
  | tup (a : Addr) (xs : List V)
  | str (z : Str) (t : Tok)
def Sd.xs : Sd → List V
  | .lst _ xs => xs
  | .tup _ xs => xs
  | .str z _ => z.cps.toList.map fun c => V.str ⟨#[c]⟩
def Sd.here (K : PySem.W.Frag) (H : Hp) : Sd → Prop
  | .lst a xs => SqL K H a xs
  | .tup a xs => SqT K H a xs
  | .str _ _ => True
def Sd.itr (it : Addr) (i : Nat) (h : Heap) : Sd → Prop
  | .lst a _ => h.IsListIter it a i
  | .tup a _ => h.IsTupleIter it a i
  | .str z t => h.IsStrIter it (strIterType z) z t i
def Sd.fp (it : Addr) : Sd → List Addr
  | .lst a _ => [it, a]
  | .tup a _ => [it, a]
  | .str _ _ => [it]
def Sd.far (x : Addr) : Sd → Prop
  | .lst a _ => a ≠ x
  | .tup a _ => a ≠ x
  | .str _ _ => True
def Sd.val : Sd → V
  | .lst a _ => .ref a
  | .tup a _ => .ref a
  | .str z _ => .str z
theorem Sd.not_in {S : Sd} {x it : Addr} (h : S.far x) (n : x ≠ it) : x ∉ S.fp it := by
  have two : ∀ {a : Addr}, a ≠ x → x ∉ [it, a] := fun {a} h m => by
    rcases List.mem_cons.mp m with e | e
    · exact n e
    · exact h (List.mem_singleton.mp e).symm
  cases S with
  | lst a xs => exact two h
  | tup a xs => exact two h
  | str z t => exact fun m => n (List.mem_singleton.mp m)
theorem zne {n i j : Nat} (h : i ≠ j) : n + i ≠ n + j := fun e => h (Nat.add_left_cancel e)
/-- u is its value -/
def Sd.is (u : Value) : Sd → Prop
  | .lst a _ => u = .ref a
  | .tup a _ => u = .ref a
  | .str z t => u = .str z t
theorem Sd.it_in (S : Sd) (it : Addr) : it ∈ S.fp it := by cases S <;> exact List.mem_cons_self ..
theorem Sd.cell {S : Sd} {it : Addr} {i : Nat} {h : Heap} (st : S.itr it i h) : ∃ o, h.get? it = some o ∧ ∀ v, o.data ≠ .cell v := by
  cases S with
  | lst a xs =>
    obtain ⟨o, e, _, d⟩ := st
    exact ⟨o, e, fun v q => by rw [d] at q; cases q⟩
  | tup a xs =>
    obtain ⟨o, e, _, d⟩ := st
    exact ⟨o, e, fun v q => by rw [d] at q; cases q⟩
  | str z t =>
    obtain ⟨o, e, _, d⟩ := st
    exact ⟨o, e, fun v q => by rw [d] at q; cases q⟩
theorem Sd.kept {S : Sd} {it : Addr} {i : Nat} {h h' : Heap} (st : S.itr it i h) (k : ∀ o, h.get? it = some o → h'.get? it = some o) : S.itr it i h' := by
  cases S with
  | lst a xs =>
    obtain ⟨o, e, r⟩ := st
    exact ⟨o, k o e, r⟩
  | tup a xs =>
    obtain ⟨o, e, r⟩ := st
    exact ⟨o, k o e, r⟩
  | str z t =>
    obtain ⟨o, e, r⟩ := st
    exact ⟨o, k o e, r⟩
/-- its iterator draws -/
theorem Sd.draws {X : Cx} {pins : List (Addr × Obj)} {σ : L2.St} {H : Hp} {s : Shared} (I : Inv X pins σ H s) {A : Around} (hh : A.handled = none) (S : Sd) (hr : S.here X.K H) {it : Addr} (f : S.far it) :
    ∃ (n : Nat) (Pv : Nat → Value → Prop) (St : Nat → Heap → Prop), Draws X.prog X.w A it (S.fp it) n Pv St ∧ n = S.xs.length ∧ (∀ i u, Pv i u → ∃ v, S.xs[i]? = some v ∧ RelV v u) ∧ (∀ i, S.itr it i s.heap → St i s.heap) ∧ ∀ i h, St i h → S.itr it i h := by
  have fit : ∀ {its : List Value} {xs : List V}, Vals xs its → ∀ (i : Nat) (u : Value), its.toArray[i]? = some u → ∃ v, xs[i]? = some v ∧ RelV v u := fun {its xs} rv i u hu => by
    have hu : its[i]? = some u := by simpa using hu
    have li : i < xs.length := by
      rw [rv.length]
      exact (List.getElem?_eq_some_iff.mp hu).1
    obtain ⟨u', e, r⟩ := rv.get (List.getElem?_eq_getElem li)
    rw [hu] at e
    cases e
    exact ⟨_, List.getElem?_eq_getElem li, r⟩
  cases S with
  | lst a xs =>
    obtain ⟨its, rv, p, _⟩ := I.list hr
    exact ⟨_, _, _, Draws.list hh it a f its.toArray, by show its.toArray.size = xs.length; simp [rv.length], fit rv, fun i st => ⟨st, p.isList⟩, fun i h st => st.1⟩
  | tup a xs =>
    obtain ⟨its, rv, p, _⟩ := I.tuple hr
    exact ⟨_, _, _, Draws.tuple hh it a f its.toArray, by show its.toArray.size = xs.length; simp [rv.length], fit rv, fun i st => ⟨st, p⟩, fun i h st => st.1⟩
  | str z t =>
    refine ⟨_, _, _, Draws.text hh it z t, by show z.cps.size = (z.cps.toList.map fun c => V.str ⟨#[c]⟩).length; simp, fun i u hu => ?_, fun i st => st, fun i h st => st⟩
    obtain ⟨c, k, hc, rfl⟩ := hu
    refine ⟨.str ⟨#[c]⟩, ?_, k, rfl⟩
    show (z.cps.toList.map fun c => V.str ⟨#[c]⟩)[i]? = _
    rw [List.getElem?_map, Array.getElem?_toList, hc]
    rfl
def ItG (K : PySem.W.Frag) (S1 S2 : Sd) : It :=
  ⟨fun i H => S1.here K H ∧ S2.here K H ∧ i < S1.xs.length ∧ i < S2.xs.length,
    fun i H v H' => ∃ T x y, v = .ref T ∧ H T = none ∧ H' = upd H T (.tup [x, y]) ∧ S1.xs[i]? = some x ∧ S2.xs[i]? = some y,
    fun i H => S1.here K H ∧ S2.here K H ∧ i ≤ S1.xs.length ∧ i ≤ S2.xs.length ∧ (i = S1.xs.length ∨ i = S2.xs.length)⟩
theorem turn_zipG {P : Program} {w : World} {K : PySem.W.Frag} {elts : List Expr} {kk : Nat} {tpos : Pos} {z TI TO i1 i2 : Addr} {S1 S2 : Sd} (D : ZipSep2 z TI TO i1 i2 (S1.fp i1) (S2.fp i2)) (f1 : S1.far i1) (f2 : S2.far i2) :
    Turn P w K (.Tuple elts kk tpos) (ItG K S1 S2) [z, TI, TO, i1, i2] z (fun i h => IsZip h z TI TO .none ∧ IsTupOf2 h TI (.ref i1) (.ref i2) ∧ (∃ x y, IsTupOf2 h TO x y) ∧ S1.itr i1 i h ∧ S2.itr i2 i h) where
  mem := by simp
  obj := fun i h st c hc => by
    obtain ⟨hz, hTI, ⟨x, y, hTO⟩, t1, t2⟩ := st
    simp only [List.mem_cons, List.not_mem_nil, or_false] at hc
    rcases hc with rfl | rfl | rfl | rfl | rfl
    · exact ⟨_, hz, fun v q => nomatch q⟩
    · exact ⟨_, hTI, fun v q => nomatch q⟩
    · exact ⟨_, hTO, fun v q => nomatch q⟩
    · exact Sd.cell t1
    · exact Sd.cell t2
  keep := fun i h h' st k => by
    obtain ⟨hz, hTI, ⟨x, y, hTO⟩, t1, t2⟩ := st
    exact ⟨k z (by simp) _ hz, k TI (by simp) _ hTI, ⟨x, y, k TO (by simp) _ hTO⟩, Sd.kept t1 fun o q => k i1 (by simp) o q, Sd.kept t2 fun o q => k i2 (by simp) o q⟩
  item := by
    intro X hP hw hK hc i pins s σ H E I hf st hg
    subst hP hw hK
    obtain ⟨hz, hTI, ⟨x0, y0, hTO⟩, t1, t2⟩ := st
    obtain ⟨e1, e2, l1, l2⟩ := hg
    have hh : X.A.in1.handled = none := I.ok.hd hc
    obtain ⟨n1, P1, St1, D1, en1, it1, to1, fr1⟩ := S1.draws I hh e1 f1
    obtain ⟨n2, P2, St2, D2, en2, it2, to2, fr2⟩ := S2.draws I hh e2 f2
    have zl : z < s.heap.objs.size := Heap.lt_size hz
    refine wpAny_pyNext_zipD2_item D D1 D2 hz hTI hTO (to1 i t1) (to2 i t2) (by omega) (by omega) fun x1 x2 h' tk p1 p2 z' TO' s1 s2 hT hsz hk => ?_
    obtain ⟨v1, ev1, r1⟩ := it1 i x1 p1
    obtain ⟨v2, ev2, r2⟩ := it2 i x2 p2
    refine ⟨_, rfl, wpAny_letOwnedTupleGo_zip (s := { s with heap := h', toks := tk }) z' fun h'' z'' sb => ?_⟩
    have hT2 : h''.get? s.heap.objs.size = some { cls := .type "tuple", data := .seq #[x1, x2] } := (sb.2 _ (Nat.ne_of_gt zl)).trans hT
    have new : ObjOk X.prog X.w (upd H s.heap.objs.size (.tup [v1, v2])) h'' s.heap.objs.size (.tup [v1, v2]) := ⟨by show 2 ≤ sizeLine; decide, [x1, x2], .cons r1 (.cons r2 .nil), ⟨_, hT2, rfl, _, rfl⟩⟩
    have I1 : Inv X pins σ (upd H s.heap.objs.size (.tup [v1, v2])) { s with heap := h'', toks := tk } :=
      I.turnedNew (t' := tk) (ch := [z, TI, TO, i1, i2]) (fun c o nb q => (sb.2 c (fun e => nb (by simp [e]))).trans (hk c o (fun e => nb (by simp [e])) (fun e => nb (by simp [e])) (fun e => nb (by simp [e])) (fun e => nb (by simp [e])) q)) hf (Nat.le_refl _) new
    refine ⟨.ref s.heap.objs.size, _, I1, rfl, ⟨_, v1, v2, rfl, I.hok.fresh (Nat.le_refl _), rfl, ev1, ev2⟩, ⟨z'', ?_, ⟨x1, x2, ?_⟩, ?_, ?_⟩, fun c hcm => ?_⟩
    · exact (sb.2 _ D.TIz).trans (hk _ _ D.TIz D.TITO D.TIi1 D.TIi2 hTI)
    · exact (sb.2 _ D.TOz).trans TO'
    · exact Sd.kept (fr1 _ _ s1) fun o q => (sb.2 _ D.zi1.symm).trans q
    · exact Sd.kept (fr2 _ _ s2) fun o q => (sb.2 _ D.zi2.symm).trans q
    · have hlt : c < s.heap.objs.size := by
        have hcm' := hcm
        simp only [List.mem_cons, List.not_mem_nil, or_false] at hcm'
        rcases hcm' with q | q | q | q | q
        · rw [q]; exact zl
        · rw [q]; exact Heap.lt_size hTI
        · rw [q]; exact Heap.lt_size hTO
        · rw [q]; obtain ⟨_, e, _⟩ := Sd.cell t1; exact Heap.lt_size e
        · rw [q]; obtain ⟨_, e, _⟩ := Sd.cell t2; exact Heap.lt_size e
      rw [upd_ne (Nat.ne_of_lt hlt)]
      exact (hf c hcm).1
  done := by
    intro X hP hw hK hc i pins s σ H E I hf st hg
    subst hP hw hK
    obtain ⟨hz, hTI, ⟨x0, y0, hTO⟩, t1, t2⟩ := st
    obtain ⟨e1, e2, l1, l2, le⟩ := hg
    have hh : X.A.in1.handled = none := I.ok.hd hc
    obtain ⟨n1, P1, St1, D1, en1, it1, to1, fr1⟩ := S1.draws I hh e1 f1
    obtain ⟨n2, P2, St2, D2, en2, it2, to2, fr2⟩ := S2.draws I hh e2 f2
    exact wpAny_pyNext_zipD2_end D D1 D2 hz hTI hTO (to1 i t1) (to2 i t2) (by omega) (by omega) (by omega) fun h' tk hk => ⟨rfl, I.turnedL (t' := tk) (ch := [z, TI, TO, i1, i2]) (fun c o nb q => hk c o (fun e => nb (by simp [e])) (fun e => nb (by simp [e])) (fun e => nb (by simp [e])) (fun e => nb (by simp [e])) q) hf⟩
  self := fun A i s Q E st h => wpAny_pyIter_zip st.1 h
/-- how it begins -/
theorem Sd.begins {X : Cx} {pins : List (Addr × Obj)} {σ : L2.St} {H : Hp} {s : Shared} (I : Inv X pins σ H s) (S : Sd) (hr : S.here X.K H) {u : Value} (hu : S.is u) :
    ∃ (o : Obj) (B : Heap → Prop), Begins u o B ∧ B s.heap ∧ (∀ (it : Addr) (h : Heap), h.get? it = some o → S.itr it 0 h) ∧ ∀ x, s.heap.objs.size ≤ x → S.far x := by
  cases S with
  | lst a xs =>
    obtain ⟨its, rv, p, _⟩ := I.list hr
    cases (show u = Value.ref a from hu)
    exact ⟨_, _, begins_list a its.toArray, p.isList, fun it h e => ⟨_, e, rfl, rfl⟩, fun x l e => by
      have := p.lt
      rw [e] at this
      exact absurd this (Nat.not_lt.mpr l)⟩
  | tup a xs =>
    obtain ⟨its, rv, p, _⟩ := I.tuple hr
    cases (show u = Value.ref a from hu)
    exact ⟨_, _, begins_tuple a its.toArray, p, fun it h e => ⟨_, e, rfl, rfl⟩, fun x l e => by
      obtain ⟨_, g, _⟩ := id p
      have := Heap.lt_size g
      rw [e] at this
      exact absurd this (Nat.not_lt.mpr l)⟩
  | str z t =>
    cases (show u = Value.str z t from hu)
    exact ⟨_, _, begins_text z t, trivial, fun it h e => ⟨_, e, rfl, rfl⟩, fun x l => True.intro⟩
def iZipG (K : PySem.W.Frag) (ta : TA) : TI := fun σ H R => ta σ H fun vs H1 => ∃ v1 v2, vs = [v1, v2] ∧
  ((∃ a xs b ys, v1 = .ref a ∧ v2 = .ref b ∧ (SqL K H1 a xs ∨ SqT K H1 a xs) ∧ (SqL K H1 b ys ∨ SqT K H1 b ys) ∧ ∀ S1 S2 : Sd, S1.xs = xs → S2.xs = ys → S1.here K H1 → S2.here K H1 → (S1 = .lst a xs ∨ S1 = .tup a xs) → (S2 = .lst b ys ∨ S2 = .tup b ys) → R (ItG K S1 S2) H1) ∨
   ∃ a xs z, v1 = .ref a ∧ v2 = .str z ∧ SqL K H1 a xs ∧ ∀ t, R (ItG K (.lst a xs) (.str z t)) H1)
theorem pi_zipG {X : Cx} {e e2 : Expr} {ta : TA} {p pos tpos : Pos} {elts : List Expr} {kk : Nat} (hg : Gl X "zip") (hm : X.mg "zip" = none) (ha : PA X [e, e2] ta)
    (hs : starEach [e, e2] X.env = (false, eval e X.env) :: starEach [e2] X.env := by rfl) (hpl : (backTo pos (starEach [e2] X.env)).any (·.1) = false := by rfl) :
    PI X (.Tuple elts kk tpos) (.Call (.Name "zip" p) [e, e2] [] pos) (iZipG X.K ta) := by
  constructor
  intro pins s σ H R I h
  refine Call_ (ld_blt I hg hm PyProof.Rows.boot_zip (PyProof.Rows.callWith_type1 (thn (ha.run pos pins s σ H _ I h) fun us s1 ⟨vs, H1, I1, r1, q1⟩ => ?_) hs hpl))
  obtain ⟨v1, v2, rfl, q1⟩ := q1
  cases r1 with
  | @cons _ u1 _ _ ru1 rr =>
    cases rr with
    | @cons _ u2 _ _ ru2 rr =>
      cases rr
      have main : ∀ S1 S2 : Sd, S1.here X.K H1 → S2.here X.K H1 → S1.is u1 → S2.is u2 → R (ItG X.K S1 S2) H1 →
          wpAny (model X.prog X.w) X.A (call (.type "zip") [u1, u2]) (fun v s2 => wpAny (model X.prog X.w) X.A (pyIter v) (PIE X pins σ (.Tuple elts kk tpos) R) X.xe s2) X.xe s1 := fun S1 S2 h1 h2 m1 m2 q => by
        obtain ⟨o1, B1, b1, k1, i1, f1⟩ := S1.begins I1 h1 m1
        obtain ⟨o2, B2, b2, k2, i2, f2⟩ := S2.begins I1 h2 m2
        refine zip_begins2 b1 b2 k1 k2 fun h' hz hTI hTO g1 g2 hsz hk => wpAny_pyIter_zip hz ?_
        have I2 : Inv X pins σ H1 { s1 with heap := h' } := I1.kept (t' := s1.toks) hk
        have D : ZipSep2 (s1.heap.objs.size + 4) (s1.heap.objs.size + 2) (s1.heap.objs.size + 3) s1.heap.objs.size (s1.heap.objs.size + 1) (S1.fp s1.heap.objs.size) (S2.fp (s1.heap.objs.size + 1)) :=
          ⟨zne (by decide), zne (by decide), zne (by decide), zne (j := 0) (by decide), Sd.it_in _ _, Sd.not_in (f1 _ (Nat.le_add_right _ _)) (zne (j := 0) (by decide)), Sd.not_in (f1 _ (Nat.le_add_right _ _)) (zne (j := 0) (by decide)), zne (by decide), Sd.it_in _ _, Sd.not_in (f2 _ (Nat.le_add_right _ _)) (zne (by decide)), Sd.not_in (f2 _ (Nat.le_add_right _ _)) (zne (by decide)), Sd.not_in (f2 _ (Nat.le_refl _)) (zne (i := 0) (by decide)), Sd.not_in (f1 _ (Nat.le_add_right _ _)) (zne (j := 0) (by decide))⟩
        refine ⟨s1.heap.objs.size + 4, [s1.heap.objs.size + 4, s1.heap.objs.size + 2, s1.heap.objs.size + 3, s1.heap.objs.size, s1.heap.objs.size + 1], _, _, H1, rfl, I2, turn_zipG D (f1 _ (Nat.le_refl _)) (f2 _ (Nat.le_succ _)), ⟨hz, hTI, ⟨_, _, hTO⟩, i1 _ _ g1, i2 _ _ g2⟩, fun c hcm => ?_, q⟩
        have hle : s1.heap.objs.size ≤ c := by
          simp only [List.mem_cons, List.not_mem_nil, or_false] at hcm
          rcases hcm with e | e | e | e | e <;> rw [e] <;> first | exact Nat.le_add_right _ _ | exact Nat.le_refl _
        exact I1.fpOk hle (I1.hok.fresh hle)
      rcases q1 with ⟨a, xs, b, ys, rfl, rfl, h1, h2, q⟩ | ⟨a, xs, z, rfl, rfl, h1, q⟩
      · rcases h1 with h1 | h1
        · rcases h2 with h2 | h2
          · exact main (.lst a xs) (.lst b ys) h1 h2 ru1 ru2 (q _ _ rfl rfl h1 h2 (.inl rfl) (.inl rfl))
          · exact main (.lst a xs) (.tup b ys) h1 h2 ru1 ru2 (q _ _ rfl rfl h1 h2 (.inl rfl) (.inr rfl))
        · rcases h2 with h2 | h2
          · exact main (.tup a xs) (.lst b ys) h1 h2 ru1 ru2 (q _ _ rfl rfl h1 h2 (.inr rfl) (.inl rfl))
          · exact main (.tup a xs) (.tup b ys) h1 h2 ru1 ru2 (q _ _ rfl rfl h1 h2 (.inr rfl) (.inr rfl))
      · obtain ⟨t, rfl⟩ := ru2
        exact main (.lst a xs) (.str z t) h1 True.intro ru1 rfl (q t)
end UP

set_option Elab.async false
set_option linter.all false
set_option maxRecDepth 100000
set_option maxHeartbeats 4000000
set_option pp.maxSteps 900
namespace UP
open PySem PySem.Spec PyProof.Rows L2
theorem ip_mulW {X : Cx} : PIp X .Mult (rI CMulW fun i j => V.int (i * j)) := by
  intro pins s σ H x y v u Q I r1 r2 h
  obtain ⟨i, j, e1, e2, c, q⟩ := h
  subst e1; subst e2
  obtain ⟨t, rfl⟩ := r1
  obtain ⟨t', rfl⟩ := r2
  exact imul_int ⟨.int _, H, I.tok _, ⟨_, rfl⟩, q⟩ c.ok
def nvV (n : Nat) : V := .int (n : Int)
theorem prod_snoc {l : List Nat} {i n : Nat} (h : l[i]? = some n) : prodN (l.take (i + 1)) = prodN (l.take i) * n := by
  unfold prodN
  rw [take_snoc h, List.foldl_append]
  rfl
theorem prod_le : ∀ (l : List Nat) (a : Nat), (∀ n ∈ l, n ≤ 12) → l.foldl (· * ·) a ≤ a * 12 ^ l.length
  | [], a, _ => by show a ≤ a * 1; omega
  | n :: t, a, h => by
    have h1 := prod_le t (a * n) fun x hx => h x (List.mem_cons_of_mem _ hx)
    have h2 := h n (List.mem_cons_self ..)
    show t.foldl (· * ·) (a * n) ≤ a * 12 ^ (t.length + 1)
    refine Nat.le_trans h1 ?_
    rw [Nat.pow_succ, Nat.mul_comm (12 ^ t.length) 12, ← Nat.mul_assoc]
    exact Nat.mul_le_mul_right _ (Nat.mul_le_mul_left _ h2)
theorem p12 : ∀ {k : Nat}, k ≤ 401 → 12 ^ k < 2 ^ 1700 := fun {k} h => Nat.lt_of_le_of_lt (Nat.pow_le_pow_right (by decide) h) (by decide +kernel)
theorem prod_lt {l : List Nat} (h : ∀ n ∈ l, n ≤ 12) (l4 : l.length ≤ 400) : prodN l < 2 ^ 1700 := by
  have := prod_le l 1 h
  rw [Nat.one_mul] at this
  exact Nat.lt_of_le_of_lt this (p12 (by omega))
theorem Rec.but {D a : Addr} {H H' : Hp} {acc : List V} {es : List En} (hD : H D = some (.lst acc)) (n : a ≠ D) (b : But D H H') (h : Rec H a es) : Rec H' a es := by
  obtain ⟨xs, hx, hp⟩ := h
  exact ⟨xs, b _ _ n hx, Paired.imp (fun _ _ z => z.tk fun t ys e => b _ _ (ne_of e hD (by intro y; cases y)) e) hp⟩
theorem sq_but {D a : Addr} {H H' : Hp} {xs : List V} (n : a ≠ D) (b : But D H H') (h : Sq2 H a xs) : Sq2 H' a xs := h.elim (fun z => .inl (b _ _ n z)) (fun z => .inr (b _ _ n z))
theorem sq_ne {D a : Addr} {H : Hp} {xs : List V} (h : Sq2 H a xs) (n : H D = none) : a ≠ D := h.elim (fun z => ne_of_none z n) (fun z => ne_of_none z n)
theorem Sq2.twoE {K : PySem.W.Frag} {H : Hp} {a : Addr} {xs : List V} (h : Sq2 H a xs) : SqL K H a xs ∨ SqT K H a xs := h.elim (fun z => .inl (.of z)) fun z => .inr (.of z)
theorem ixQ {K : PySem.W.Frag} {H : Hp} {a : Addr} {xs : List V} {i : Int} {z : V} {Q : VK} (h : Sq2 H a xs) (e : atI xs i = some z) (q : Q z H) : rIx K (.ref a) (.int i) H Q :=
  h.elim (fun h => .inl ⟨a, xs, i, z, rfl, rfl, .of h, e, q⟩) (fun h => .inr (.inl ⟨a, xs, i, z, rfl, rfl, .of h, e, q⟩))
theorem cut_tlE (xs : List V) (h : xs ≠ []) : cutV xs (some 1) none = xs.tail := by
  have h1 : 1 ≤ xs.length := List.length_pos_iff.mpr h
  have e : HT.sIx xs.length 0 (some 1) = 1 := by
    have := HT.sIx_nat xs.length 0 1
    rw [show ((1 : Nat) : Int) = 1 by rfl] at this
    omega
  unfold cutV
  rw [e, HT.sIx_none, List.take_of_length_le (by rw [List.length_drop]; exact Nat.le_refl _), List.drop_one]
theorem pair_tail {α β : Type} {F : α → β → Prop} {xs : List α} {ys : List β} (h : Paired F xs ys) : Paired F xs.tail ys.tail := by
  cases h with
  | nil => exact .nil
  | cons _ t => exact t
theorem numP_len {ks : List Str} {ep : List En} (h : ep ≠ []) : (numP ks ep).length = ep.length := by
  unfold numP
  rw [List.length_cons, List.length_map, List.length_tail]
  have := List.length_pos_iff.mpr h
  omega
theorem numL_len {ks : List Str} : ∀ {L : List (List En)}, (∀ ep ∈ L, ep ≠ []) → (L.flatMap (numP ks)).length = L.flatten.length
  | [], _ => rfl
  | ep :: t, h => by
    rw [List.flatMap_cons, List.flatten_cons, List.length_append, List.length_append, numP_len (h ep (List.mem_cons_self ..)), numL_len fun x hx => h x (List.mem_cons_of_mem _ hx)]
theorem numE_len (ks : List Str) (es : List En) : (numE ks es).length = es.length := by
  unfold numE
  rw [numL_len fun ep he => eps_ne ep he, eps_join]
theorem numP_le {ks : List Str} {ep : List En} (h0 : 0 < ks.length) (h : ks.length ≤ 12) : ∀ n ∈ numP ks ep, n ≤ 12 := by
  intro n hn
  unfold numP at hn
  rcases List.mem_cons.mp hn with e | e
  · rw [e]
    exact Nat.le_trans (optW_len ks ep) h
  · obtain ⟨x, _, rfl⟩ := List.mem_map.mp e
    exact Nat.le_trans (optL_len ks _ x h0) h
theorem numE_le {ks : List Str} {es : List En} (h0 : 0 < ks.length) (h : ks.length ≤ 12) : ∀ n ∈ numE ks es, n ≤ 12 := by
  intro n hn
  obtain ⟨ep, _, hp⟩ := List.mem_flatMap.mp hn
  exact numP_le h0 h n hp
theorem flat_take {L : List (List En)} {i : Nat} : (L.take i).flatten.length ≤ L.flatten.length := by
  conv => rhs; rw [← List.take_append_drop i L, List.flatten_append, List.length_append]
  omega
section
variable {P : Program} {w : World} {K : PySem.W.Frag} {mg : Str → Option Value} {base : Heap}
/-! product_of: slots 0:numbers 1:product 2:number -/
abbrev s_product_of : Stmt := topS 16
theorem sc_product_of : FnScope ["numbers", "product", "number"] ["numbers"] (defScope s_product_of) := ⟨rfl, rfl, rfl, by decide +kernel, rfl, by decide +kernel, by decide +kernel⟩
def sp_product_of : Sp := fun vs H Q _ => ∃ (a : Addr) (ns : List Nat), vs = [.ref a] ∧ H a = some (.lst (ns.map nvV)) ∧ ns.length ≤ 400 ∧ (∀ n ∈ ns, n ≤ 12) ∧ Q (.int ((prodN ns : Nat) : Int)) H
theorem ok_product_of (D : Df K mg "product_of" s_product_of) : Has P w K mg base 1 "product_of" ["numbers"] sp_product_of := by
  refine has_of D sc_product_of (fun _ _ _ _ _ _ us hl => match us, hl with | [_], _ => rfl) (fun vs H Q E h => ?_) (fun f cdv A outer s H vs Q E hr h => ?_)
  · obtain ⟨_, _, rfl, _⟩ := h
    rfl
  · obtain ⟨a, ns, rfl, ha, l4, b12, q⟩ := h
    refine ⟨_, (pss_cons (ps_set (i := 1) sc_product_of.nd rfl (by first | exact Or.inl rfl | exact Or.inr rfl) pe_int)
    (pss_cons (ps_for PassesOwn.never rfl (pi_list (pv 0)) (pg_name (i := 2) sc_product_of.nd rfl (by first | exact Or.inl rfl | exact Or.inr rfl))
      (pss_one (ps_aug (i := 1) sc_product_of.nd rfl (by first | exact Or.inl rfl | exact Or.inr rfl) (pv 2) ip_mulW)))
    (pss_one (ps_ret (pv 1))))), ?_⟩
    refine ⟨_, rfl, a, rfl, ⟨_, .of ha⟩, for_list (K := K) (a := a) (xs := ns.map nvV) (fun i σ H' => ∃ y2, σ = [some (.ref a), some (.int ((prodN (ns.take i) : Nat) : Int)), y2] ∧ H' = H) ⟨none, rfl, rfl⟩ (fun i σ H' _ hP => ?_) (fun i x σ H1 ex hP => ?_) (fun σ H1 hP => ?_)⟩
    · obtain ⟨_, _, rfl⟩ := hP
      exact .of ha
    · obtain ⟨y2, rfl, rfl⟩ := hP
      rw [List.getElem?_map] at ex
      obtain ⟨n, en, rfl⟩ : ∃ n, ns[i]? = some n ∧ nvV n = x := by
        cases hn : ns[i]? with
        | none => rw [hn] at ex; cases ex
        | some n => rw [hn] at ex; exact ⟨n, rfl, Option.some.inj ex⟩
      have hb := b12 n (List.mem_of_getElem? en)
      have hl := prod_lt (l := ns.take i) (fun n hn => b12 n (List.mem_of_mem_take hn)) (by rw [List.length_take]; omega)
      refine ⟨_, rfl, _, rfl, _, _, rfl, rfl, wide_mul (a := 1700) (b := 8) (by rw [Int.natAbs_natCast]; exact hl) (by rw [Int.natAbs_natCast]; exact Nat.lt_of_le_of_lt hb (by decide)) (by decide) (by decide) (by decide), some (nvV n), ?_, rfl⟩
      rw [prod_snoc en, Int.natCast_mul]
      rfl
    · obtain ⟨y2, rfl, rfl⟩ := hP
      rw [List.length_map, List.take_length]
      exact ⟨_, rfl, q⟩
/-! option_numbers: slots 0:kinds 1:entries 2:numbers 3:epoch 4:entry -/
abbrev s_option_numbers : Stmt := topS 33
theorem sc_option_numbers : FnScope ["kinds", "entries", "numbers", "epoch", "entry"] ["kinds", "entries"] (defScope s_option_numbers) := ⟨rfl, rfl, rfl, by decide +kernel, rfl, by decide +kernel, by decide +kernel⟩
def sp_option_numbers : Sp := fun vs H Q _ => ∃ (a b : Addr) (ks : List Str) (es : List En), vs = [.ref a, .ref b] ∧ Sq2 H a (ks.map V.str) ∧ 0 < ks.length ∧ ks.length ≤ 12 ∧ Rec H b es ∧ es.length ≤ 400 ∧ ∀ H' p, Same H H' → H p = none → H' p = some (.lst ((numE ks es).map nvV)) → Q (.ref p) H'
theorem ok_option_numbers (D : Df K mg "option_numbers" s_option_numbers) (T : Tx mg) (G_epochs_of : Has P w K mg base 1 "epochs_of" ["entries"] sp_epochs_of) (G_waiting_options : Has P w K mg base 2 "waiting_options" ["kinds", "epoch"] sp_waiting_options) (G_later_options : Has P w K mg base 1 "later_options" ["kinds", "entry", "waiting"] sp_later_options) : Has P w K mg base 3 "option_numbers" ["kinds", "entries"] sp_option_numbers := by
  refine has_of D sc_option_numbers (fun _ _ _ _ _ _ us hl => match us, hl with | [_, _], _ => rfl) (fun vs H Q E h => ?_) (fun f cdv A outer s H vs Q E hr h => ?_)
  · obtain ⟨_, _, _, _, rfl, _⟩ := h
    rfl
  · obtain ⟨a, b, ks, es, rfl, ha, l0, l12, hb, l4, q⟩ := h
    refine ⟨_, (pss_cons (ps_set (i := 2) sc_option_numbers.nd rfl (by first | exact Or.inl rfl | exact Or.inr rfl) (pe_lst pa_nil))
    (pss_cons (ps_for PassesOwn.never rfl (pi_list (pe_callH G_epochs_of (hr.mono (by omega)) (by rfl) (pa_cons (pv 1) pa_nil))) (pg_name (i := 3) sc_option_numbers.nd rfl (by first | exact Or.inl rfl | exact Or.inr rfl))
      (pss_cons (ps_expr (pe_bm PySem.F.plainAttrs_list PySem.F.slot_list_append PySem.F.type_list_append mt_append (pv 2) (pa_cons (pe_callB call_len_seq (by rfl) T.n_len (by decide +kernel) (pa_cons (pe_callH G_waiting_options (hr.mono (by omega)) (by rfl) (pa_cons (pv 0) (pa_cons (pv 3) pa_nil))) pa_nil)) pa_nil)))
    (pss_one (ps_expr (pe_bm PySem.F.plainAttrs_list PySem.F.slot_list_extend PySem.F.type_list_extend mt_extend (pv 2) (pa_cons (pe_lc (own := [("entry", 4)]) rfl sc_option_numbers.nd (pi_list (pe_slice sl_list (pv 3) (po_some pe_int) po_none)) (blkOk_by (N := ["kinds", "entries", "numbers", "epoch", "entry"]) (sc := defScope s_option_numbers) (by decide +kernel)) (fun _ _ _ _ _ => (pg_name (i := 4) sc_option_numbers.nd rfl (by first | exact Or.inl rfl | exact Or.inr rfl))) (fun _ _ _ _ _ => pts_nil) (fun _ _ _ _ _ => (pe_callB (call_len_seqK (K := K) rfl) (by rfl) T.n_len (by decide +kernel) (pa_cons (pe_callH G_later_options (hr.mono (by omega)) (by rfl) (pa_cons (pv 0) (pa_cons (pv 4) (pa_cons (pe_ix (ix_seqK (K := K) rfl) (pv 0) pe_int (fun _ _ => rfl)) pa_nil)))) pa_nil)))) pa_nil))))))
    (pss_one (ps_ret (pv 2))))), ?_⟩
    refine ⟨Nat.zero_le _, fun N0 nN => ?_⟩
    have aN := sq_ne ha nN
    have sN := same_upd (o := .lst []) nN
    have hN1 : (upd H N0 (.lst [])) N0 = some (.lst []) := upd_same
    have ha1 := ha.same sN
    refine ⟨_, rfl, b, es, rfl, hb.same sN, l4, fun H2 p1 refs s2 np hp1 hrf nrf => ?_⟩
    have p1N : p1 ≠ N0 := fun z => by rw [z, hN1] at np; cases np
    have rfN : ∀ t, V.ref t ∈ refs → t ≠ N0 := fun t ht z => by have := nrf t ht; rw [z, hN1] at this; cases this
    have hN2 := s2 _ _ hN1
    have ha2 := ha1.same s2
    have sH2 : Same H H2 := sN.trans s2
    obtain ⟨k0, kr, rfl⟩ : ∃ k0 kr, ks = k0 :: kr := by
      cases ks with
      | nil => exact absurd l0 (by decide)
      | cons k r => exact ⟨k, r, rfl⟩
    have lrf := Paired.len hrf
    refine ⟨p1, rfl, ⟨refs, .of hp1⟩, for_list (K := K) (a := p1) (xs := refs) (fun i σ H' => ∃ y3, σ = [some (.ref a), some (.ref b), some (.ref N0), y3, none] ∧ But N0 H2 H' ∧ H' N0 = some (.lst ((((epsE es).take i).flatMap (numP (k0 :: kr))).map nvV))) ⟨none, rfl, But.refl, hN2⟩ (fun i σ H' _ hP => ?_) (fun i x σ H3 ex hP => ?_) (fun σ H3 hP => ?_)⟩
    · obtain ⟨_, _, b3, _⟩ := hP
      exact .of (b3 _ _ p1N hp1)
    · obtain ⟨y3, rfl, b3, hN3⟩ := hP
      obtain ⟨ep, eep, t, rfl, hrec⟩ := Paired.at hrf ex
      have mep : ep ∈ epsE es := List.mem_of_getElem? eep
      have ne := eps_ne ep mep
      have lep : ep.length ≤ 400 := Nat.le_trans (ep_len mep) l4
      have tN := rfN t (List.mem_of_getElem? ex)
      have hrec3 := hrec.but hN2 tN b3
      have ha3 := sq_but aN b3 ha2
      have lns : (((epsE es).take i).flatMap (numP (k0 :: kr))).length ≤ 400 := by
        rw [numL_len fun ep he => eps_ne ep (List.mem_of_mem_take he)]
        have := flat_take (L := epsE es) (i := i)
        rw [eps_join] at this
        omega
      rw [take_snoc eep, List.flatMap_append, List.flatMap_cons, List.flatMap_nil, List.append_nil]
      generalize ((epsE es).take i).flatMap (numP (k0 :: kr)) = ns at *
      refine ⟨_, rfl, .inl ⟨rfl, _, SqL.of hN3⟩, _, rfl, _, rfl, a, t, k0 :: kr, ep, rfl, ha3, l12, hrec3, ne, lep, fun H4 p4 s4 n4 h4 => ⟨p4, _, rfl, .inl (.of h4), N0, _, _, rfl, rfl, s4 _ _ hN3, small (by rw [List.length_map]; omega), ?_⟩⟩
      have hN4 := s4 _ _ hN3
      have hrec5 : Rec (upd H4 N0 (.lst (ns.map nvV ++ [.int (((optW (k0 :: kr) ep).map V.str).length : Nat)]))) t ep := (hrec3.same s4).but hN4 tN but_upd
      have ha5 : Sq2 (upd H4 N0 (.lst (ns.map nvV ++ [.int (((optW (k0 :: kr) ep).map V.str).length : Nat)]))) a _ := sq_but aN but_upd (ha3.same s4)
      have b5 : But N0 H2 (upd H4 N0 (.lst (ns.map nvV ++ [.int (((optW (k0 :: kr) ep).map V.str).length : Nat)]))) := b3.trans ((Same.but s4).trans but_upd)
      have hN5 : (upd H4 N0 (.lst (ns.map nvV ++ [.int (((optW (k0 :: kr) ep).map V.str).length : Nat)]))) N0 = some (.lst ((ns ++ [(optW (k0 :: kr) ep).length]).map nvV)) := by
        rw [upd_same, List.map_append, List.length_map]
        rfl
      generalize upd H4 N0 (.lst (ns.map nvV ++ [.int (((optW (k0 :: kr) ep).map V.str).length : Nat)])) = H5 at *
      obtain ⟨xs, hx5, hpx⟩ := hrec5
      have nex : xs ≠ [] := fun z => by rw [z] at hpx; cases hpx; exact ne rfl
      have hpt := pair_tail hpx
      have lxt := Paired.len hpt
      refine ⟨_, rfl, .inl ⟨rfl, _, SqL.of hN5⟩, _, rfl, 1, rfl, t, xs, rfl, .of hx5, fun c nc => ?_⟩
      rw [cut_tlE xs nex]
      have sc := same_upd (o := .lst xs.tail) nc
      have hc6 : (upd H5 c (.lst xs.tail)) c = some (.lst xs.tail) := upd_same
      have ha6 := ha5.same sc
      have hN6 := sc _ _ hN5
      have hpt6 := Paired.imp (fun _ _ z => EnV.same sc z) hpt
      have b6 := b5.trans (Same.but sc)
      generalize upd H5 c (.lst xs.tail) = H6 at *
      refine ⟨c, rfl, ⟨_, .of hc6⟩, fun L nL => lc_list (K := K) (a := c) (xs := xs.tail) (fun j H' => Same H6 H' ∧ H' L = some (.lst (((ep.tail.take j).map fun e => (optL (k0 :: kr) k0 e).length).map nvV))) ⟨same_upd nL, upd_same⟩ (fun j H' _ p => .of (p.1 _ _ hc6)) (fun j x H7 ex p => ?_) (fun H7 p => ?_)⟩
      · obtain ⟨sm, hL⟩ := p
        obtain ⟨e, ee, he⟩ := Paired.at hpt6 ex
        have hj : j < xs.tail.length := (List.getElem?_eq_some_iff.mp ex).1
        have ltl : ep.tail.length ≤ ep.length := by rw [List.length_tail]; omega
        refine ⟨rfl, yesT ⟨_, rfl, _, rfl, _, rfl, ixQ (ha6.same sm) (atI_ofB (Int.le_refl _) rfl) ⟨a, x, k0 :: kr, e, k0, rfl, ha6.same sm, l12, he.same sm, fun H8 p8 s8 n8 h8 => ⟨p8, _, rfl, .inl (.of h8), _, s8 _ _ hL, ?_, same_grow nL (sm.trans s8), ?_⟩⟩⟩⟩
        · simp only [List.length_map, List.length_take]
          exact small (by omega)
        · rw [upd_same, take_snoc ee, List.map_append, List.map_append, List.length_map]
          rfl
      · obtain ⟨sm, hL⟩ := p
        rw [lxt, List.take_length] at hL
        refine ⟨N0, L, _, _, rfl, rfl, sm _ _ hN6, hL, ?_, _, rfl, ?_, ?_⟩
        · simp only [List.length_map, List.length_append, List.length_tail, List.length_cons, List.length_nil]
          exact smallE (by omega)
        · exact b6.trans ((Same.but sm).trans but_upd)
        · rw [upd_same, ← List.map_append, List.append_assoc]
          rfl
    · obtain ⟨y3, rfl, b3, hN3⟩ := hP
      rw [lrf, List.take_length] at hN3
      exact ⟨_, rfl, q _ _ (fun c o e => b3 _ _ (ne_of_none e nN) (sH2 _ _ e)) nN hN3⟩
/-! fitting_count: slots 0:kinds 1:record -/
abbrev s_fitting_count : Stmt := topS 41
theorem sc_fitting_count : FnScope ["kinds", "record"] ["kinds", "record"] (defScope s_fitting_count) := ⟨rfl, rfl, rfl, by decide +kernel, rfl, by decide +kernel, by decide +kernel⟩
def sp_fitting_count : Sp := fun vs H Q _ => ∃ (a : Addr) (v : V) (ks : List Str) (es : List En), vs = [.ref a, v] ∧ Sq2 H a (ks.map V.str) ∧ KsOk ks ∧ RecG H v es ∧ InK ks es ∧ es.length ≤ 400 ∧ ∀ H', Same H H' → Q (.int ((cntE ks es : Nat) : Int)) H'
theorem ok_fitting_count (D : Df K mg "fitting_count" s_fitting_count) (G_checked_entries : Has P w K mg base 4 "checked_entries" ["kinds", "record"] sp_checked_entries) (G_option_numbers : Has P w K mg base 3 "option_numbers" ["kinds", "entries"] sp_option_numbers) (G_product_of : Has P w K mg base 1 "product_of" ["numbers"] sp_product_of) : Has P w K mg base 5 "fitting_count" ["kinds", "record"] sp_fitting_count := by
  refine has_of D sc_fitting_count (fun _ _ _ _ _ _ us hl => match us, hl with | [_, _], _ => rfl) (fun vs H Q E h => ?_) (fun f cdv A outer s H vs Q E hr h => ?_)
  · obtain ⟨_, _, _, _, rfl, _⟩ := h
    rfl
  · obtain ⟨a, v, ks, es, rfl, ha, kso, hv, ink, l4, q⟩ := h
    refine ⟨_, (pss_one (ps_ret (pe_callH G_product_of (hr.mono (by omega)) (by rfl) (pa_cons (pe_callH G_option_numbers (hr.mono (by omega)) (by rfl) (pa_cons (pv 0) (pa_cons (pe_callH G_checked_entries (hr.mono (by omega)) (by rfl) (pa_cons (pv 0) (pa_cons (pv 1) pa_nil))) pa_nil))) pa_nil)))), ?_⟩
    exact ⟨_, rfl, _, rfl, _, rfl, a, v, ks, es, rfl, ha, kso, hv, ink, l4, fun H1 p1 s1 n1 h1 => ⟨a, p1, ks, es, rfl, ha.same s1, kso.1, kso.2.1, h1, l4, fun H2 p2 s2 n2 h2 => ⟨p2, _, rfl, h2, by rw [numE_len]; exact l4, numE_le kso.1 kso.2.1, q _ (s1.trans s2)⟩⟩⟩
end
end UP

set_option Elab.async false
set_option linter.all false
set_option maxRecDepth 100000
set_option maxHeartbeats 4000000
set_option pp.maxSteps 900
namespace UP
open PySem PySem.Spec PyProof.Rows L2
def StrsV (H : Hp) (v : V) (l : List Str) : Prop := ∃ t, v = .ref t ∧ H t = some (.lst (l.map V.str))
theorem StrsV.same {H H' : Hp} {v : V} {l : List Str} (s : Same H H') (h : StrsV H v l) : StrsV H' v l := by
  obtain ⟨t, e, h⟩ := h
  exact ⟨t, e, s _ _ h⟩
theorem strs_but {D : Addr} {H H' : Hp} (b : But D H H') {rs : List V} {os : List (List Str)} (h : Paired (StrsV H) rs os) : (∀ t, V.ref t ∈ rs → t ≠ D) → Paired (StrsV H') rs os := by
  induction h with
  | nil => intro _; exact .nil
  | @cons x l _ _ h _ ih =>
    intro n
    obtain ⟨t, rfl, h⟩ := h
    exact .cons ⟨t, rfl, b _ _ (n t (List.mem_cons_self ..)) h⟩ (ih fun t ht => n t (List.mem_cons_of_mem _ ht))
theorem optP_len {ks : List Str} {ep : List En} {w : Str} (h : ep ≠ []) : (optP ks ep w).length = ep.length := by
  unfold optP
  rw [List.length_cons, List.length_map, List.length_tail]
  have := List.length_pos_iff.mpr h
  omega
theorem optE_snoc (ks : List Str) (ep : List En) : ∀ (L : List (List En)) (its : List Str), optE ks (L ++ [ep]) its = optE ks L its ++ optP ks ep ((its.drop L.flatten.length).headD "")
  | [], its => by
    rw [List.nil_append, optE, optE, optE, List.append_nil, List.nil_append]
    rfl
  | a :: L, its => by
    rw [List.cons_append, optE, optE, optE_snoc ks ep L, List.append_assoc, List.drop_drop, List.flatten_cons, List.length_append]
theorem optE_len {ks : List Str} : ∀ {L : List (List En)} {its : List Str}, (∀ ep ∈ L, ep ≠ []) → (optE ks L its).length = L.flatten.length
  | [], _, _ => rfl
  | ep :: t, its, h => by
    rw [optE, List.flatten_cons, List.length_append, List.length_append, optP_len (h ep (List.mem_cons_self ..)), optE_len fun x hx => h x (List.mem_cons_of_mem _ hx)]
theorem optE_le {ks : List Str} (h0 : 0 < ks.length) : ∀ {L : List (List En)} {its : List Str}, ∀ o ∈ optE ks L its, o.length ≤ ks.length
  | [], _, o, h => by cases h
  | ep :: t, its, o, h => by
    rw [optE] at h
    rcases List.mem_append.mp h with z | z
    · unfold optP at z
      rcases List.mem_cons.mp z with e | e
      · rw [e]; exact optW_len ks ep
      · obtain ⟨x, _, rfl⟩ := List.mem_map.mp e
        exact optL_len ks _ x h0
    · exact optE_le h0 o z
theorem RdE.same {H H' : Hp} (s : Same H H') {a : Addr} {u : HO} (h : Rd H a u) : Rd H' a u := h.elim (fun z => .inl (s _ _ z)) fun ⟨o, z⟩ => .inr ⟨o, s _ _ z⟩
theorem Sd.here_same {K : PySem.W.Frag} {H H' : Hp} (s : Same H H') {S : Sd} (h : S.here K H) : S.here K H' := by
  cases S with
  | lst a xs => exact Or.elim h (fun z => .inl (RdE.same s z)) .inr
  | tup a xs => exact Or.elim h (fun z => .inl (RdE.same s z)) .inr
  | str z t => exact h
/-- an index among the options -/
def stepI (acc : Nat) (p : Str × List Str) : Nat := acc * p.2.length + p.2.idxOf p.1
def ixZ (Z : List (Str × List Str)) : Nat := Z.foldl stepI 0
theorem ixZ_snoc {Z : List (Str × List Str)} {i : Nat} {p : Str × List Str} (h : Z[i]? = some p) : ixZ (Z.take (i + 1)) = stepI (ixZ (Z.take i)) p := by
  unfold ixZ
  rw [take_snoc h, List.foldl_append]
  rfl
theorem idx_lt {o : List Str} {x : Str} (h : x ∈ o) : o.idxOf x < o.length := List.idxOf_lt_length_of_mem h
theorem fold_le : ∀ (Z : List (Str × List Str)) (a : Nat), (∀ p ∈ Z, p.1 ∈ p.2 ∧ p.2.length ≤ 12) → Z.foldl stepI a + 1 ≤ (a + 1) * 12 ^ Z.length
  | [], a, _ => by show a + 1 ≤ (a + 1) * 1; omega
  | p :: t, a, h => by
    have h1 := fold_le t (stepI a p) fun x hx => h x (List.mem_cons_of_mem _ hx)
    obtain ⟨h2, h3⟩ := h p (List.mem_cons_self ..)
    have h4 := idx_lt h2
    show t.foldl stepI (stepI a p) + 1 ≤ (a + 1) * 12 ^ (t.length + 1)
    have h5 : stepI a p + 1 ≤ (a + 1) * 12 := by
      unfold stepI
      have : a * p.2.length ≤ a * 12 := Nat.mul_le_mul_left _ h3
      omega
    rw [Nat.pow_succ, Nat.mul_comm (12 ^ t.length) 12, ← Nat.mul_assoc]
    exact Nat.le_trans h1 (Nat.mul_le_mul_right _ h5)
theorem ixZ_lt {Z : List (Str × List Str)} (h : ∀ p ∈ Z, p.1 ∈ p.2 ∧ p.2.length ≤ 12) (l : Z.length ≤ 400) : ixZ Z < 2 ^ 1700 := by
  have h1 := fold_le Z 0 h
  have h2 := p12 (k := Z.length) (by omega)
  unfold ixZ
  omega
theorem zip_at {α β : Type} {xs : List α} {ys : List β} {i : Nat} {x : α} {y : β} (h1 : xs[i]? = some x) (h2 : ys[i]? = some y) : (xs.zip ys)[i]? = some (x, y) := by
  rw [List.getElem?_zip_eq_some]
  exact ⟨h1, h2⟩
section
variable {P : Program} {w : World} {K : PySem.W.Frag} {mg : Str → Option Value} {base : Heap}
/-! options_after: slots 0:kinds 1:entries 2:items 3:options 4:epoch 5:waiting 6:entry -/
abbrev s_options_after : Stmt := topS 34
theorem sc_options_after : FnScope ["kinds", "entries", "items", "options", "epoch", "waiting", "entry"] ["kinds", "entries", "items"] (defScope s_options_after) := ⟨rfl, rfl, rfl, by decide +kernel, rfl, by decide +kernel, by decide +kernel⟩
def sp_options_after : Sp := fun vs H Q _ => ∃ (a b c : Addr) (ks : List Str) (es : List En) (its : List Str), vs = [.ref a, .ref b, .ref c] ∧ Sq2 H a (ks.map V.str) ∧ 0 < ks.length ∧ ks.length ≤ 12 ∧ Rec H b es ∧ es.length ≤ 400 ∧ Sq2 H c (its.map V.str) ∧ its.length = es.length ∧ ∀ H' p refs, Same H H' → H p = none → H' p = some (.lst refs) → Paired (StrsV H') refs (optE ks (epsE es) its) → Q (.ref p) H'
theorem ok_options_after (D : Df K mg "options_after" s_options_after) (T : Tx mg) (G_epochs_of : Has P w K mg base 1 "epochs_of" ["entries"] sp_epochs_of) (G_waiting_options : Has P w K mg base 2 "waiting_options" ["kinds", "epoch"] sp_waiting_options) (G_later_options : Has P w K mg base 1 "later_options" ["kinds", "entry", "waiting"] sp_later_options) : Has P w K mg base 3 "options_after" ["kinds", "entries", "items"] sp_options_after := by
  refine has_of D sc_options_after (fun _ _ _ _ _ _ us hl => match us, hl with | [_, _, _], _ => rfl) (fun vs H Q E h => ?_) (fun f cdv A outer s H vs Q E hr h => ?_)
  · obtain ⟨_, _, _, _, _, _, rfl, _⟩ := h
    rfl
  · obtain ⟨a, b, c, ks, es, its, rfl, ha, l0, l12, hb, l4, hc, li, q⟩ := h
    refine ⟨_, (pss_cons (ps_set (i := 3) sc_options_after.nd rfl (by first | exact Or.inl rfl | exact Or.inr rfl) (pe_lst pa_nil))
    (pss_cons (ps_for PassesOwn.never rfl (pi_list (pe_callH G_epochs_of (hr.mono (by omega)) (by rfl) (pa_cons (pv 1) pa_nil))) (pg_name (i := 4) sc_options_after.nd rfl (by first | exact Or.inl rfl | exact Or.inr rfl))
      (pss_cons (ps_set (i := 5) sc_options_after.nd rfl (by first | exact Or.inl rfl | exact Or.inr rfl) (pe_ix ix_seq (pv 2) (pe_callB call_len_seq (by rfl) T.n_len (by decide +kernel) (pa_cons (pv 3) pa_nil)) (fun _ _ => rfl)))
    (pss_cons (ps_expr (pe_bm PySem.F.plainAttrs_list PySem.F.slot_list_append PySem.F.type_list_append mt_append (pv 3) (pa_cons (pe_callH G_waiting_options (hr.mono (by omega)) (by rfl) (pa_cons (pv 0) (pa_cons (pv 4) pa_nil))) pa_nil)))
    (pss_one (ps_expr (pe_bm PySem.F.plainAttrs_list PySem.F.slot_list_extend PySem.F.type_list_extend mt_extend (pv 3) (pa_cons (pe_lc (own := [("entry", 6)]) rfl sc_options_after.nd (pi_list (pe_slice sl_list (pv 4) (po_some pe_int) po_none)) (blkOk_by (N := ["kinds", "entries", "items", "options", "epoch", "waiting", "entry"]) (sc := defScope s_options_after) (by decide +kernel)) (fun _ _ _ _ _ => (pg_name (i := 6) sc_options_after.nd rfl (by first | exact Or.inl rfl | exact Or.inr rfl))) (fun _ _ _ _ _ => pts_nil) (fun _ _ _ _ _ => (pe_callH G_later_options (hr.mono (by omega)) (by rfl) (pa_cons (pv 0) (pa_cons (pv 6) (pa_cons (pv 5) pa_nil)))))) pa_nil)))))))
    (pss_one (ps_ret (pv 3))))), ?_⟩
    refine ⟨Nat.zero_le _, fun N0 nN => ?_⟩
    have aN := sq_ne ha nN
    have cN := sq_ne hc nN
    have sN := same_upd (o := .lst []) nN
    have hN1 : (upd H N0 (.lst [])) N0 = some (.lst []) := upd_same
    refine ⟨_, rfl, b, es, rfl, hb.same sN, l4, fun H2 p1 refs s2 np hp1 hrf nrf => ?_⟩
    have p1N : p1 ≠ N0 := fun z => by rw [z, hN1] at np; cases np
    have rfN : ∀ t, V.ref t ∈ refs → t ≠ N0 := fun t ht z => by have := nrf t ht; rw [z, hN1] at this; cases this
    have hN2 := s2 _ _ hN1
    have ha2 := (ha.same sN).same s2
    have hc2 := (hc.same sN).same s2
    have sH2 : Same H H2 := sN.trans s2
    have lrf := Paired.len hrf
    refine ⟨p1, rfl, ⟨refs, .of hp1⟩, for_list (K := K) (a := p1) (xs := refs) (fun i σ H' => ∃ y4 y5 rs, σ = [some (.ref a), some (.ref b), some (.ref c), some (.ref N0), y4, y5, none] ∧ But N0 H2 H' ∧ H' N0 = some (.lst rs) ∧ Paired (StrsV H') rs (optE ks ((epsE es).take i) its) ∧ ∀ t, V.ref t ∈ rs → t ≠ N0) ⟨none, none, [], rfl, But.refl, hN2, .nil, (fun t h => by cases h)⟩ (fun i σ H' _ hP => ?_) (fun i x σ H3 ex hP => ?_) (fun σ H3 hP => ?_)⟩
    · obtain ⟨_, _, _, _, b3, _⟩ := hP
      exact .of (b3 _ _ p1N hp1)
    · obtain ⟨y4, y5, rs, rfl, b3, hN3, hst, nst⟩ := hP
      obtain ⟨ep, eep, t, rfl, hrec⟩ := Paired.at hrf ex
      have mep : ep ∈ epsE es := List.mem_of_getElem? eep
      have ne := eps_ne ep mep
      have lep : ep.length ≤ 400 := Nat.le_trans (ep_len mep) l4
      have tN := rfN t (List.mem_of_getElem? ex)
      have hrec3 := hrec.but hN2 tN b3
      have ha3 := sq_but aN b3 ha2
      have hc3 := sq_but cN b3 hc2
      have lrs : rs.length = (((epsE es).take i).flatten).length := by
        rw [Paired.len hst]
        exact optE_len fun ep he => eps_ne ep (List.mem_of_mem_take he)
      have lsum : (((epsE es).take i).flatten).length + ep.length ≤ es.length := by
        have h1 := flat_take (L := epsE es) (i := i + 1)
        rw [take_snoc eep, eps_join, List.flatten_append, List.length_append, List.flatten_cons, List.flatten_nil, List.append_nil] at h1
        exact h1
      have pep := List.length_pos_iff.mpr ne
      rw [take_snoc eep, optE_snoc]
      generalize (((epsE es).take i).flatten).length = n at *
      generalize optE ks ((epsE es).take i) its = os at *
      obtain ⟨wt, ewt⟩ : ∃ wt, its[n]? = some wt := ⟨_, List.getElem?_eq_getElem (by omega)⟩
      have ehd : (its.drop n).headD "" = wt := by
        rw [List.headD_eq_head?_getD, List.head?_drop, ewt]
        rfl
      rw [ehd]
      refine ⟨_, rfl, _, rfl, N0, rs, rfl, .inl (.of hN3), ixQ hc3 (atI_ofB (i := (rs.length : Int)) (by omega) (by rw [Int.toNat_natCast, lrs, List.getElem?_map, ewt]; rfl)) ?_⟩
      refine ⟨_, rfl, .inl ⟨rfl, _, SqL.of hN3⟩, _, rfl, _, rfl, a, t, ks, ep, rfl, ha3, l12, hrec3, ne, lep, fun H4 p4 s4 n4 h4 => ⟨N0, _, _, rfl, rfl, s4 _ _ hN3, small (by omega), ?_⟩⟩
      have hN4 := s4 _ _ hN3
      have p4N : p4 ≠ N0 := fun z => by rw [z, hN3] at n4; cases n4
      have hrec5 : Rec (upd H4 N0 (.lst (rs ++ [.ref p4]))) t ep := (hrec3.same s4).but hN4 tN but_upd
      have ha5 : Sq2 (upd H4 N0 (.lst (rs ++ [.ref p4]))) a _ := sq_but aN but_upd (ha3.same s4)
      have b5 : But N0 H2 (upd H4 N0 (.lst (rs ++ [.ref p4]))) := b3.trans ((Same.but s4).trans but_upd)
      have hN5 : (upd H4 N0 (.lst (rs ++ [.ref p4]))) N0 = some (.lst (rs ++ [.ref p4])) := upd_same
      have nst5 : ∀ t, V.ref t ∈ rs ++ [.ref p4] → t ≠ N0 := fun t ht => by
        rcases List.mem_append.mp ht with z | z
        · exact nst t z
        · cases List.mem_singleton.mp z
          exact p4N
      have hst5 : Paired (StrsV (upd H4 N0 (.lst (rs ++ [.ref p4])))) (rs ++ [.ref p4]) (os ++ [optW ks ep]) :=
        strs_but (D := N0) but_upd (Paired.app (Paired.imp (fun _ _ z => StrsV.same s4 z) hst) (.cons ⟨p4, rfl, h4⟩ .nil)) nst5
      generalize upd H4 N0 (.lst (rs ++ [.ref p4])) = H5 at *
      have lr5 : (rs ++ [V.ref p4]).length = rs.length + 1 := by rw [List.length_append]; rfl
      generalize rs ++ [.ref p4] = r5 at *
      obtain ⟨xs, hx5, hpx⟩ := hrec5
      have nex : xs ≠ [] := fun z => by rw [z] at hpx; cases hpx; exact ne rfl
      have hpt := pair_tail hpx
      have lxt := Paired.len hpt
      have ltl : ep.tail.length + 1 = ep.length := by rw [List.length_tail]; omega
      refine ⟨_, rfl, .inl ⟨rfl, _, SqL.of hN5⟩, _, rfl, 1, rfl, t, xs, rfl, .of hx5, fun c2 nc => ?_⟩
      rw [cut_tlE xs nex]
      have sc := same_upd (o := .lst xs.tail) nc
      have hc6 : (upd H5 c2 (.lst xs.tail)) c2 = some (.lst xs.tail) := upd_same
      have ha6 := ha5.same sc
      have hN6 := sc _ _ hN5
      have hpt6 := Paired.imp (fun _ _ z => EnV.same sc z) hpt
      have hst6 := Paired.imp (fun _ _ z => StrsV.same sc z) hst5
      have b6 := b5.trans (Same.but sc)
      generalize upd H5 c2 (.lst xs.tail) = H6 at *
      refine ⟨c2, rfl, ⟨_, .of hc6⟩, fun L nL => lc_list (K := K) (a := c2) (xs := xs.tail) (fun j H' => Same H6 H' ∧ ∃ ls, H' L = some (.lst ls) ∧ Paired (StrsV H') ls ((ep.tail.take j).map (optL ks wt)) ∧ ∀ t, V.ref t ∈ ls → t ≠ L ∧ t ≠ N0) ⟨same_upd nL, [], upd_same, .nil, (fun t h => by cases h)⟩ (fun j H' _ p => .of (p.1 _ _ hc6)) (fun j x H7 ex p => ?_) (fun H7 p => ?_)⟩
      · obtain ⟨sm, ls, hL, hls, nls⟩ := p
        obtain ⟨e, ee, he⟩ := Paired.at hpt6 ex
        have hj : j < xs.tail.length := (List.getElem?_eq_some_iff.mp ex).1
        have lls := Paired.len hls
        rw [List.length_map, List.length_take] at lls
        refine ⟨rfl, yesT ⟨_, rfl, _, rfl, _, rfl, a, x, ks, e, wt, rfl, ha6.same sm, l12, he.same sm, fun H8 p8 s8 n8 h8 => ⟨_, s8 _ _ hL, small (by omega), same_grow nL (sm.trans s8), ls ++ [.ref p8], upd_same, ?_, ?_⟩⟩⟩
        · have pL : p8 ≠ L := fun z => by rw [z, hL] at n8; cases n8
          rw [take_snoc ee, List.map_append]
          refine strs_but (D := L) but_upd (Paired.app (Paired.imp (fun _ _ z => StrsV.same s8 z) hls) (.cons ⟨p8, rfl, h8⟩ .nil)) fun t ht => ?_
          rcases List.mem_append.mp ht with z | z
          · exact (nls t z).1
          · cases List.mem_singleton.mp z
            exact pL
        · intro t ht
          rcases List.mem_append.mp ht with z | z
          · exact nls t z
          · cases List.mem_singleton.mp z
            exact ⟨(fun z => by rw [z, hL] at n8; cases n8), (fun z => by rw [z, sm _ _ hN6] at n8; cases n8)⟩
      · obtain ⟨sm, ls, hL, hls, nls⟩ := p
        rw [lxt, List.take_length] at hls
        have lls := Paired.len hls
        rw [List.length_map] at lls
        refine ⟨N0, L, _, _, rfl, rfl, sm _ _ hN6, hL, smallE (by omega), _, _, _, rfl, ?_, upd_same, ?_, ?_⟩
        · exact b6.trans ((Same.but sm).trans but_upd)
        · have e1 : os ++ optP ks ep wt = (os ++ [optW ks ep]) ++ ep.tail.map (optL ks wt) := by
            rw [List.append_assoc]
            rfl
          rw [e1]
          refine strs_but (D := N0) but_upd (Paired.app (Paired.imp (fun _ _ z => StrsV.same sm z) hst6) hls) fun t ht => ?_
          rcases List.mem_append.mp ht with z | z
          · exact nst5 t z
          · exact (nls t z).2
        · intro t ht
          rcases List.mem_append.mp ht with z | z
          · exact nst5 t z
          · exact (nls t z).2
    · obtain ⟨y4, y5, rs, rfl, b3, hN3, hst, nst⟩ := hP
      rw [lrf, List.take_length] at hst
      exact ⟨_, rfl, q _ _ rs (fun c o e => b3 _ _ (ne_of_none e nN) (sH2 _ _ e)) nN hN3 hst⟩
def FitI (ks : List Str) (es : List En) (its : List Str) : Prop := its.length = es.length ∧ (∀ x ∈ its, KindOk x) ∧ ∀ p ∈ its.zip (optE ks (epsE es) its), p.1 ∈ p.2
/-! fitting_index: slots 0:kinds 1:record 2:items 3:entries 4:index 5:item 6:options -/
abbrev s_fitting_index : Stmt := topS 42
theorem sc_fitting_index : FnScope ["kinds", "record", "items", "entries", "index", "item", "options"] ["kinds", "record", "items"] (defScope s_fitting_index) := ⟨rfl, rfl, rfl, by decide +kernel, rfl, by decide +kernel, by decide +kernel⟩
def sp_fitting_index : Sp := fun vs H Q _ => ∃ (a c : Addr) (v : V) (ks : List Str) (es : List En) (its : List Str), vs = [.ref a, v, .ref c] ∧ Sq2 H a (ks.map V.str) ∧ KsOk ks ∧ RecG H v es ∧ InK ks es ∧ es.length ≤ 400 ∧ Sq2 H c (its.map V.str) ∧ FitI ks es its ∧ ∀ H', Same H H' → Q (.int ((ixZ (its.zip (optE ks (epsE es) its)) : Nat) : Int)) H'
theorem ok_fitting_index (D : Df K mg "fitting_index" s_fitting_index) (T : Tx mg) (G_checked_entries : Has P w K mg base 4 "checked_entries" ["kinds", "record"] sp_checked_entries) (G_is_listed : Has P w K mg base 1 "is_listed" ["value", "most"] sp_is_listed) (G_options_after : Has P w K mg base 3 "options_after" ["kinds", "entries", "items"] sp_options_after) (G_is_kind : Has P w K mg base 1 "is_kind" ["value"] sp_is_kind) : Has P w K mg base 5 "fitting_index" ["kinds", "record", "items"] sp_fitting_index := by
  refine has_of D sc_fitting_index (fun _ _ _ _ _ _ us hl => match us, hl with | [_, _, _], _ => rfl) (fun vs H Q E h => ?_) (fun f cdv A outer s H vs Q E hr h => ?_)
  · obtain ⟨_, _, _, _, _, _, rfl, _⟩ := h
    rfl
  · obtain ⟨a, c, v, ks, es, its, rfl, ha, kso, hv, ink, l4, hc, ⟨li, okk, fit⟩, q⟩ := h
    refine ⟨_, (pss_cons (ps_set (i := 3) sc_fitting_index.nd rfl (by first | exact Or.inl rfl | exact Or.inr rfl) (pe_callH G_checked_entries (hr.mono (by omega)) (by rfl) (pa_cons (pv 0) (pa_cons (pv 1) pa_nil))))
    (pss_cons (ps_if (PW.pt (pw_or (pt_not (pt_val (pe_callH G_is_listed (hr.mono (by omega)) (by rfl) (pa_cons (pv 2) (pa_cons (pe_glI T.c_MAX_ITEMS (by rfl)) pa_nil))))) (pw_or1 (pt_cmpR op_ne (pe_callB call_len_seq (by rfl) T.n_len (by decide +kernel) (pa_cons (pv 2) pa_nil)) (pe_callB call_len_seq (by rfl) T.n_len (by decide +kernel) (pa_cons (pv 3) pa_nil)) (nomark _))))) (pss_one ps_never) pss_nil)
    (pss_cons (ps_set (i := 4) sc_fitting_index.nd rfl (by first | exact Or.inl rfl | exact Or.inr rfl) pe_int)
    (pss_cons (ps_for PassesOwn.never rfl (pi_zipG (by rfl) T.n_zip (pa_cons (pv 2) (pa_cons (pe_callH G_options_after (hr.mono (by omega)) (by rfl) (pa_cons (pv 0) (pa_cons (pv 3) (pa_cons (pv 2) pa_nil)))) pa_nil))) (pg_tup rfl (pgs_cons (pg_name (i := 5) sc_fitting_index.nd rfl (by first | exact Or.inl rfl | exact Or.inr rfl)) (pgs_cons (pg_name (i := 6) sc_fitting_index.nd rfl (by first | exact Or.inl rfl | exact Or.inr rfl)) pgs_nil)))
      (pss_cons (ps_if (PW.pt (pw_or (pt_not (pt_val (pe_callH G_is_kind (hr.mono (by omega)) (by rfl) (pa_cons (pv 5) pa_nil)))) (pw_or1 (pt_cmpR op_notIn_seq (pv 5) (pv 6) (by with_unfolding_all rfl))))) (pss_one ps_never) pss_nil)
    (pss_one (ps_set (i := 4) sc_fitting_index.nd rfl (by first | exact Or.inl rfl | exact Or.inr rfl) (pe_op op_add (pe_op op_mulW (pv 4) (pe_callB call_len_seq (by rfl) T.n_len (by decide +kernel) (pa_cons (pv 6) pa_nil))) (pe_bm PySem.F.plainAttrs_list PySem.F.slot_list_index PySem.F.type_list_index mt_index (pv 6) (pa_cons (pv 5) pa_nil)))))))
    (pss_one (ps_ret (pv 4))))))), ?_⟩
    refine ⟨_, rfl, _, rfl, a, v, ks, es, rfl, ha, kso, hv, ink, l4, fun H1 p1 s1 n1 h1 => ?_⟩
    have hc1 := hc.same s1
    refine ⟨_, rfl, c, _, 400, rfl, hc1, fun H2 s2 => ⟨_, rfl, iteN ?_ ?_⟩⟩
    · show (!decide (((its.map V.str).length : Int) ≤ 400)) = false
      rw [List.length_map, decide_eq_true (by omega)]
      rfl
    have hc2 := hc1.same s2
    obtain ⟨xs, hx2, hpx⟩ := h1.same s2
    have lx := Paired.len hpx
    refine ⟨_, rfl, c, _, rfl, hc2.twoE, _, rfl, p1, _, rfl, .inl (.of hx2), rfl, _, rfl, iteN ?_ ?_⟩
    · rw [List.length_map, li, lx, decide_eq_true rfl]
      rfl
    refine ⟨_, rfl, _, rfl, _, rfl, _, rfl, a, p1, c, ks, es, its, rfl, (ha.same s1).same s2, kso.1, kso.2.1, ⟨xs, hx2, hpx⟩, l4, hc2, li, fun H3 p3 refs s3 n3 hp3 hst => ?_⟩
    have lo : (optE ks (epsE es) its).length = its.length := by
      rw [optE_len fun ep he => eps_ne ep he, eps_join, li]
    have ole : ∀ o ∈ optE ks (epsE es) its, o.length ≤ 12 := fun o ho => Nat.le_trans (optE_le kso.1 o ho) kso.2.1
    generalize optE ks (epsE es) its = os at *
    have lrf := Paired.len hst
    have hz : ∀ p ∈ its.zip os, p.1 ∈ p.2 ∧ p.2.length ≤ 12 := fun p hp => ⟨fit p hp, ole _ (List.of_mem_zip (a := p.1) (b := p.2) hp).2⟩
    refine ⟨_, _, rfl, .inl ⟨c, _, p3, refs, rfl, rfl, (hc2.same s3).twoE, .inl (.of hp3), fun S1 S2 x1 x2 w1 w2 _ _ => for_gen (J := ItG K S1 S2) (n := its.length) (fun i σ H' => ∃ y5 y6, σ = [some (.ref a), some v, some (.ref c), some (.ref p1), some (.int ((ixZ ((its.zip os).take i) : Nat) : Int)), y5, y6] ∧ Same H3 H') ⟨none, none, rfl, Same.refl _⟩ (fun i σ H' hi hP => ?_) (fun σ H' hP => ?_) (fun i x σ H4 H5 hi hP hy => ?_) (fun σ H4 hP => ?_)⟩⟩
    · obtain ⟨_, _, _, sm⟩ := hP
      exact ⟨Sd.here_same sm w1, Sd.here_same sm w2, by rw [x1, List.length_map]; exact hi, by rw [x2]; omega⟩
    · obtain ⟨_, _, _, sm⟩ := hP
      exact ⟨Sd.here_same sm w1, Sd.here_same sm w2, by rw [x1, List.length_map]; exact Nat.le_refl _, by rw [x2]; omega, .inl (by rw [x1, List.length_map])⟩
    · obtain ⟨y5, y6, rfl, sm⟩ := hP
      obtain ⟨Z, x', y', rfl, nZ, rfl, e1, e2⟩ := hy
      rw [x1] at e1
      rw [x2] at e2
      have sZ := same_upd (o := .tup [x', y']) nZ
      obtain ⟨it, eit, rfl⟩ := str_at e1
      obtain ⟨o, eo, t6, rfl, h6⟩ := Paired.at hst e2
      have s5 := sm.trans sZ
      have hZ5 : upd H4 Z (.tup [.str it, .ref t6]) Z = some (.tup [.str it, .ref t6]) := upd_same
      have h6 := s5 _ _ h6
      generalize upd H4 Z (.tup [.str it, .ref t6]) = H5 at *
      have ez := zip_at eit eo
      have mo := fit _ (List.mem_of_getElem? ez)
      have lo12 := ole o (List.mem_of_getElem? eo)
      have hl := ixZ_lt (Z := (its.zip os).take i) (fun p hp => hz p (List.mem_of_mem_take hp)) (by rw [List.length_take, List.length_zip]; omega)
      rw [ixZ_snoc ez]
      generalize ixZ ((its.zip os).take i) = ix at *
      refine ⟨Z, _, rfl, .of hZ5, rfl, _, _, rfl, _, _, rfl, rfl, ?_⟩
      refine ⟨_, rfl, it, rfl, okk it (List.mem_of_getElem? eit), fun H6 s6 => ⟨true, rfl, iteN rfl ?_⟩⟩
      have h6 := s6 _ _ h6
      refine ⟨_, rfl, _, rfl, t6, _, rfl, .inl (.of h6), rfl, flat_strs _, _, rfl, ?_⟩
      rw [if_pos rfl, inV_strs, decide_eq_true mo]
      refine iteF ?_
      have hj := idx_lt mo
      refine ⟨_, rfl, _, rfl, t6, _, rfl, .inl (.of h6), _, _, rfl, rfl, wide_mul (a := 1700) (b := 8) (by rw [Int.natAbs_natCast]; exact hl) (by rw [Int.natAbs_natCast, List.length_map]; exact Nat.lt_of_le_of_lt lo12 (by decide)) (by decide) (by decide) (by decide), ?_⟩
      refine ⟨_, rfl, .inl ⟨rfl, _, SqL.of h6⟩, _, rfl, t6, _, .str it, o.idxOf it, .str it, rfl, rfl, .of h6, rfl, flat_strs _, ?_, ?_, ?_, _, _, rfl, rfl, some (.str it), some (.ref t6), ?_, s5.trans s6⟩
      · rw [List.getElem?_map, List.getElem?_eq_getElem hj, List.getElem_idxOf hj]
        rfl
      · show (it == it) = true
        exact beq_self_eq_true it
      · intro m z' hm hz'
        obtain ⟨k, ek, rfl⟩ := str_at hz'
        show (k == it) = false
        have hml : m < o.length := Nat.lt_trans hm hj
        rw [List.getElem?_eq_getElem hml] at ek
        have := List.not_of_lt_findIdx (p := (· == it)) (xs := o) (i := m) hm
        rw [Option.some.inj ek] at this
        simpa using this
      · unfold stepI
        rw [List.length_map, Int.natCast_add, Int.natCast_mul]
        rfl
    · obtain ⟨y5, y6, rfl, sm⟩ := hP
      rw [show (its.zip os).take its.length = its.zip os by rw [List.take_of_length_le]; rw [List.length_zip]; omega]
      exact ⟨_, rfl, q _ (((s1.trans s2).trans s3).trans sm)⟩
end
end UP

set_option Elab.async false
set_option linter.all false
set_option maxRecDepth 100000
set_option maxHeartbeats 4000000
set_option pp.maxSteps 900
namespace UP
open PySem PySem.Spec PyProof.Rows L2
/-! ### conflicts -/
inductive Cf where
  | lev (l : Nat)
  | thr (w : Str) (a l : Nat)
def cfL : Cf → List V
  | .lev l => [.str "level", nvV l]
  | .thr w a l => [.str w, nvV a, nvV l]
def CfV (H : Hp) (v : V) (c : Cf) : Prop := ∃ t, v = .ref t ∧ H t = some (.tup (cfL c))
theorem CfV.same {H H' : Hp} {v : V} {c : Cf} (s : Same H H') (h : CfV H v c) : CfV H' v c := by
  obtain ⟨t, e, h⟩ := h
  exact ⟨t, e, s _ _ h⟩
theorem CfV.grow {H : Hp} {D : Addr} {acc : List V} {o : HO} {v : V} {c : Cf} (hD : H D = some (.lst acc)) (h : CfV H v c) : CfV (upd H D o) v c := by
  obtain ⟨t, e, h⟩ := h
  exact ⟨t, e, by rw [upd_ne (ne_of h hD (by intro y; cases y))]; exact h⟩
def CfO (H : Hp) (v : V) : Option Cf → Prop
  | none => v = .non
  | some c => CfV H v c
theorem CfO.same {H H' : Hp} {v : V} {c : Option Cf} (s : Same H H') (h : CfO H v c) : CfO H' v c := by
  cases c with
  | none => exact h
  | some c => exact CfV.same s h
def enA (es : List En) (a : Nat) : En := es.getD a (none, false)
theorem enA_at {es : List En} {a : Nat} {e : En} (h : es[a]? = some e) : enA es a = e := by
  unfold enA
  rw [List.getD_eq_getElem?_getD, h]
  rfl
def othE (es : List En) (f l : Nat) : List Nat := (List.range' f (l - f)).filter fun a => (enA es l).1.isSome && (enA es a).1.isSome
def btwE (es : List En) (f l : Nat) : List Cf :=
  ((othE es f l).filter fun a => (decide ((enA es l).2 = (enA es a).2) && decide ((enA es a).2 = true)) && !decide ((enA es a).1 = (enA es l).1)).map (Cf.thr "waits" · l) ++
  ((othE es f l).filter fun a => (!decide ((enA es l).2 = (enA es a).2)) && decide ((enA es a).1 = (enA es l).1)).map (Cf.thr "leaves" · l)
def lastB (ep : List En) : Bool := (enA ep (ep.length - 1)).2
def exhE (ks : List Str) (ep : List En) : Bool := ((knE ep true).isEmpty && ks.all fun k => decide (k ∈ knE ep false)) || (decide (ks.length = 1) && !lastB ep)
def cutE (es : List En) (f l : Nat) : List En := (es.drop f).take (l + 1 - f)
def cfsE (ks : List Str) (es : List En) (f l : Nat) : List Cf :=
  if decide (f = l) && !(enA es l).2 then [.lev l] else btwE es f l ++ (if exhE ks (cutE es f l) then [.thr "all" f l] else [])
def cfEp (ks : List Str) (es : List En) (f n : Nat) : Option Cf := (List.range n).findSome? fun j => (cfsE ks es f (f + j)).head?
def cfGo (ks : List Str) (es : List En) : Nat → List (List En) → Option Cf
  | _, [] => none
  | f, ep :: r => (cfEp ks es f ep.length).or (cfGo ks es (f + ep.length) r)
def cfE (ks : List Str) (es : List En) : Option Cf := cfGo ks es 0 (epsE es)
theorem ko_dec (a b : Option Str) : decide (koV a = koV b) = decide (a = b) := by
  refine decide_eq_decide.mpr ⟨fun h => ?_, fun h => congrArg koV h⟩
  cases a <;> cases b
  · rfl
  · cases h
  · cases h
  · exact congrArg some (V.str.inj h)
theorem ko_scal (a b : Option Str) : scal (koV a) (koV b) = true := by cases a <;> cases b <;> rfl
theorem ko_non (a : Option Str) : (!decide (koV a = V.non)) = a.isSome := by
  cases a with
  | none => exact yes_non
  | some k => exact no_non k
theorem btw_len (es : List En) (f l : Nat) : (othE es f l).length ≤ l - f := by
  unfold othE
  refine Nat.le_trans (List.length_filter_le _ _) ?_
  rw [List.length_range']
  exact Nat.le_refl _
theorem ent_at {H : Hp} {xs : List V} {es : List En} {k : Nat} (hp : Paired (EnV H) xs es) (h : k < es.length) : ∃ t, atI xs (k : Int) = some (.ref t) ∧ H t = some (.tup [koV (enA es k).1, .str (actS (enA es k).2)]) := by
  obtain ⟨x, ex, hx⟩ := Paired.at' hp (List.getElem?_eq_getElem h)
  obtain ⟨t, rfl, ht⟩ := hx
  refine ⟨t, atI_ofB (by omega) (by rw [Int.toNat_natCast]; exact ex), ?_⟩
  rw [enA_at (List.getElem?_eq_getElem h)]
  exact ht
theorem range_snoc (f n : Nat) : List.range' f (n + 1) = List.range' f n ++ [f + n] := by
  rw [List.range'_1_concat]
theorem filt_app1 {α : Type} (p : α → Bool) (l : List α) (x : α) : (l ++ [x]).filter p = l.filter p ++ if p x = true then [x] else [] := by
  rw [List.filter_append]
  congr 1
  cases e : p x <;> simp [e]
theorem nat_at {O : List Nat} {i : Nat} {x : V} (h : (O.map nvV)[i]? = some x) : ∃ k, O[i]? = some k ∧ x = nvV k := by
  rw [List.getElem?_map] at h
  cases hk : O[i]? with
  | none => rw [hk] at h; cases h
  | some k => rw [hk] at h; exact ⟨k, rfl, (Option.some.inj h).symm⟩
/-- [k for k in O if p(k)] -/
theorem lc_nats {K : PySem.W.Frag} {a L : Addr} {O : List Nat} {sl : Nat} {tt : TT} {te : TE} {vs : List Nat} {σ : L2.St} {H1 : Hp} {Qd : Hp → Prop} (p : Nat → Bool) (hO : H1 a = some (.lst (O.map nvV))) (lO : O.length ≤ 400) (nL : H1 L = none) (hw : ∀ x, wipe ((wipe σ vs).set sl (some x)) vs = wipe σ vs)
    (step : ∀ k H (R : Bool → Hp → Prop), k ∈ O → Same H1 H → R (p k) H → tt ((wipe σ vs).set sl (some (nvV k))) H R) (hte : ∀ k H (R : VK), R (nvV k) H → te ((wipe σ vs).set sl (some (nvV k))) H R)
    (hd : ∀ H, Same H1 H → H L = some (.lst ((O.filter p).map nvV)) → Qd H) :
    ∃ W : Nat → Nat → Hp → Prop, (∃ m, W 0 m (upd H1 L (.lst []))) ∧ ∀ i m H, W i m H →
      ((Itl K a).stop i H ∧ Qd H) ∨ ((Itl K a).go i H ∧ ∃ Nx : Hp → Prop, (∀ H', Nx H' → ∃ m', m' < m ∧ W (i + 1) m' H') ∧ ∀ x H', (Itl K a).yld i H x H' → gName sl x (wipe σ vs) H' fun σ2 H2 => wipe σ2 vs = wipe σ vs ∧ tt σ2 H2 fun b H3 =>
        if b = true then te σ2 H3 fun y H4 => ∃ acc, H4 L = some (.lst acc) ∧ acc.length < sizeLine ∧ Nx (upd H4 L (.lst (acc ++ [y]))) else Nx H3) := by
  refine lc_list (K := K) (a := a) (xs := O.map nvV) (fun i H' => Same H1 H' ∧ H' L = some (.lst (((O.take i).filter p).map nvV))) ⟨same_upd nL, upd_same⟩ (fun i H' _ h => .of (h.1 _ _ hO)) (fun i x H2 ex hP => ?_) (fun H2 hP => ?_)
  · obtain ⟨sm, hL⟩ := hP
    obtain ⟨k, ek, rfl⟩ := nat_at ex
    have hi : i < O.length := (List.getElem?_eq_some_iff.mp ek).1
    refine ⟨hw _, step k H2 _ (List.mem_of_getElem? ek) sm ?_⟩
    show (if p k = true then _ else _)
    rw [take_snoc ek, filt_app1]
    cases e : p k with
    | true =>
      refine iteP rfl (hte k H2 _ ⟨_, hL, ?_, same_grow nL sm, ?_⟩)
      · have := List.length_filter_le p (O.take i)
        rw [List.length_take] at this
        rw [List.length_map]
        exact small (by omega)
      · rw [upd_same, if_pos rfl, List.map_append]
        rfl
    | false =>
      refine iteN rfl ⟨sm, ?_⟩
      rw [if_neg (by decide), List.append_nil]
      exact hL
  · obtain ⟨sm, hL⟩ := hP
    rw [List.length_map, List.take_length] at hL
    exact hd _ sm hL
/-- [(w, k, l) for k in O] -/
theorem lc_thr {K : PySem.W.Frag} {a L : Addr} {O : List Nat} {sl : Nat} {te : TE} {vs : List Nat} {σ : L2.St} {H1 : Hp} {Qd : Hp → Prop} (w : Str) (l : Nat) (hO : H1 a = some (.lst (O.map nvV))) (lO : O.length ≤ 400) (nL : H1 L = none) (hw : ∀ x, wipe ((wipe σ vs).set sl (some x)) vs = wipe σ vs)
    (hte : ∀ k H (R : VK), (∀ t, H t = none → R (.ref t) (upd H t (.tup [.str w, nvV k, nvV l]))) → te ((wipe σ vs).set sl (some (nvV k))) H R)
    (hd : ∀ H xs, Same H1 H → H L = some (.lst xs) → Paired (CfV H) xs (O.map (Cf.thr w · l)) → Qd H) :
    ∃ W : Nat → Nat → Hp → Prop, (∃ m, W 0 m (upd H1 L (.lst []))) ∧ ∀ i m H, W i m H →
      ((Itl K a).stop i H ∧ Qd H) ∨ ((Itl K a).go i H ∧ ∃ Nx : Hp → Prop, (∀ H', Nx H' → ∃ m', m' < m ∧ W (i + 1) m' H') ∧ ∀ x H', (Itl K a).yld i H x H' → gName sl x (wipe σ vs) H' fun σ2 H2 => wipe σ2 vs = wipe σ vs ∧ tYes σ2 H2 fun b H3 =>
        if b = true then te σ2 H3 fun y H4 => ∃ acc, H4 L = some (.lst acc) ∧ acc.length < sizeLine ∧ Nx (upd H4 L (.lst (acc ++ [y]))) else Nx H3) := by
  refine lc_list (K := K) (a := a) (xs := O.map nvV) (fun i H' => Same H1 H' ∧ ∃ xs, H' L = some (.lst xs) ∧ Paired (CfV H') xs ((O.take i).map (Cf.thr w · l))) ⟨same_upd nL, [], upd_same, .nil⟩ (fun i H' _ h => .of (h.1 _ _ hO)) (fun i x H2 ex hP => ?_) (fun H2 hP => ?_)
  · obtain ⟨sm, xs, hL, hp⟩ := hP
    obtain ⟨k, ek, rfl⟩ := nat_at ex
    have hi : i < O.length := (List.getElem?_eq_some_iff.mp ek).1
    refine ⟨hw _, yesT (hte k H2 _ fun t nt => ⟨_, same_upd nt _ _ hL, ?_, same_grow nL (sm.trans (same_upd nt)), _, upd_same, ?_⟩)⟩
    · have := Paired.len hp
      rw [List.length_map, List.length_take] at this
      exact small (by omega)
    · rw [take_snoc ek, List.map_append]
      exact Paired.app (Paired.imp (fun _ _ z => CfV.grow (same_upd nt _ _ hL) (CfV.same (same_upd nt) z)) hp) (.cons (CfV.grow (same_upd nt _ _ hL) ⟨t, rfl, upd_same⟩) .nil)
  · obtain ⟨sm, xs, hL, hp⟩ := hP
    rw [List.length_map, List.take_length] at hp
    exact hd _ xs sm hL hp
theorem cut_fl {xs : List V} {f l : Nat} (h1 : f ≤ l) (h2 : l < xs.length) : cutV xs (some (f : Int)) (some ((l + 1 : Nat) : Int)) = (xs.drop f).take (l + 1 - f) := by
  unfold cutV
  rw [HT.sIx_nat, HT.sIx_nat, show min f xs.length = f by omega, show min (l + 1) xs.length = l + 1 by omega]
section
variable {P : Program} {w : World} {K : PySem.W.Frag} {mg : Str → Option Value} {base : Heap}
/-! conflicts_between: slots 0:entries 1:first 2:last 3:others 4:waits 5:leaves 6:kind 7:action 8:at -/
abbrev s_conflicts_between : Stmt := topS 35
theorem sc_conflicts_between : FnScope ["entries", "first", "last", "others", "waits", "leaves", "kind", "action", "at"] ["entries", "first", "last"] (defScope s_conflicts_between) := ⟨rfl, rfl, rfl, by decide +kernel, rfl, by decide +kernel, by decide +kernel⟩
def sp_conflicts_between : Sp := fun vs H Q _ => ∃ (a : Addr) (es : List En) (f l : Nat), vs = [.ref a, nvV f, nvV l] ∧ Rec H a es ∧ es.length ≤ 400 ∧ f ≤ l ∧ l < es.length ∧ ∀ H' p xs, Same H H' → H p = none → H' p = some (.lst xs) → Paired (CfV H') xs (btwE es f l) → Q (.ref p) H'
theorem ok_conflicts_between (D : Df K mg "conflicts_between" s_conflicts_between) (T : Tx mg) : Has P w K mg base 1 "conflicts_between" ["entries", "first", "last"] sp_conflicts_between := by
  refine has_of D sc_conflicts_between (fun _ _ _ _ _ _ us hl => match us, hl with | [_, _, _], _ => rfl) (fun vs H Q E h => ?_) (fun f cdv A outer s H vs Q E hr h => ?_)
  · obtain ⟨_, _, _, _, rfl, _⟩ := h
    rfl
  · obtain ⟨a, es, fi, la, rfl, ⟨xs, hx, hp⟩, l4, fl, ll, q⟩ := h
    refine ⟨_, (pss_cons (ps_asg (pe_ix ix_list (pv 0) (pv 2) (fun _ _ => rfl)) (pg_tup rfl (pgs_cons (pg_name (i := 6) sc_conflicts_between.nd rfl (by first | exact Or.inl rfl | exact Or.inr rfl)) (pgs_cons (pg_name (i := 7) sc_conflicts_between.nd rfl (by first | exact Or.inl rfl | exact Or.inr rfl)) pgs_nil))))
    (pss_cons (ps_setLc (i := 3) (own := [("at", 8)]) rfl sc_conflicts_between.nd rfl rfl (sw_true rfl rfl rfl (by decide +kernel)) (pi_range2 (by rfl) T.n_range (pa_cons (pv 1) (pa_cons (pv 2) pa_nil))) (blkOk_by (N := ["entries", "first", "last", "others", "waits", "leaves", "kind", "action", "at"]) (sc := defScope s_conflicts_between) (by decide +kernel)) (fun _ _ _ _ _ => (pg_name (i := 8) sc_conflicts_between.nd rfl (by first | exact Or.inl rfl | exact Or.inr rfl))) (fun _ _ _ _ _ => pts_one (PW.pt (pw_and (pt_cmpR op_notN (pv 6) pe_non (nomark _)) (pw_and1 (pt_cmpR op_notN (pe_ix (ix_tupK (K := K) rfl) (pe_ix (ix_listK (K := K) rfl) (pv 0) (pv 8) (fun _ _ => rfl)) pe_int (fun _ _ => rfl)) pe_non (nomark _)))))) (fun _ _ _ _ _ => (pv 8)))
    (pss_cons (ps_setLc (i := 4) (own := [("at", 8)]) rfl sc_conflicts_between.nd rfl rfl (sw_true rfl rfl rfl (by decide +kernel)) (pi_list (pv 3)) (blkOk_by (N := ["entries", "first", "last", "others", "waits", "leaves", "kind", "action", "at"]) (sc := defScope s_conflicts_between) (by decide +kernel)) (fun _ _ _ _ _ => (pg_name (i := 8) sc_conflicts_between.nd rfl (by first | exact Or.inl rfl | exact Or.inr rfl))) (fun _ _ _ _ _ => pts_one (PW.pt (pw_and (pt_chain op_eq op_eq (pv 7) (pe_ix (ix_tupK (K := K) rfl) (pe_ix (ix_listK (K := K) rfl) (pv 0) (pv 8) (fun _ _ => rfl)) pe_int (fun _ _ => rfl)) pe_str) (pw_and1 (pt_cmpR op_ne (pe_ix (ix_tupK (K := K) rfl) (pe_ix (ix_listK (K := K) rfl) (pv 0) (pv 8) (fun _ _ => rfl)) pe_int (fun _ _ => rfl)) (pv 6) (nomark _)))))) (fun _ _ _ _ _ => (pv 8)))
    (pss_cons (ps_setLc (i := 5) (own := [("at", 8)]) rfl sc_conflicts_between.nd rfl rfl (sw_true rfl rfl rfl (by decide +kernel)) (pi_list (pv 3)) (blkOk_by (N := ["entries", "first", "last", "others", "waits", "leaves", "kind", "action", "at"]) (sc := defScope s_conflicts_between) (by decide +kernel)) (fun _ _ _ _ _ => (pg_name (i := 8) sc_conflicts_between.nd rfl (by first | exact Or.inl rfl | exact Or.inr rfl))) (fun _ _ _ _ _ => pts_one (PW.pt (pw_and (pt_cmpR op_ne (pv 7) (pe_ix (ix_tupK (K := K) rfl) (pe_ix (ix_listK (K := K) rfl) (pv 0) (pv 8) (fun _ _ => rfl)) pe_int (fun _ _ => rfl)) (nomark _)) (pw_and1 (pt_cmpR op_eq (pe_ix (ix_tupK (K := K) rfl) (pe_ix (ix_listK (K := K) rfl) (pv 0) (pv 8) (fun _ _ => rfl)) pe_int (fun _ _ => rfl)) (pv 6) (nomark _)))))) (fun _ _ _ _ _ => (pv 8)))
    (pss_one (ps_ret (pe_op op_cat (pe_lc (own := [("at", 8)]) rfl sc_conflicts_between.nd (pi_list (pv 4)) (blkOk_by (N := ["entries", "first", "last", "others", "waits", "leaves", "kind", "action", "at"]) (sc := defScope s_conflicts_between) (by decide +kernel)) (fun _ _ _ _ _ => (pg_name (i := 8) sc_conflicts_between.nd rfl (by first | exact Or.inl rfl | exact Or.inr rfl))) (fun _ _ _ _ _ => pts_nil) (fun _ _ _ _ _ => (pe_tup (pa_cons pe_str (pa_cons (pv 8) (pa_cons (pv 2) pa_nil)))))) (pe_lc (own := [("at", 8)]) rfl sc_conflicts_between.nd (pi_list (pv 5)) (blkOk_by (N := ["entries", "first", "last", "others", "waits", "leaves", "kind", "action", "at"]) (sc := defScope s_conflicts_between) (by decide +kernel)) (fun _ _ _ _ _ => (pg_name (i := 8) sc_conflicts_between.nd rfl (by first | exact Or.inl rfl | exact Or.inr rfl))) (fun _ _ _ _ _ => pts_nil) (fun _ _ _ _ _ => (pe_tup (pa_cons pe_str (pa_cons (pv 8) (pa_cons (pv 2) pa_nil))))))))))))), ?_⟩
    obtain ⟨tl, etl, htl⟩ := ent_at hp ll
    refine ⟨_, rfl, _, rfl, a, xs, (la : Int), _, rfl, rfl, .of hx, etl, tl, _, rfl, .of htl, rfl, _, _, rfl, _, _, rfl, rfl, ?_⟩
    have lth := btw_len es fi la
    have p62 : ∀ n : Nat, n ≤ 400 → (n : Int) < 2 ^ 62 := fun n h => by omega
    -- others
    refine ⟨_, rfl, _, rfl, (fi : Int), (la : Int), rfl, ⟨by omega, p62 fi (by omega), by omega, p62 la (by omega)⟩, fun L nL => lc_range (lo := (fi : Int)) (n := ((la : Int) - (fi : Int)).toNat) (fun i H' => Same H H' ∧ H' L = some (.lst (((List.range' fi i).filter fun a => (enA es la).1.isSome && (enA es a).1.isSome).map nvV))) ⟨same_upd nL, upd_same⟩ (fun i H1 hi hP => ?_) (fun H1 hP => ?_)⟩
    · obtain ⟨sm, hL⟩ := hP
      have hk : fi + i < es.length := by omega
      obtain ⟨t, et, ht⟩ := ent_at hp hk
      have ec : (fi : Int) + (i : Int) = ((fi + i : Nat) : Int) := by omega
      have hlen : (((List.range' fi i).filter fun a => (enA es la).1.isSome && (enA es a).1.isSome).map nvV).length < sizeLine := by
        have := List.length_filter_le (fun a => (enA es la).1.isSome && (enA es a).1.isSome) (List.range' fi i)
        rw [List.length_range'] at this
        rw [List.length_map]
        exact small (by omega)
      rw [ec, range_snoc, filt_app1]
      refine ⟨rfl, _, rfl, rfl, _, rfl, ?_⟩
      rw [ko_non]
      by_cases c1 : (enA es la).1.isSome = true
      · refine iteP c1 ⟨_, rfl, _, rfl, a, xs, ((fi + i : Nat) : Int), _, rfl, rfl, .of (sm _ _ hx), et, t, _, 0, _, rfl, rfl, .of (sm _ _ ht), rfl, rfl, _, rfl, ?_⟩
        rw [ko_non, c1, Bool.true_and]
        by_cases c2 : (enA es (fi + i)).1.isSome = true
        · refine iteP c2 ⟨_, rfl, _, hL, hlen, same_grow nL sm, ?_⟩
          rw [upd_same, if_pos c2, List.map_append, c1]
          simp only [Bool.true_and]
          rfl
        · have c2 : (enA es (fi + i)).1.isSome = false := by simpa using c2
          refine iteN c2 ⟨sm, ?_⟩
          rw [if_neg (by rw [c2]; decide), List.append_nil]
          rw [c1] at hL
          simp only [Bool.true_and] at hL
          exact hL
      · have c1 : (enA es la).1.isSome = false := by simpa using c1
        refine iteN c1 (iteF ⟨sm, ?_⟩)
        rw [c1, Bool.false_and, if_neg (by decide), List.append_nil]
        rw [c1] at hL
        simp only [Bool.false_and] at hL ⊢
        exact hL
    obtain ⟨s1, hL⟩ := hP
    rw [show ((la : Int) - (fi : Int)).toNat = la - fi by omega] at hL
    have hL : H1 L = some (.lst ((othE es fi la).map nvV)) := hL
    have othl : ∀ k ∈ othE es fi la, k < es.length := fun k hk => by
      have := (List.mem_range'.mp (List.mem_filter.mp hk).1)
      omega
    have hx1 := s1 _ _ hx
    have hp1 := Paired.imp (fun _ _ z => EnV.same s1 z) hp
    unfold btwE at q
    generalize othE es fi la = O at *
    have lO : O.length ≤ 400 := by omega
    -- waits
    refine ⟨_, rfl, L, rfl, ⟨_, .of hL⟩, fun M nM => lc_nats (K := K) (fun a => (decide ((enA es la).2 = (enA es a).2) && decide ((enA es a).2 = true)) && !decide ((enA es a).1 = (enA es la).1)) hL lO nM (fun x => rfl) (fun k H2 R mk sm hR => ?_) (fun k H2 R hR => ⟨_, rfl, hR⟩) (fun H2 s2 hM => ?_)⟩
    · obtain ⟨t, et, ht⟩ := ent_at hp1 (othl k mk)
      refine ⟨_, rfl, _, rfl, _, rfl, a, xs, (k : Int), _, rfl, rfl, .of (sm _ _ hx1), et, t, _, 1, _, rfl, rfl, .of (sm _ _ ht), rfl, rfl, _, rfl, ?_⟩
      rw [act_eq]
      cases c1 : decide ((enA es la).2 = (enA es k).2) with
      | false =>
        refine iteF ⟨_, rfl, iteF ?_⟩
        rw [c1, Bool.false_and, Bool.false_and] at hR
        exact hR
      | true =>
        rw [c1, Bool.true_and] at hR
        refine iteT ⟨rfl, _, rfl, ?_⟩
        show (if decide (V.str (actS (enA es k).2) = V.str (actS true)) = true then _ else _)
        rw [act_eq]
        cases c2 : decide ((enA es k).2 = true) with
        | false =>
          refine iteF ?_
          rw [c2, Bool.false_and] at hR
          exact hR
        | true =>
          rw [c2, Bool.true_and] at hR
          refine iteT ⟨_, rfl, _, rfl, a, xs, (k : Int), _, rfl, rfl, .of (sm _ _ hx1), et, t, _, 0, _, rfl, rfl, .of (sm _ _ ht), rfl, _, rfl, ko_scal _ _, _, rfl, ?_⟩
          rw [ko_dec]
          exact hR
    -- leaves
    refine ⟨_, rfl, L, rfl, ⟨_, .of (s2 _ _ hL)⟩, fun M2 nM2 => lc_nats (K := K) (fun a => (!decide ((enA es la).2 = (enA es a).2)) && decide ((enA es a).1 = (enA es la).1)) (s2 _ _ hL) lO nM2 (fun x => rfl) (fun k H3 R mk sm hR => ?_) (fun k H3 R hR => ⟨_, rfl, hR⟩) (fun H3 s3 hM2 => ?_)⟩
    · obtain ⟨t, et, ht⟩ := ent_at hp1 (othl k mk)
      have hx3 := sm _ _ (s2 _ _ hx1)
      have ht3 := sm _ _ (s2 _ _ ht)
      refine ⟨_, rfl, _, rfl, _, rfl, a, xs, (k : Int), _, rfl, rfl, .of hx3, et, t, _, 1, _, rfl, rfl, .of ht3, rfl, rfl, _, rfl, ?_⟩
      rw [act_eq]
      cases c1 : decide ((enA es la).2 = (enA es k).2) with
      | true =>
        refine iteF ?_
        rw [c1, Bool.not_true, Bool.false_and] at hR
        exact hR
      | false =>
        rw [c1, Bool.not_false, Bool.true_and] at hR
        refine iteT ⟨_, rfl, _, rfl, a, xs, (k : Int), _, rfl, rfl, .of hx3, et, t, _, 0, _, rfl, rfl, .of ht3, rfl, _, rfl, ko_scal _ _, _, rfl, ?_⟩
        rw [ko_dec]
        exact hR
    have hM := s3 _ _ hM
    have s13 := s1.trans (s2.trans s3)
    have lf1 := List.length_filter_le (fun a => (decide ((enA es la).2 = (enA es a).2) && decide ((enA es a).2 = true)) && !decide ((enA es a).1 = (enA es la).1)) O
    have lf2 := List.length_filter_le (fun a => (!decide ((enA es la).2 = (enA es a).2)) && decide ((enA es a).1 = (enA es la).1)) O
    generalize O.filter (fun a => (decide ((enA es la).2 = (enA es a).2) && decide ((enA es a).2 = true)) && !decide ((enA es a).1 = (enA es la).1)) = O1 at *
    generalize O.filter (fun a => (!decide ((enA es la).2 = (enA es a).2)) && decide ((enA es a).1 = (enA es la).1)) = O2 at *
    refine ⟨_, rfl, M, rfl, ⟨_, .of hM⟩, fun A1 nA1 => lc_thr (K := K) "waits" la hM (by omega) nA1 (fun x => rfl) (fun k H4 R hR => ⟨_, rfl, _, rfl, (by show 3 ≤ sizeLine; decide), hR⟩) (fun H4 x4 s4 h4 p4 => ?_)⟩
    refine ⟨_, rfl, M2, rfl, ⟨_, .of (s4 _ _ hM2)⟩, fun A2 nA2 => lc_thr (K := K) "leaves" la (s4 _ _ hM2) (by omega) nA2 (fun x => rfl) (fun k H5 R hR => ⟨_, rfl, _, rfl, (by show 3 ≤ sizeLine; decide), hR⟩) (fun H5 x5 s5 h5 p5 => ?_)⟩
    have e4 := Paired.len p4
    have e5 := Paired.len p5
    rw [List.length_map] at e4 e5
    have s5' := s13.trans (s4.trans s5)
    refine ⟨A1, A2, _, _, rfl, rfl, s5 _ _ h4, h5, smallE (by omega), fun Z nZ => q _ _ _ (s5'.trans (same_upd nZ)) (s5'.free nZ) upd_same ?_⟩
    exact Paired.imp (fun _ _ z => CfV.same (same_upd nZ) z) (Paired.app (Paired.imp (fun _ _ z => CfV.same s5 z) p4) p5)
end
end UP

set_option Elab.async false
set_option linter.all false
set_option maxRecDepth 100000
set_option maxHeartbeats 4000000
set_option pp.maxSteps 900
namespace UP
open PySem PySem.Spec PyProof.Rows L2
theorem lastB_of {yi : List En} {y : En} : lastB (yi ++ [y]) = y.2 := by
  unfold lastB
  rw [List.length_append]
  show (enA (yi ++ [y]) (yi.length + 1 - 1)).2 = _
  rw [Nat.add_sub_cancel, enA_at (e := y) (by rw [List.getElem?_append_right (Nat.le_refl _), Nat.sub_self]; rfl)]
theorem bl_allF {α : Type} {f : α → Bool} : ∀ l : List α, ((l.map f).all id) = l.all f
  | [] => rfl
  | x :: t => by rw [List.map_cons, List.all_cons, List.all_cons, bl_allF t]; rfl
theorem nv_dec (a b : Nat) : decide (nvV a = nvV b) = decide (a = b) := decide_eq_decide.mpr ⟨fun h => by have := V.int.inj h; omega, fun h => by rw [h]⟩
theorem leaves_dec (c : Bool) : decide (V.str (actS c) = V.str "leaves") = !c := by
  show decide (V.str (actS c) = V.str (actS false)) = _
  rw [act_eq]
  cases c <;> rfl
theorem find_first {α : Type} {F : Nat → Option α} {n j : Nat} {c : α} (h0 : ∀ i < j, F i = none) (h : F j = some c) (hj : j < n) : (List.range n).findSome? F = some c := by
  have e : List.range n = List.range j ++ List.range' j (n - j) := by
    rw [List.range_eq_range', List.range_eq_range', show n = j + (n - j) by omega, ← List.range'_append_1]
    simp
  rw [e, List.findSome?_append]
  have e1 : (List.range j).findSome? F = none := List.findSome?_eq_none_iff.mpr fun i hi => h0 i (List.mem_range.mp hi)
  rw [e1]
  obtain ⟨m, hm⟩ : ∃ m, n - j = m + 1 := ⟨n - j - 1, by omega⟩
  rw [hm, List.range'_succ, List.findSome?_cons, h]
  rfl
theorem find_none {α : Type} {F : Nat → Option α} {n : Nat} (h0 : ∀ i < n, F i = none) : (List.range n).findSome? F = none := List.findSome?_eq_none_iff.mpr fun i hi => h0 i (List.mem_range.mp hi)
/-- the certain kind of an entry -/
def cerK (ks : List Str) (opt : List Str) (e : En) : Option Str := if e.1.isSome || decide (opt.length > 1) then e.1 else (match optL ks (opt.headD "") e with
  | [x] => some x
  | _ => none)
def cerE (ks : List Str) (es : List En) : List (Option Str) := (epsE es).flatMap fun ep => ep.map (cerK ks (optW ks ep))
section
variable {P : Program} {w : World} {K : PySem.W.Frag} {mg : Str → Option Value} {base : Heap}
/-! is_exhausted: slots 0:kinds 1:epoch 2:leaving 3:kind -/
abbrev s_is_exhausted : Stmt := topS 36
theorem sc_is_exhausted : FnScope ["kinds", "epoch", "leaving", "kind"] ["kinds", "epoch"] (defScope s_is_exhausted) := ⟨rfl, rfl, rfl, by decide +kernel, rfl, by decide +kernel, by decide +kernel⟩
def sp_is_exhausted : Sp := fun vs H Q _ => ∃ (a b : Addr) (ks : List Str) (ep : List En), vs = [.ref a, .ref b] ∧ Sq2 H a (ks.map V.str) ∧ ks.length ≤ 12 ∧ Rec H b ep ∧ ep ≠ [] ∧ (∀ e ∈ ep, EnOk e) ∧ ep.length ≤ 400 ∧ ∀ H', Same H H' → Q (.bl (exhE ks ep)) H'
theorem ok_is_exhausted (D : Df K mg "is_exhausted" s_is_exhausted) (T : Tx mg) (G_known_kinds : Has P w K mg base 1 "known_kinds" ["entries", "wanted"] sp_known_kinds) : Has P w K mg base 2 "is_exhausted" ["kinds", "epoch"] sp_is_exhausted := by
  refine has_of D sc_is_exhausted (fun _ _ _ _ _ _ us hl => match us, hl with | [_, _], _ => rfl) (fun vs H Q E h => ?_) (fun f cdv A outer s H vs Q E hr h => ?_)
  · obtain ⟨_, _, _, _, rfl, _⟩ := h
    rfl
  · obtain ⟨a, b, ks, ep, rfl, ha, l12, ⟨xs, hx, hp⟩, ne, ok, l4, q⟩ := h
    refine ⟨_, (pss_cons (ps_set (i := 2) sc_is_exhausted.nd rfl (by first | exact Or.inl rfl | exact Or.inr rfl) (pe_callH G_known_kinds (hr.mono (by omega)) (by rfl) (pa_cons (pv 1) (pa_cons pe_str pa_nil))))
    (pss_cons (ps_if (PW.pt (pw_and (pt_cmpR (op_eqD hr.units) (pe_callH G_known_kinds (hr.mono (by omega)) (by rfl) (pa_cons (pv 1) (pa_cons pe_str pa_nil))) (pe_lst pa_nil) (nomark _)) (pw_and1 (pt_val (pe_callB (cr_all rfl) (by rfl) T.n_all (by decide +kernel) (pa_cons (pe_lc (own := [("kind", 3)]) rfl sc_is_exhausted.nd (pi_seqV 0) (blkOk_by (N := ["kinds", "epoch", "leaving", "kind"]) (sc := defScope s_is_exhausted) (by decide +kernel)) (fun _ _ _ _ _ => (pg_name (i := 3) sc_is_exhausted.nd rfl (by first | exact Or.inl rfl | exact Or.inr rfl))) (fun _ _ _ _ _ => pts_nil) (fun _ _ _ _ _ => (pe_cmpR (op_in_seqK (K := K) rfl) (pv 3) (pv 2) (by with_unfolding_all rfl)))) pa_nil)))))) (pss_one (ps_ret pe_bl)) pss_nil)
    (pss_one (ps_ret (pe_and (pe_cmpR op_eq (pe_callB call_len_seq (by rfl) T.n_len (by decide +kernel) (pa_cons (pv 0) pa_nil)) pe_int (nomark _)) (pe_one (pe_cmpR op_eq (pe_ix ix_tup (pe_ix ix_list (pv 1) (pe_un un_neg pe_int) (fun _ _ => rfl)) pe_int (fun _ _ => rfl)) pe_str (nomark _)))))))), ?_⟩
    have okk : ∀ s ∈ knE ep true, KindOk s := fun s hs => by
      obtain ⟨e, he, h1⟩ := List.mem_filterMap.mp hs
      split at h1
      · exact ok e he s h1
      · cases h1
    refine ⟨_, rfl, b, ep, false, rfl, ⟨xs, hx, hp⟩, l4, fun H1 p1 s1 n1 h1 => ?_⟩
    dsimp only
    refine if_gen (fun σ' H' => σ' = [some (.ref a), some (.ref b), some (.ref p1), none] ∧ Same H H' ∧ ((knE ep true).isEmpty && ks.all fun k => decide (k ∈ knE ep false)) = false) (fun R k => ?_) (fun σ' H' hO => ?_)
    · refine ⟨_, rfl, b, ep, true, rfl, ⟨xs, s1 _ _ hx, Paired.imp (fun _ _ z => EnV.same s1 z) hp⟩, l4, fun H2 p2 s2 n2 h2 => ⟨Nat.zero_le _, fun e ne => ?_⟩⟩
      have se := same_upd (o := .lst []) ne
      refine ⟨.list ((knE ep true).map PyData.str), .list [], .lst (.of (se _ _ h2)) (dp_strl _), .lst (.of upd_same) .nil, shaped_strl okk, shaped_nil, _, rfl, ?_⟩
      rw [eqv_nilS]
      have h1 := se _ _ (s2 _ _ h1)
      have s3 := (s1.trans s2).trans se
      have ha3 := ha.same s3
      generalize upd H2 e (.lst []) = H3 at *
      have lk := kn_len ep false
      cases c1 : (knE ep true).isEmpty with
      | false => exact iteF (iteF (k _ _ ⟨rfl, s3, by rw [c1]; rfl⟩))
      | true =>
        refine iteT ⟨a, _, rfl, ha3, fun J wk L nL => lc_wk wk (fun i H' => Same H3 H' ∧ H' L = some (.lst (((ks.take i).map fun k => decide (k ∈ knE ep false)).map V.bl))) (fun _ _ p => p.1) ⟨same_upd nL, upd_same⟩ (fun i x H4 ex p => ?_) (fun H4 p => ?_)⟩
        · obtain ⟨sm, hL⟩ := p
          obtain ⟨kd, ek, rfl⟩ := str_at ex
          have hi : i < ks.length := (List.getElem?_eq_some_iff.mp ek).1
          refine ⟨rfl, yesT ⟨_, rfl, _, rfl, p1, _, rfl, .inl (.of (sm _ _ h1)), rfl, flat_strs _, ?_⟩⟩
          rw [if_neg (by decide), inV_strs]
          refine ⟨_, hL, ?_, same_grow nL sm, ?_⟩
          · simp only [List.length_map, List.length_take]
            exact small (by omega)
          · rw [upd_same, take_snoc ek, List.map_append, List.map_append]
            rfl
        · obtain ⟨sm, hL⟩ := p
          rw [List.length_map, List.take_length] at hL
          refine ⟨L, _, rfl, .of hL, ?_⟩
          rw [bl_allF]
          refine ⟨_, rfl, ?_⟩
          cases c2 : ks.all fun k => decide (k ∈ knE ep false) with
          | true =>
            refine iteT ?_
            have q := q _ (s3.trans sm)
            unfold exhE at q
            rw [c1, c2] at q
            exact q
          | false => exact iteF (k _ _ ⟨rfl, s3.trans sm, by rw [c2, Bool.and_false]⟩)
    · obtain ⟨rfl, sm, hA⟩ := hO
      unfold exhE at q
      rw [hA] at q
      refine ⟨_, rfl, a, _, rfl, (ha.same sm).twoE, rfl, _, rfl, ?_⟩
      have e1 : decide (V.int ((ks.map V.str).length : Nat) = V.int 1) = decide (ks.length = 1) := by
        rw [List.length_map]
        exact nv_dec ks.length 1
      rw [e1]
      cases c1 : decide (ks.length = 1) with
      | false =>
        rw [c1] at q
        exact iteF (q _ sm)
      | true =>
        rw [c1] at q
        have nex : xs ≠ [] := fun z => by rw [z] at hp; cases hp; exact ne rfl
        obtain ⟨xi, x, yi, y, rfl, rfl, _, t, rfl, ht⟩ := paired_last hp nex
        rw [lastB_of] at q
        refine iteT ⟨_, rfl, 1, rfl, b, _, -1, _, rfl, rfl, .of (sm _ _ hx), atI_last _ _, t, _, 1, _, rfl, rfl, .of (sm _ _ ht), rfl, rfl, ?_⟩
        rw [leaves_dec]
        exact q _ sm
/-! conflicts_at: slots 0:kinds 1:entries 2:first 3:last 4:exhausted -/
abbrev s_conflicts_at : Stmt := topS 37
theorem sc_conflicts_at : FnScope ["kinds", "entries", "first", "last", "exhausted"] ["kinds", "entries", "first", "last"] (defScope s_conflicts_at) := ⟨rfl, rfl, rfl, by decide +kernel, rfl, by decide +kernel, by decide +kernel⟩
def sp_conflicts_at : Sp := fun vs H Q _ => ∃ (a b : Addr) (ks : List Str) (es : List En) (f l : Nat), vs = [.ref a, .ref b, nvV f, nvV l] ∧ Sq2 H a (ks.map V.str) ∧ ks.length ≤ 12 ∧ Rec H b es ∧ (∀ e ∈ es, EnOk e) ∧ es.length ≤ 400 ∧ f ≤ l ∧ l < es.length ∧ ∀ H' p xs, Same H H' → H p = none → H' p = some (.lst xs) → Paired (CfV H') xs (cfsE ks es f l) → Q (.ref p) H'
theorem ok_conflicts_at (D : Df K mg "conflicts_at" s_conflicts_at) (T : Tx mg) (G_is_exhausted : Has P w K mg base 2 "is_exhausted" ["kinds", "epoch"] sp_is_exhausted) (G_conflicts_between : Has P w K mg base 1 "conflicts_between" ["entries", "first", "last"] sp_conflicts_between) : Has P w K mg base 3 "conflicts_at" ["kinds", "entries", "first", "last"] sp_conflicts_at := by
  refine has_of D sc_conflicts_at (fun _ _ _ _ _ _ us hl => match us, hl with | [_, _, _, _], _ => rfl) (fun vs H Q E h => ?_) (fun f cdv A outer s H vs Q E hr h => ?_)
  · obtain ⟨_, _, _, _, _, _, rfl, _⟩ := h
    rfl
  · obtain ⟨a, b, ks, es, fi, la, rfl, ha, l12, ⟨xs, hx, hp⟩, ok, l4, fl, ll, q⟩ := h
    refine ⟨_, (pss_cons (ps_if (PW.pt (pw_and (pt_cmpR op_eq (pv 2) (pv 3) (nomark _)) (pw_and1 (pt_cmpR op_eq (pe_ix ix_tup (pe_ix ix_list (pv 1) (pv 3) (fun _ _ => rfl)) pe_int (fun _ _ => rfl)) pe_str (nomark _))))) (pss_one (ps_ret (pe_lst (pa_cons (pe_tup (pa_cons pe_str (pa_cons (pv 3) pa_nil))) pa_nil)))) pss_nil)
    (C8.pss_cut (ps_set (i := 4) sc_conflicts_at.nd rfl (by first | exact Or.inl rfl | exact Or.inr rfl) (pe_ifExp (pt_val (pe_callH G_is_exhausted (hr.mono (by omega)) (by rfl) (pa_cons (pv 0) (pa_cons (pe_slice sl_list (pv 1) (po_some (pv 2)) (po_some (pe_op op_add (pv 3) pe_int))) pa_nil)))) (pe_lst (pa_cons (pe_tup (pa_cons pe_str (pa_cons (pv 2) (pa_cons (pv 3) pa_nil)))) pa_nil)) (pe_lst pa_nil)))
    (pss_one (ps_ret (pe_op op_cat (pe_callH G_conflicts_between (hr.mono (by omega)) (by rfl) (pa_cons (pv 1) (pa_cons (pv 2) (pa_cons (pv 3) pa_nil)))) (pv 4)))))), ?_⟩
    obtain ⟨t, et, ht⟩ := ent_at hp ll
    have lx := Paired.len hp
    refine if_gen (fun σ' H' => σ' = [some (.ref a), some (.ref b), some (nvV fi), some (nvV la), none] ∧ H = H' ∧ (decide (fi = la) && !(enA es la).2) = false) (fun R k => ?_) (fun σ' H' hO => ?_)
    · refine ⟨_, rfl, _, rfl, rfl, _, rfl, ?_⟩
      rw [nv_dec]
      cases c1 : decide (fi = la) with
      | false => exact iteF (iteF (k _ _ ⟨rfl, rfl, by rw [c1]; rfl⟩))
      | true =>
        refine iteT ⟨_, rfl, _, rfl, b, xs, (la : Int), _, rfl, rfl, .of hx, et, t, _, 1, _, rfl, rfl, .of ht, rfl, rfl, _, rfl, ?_⟩
        rw [leaves_dec]
        cases c2 : (!(enA es la).2) with
        | false => exact iteF (k _ _ ⟨rfl, rfl, by rw [c2, Bool.and_false]⟩)
        | true =>
          have ec : cfsE ks es fi la = [.lev la] := by
            unfold cfsE
            rw [c1, c2]
            rfl
          rw [ec] at q
          refine iteT ⟨_, rfl, (by show 2 ≤ sizeLine; decide), fun u nu => ⟨(by show 1 ≤ sizeLine; decide), fun p np => q _ p [.ref u] ((same_upd nu).trans (same_upd np)) ((same_upd nu).free np) upd_same (.cons ⟨u, rfl, same_upd np _ _ upd_same⟩ .nil)⟩⟩
    · obtain ⟨rfl, rfl, hA⟩ := hO
      have ec : cfsE ks es fi la = btwE es fi la ++ (if exhE ks (cutE es fi la) then [.thr "all" fi la] else []) := by
        unfold cfsE
        rw [hA]
        rfl
      rw [ec] at q
      refine ⟨fun σ' H' => ∃ x xs', σ' = [some (.ref a), some (.ref b), some (nvV fi), some (nvV la), some (.ref x)] ∧ Same H H' ∧ H' x = some (.lst xs') ∧ Paired (CfV H') xs' (if exhE ks (cutE es fi la) then [.thr "all" fi la] else []), ?_, fun σ' H' hM => ?_⟩
      · refine ⟨_, rfl, _, rfl, _, rfl, _, rfl, _, rfl, _, _, rfl, rfl, _, rfl, b, xs, rfl, .of hx, fun c nc => ?_⟩
        rw [show (la : Int) + 1 = ((la + 1 : Nat) : Int) by omega, cut_fl fl (by omega)]
        have sc := same_upd (o := .lst ((xs.drop fi).take (la + 1 - fi))) nc
        have hpc : Paired (EnV H) ((xs.drop fi).take (la + 1 - fi)) (cutE es fi la) := Paired.takep _ (Paired.dropp _ hp)
        have lc : (cutE es fi la).length = la + 1 - fi := by
          unfold cutE
          rw [List.length_take, List.length_drop]
          omega
        refine ⟨a, c, ks, cutE es fi la, rfl, ha.same sc, l12, ⟨_, upd_same, Paired.imp (fun _ _ z => EnV.same sc z) hpc⟩, (fun z => by rw [z] at lc; simp at lc; omega), (fun e he => ok e (List.mem_of_mem_drop (List.mem_of_mem_take he))), by omega, fun H1 s1 => ⟨_, rfl, ?_⟩⟩
        cases c1 : exhE ks (cutE es fi la) with
        | true => exact iteT ⟨_, rfl, _, rfl, (by show 3 ≤ sizeLine; decide), fun u nu => ⟨(by show 1 ≤ sizeLine; decide), fun p np => ⟨p, [.ref u], rfl, (sc.trans s1).trans ((same_upd nu).trans (same_upd np)), upd_same, .cons ⟨u, rfl, same_upd np _ _ upd_same⟩ .nil⟩⟩⟩
        | false => exact iteF ⟨Nat.zero_le _, fun p np => ⟨p, [], rfl, (sc.trans s1).trans (same_upd np), upd_same, .nil⟩⟩
      · obtain ⟨x, xs', rfl, sm, hx', hp'⟩ := hM
        have l1 : xs'.length ≤ 1 := by
          rw [Paired.len hp']
          split
          · exact Nat.le_refl _
          · exact Nat.zero_le _
        generalize (if exhE ks (cutE es fi la) then [Cf.thr "all" fi la] else []) = cs at *
        refine ⟨_, rfl, _, rfl, _, rfl, b, es, fi, la, rfl, ⟨xs, sm _ _ hx, Paired.imp (fun _ _ z => EnV.same sm z) hp⟩, l4, fl, ll, fun H2 p2 ys s2 n2 h2 hp2 => ?_⟩
        have ly : ys.length ≤ 1000 := by
          rw [Paired.len hp2]
          unfold btwE
          have := btw_len es fi la
          have h1 := List.length_filter_le (fun a => (decide ((enA es la).2 = (enA es a).2) && decide ((enA es a).2 = true)) && !decide ((enA es a).1 = (enA es la).1)) (othE es fi la)
          have h2 := List.length_filter_le (fun a => (!decide ((enA es la).2 = (enA es a).2)) && decide ((enA es a).1 = (enA es la).1)) (othE es fi la)
          rw [List.length_append, List.length_map, List.length_map]
          omega
        refine ⟨_, rfl, p2, x, _, _, rfl, rfl, h2, s2 _ _ hx', smallE (by omega), fun p np => q _ p _ ((sm.trans s2).trans (same_upd np)) ((sm.trans s2).free np) upd_same ?_⟩
        exact Paired.imp (fun _ _ z => CfV.same (same_upd np) z) (Paired.app hp2 (Paired.imp (fun _ _ z => CfV.same s2 z) hp'))
end
end UP

set_option Elab.async false
set_option linter.all false
set_option maxRecDepth 100000
set_option maxHeartbeats 4000000
set_option pp.maxSteps 400
namespace UP
open PySem PySem.Spec PyProof.Rows L2
section
variable {P : Program} {w : World} {K : PySem.W.Frag} {mg : Str → Option Value} {base : Heap}
/-! conflict_in: slots 0:kinds 1:entries 2:first 3:epoch 4:last 5:conflicts -/
abbrev s_conflict_in : Stmt := topS 38
theorem sc_conflict_in : FnScope ["kinds", "entries", "first", "epoch", "last", "conflicts"] ["kinds", "entries"] (defScope s_conflict_in) := ⟨rfl, rfl, rfl, by decide +kernel, rfl, by decide +kernel, by decide +kernel⟩
def sp_conflict_in : Sp := fun vs H Q _ => ∃ (a b : Addr) (ks : List Str) (es : List En), vs = [.ref a, .ref b] ∧ Sq2 H a (ks.map V.str) ∧ ks.length ≤ 12 ∧ Rec H b es ∧ (∀ e ∈ es, EnOk e) ∧ es.length ≤ 400 ∧ ∀ H' v, Same H H' → CfO H' v (cfE ks es) → Q v H'
theorem ok_conflict_in (D : Df K mg "conflict_in" s_conflict_in) (T : Tx mg) (G_epochs_of : Has P w K mg base 1 "epochs_of" ["entries"] sp_epochs_of) (G_conflicts_at : Has P w K mg base 3 "conflicts_at" ["kinds", "entries", "first", "last"] sp_conflicts_at) : Has P w K mg base 4 "conflict_in" ["kinds", "entries"] sp_conflict_in := by
  refine has_of D sc_conflict_in (fun _ _ _ _ _ _ us hl => match us, hl with | [_, _], _ => rfl) (fun vs H Q E h => ?_) (fun f cdv A outer s H vs Q E hr h => ?_)
  · obtain ⟨_, _, _, _, rfl, _⟩ := h
    rfl
  · obtain ⟨a, b, ks, es, rfl, ha, l12, hb, ok, l4, q⟩ := h
    refine ⟨_, (pss_cons (ps_set (i := 2) sc_conflict_in.nd rfl (by first | exact Or.inl rfl | exact Or.inr rfl) pe_int)
    (pss_cons (ps_for PassesOwn.never rfl (pi_list (pe_callH G_epochs_of (hr.mono (by omega)) (by rfl) (pa_cons (pv 1) pa_nil))) (pg_name (i := 3) sc_conflict_in.nd rfl (by first | exact Or.inl rfl | exact Or.inr rfl))
      (pss_cons (ps_for PassesOwn.never rfl (pi_range2 (by rfl) T.n_range (pa_cons (pv 2) (pa_cons (pe_op op_add (pv 2) (pe_callB call_len_seq (by rfl) T.n_len (by decide +kernel) (pa_cons (pv 3) pa_nil))) pa_nil))) (pg_name (i := 4) sc_conflict_in.nd rfl (by first | exact Or.inl rfl | exact Or.inr rfl))
      (pss_cons (ps_set (i := 5) sc_conflict_in.nd rfl (by first | exact Or.inl rfl | exact Or.inr rfl) (pe_callH G_conflicts_at (hr.mono (by omega)) (by rfl) (pa_cons (pv 0) (pa_cons (pv 1) (pa_cons (pv 2) (pa_cons (pv 4) pa_nil))))))
    (pss_one (ps_if (pt_truth (pv 5) (by intro _; rfl)) (pss_one (ps_ret (pe_ix ix_list (pv 5) pe_int (fun _ _ => rfl)))) pss_nil))))
    (pss_one (ps_aug (i := 2) sc_conflict_in.nd rfl (by first | exact Or.inl rfl | exact Or.inr rfl) (pe_callB call_len_seq (by rfl) T.n_len (by decide +kernel) (pa_cons (pv 3) pa_nil)) ip_add))))
    (pss_one (ps_ret pe_non)))), ?_⟩
    have p62 : ∀ n : Nat, n ≤ 1000 → (n : Int) < 2 ^ 62 := fun n h => by omega
    refine ⟨_, rfl, b, es, rfl, hb, l4, fun H2 p1 refs s2 np hp1 hrf nrf => ?_⟩
    have ha2 := ha.same s2
    have hb2 := hb.same s2
    have lrf := Paired.len hrf
    have efl : (epsE es).flatten = es := eps_join es
    refine ⟨p1, rfl, ⟨refs, .of hp1⟩, for_list (K := K) (a := p1) (xs := refs) (fun i σ H' => ∃ y3 y4 y5, σ = [some (.ref a), some (.ref b), some (nvV (((epsE es).take i).flatten.length)), y3, y4, y5] ∧ Same H2 H' ∧ cfE ks es = cfGo ks es (((epsE es).take i).flatten.length) ((epsE es).drop i)) ⟨none, none, none, rfl, Same.refl _, rfl⟩ (fun i σ H' _ hP => ?_) (fun i x σ H3 ex hP => ?_) (fun σ H3 hP => ?_)⟩
    · obtain ⟨_, _, _, _, b3, _⟩ := hP
      exact .of (b3 _ _ hp1)
    · obtain ⟨y3, y4, y5, rfl, sm, eg⟩ := hP
      obtain ⟨ep, eep, t, rfl, hrec⟩ := Paired.at hrf ex
      have mep : ep ∈ epsE es := List.mem_of_getElem? eep
      have ne := eps_ne ep mep
      have lsum : (((epsE es).take i).flatten).length + ep.length ≤ es.length := by
        have h1 := flat_take (L := epsE es) (i := i + 1)
        rw [take_snoc eep, efl, List.flatten_append, List.length_append, List.flatten_cons, List.flatten_nil, List.append_nil] at h1
        exact h1
      have edr : (epsE es).drop i = ep :: (epsE es).drop (i + 1) := by
        obtain ⟨hi, e⟩ := List.getElem?_eq_some_iff.mp eep
        rw [List.drop_eq_getElem_cons hi, e]
      have enx : (((epsE es).take (i + 1)).flatten).length = (((epsE es).take i).flatten).length + ep.length := by
        rw [take_snoc eep, List.flatten_append, List.length_append, List.flatten_cons, List.flatten_nil, List.append_nil]
      rw [edr, cfGo] at eg
      rw [enx]
      generalize (((epsE es).take i).flatten).length = fi at *
      have hrec3 := hrec.same sm
      obtain ⟨ts, ht3, hpt⟩ := hrec3
      have lts := Paired.len hpt
      refine ⟨_, rfl, _, rfl, _, rfl, t, _, rfl, .inl (.of ht3), _, _, rfl, rfl, (fi : Int), (fi : Int) + (ts.length : Int), rfl, ⟨by omega, p62 fi (by omega), by omega, by have := p62 (fi + ts.length) (by omega); omega⟩, for_range (lo := (fi : Int)) (n := ((fi : Int) + (ts.length : Int) - (fi : Int)).toNat) (fun j σ H' => ∃ y4 y5, σ = [some (.ref a), some (.ref b), some (nvV fi), some (.ref t), y4, y5] ∧ Same H2 H' ∧ ∀ j' < j, (cfsE ks es fi (fi + j')).head? = none) ⟨y4, y5, rfl, sm, (fun j' h => absurd h (Nat.not_lt_zero _))⟩ (fun j σ H4 hj hP => ?_) (fun σ H4 hP => ?_)⟩
      · obtain ⟨z4, z5, rfl, sm4, none4⟩ := hP
        have hj : j < ep.length := by omega
        rw [show (fi : Int) + (j : Int) = ((fi + j : Nat) : Int) by omega]
        refine ⟨_, rfl, _, rfl, _, rfl, _, rfl, a, b, ks, es, fi, fi + j, rfl, ha2.same sm4, l12, hb2.same sm4, ok, l4, by omega, by omega, fun H5 p5 xs5 s5 n5 h5 hp5 => ?_⟩
        refine ⟨_, rfl, _, .inl ⟨xs5, .of h5, rfl⟩, ?_⟩
        cases hc : cfsE ks es fi (fi + j) with
        | nil =>
          rw [hc] at hp5
          cases hp5
          refine iteF ⟨_, _, rfl, sm4.trans s5, fun j' hj' => ?_⟩
          rcases Nat.lt_succ_iff_lt_or_eq.mp hj' with z | z
          · exact none4 j' z
          · rw [z, hc]
            rfl
        | cons c cr =>
          rw [hc] at hp5
          cases hp5 with
          | @cons x _ xr _ hx _ =>
          refine iteT ⟨_, rfl, p5, _, 0, _, rfl, rfl, .of h5, atI_ofB (Int.le_refl _) rfl, q _ _ ((s2.trans sm4).trans s5) ?_⟩
          have e1 : cfEp ks es fi ep.length = some c := find_first none4 (by rw [hc]; rfl) hj
          rw [eg, e1]
          exact hx
      · obtain ⟨z4, z5, rfl, sm4, none4⟩ := hP
        have ht4 := (hrec.same sm4)
        obtain ⟨ts4, ht4, hpt4⟩ := ht4
        have lts4 := Paired.len hpt4
        refine ⟨_, rfl, _, rfl, t, _, rfl, .inl (.of ht4), _, _, rfl, rfl, some (.ref t), z4, z5, ?_, sm4, ?_⟩
        · rw [lts4]
          show _ = [_, _, some (V.int ((fi + ep.length : Nat) : Int)), _, _, _]
          rw [Int.natCast_add]
          rfl
        · have e1 : cfEp ks es fi ep.length = none := find_none fun j' hj' => none4 j' (by omega)
          rw [eg, e1]
          rfl
    · obtain ⟨y3, y4, y5, rfl, sm, eg⟩ := hP
      refine q _ _ (s2.trans sm) ?_
      rw [lrf, List.drop_length, cfGo] at eg
      rw [eg]
      rfl
/-! conflict_of: slots 0:kinds 1:record -/
abbrev s_conflict_of : Stmt := topS 40
theorem sc_conflict_of : FnScope ["kinds", "record"] ["kinds", "record"] (defScope s_conflict_of) := ⟨rfl, rfl, rfl, by decide +kernel, rfl, by decide +kernel, by decide +kernel⟩
def sp_conflict_of : Sp := fun vs H Q _ => ∃ (a : Addr) (v : V) (ks : List Str) (es : List En), vs = [.ref a, v] ∧ Sq2 H a (ks.map V.str) ∧ KsOk ks ∧ RecG H v es ∧ InK ks es ∧ es.length ≤ 400 ∧ ∀ H' v, Same H H' → CfO H' v (cfE ks es) → Q v H'
theorem ok_conflict_of (D : Df K mg "conflict_of" s_conflict_of) (G_checked_entries : Has P w K mg base 4 "checked_entries" ["kinds", "record"] sp_checked_entries) (G_conflict_in : Has P w K mg base 4 "conflict_in" ["kinds", "entries"] sp_conflict_in) : Has P w K mg base 5 "conflict_of" ["kinds", "record"] sp_conflict_of := by
  refine has_of D sc_conflict_of (fun _ _ _ _ _ _ us hl => match us, hl with | [_, _], _ => rfl) (fun vs H Q E h => ?_) (fun f cdv A outer s H vs Q E hr h => ?_)
  · obtain ⟨_, _, _, _, rfl, _⟩ := h
    rfl
  · obtain ⟨a, v, ks, es, rfl, ha, kso, hv, ink, l4, q⟩ := h
    refine ⟨_, (pss_one (ps_ret (pe_callH G_conflict_in (hr.mono (by omega)) (by rfl) (pa_cons (pv 0) (pa_cons (pe_callH G_checked_entries (hr.mono (by omega)) (by rfl) (pa_cons (pv 0) (pa_cons (pv 1) pa_nil))) pa_nil))))), ?_⟩
    have ok : ∀ e ∈ es, EnOk e := fun e he k hk => kso.2.2.1 k (ink e he k hk)
    exact ⟨_, rfl, _, rfl, _, rfl, a, v, ks, es, rfl, ha, kso, hv, ink, l4, fun H1 p1 s1 n1 h1 => ⟨a, p1, ks, es, rfl, ha.same s1, kso.2.1, h1, ok, l4, fun H2 v2 s2 h2 => q _ _ (s1.trans s2) h2⟩⟩
/-! certain_kind: slots 0:kinds 1:options 2:entry 3:choices 4:kind 5:action -/
abbrev s_certain_kind : Stmt := topS 39
theorem sc_certain_kind : FnScope ["kinds", "options", "entry", "choices", "kind", "action"] ["kinds", "options", "entry"] (defScope s_certain_kind) := ⟨rfl, rfl, rfl, by decide +kernel, rfl, by decide +kernel, by decide +kernel⟩
def sp_certain_kind : Sp := fun vs H Q _ => ∃ (a o : Addr) (v : V) (ks opt : List Str) (e : En), vs = [.ref a, .ref o, v] ∧ Sq2 H a (ks.map V.str) ∧ ks.length ≤ 12 ∧ H o = some (.lst (opt.map V.str)) ∧ opt ≠ [] ∧ EnV H v e ∧ ∀ H', Same H H' → Q (koV (cerK ks opt e)) H'
theorem ok_certain_kind (D : Df K mg "certain_kind" s_certain_kind) (T : Tx mg) (G_later_options : Has P w K mg base 1 "later_options" ["kinds", "entry", "waiting"] sp_later_options) : Has P w K mg base 2 "certain_kind" ["kinds", "options", "entry"] sp_certain_kind := by
  refine has_of D sc_certain_kind (fun _ _ _ _ _ _ us hl => match us, hl with | [_, _, _], _ => rfl) (fun vs H Q E h => ?_) (fun f cdv A outer s H vs Q E hr h => ?_)
  · obtain ⟨_, _, _, _, _, _, rfl, _⟩ := h
    rfl
  · obtain ⟨a, o, v, ks, opt, e, rfl, ha, l12, ho, ne, ⟨t, rfl, ht⟩, q⟩ := h
    refine ⟨_, (pss_cons (ps_asg (pv 2) (pg_tup rfl (pgs_cons (pg_name (i := 4) sc_certain_kind.nd rfl (by first | exact Or.inl rfl | exact Or.inr rfl)) (pgs_cons (pg_name (i := 5) sc_certain_kind.nd rfl (by first | exact Or.inl rfl | exact Or.inr rfl)) pgs_nil))))
    (pss_cons (ps_if (PW.pt (pw_or (pt_cmpR op_notN (pv 4) pe_non (nomark _)) (pw_or1 (pt_cmpR op_gt (pe_callB call_len_seq (by rfl) T.n_len (by decide +kernel) (pa_cons (pv 1) pa_nil)) pe_int (nomark _))))) (pss_one (ps_ret (pv 4))) pss_nil)
    (pss_cons (ps_set (i := 3) sc_certain_kind.nd rfl (by first | exact Or.inl rfl | exact Or.inr rfl) (pe_callH G_later_options (hr.mono (by omega)) (by rfl) (pa_cons (pv 0) (pa_cons (pv 2) (pa_cons (pe_ix ix_list (pv 1) pe_int (fun _ _ => rfl)) pa_nil)))))
    (pss_one (ps_ret (pe_ifExp (pt_cmpR op_eq (pe_callB call_len_seq (by rfl) T.n_len (by decide +kernel) (pa_cons (pv 3) pa_nil)) pe_int (nomark _)) (pe_ix ix_list (pv 3) pe_int (fun _ _ => rfl)) pe_non)))))), ?_⟩
    obtain ⟨o0, or, rfl⟩ : ∃ o0 or, opt = o0 :: or := by
      cases opt with
      | nil => exact absurd rfl ne
      | cons k r => exact ⟨k, r, rfl⟩
    refine ⟨_, rfl, t, _, rfl, .of ht, rfl, _, _, rfl, _, _, rfl, rfl, ?_⟩
    refine ⟨_, rfl, rfl, _, rfl, ?_⟩
    rw [ko_non]
    unfold cerK at q
    cases c1 : e.1.isSome with
    | true =>
      rw [c1] at q
      exact iteT (iteT ⟨_, rfl, q _ (Same.refl _)⟩)
    | false =>
      rw [c1] at q
      refine iteF ⟨_, rfl, o, _, rfl, .inl (.of ho), _, _, rfl, rfl, _, rfl, ?_⟩
      have e1 : decide ((1 : Int) < ((((o0 :: or).map V.str).length : Nat) : Int)) = decide ((o0 :: or).length > 1) := by
        rw [List.length_map]
        exact decide_eq_decide.mpr ⟨fun z => by omega, fun z => by omega⟩
      rw [e1]
      cases c2 : decide ((o0 :: or).length > 1) with
      | true =>
        rw [c2] at q
        exact iteT ⟨_, rfl, q _ (Same.refl _)⟩
      | false =>
        rw [c2] at q
        refine iteF ⟨_, rfl, _, rfl, _, rfl, o, _, 0, _, rfl, rfl, .of ho, atI_ofB (Int.le_refl _) rfl, a, .ref t, ks, e, o0, rfl, ha, l12, ⟨t, rfl, ht⟩, fun H1 p1 s1 n1 h1 => ?_⟩
        have q : ∀ H', Same H H' → Q (koV (match optL ks o0 e with
          | [x] => some x
          | _ => none)) H' := q
        refine ⟨_, rfl, p1, _, rfl, .inl (.of h1), rfl, _, rfl, ?_⟩
        have e2 : decide (V.int (((optL ks o0 e).map V.str).length : Nat) = V.int 1) = decide ((optL ks o0 e).length = 1) := by
          rw [List.length_map]
          exact nv_dec _ 1
        rw [e2]
        generalize optL ks o0 e = L at *
        match L, h1, q with
        | [], h1, q => exact iteF (q _ s1)
        | [x], h1, q => exact iteT ⟨_, rfl, p1, _, 0, _, rfl, rfl, .of h1, atI_ofB (Int.le_refl _) rfl, q _ s1⟩
        | x :: y :: r, h1, q => exact iteN (decide_eq_false (by simp)) (q _ s1)
/-! certain_kinds: slots 0:kinds 1:record 2:entries 3:conflict 4:certain 5:epoch 6:options 7:entry -/
abbrev s_certain_kinds : Stmt := topS 43
theorem sc_certain_kinds : FnScope ["kinds", "record", "entries", "conflict", "certain", "epoch", "options", "entry"] ["kinds", "record"] (defScope s_certain_kinds) := ⟨rfl, rfl, rfl, by decide +kernel, rfl, by decide +kernel, by decide +kernel⟩
def sp_certain_kinds : Sp := fun vs H Q _ => ∃ (a : Addr) (v : V) (ks : List Str) (es : List En), vs = [.ref a, v] ∧ Sq2 H a (ks.map V.str) ∧ KsOk ks ∧ RecG H v es ∧ InK ks es ∧ es.length ≤ 400 ∧ cfE ks es = none ∧ (∀ ep ∈ epsE es, optW ks ep ≠ []) ∧ ∀ H' p, Same H H' → H p = none → H' p = some (.lst ((cerE ks es).map koV)) → Q (.ref p) H'
theorem cer_len (ks : List Str) : ∀ L : List (List En), (L.flatMap fun ep => ep.map (cerK ks (optW ks ep))).length = L.flatten.length
  | [] => rfl
  | ep :: r => by rw [List.flatMap_cons, List.flatten_cons, List.length_append, List.length_append, List.length_map, cer_len ks r]
theorem ok_certain_kinds (D : Df K mg "certain_kinds" s_certain_kinds) (T : Tx mg) (G_checked_entries : Has P w K mg base 4 "checked_entries" ["kinds", "record"] sp_checked_entries) (G_conflict_in : Has P w K mg base 4 "conflict_in" ["kinds", "entries"] sp_conflict_in) (G_epochs_of : Has P w K mg base 1 "epochs_of" ["entries"] sp_epochs_of) (G_waiting_options : Has P w K mg base 2 "waiting_options" ["kinds", "epoch"] sp_waiting_options) (G_certain_kind : Has P w K mg base 2 "certain_kind" ["kinds", "options", "entry"] sp_certain_kind) : Has P w K mg base 5 "certain_kinds" ["kinds", "record"] sp_certain_kinds := by
  refine has_of D sc_certain_kinds (fun _ _ _ _ _ _ us hl => match us, hl with | [_, _], _ => rfl) (fun vs H Q E h => ?_) (fun f cdv A outer s H vs Q E hr h => ?_)
  · obtain ⟨_, _, _, _, rfl, _⟩ := h
    rfl
  · obtain ⟨a, v, ks, es, rfl, ha, kso, hv, ink, l4, nocf, nopt, q⟩ := h
    refine ⟨_, (pss_cons (ps_set (i := 2) sc_certain_kinds.nd rfl (by first | exact Or.inl rfl | exact Or.inr rfl) (pe_callH G_checked_entries (hr.mono (by omega)) (by rfl) (pa_cons (pv 0) (pa_cons (pv 1) pa_nil))))
    (pss_cons (ps_set (i := 3) sc_certain_kinds.nd rfl (by first | exact Or.inl rfl | exact Or.inr rfl) (pe_callH G_conflict_in (hr.mono (by omega)) (by rfl) (pa_cons (pv 0) (pa_cons (pv 2) pa_nil))))
    (pss_cons (ps_if (pt_cmpR op_notN (pv 3) pe_non (nomark _)) (pss_one ps_never) pss_nil)
    (pss_cons (ps_set (i := 4) sc_certain_kinds.nd rfl (by first | exact Or.inl rfl | exact Or.inr rfl) (pe_lst pa_nil))
    (pss_cons (ps_for PassesOwn.never rfl (pi_list (pe_callH G_epochs_of (hr.mono (by omega)) (by rfl) (pa_cons (pv 2) pa_nil))) (pg_name (i := 5) sc_certain_kinds.nd rfl (by first | exact Or.inl rfl | exact Or.inr rfl))
      (pss_cons (ps_set (i := 6) sc_certain_kinds.nd rfl (by first | exact Or.inl rfl | exact Or.inr rfl) (pe_callH G_waiting_options (hr.mono (by omega)) (by rfl) (pa_cons (pv 0) (pa_cons (pv 5) pa_nil))))
    (pss_one (ps_expr (pe_bm PySem.F.plainAttrs_list PySem.F.slot_list_extend PySem.F.type_list_extend mt_extend (pv 4) (pa_cons (pe_lc (own := [("entry", 7)]) rfl sc_certain_kinds.nd (pi_list (pv 5)) (blkOk_by (N := ["kinds", "record", "entries", "conflict", "certain", "epoch", "options", "entry"]) (sc := defScope s_certain_kinds) (by decide +kernel)) (fun _ _ _ _ _ => (pg_name (i := 7) sc_certain_kinds.nd rfl (by first | exact Or.inl rfl | exact Or.inr rfl))) (fun _ _ _ _ _ => pts_nil) (fun _ _ _ _ _ => (pe_callH G_certain_kind (hr.mono (by omega)) (by rfl) (pa_cons (pv 0) (pa_cons (pv 6) (pa_cons (pv 7) pa_nil)))))) pa_nil))))))
    (pss_one (ps_ret (pv 4)))))))), ?_⟩
    have ok : ∀ e ∈ es, EnOk e := fun e he k hk => kso.2.2.1 k (ink e he k hk)
    refine ⟨_, rfl, _, rfl, a, v, ks, es, rfl, ha, kso, hv, ink, l4, fun H1 p1 s1 n1 h1 => ?_⟩
    refine ⟨_, rfl, _, rfl, a, p1, ks, es, rfl, ha.same s1, kso.2.1, h1, ok, l4, fun H2 v2 s2 h2 => ?_⟩
    rw [nocf] at h2
    cases (show v2 = .non from h2)
    refine ⟨_, rfl, rfl, _, rfl, iteN yes_non ?_⟩
    have s12 := s1.trans s2
    have hb2 := h1.same s2
    have ha2 := ha.same s12
    refine ⟨Nat.zero_le _, fun N0 nN => ?_⟩
    have aN := sq_ne ha2 nN
    have sN := same_upd (o := .lst []) nN
    have hN1 : (upd H2 N0 (.lst [])) N0 = some (.lst []) := upd_same
    refine ⟨_, rfl, p1, es, rfl, hb2.same sN, l4, fun H4 p4 refs s4 np hp4 hrf nrf => ?_⟩
    have p4N : p4 ≠ N0 := fun z => by rw [z, hN1] at np; cases np
    have rfN : ∀ t, V.ref t ∈ refs → t ≠ N0 := fun t ht z => by have := nrf t ht; rw [z, hN1] at this; cases this
    have hN4 := s4 _ _ hN1
    have ha4 := (ha2.same sN).same s4
    have sH4 : Same H2 H4 := sN.trans s4
    have lrf := Paired.len hrf
    refine ⟨p4, rfl, ⟨refs, .of hp4⟩, for_list (K := K) (a := p4) (xs := refs) (fun i σ H' => ∃ y5 y6, σ = [some (.ref a), some v, some (.ref p1), some .non, some (.ref N0), y5, y6, none] ∧ But N0 H4 H' ∧ H' N0 = some (.lst ((((epsE es).take i).flatMap fun ep => ep.map (cerK ks (optW ks ep))).map koV))) ⟨none, none, rfl, But.refl, hN4⟩ (fun i σ H' _ hP => ?_) (fun i x σ H5 ex hP => ?_) (fun σ H5 hP => ?_)⟩
    · obtain ⟨_, _, _, b3, _⟩ := hP
      exact .of (b3 _ _ p4N hp4)
    · obtain ⟨y5, y6, rfl, b5, hN5⟩ := hP
      obtain ⟨ep, eep, t, rfl, hrec⟩ := Paired.at hrf ex
      have mep : ep ∈ epsE es := List.mem_of_getElem? eep
      have ne := eps_ne ep mep
      have lep : ep.length ≤ 400 := Nat.le_trans (ep_len mep) l4
      have tN := rfN t (List.mem_of_getElem? ex)
      have hrec5 := hrec.but hN4 tN b5
      have ha5 := sq_but aN b5 ha4
      have lns : (((epsE es).take i).flatMap fun ep => ep.map (cerK ks (optW ks ep))).length ≤ 400 := by
        rw [cer_len]
        have := flat_take (L := epsE es) (i := i)
        rw [eps_join] at this
        omega
      have nop := nopt ep mep
      rw [take_snoc eep, List.flatMap_append, List.flatMap_cons, List.flatMap_nil, List.append_nil]
      generalize ((epsE es).take i).flatMap (fun ep => ep.map (cerK ks (optW ks ep))) = ns at *
      refine ⟨_, rfl, _, rfl, a, t, ks, ep, rfl, ha5, kso.2.1, hrec5, ne, lep, fun H6 p6 s6 n6 h6 => ?_⟩
      obtain ⟨xs, hx, hp⟩ := hrec5.same s6
      have ha6 := ha5.same s6
      have hN6 := s6 _ _ hN5
      have lx := Paired.len hp
      refine ⟨_, rfl, .inl ⟨rfl, _, SqL.of hN6⟩, _, rfl, t, rfl, ⟨xs, .of hx⟩, fun L nL => lc_list (K := K) (a := t) (xs := xs) (fun j H' => Same H6 H' ∧ H' L = some (.lst (((ep.take j).map (cerK ks (optW ks ep))).map koV))) ⟨same_upd nL, upd_same⟩ (fun j H' _ p => .of (p.1 _ _ hx)) (fun j x H7 ex p => ?_) (fun H7 p => ?_)⟩
      · obtain ⟨sm, hL⟩ := p
        obtain ⟨e, ee, he⟩ := Paired.at hp ex
        have hj : j < xs.length := (List.getElem?_eq_some_iff.mp ex).1
        refine ⟨rfl, yesT ⟨_, rfl, _, rfl, _, rfl, a, p6, x, ks, optW ks ep, e, rfl, ha6.same sm, kso.2.1, sm _ _ h6, nop, he.same sm, fun H8 s8 => ⟨_, s8 _ _ hL, ?_, same_grow nL (sm.trans s8), ?_⟩⟩⟩
        · simp only [List.length_map, List.length_take]
          exact small (by omega)
        · rw [upd_same, take_snoc ee, List.map_append, List.map_append]
          rfl
      · obtain ⟨sm, hL⟩ := p
        rw [lx, List.take_length] at hL
        refine ⟨N0, L, _, _, rfl, rfl, sm _ _ hN6, hL, ?_, _, _, rfl, ?_, ?_⟩
        · simp only [List.length_map]
          exact smallE (by omega)
        · exact b5.trans ((Same.but (s6.trans sm)).trans but_upd)
        · rw [upd_same, ← List.map_append]
    · obtain ⟨y5, y6, rfl, b5, hN5⟩ := hP
      rw [lrf, List.take_length] at hN5
      exact ⟨_, rfl, q _ _ (fun c o e => b5 _ _ (ne_of_none e (s12.free nN)) (sH4 _ _ (s12 _ _ e))) (s12.free nN) hN5⟩
end
end UP

set_option Elab.async false
set_option linter.all false
set_option maxRecDepth 100000
set_option maxHeartbeats 4000000
set_option pp.maxSteps 400
namespace UP
open PySem PySem.Spec PyProof.Rows L2
/-! ### what items do, and the records that they fit -/
def staysI (w : Str) (c : Nat) (k : Str) : Bool := decide (c = 0) || decide (k = w)
def nxtW (w : Str) (c : Nat) (k : Str) : Str := if staysI w c k = true then k else w
def nxtC (w : Str) (c : Nat) (k : Str) : Nat := if staysI w c k = true then c + 1 else c - 1
def actI : Str → Nat → List Str → List Bool
  | _, _, [] => []
  | w, c, k :: t => staysI w c k :: actI (nxtW w c k) (nxtC w c k) t
theorem actI_len : ∀ (its : List Str) (w : Str) (c : Nat), (actI w c its).length = its.length
  | [], _, _ => rfl
  | k :: t, w, c => congrArg (· + 1) (actI_len t _ _)
/-- an entry says nothing wrong of an item -/
def KnE (e : En) (k : Str) : Prop := ∀ x, e.1 = some x → x = k
def FitE : Str → Nat → List En → List Str → Prop
  | _, _, [], [] => True
  | w, c, e :: es, k :: t => e.2 = staysI w c k ∧ KnE e k ∧ FitE (nxtW w c k) (nxtC w c k) es t
  | _, _, _, _ => False
theorem FitE.len : ∀ {es : List En} {its : List Str} {w : Str} {c : Nat}, FitE w c es its → its.length = es.length
  | [], [], _, _, _ => rfl
  | e :: es, k :: t, _, _, h => congrArg (· + 1) (FitE.len h.2.2)
  | [], _ :: _, _, _, h => h.elim
  | _ :: _, [], _, _, h => h.elim
/-- an epoch and its items, w waits -/
def EpB (w : Str) (ep : List En) (its : List Str) : Prop := Paired (fun e k => e.2 = decide (k = w) ∧ KnE e k) ep its
inductive EpsF : List (List En) → List Str → Prop
  | nil : EpsF [] []
  | cons {w : Str} {ep : List En} {t rest : List Str} {r : List (List En)} (h : EpB w ep (w :: t)) (p : EpsF r rest) : EpsF (ep :: r) ((w :: t) ++ rest)
theorem spl_fit : ∀ {es : List En} {its : List Str} {w : Str} {c : Nat}, FitE w c es its → ∃ cit rest, its = cit ++ rest ∧ EpB w (splE c es).1 cit ∧ EpsF (splE c es).2 rest
  | [], [], w, c, _ => ⟨[], [], rfl, .nil, .nil⟩
  | e :: es, k :: t, w, c, h => by
    obtain ⟨h1, h2, h3⟩ := h
    obtain ⟨cit, rest, rfl, hb, hr⟩ := spl_fit h3
    have en : nxtE c e = nxtC w c k := by
      unfold nxtE nxtC
      rw [h1]
    rw [splE, en]
    by_cases c0 : c = 0
    · subst c0
      have st : staysI w 0 k = true := rfl
      have ew : nxtW w 0 k = k := by unfold nxtW; rw [if_pos st]
      rw [ew] at hb
      rw [if_pos rfl]
      refine ⟨[], k :: (cit ++ rest), rfl, .nil, ?_⟩
      rw [← List.cons_append]
      refine .cons (.cons ⟨?_, h2⟩ hb) hr
      rw [h1, st, decide_eq_true rfl]
    · have st : staysI w c k = decide (k = w) := by unfold staysI; rw [decide_eq_false c0, Bool.false_or]
      have ew : nxtW w c k = w := by
        unfold nxtW
        split
        · next hs =>
          rw [st] at hs
          exact of_decide_eq_true hs
        · rfl
      rw [ew] at hb
      rw [if_neg c0]
      exact ⟨k :: cit, rest, rfl, .cons ⟨by rw [h1, st], h2⟩ hb, hr⟩
  | [], _ :: _, _, _, h => h.elim
  | _ :: _, [], _, _, h => h.elim
theorem eps_fit {es : List En} {its : List Str} (h : FitE "" 0 es its) : EpsF (epsE es) its := by
  obtain ⟨cit, rest, rfl, hb, hr⟩ := spl_fit h
  rw [spl_zero] at hb
  cases hb
  exact hr
theorem EpB.len {w : Str} {ep : List En} {its : List Str} (h : EpB w ep its) : its.length = ep.length := (Paired.len h).symm
theorem EpsF.len {L : List (List En)} {its : List Str} (h : EpsF L its) : its.length = L.flatten.length := by
  induction h with
  | nil => rfl
  | cons h _ ih =>
    rw [List.length_append, List.flatten_cons, List.length_append, ih, h.len]
/-! ### the kinds that are known -/
theorem kn_true {w : Str} {ep : List En} {its : List Str} (h : EpB w ep its) : ∀ x ∈ knE ep true, x = w := by
  intro x hx
  obtain ⟨e, he, h1⟩ := List.mem_filterMap.mp hx
  split at h1
  · next c =>
    obtain ⟨j, ej⟩ := List.getElem?_of_mem he
    obtain ⟨k, _, h2, h3⟩ := Paired.at h ej
    rw [c] at h2
    rw [h3 x h1]
    exact of_decide_eq_true h2.symm
  · cases h1
theorem kn_false {w : Str} {ep : List En} {its : List Str} (h : EpB w ep its) : ∀ x ∈ knE ep false, x ≠ w := by
  intro x hx
  obtain ⟨e, he, h1⟩ := List.mem_filterMap.mp hx
  split at h1
  · next c =>
    obtain ⟨j, ej⟩ := List.getElem?_of_mem he
    obtain ⟨k, _, h2, h3⟩ := Paired.at h ej
    rw [c] at h2
    rw [h3 x h1]
    exact of_decide_eq_false h2.symm
  · cases h1
theorem w_opt {ks : List Str} {w : Str} {ep : List En} {t : List Str} (h : EpB w ep (w :: t)) (hw : w ∈ ks) : w ∈ optW ks ep := by
  cases h with
  | @cons e _ er _ h1 h2 =>
  have hb : EpB w (e :: er) (w :: t) := .cons h1 h2
  rw [optW_eq, if_pos (by rw [h1.1]; exact decide_eq_true rfl)]
  refine List.mem_filter.mpr ⟨hw, ?_⟩
  unfold pW
  rw [decide_eq_false (fun z => kn_false hb w z rfl)]
  show ((knE (e :: er) true).all fun x => decide (w = x)) = true
  exact List.all_eq_true.mpr fun x hx => decide_eq_true (kn_true hb x hx).symm
theorem opt_item {ks : List Str} {w k : Str} {e : En} (h1 : e.2 = decide (k = w)) (h2 : KnE e k) (hk : k ∈ ks) : k ∈ optL ks w e := by
  unfold optL
  by_cases c : k = w
  · rw [if_pos (by rw [h1]; exact decide_eq_true c), c]
    exact List.mem_cons_self ..
  · rw [if_neg (by rw [h1, decide_eq_false c]; decide)]
    cases e1 : e.1 with
    | none => exact List.mem_filter.mpr ⟨hk, by rw [decide_eq_false c]; rfl⟩
    | some x =>
      rw [h2 x e1]
      exact List.mem_cons_self ..
theorem opts_ne {ks : List Str} {L : List (List En)} {its : List Str} (h : EpsF L its) : (∀ x ∈ its, x ∈ ks) → ∀ ep ∈ L, optW ks ep ≠ [] := by
  induction h with
  | nil => intro _ ep h; cases h
  | @cons w ep t rest r h _ ih =>
    intro hin ep' he
    rcases List.mem_cons.mp he with e | e
    · rw [e]
      exact List.ne_nil_of_mem (w_opt h (hin w (List.mem_append.mpr (.inl (List.mem_cons_self ..)))))
    · exact ih (fun x hx => hin x (List.mem_append.mpr (.inr hx))) ep' e
theorem zip_opt {ks : List Str} {w : Str} {ep : List En} {its : List Str} (h : EpB w ep its) (hin : ∀ x ∈ its, x ∈ ks) : ∀ p ∈ its.zip (ep.map (optL ks w)), p.1 ∈ p.2 := by
  induction h with
  | nil => intro p hp; cases hp
  | @cons e k er t h1 _ ih =>
    intro p hp
    rcases List.mem_cons.mp hp with z | z
    · rw [z]
      exact opt_item h1.1 h1.2 (hin k (List.mem_cons_self ..))
    · exact ih (fun x hx => hin x (List.mem_cons_of_mem _ hx)) p z
theorem fit_zip {ks : List Str} {L : List (List En)} {its : List Str} (h : EpsF L its) : (∀ x ∈ its, x ∈ ks) → ∀ p ∈ its.zip (optE ks L its), p.1 ∈ p.2 := by
  induction h with
  | nil => intro _ p hp; cases hp
  | @cons w ep t rest r h _ ih =>
    intro hin p hp
    have l1 := h.len
    have ne : ep ≠ [] := fun z => by rw [z] at l1; cases l1
    have e1 : ((w :: t) ++ rest).drop ep.length = rest := by rw [← l1, List.drop_left]
    have e2 : ((w :: t) ++ rest).headD "" = w := rfl
    rw [optE, e1, e2, List.zip_append (by rw [optP_len ne, l1])] at hp
    rcases List.mem_append.mp hp with z | z
    · unfold optP at z
      cases h with
      | @cons e _ er _ h1 h2 =>
      rcases List.mem_cons.mp z with q | q
      · rw [q]
        exact w_opt (.cons h1 h2) (hin w (List.mem_append.mpr (.inl (List.mem_cons_self ..))))
      · exact zip_opt h2 (fun x hx => hin x (List.mem_append.mpr (.inl (List.mem_cons_of_mem _ hx)))) p q
    · exact ih (fun x hx => hin x (List.mem_append.mpr (.inr hx))) p z
theorem fitI_of {ks : List Str} {es : List En} {its : List Str} (h : FitE "" 0 es its) (hin : ∀ x ∈ its, x ∈ ks) (kso : KsOk ks) : FitI ks es its :=
  ⟨h.len, fun x hx => kso.2.2.1 x (hin x hx), fit_zip (eps_fit h) hin⟩
theorem inK_of : ∀ {es : List En} {its : List Str} {w : Str} {c : Nat} {ks : List Str}, FitE w c es its → (∀ x ∈ its, x ∈ ks) → InK ks es
  | [], [], _, _, _, _, _ => fun e h => by cases h
  | e :: es, k :: t, _, _, ks, h, hin => fun e' he x hx => by
    rcases List.mem_cons.mp he with z | z
    · rw [z] at hx
      rw [h.2.1 x hx]
      exact hin k (List.mem_cons_self ..)
    · exact inK_of h.2.2 (fun x hx => hin x (List.mem_cons_of_mem _ hx)) e' z x hx
  | [], _ :: _, _, _, _, h, _ => h.elim
  | _ :: _, [], _, _, _, h, _ => h.elim
/-! ### no conflict -/
theorem cfGo_none {ks : List Str} {es : List En} : ∀ {L : List (List En)} {its : List Str} {f : Nat}, EpsF L its → (∀ x ∈ its, x ∈ ks) → (es.drop f) = L.flatten → cfGo ks es f L = none := by
  intro L its f h
  induction h generalizing f with
  | nil => intro _ _; rfl
  | @cons w ep t rest r h _ ih =>
    intro hin hd
    rw [cfGo]
    have dr : es.drop (f + ep.length) = r.flatten := by
      rw [← List.drop_drop, hd, List.flatten_cons, List.drop_left]
    rw [ih (fun x hx => hin x (List.mem_append.mpr (.inr hx))) dr, Option.or_none]
    refine find_none fun j hj => ?_
    have at_ : ∀ a, a < ep.length → ∃ e k, ep[a]? = some e ∧ (w :: t)[a]? = some k ∧ enA es (f + a) = e ∧ e.2 = decide (k = w) ∧ KnE e k := fun a ha => by
      have h1 := List.getElem?_eq_getElem ha
      obtain ⟨k, hk, h2, h3⟩ := Paired.at h h1
      refine ⟨ep[a], k, h1, hk, enA_at ?_, h2, h3⟩
      rw [← List.getElem?_drop, hd, List.flatten_cons, List.getElem?_append_left ha]
      exact h1
    obtain ⟨el, kl, e1, e2, e3, e4, e5⟩ := at_ j hj
    have ins : ∀ k ∈ w :: t, k ∈ ks := fun k hk => hin k (List.mem_append.mpr (.inl hk))
    have hw : w ∈ ks := ins w (List.mem_cons_self ..)
    have b1 : btwE es f (f + j) = [] := by
      have ab : ∀ a ∈ othE es f (f + j), ∃ a', a = f + a' ∧ a' < ep.length ∧ (enA es (f + j)).1.isSome = true ∧ (enA es a).1.isSome = true := fun a ha => by
        unfold othE at ha
        obtain ⟨h1, h2⟩ := List.mem_filter.mp ha
        obtain ⟨i, hi, rfl⟩ := List.mem_range'.mp h1
        rw [Bool.and_eq_true] at h2
        exact ⟨1 * i, rfl, by omega, h2.1, h2.2⟩
      unfold btwE
      rw [List.filter_eq_nil_iff.mpr, List.filter_eq_nil_iff.mpr]
      · rfl
      · intro a ha hc
        obtain ⟨a', rfl, la, s1, s2⟩ := ab a ha
        obtain ⟨ea, ka, f1, f2, f3, f4, f5⟩ := at_ a' la
        rw [e3, f3, Bool.and_eq_true] at hc
        rw [e3] at s1
        rw [f3] at s2
        obtain ⟨x, hx⟩ := Option.isSome_iff_exists.mp s1
        have hsame := of_decide_eq_true hc.2
        have k1 := e5 x hx
        have k2 := f5 x (by rw [hsame]; exact hx)
        have hne : ¬ (el.2 = ea.2) := fun z => by
          have := hc.1
          rw [decide_eq_true z] at this
          cases this
        exact hne (by rw [e4, f4, ← k1, ← k2])
      · intro a ha hc
        obtain ⟨a', rfl, la, s1, s2⟩ := ab a ha
        obtain ⟨ea, ka, f1, f2, f3, f4, f5⟩ := at_ a' la
        rw [e3, f3, Bool.and_eq_true, Bool.and_eq_true] at hc
        rw [e3] at s1
        rw [f3] at s2
        obtain ⟨x, hx⟩ := Option.isSome_iff_exists.mp s1
        obtain ⟨y, hy⟩ := Option.isSome_iff_exists.mp s2
        have g1 := of_decide_eq_true hc.1.1
        have g2 := of_decide_eq_true hc.1.2
        rw [f4] at g2
        rw [e4, f4, g2] at g1
        have k1 := of_decide_eq_true g1
        have k2 := of_decide_eq_true g2
        have : ea.1 = el.1 := by rw [hx, hy, e5 x hx, f5 y hy, k1, k2]
        rw [decide_eq_true this] at hc
        cases hc.2
    have cu : cutE es f (f + j) = ep.take (j + 1) := by
      unfold cutE
      rw [hd, List.flatten_cons, show f + j + 1 - f = j + 1 by omega, List.take_append_of_le_length (by omega)]
    have hbt : EpB w (ep.take (j + 1)) ((w :: t).take (j + 1)) := Paired.takep _ h
    have b2 : exhE ks (cutE es f (f + j)) = false := by
      rw [cu]
      unfold exhE
      have a1 : (ks.all fun k => decide (k ∈ knE (ep.take (j + 1)) false)) = false := by
        rw [List.all_eq_false]
        exact ⟨w, hw, by rw [decide_eq_false (fun z => kn_false hbt w z rfl)]; decide⟩
      rw [a1, Bool.and_false, Bool.false_or, Bool.and_eq_false_iff]
      by_cases c1 : ks.length = 1
      · right
        have el2 : lastB (ep.take (j + 1)) = el.2 := by
          rw [List.take_succ_eq_append_getElem hj, lastB_of]
          rw [List.getElem?_eq_getElem hj] at e1
          rw [Option.some.inj e1]
        have hkl := ins kl (List.mem_of_getElem? e2)
        have : kl = w := by
          match ks, c1, hkl, hw with
          | [z], _, hkl, hw => rw [List.mem_singleton.mp hkl, List.mem_singleton.mp hw]
        rw [el2, e4, decide_eq_true this]
        rfl
      · left
        exact decide_eq_false c1
    unfold cfsE
    rw [b1, b2]
    by_cases c : j = 0
    · subst c
      have k0 : kl = w := (Option.some.inj e2).symm
      rw [show enA es (f + 0) = el from e3, e4, decide_eq_true k0, Bool.not_true, Bool.and_false]
      rfl
    · rw [decide_eq_false (show ¬ f = f + j by omega), Bool.false_and]
      rfl
theorem cf_none {ks : List Str} {es : List En} {its : List Str} (h : FitE "" 0 es its) (hin : ∀ x ∈ its, x ∈ ks) : cfE ks es = none :=
  cfGo_none (eps_fit h) hin (by rw [List.drop_zero, eps_join])
end UP

set_option Elab.async false
set_option linter.all false
set_option maxRecDepth 100000
set_option maxHeartbeats 4000000
set_option pp.maxSteps 400
namespace UP
open PySem PySem.Spec PyProof.Rows L2
/-! ### records with all kinds known -/
def recI : Str → Nat → List Str → List En
  | _, _, [] => []
  | w, c, k :: t => (some k, staysI w c k) :: recI (nxtW w c k) (nxtC w c k) t
theorem recI_fit : ∀ (its : List Str) (w : Str) (c : Nat), FitE w c (recI w c its) its
  | [], _, _ => True.intro
  | k :: t, w, c => ⟨rfl, (fun x h => by cases h; rfl), recI_fit t _ _⟩
theorem recI_kind : ∀ (its : List Str) (w : Str) (c : Nat), (recI w c its).map (·.1) = its.map some
  | [], _, _ => rfl
  | k :: t, w, c => by
    show some k :: (recI (nxtW w c k) (nxtC w c k) t).map (·.1) = _
    rw [recI_kind t]
    rfl
theorem recI_act : ∀ (its : List Str) (w : Str) (c : Nat), (recI w c its).map (·.2) = actI w c its
  | [], _, _ => rfl
  | k :: t, w, c => by
    show staysI w c k :: (recI (nxtW w c k) (nxtC w c k) t).map (·.2) = _
    rw [recI_act t]
    rfl
theorem recI_known (its : List Str) (w : Str) (c : Nat) : ∀ e ∈ recI w c its, e.1.isSome = true := by
  intro e he
  have : e.1 ∈ (recI w c its).map (·.1) := List.mem_map.mpr ⟨e, he, rfl⟩
  rw [recI_kind] at this
  obtain ⟨k, _, hk⟩ := List.mem_map.mp this
  rw [← hk]
  rfl
theorem filt_one {w : Str} {p : Str → Bool} : ∀ {ks : List Str}, ks.Nodup → w ∈ ks → (∀ k ∈ ks, p k = decide (k = w)) → (ks.filter p).length = 1
  | [], _, h, _ => by cases h
  | k :: t, nd, h, e => by
    have nd := List.nodup_cons.mp nd
    have ek := e k (List.mem_cons_self ..)
    by_cases c : k = w
    · rw [decide_eq_true c] at ek
      rw [List.filter_cons, if_pos ek, List.filter_eq_nil_iff.mpr]
      · rfl
      · intro a ha hp
        rw [e a (List.mem_cons_of_mem _ ha)] at hp
        have := of_decide_eq_true hp
        rw [this, ← c] at ha
        exact nd.1 ha
    · rw [decide_eq_false c] at ek
      rw [List.filter_cons, if_neg (by rw [ek]; decide)]
      refine filt_one nd.2 ?_ fun a ha => e a (List.mem_cons_of_mem _ ha)
      rcases List.mem_cons.mp h with z | z
      · exact absurd z.symm c
      · exact z
theorem ks_nodup {ks : List Str} (h : KsOk ks) : ks.Nodup := by
  have step := h.2.2.2
  have lt : ∀ (d i : Nat) (x y : Str), ks[i]? = some x → ks[i + 1 + d]? = some y → x.cps.toList < y.cps.toList := by
    intro d
    induction d with
    | zero => intro i x y hx hy; exact step i x y hx hy
    | succ d ih =>
      intro i x y hx hy
      have hl : i + 1 + (d + 1) < ks.length := (List.getElem?_eq_some_iff.mp hy).1
      obtain ⟨z, hz⟩ : ∃ z, ks[i + 1]? = some z := ⟨_, List.getElem?_eq_getElem (by omega)⟩
      have h1 := step i x z hx hz
      have h2 := ih (i + 1) z y hz (by rw [show i + 1 + 1 + d = i + 1 + (d + 1) by omega]; exact hy)
      exact List.lt_trans h1 h2
  refine List.pairwise_iff_getElem.mpr fun i j hi hj hij e => ?_
  have h1 := lt (j - i - 1) i ks[i] ks[j] (List.getElem?_eq_getElem hi) (by rw [show i + 1 + (j - i - 1) = j by omega]; exact List.getElem?_eq_getElem hj)
  rw [e] at h1
  exact List.lt_irrefl _ h1
theorem prod_one : ∀ {l : List Nat} (a : Nat), (∀ n ∈ l, n = 1) → l.foldl (· * ·) a = a
  | [], _, _ => rfl
  | n :: t, a, h => by
    show t.foldl (· * ·) (a * n) = a
    rw [h n (List.mem_cons_self ..), Nat.mul_one]
    exact prod_one a fun x hx => h x (List.mem_cons_of_mem _ hx)
theorem num_full {ks : List Str} (nd : ks.Nodup) {L : List (List En)} {its : List Str} (h : EpsF L its) : (∀ x ∈ its, x ∈ ks) → (∀ ep ∈ L, ∀ e ∈ ep, e.1.isSome = true) → ∀ n ∈ L.flatMap (numP ks), n = 1 := by
  induction h with
  | nil => intro _ _ n hn; cases hn
  | @cons w ep t rest r h _ ih =>
    intro hin kn n hn
    rw [List.flatMap_cons] at hn
    rcases List.mem_append.mp hn with z | z
    · have hw := hin w (List.mem_append.mpr (.inl (List.mem_cons_self ..)))
      have kn1 := kn ep (List.mem_cons_self ..)
      have hb := h
      cases h with
      | @cons e _ er _ h1 h2 =>
      unfold numP at z
      rcases List.mem_cons.mp z with q | q
      · rw [q, optW_eq, if_pos (by rw [h1.1]; exact decide_eq_true rfl)]
        refine filt_one nd hw fun k hk => ?_
        obtain ⟨x, hx⟩ := Option.isSome_iff_exists.mp (kn1 e (List.mem_cons_self ..))
        have hwk : w ∈ knE (e :: er) true := by
          unfold knE
          refine List.mem_filterMap.mpr ⟨e, List.mem_cons_self .., ?_⟩
          rw [if_pos (by rw [h1.1]; exact decide_eq_true rfl), hx, h1.2 x hx]
        by_cases c : k = w
        · subst c
          rw [decide_eq_true rfl]
          have := w_opt hb hw
          rw [optW_eq, if_pos (by rw [h1.1]; exact decide_eq_true rfl)] at this
          exact (List.mem_filter.mp this).2
        · rw [decide_eq_false c]
          unfold pW
          rw [Bool.and_eq_false_iff]
          right
          rw [List.all_eq_false]
          exact ⟨w, hwk, by rw [decide_eq_false c]; decide⟩
      · obtain ⟨e', he', rfl⟩ := List.mem_map.mp q
        have k1 := kn1 e' (List.mem_cons_of_mem _ he')
        unfold optL
        split
        · rfl
        · split
          · next hn => rw [hn] at k1; cases k1
          · rfl
    · exact ih (fun x hx => hin x (List.mem_append.mpr (.inr hx))) (fun ep' he => kn ep' (List.mem_cons_of_mem _ he)) n z
theorem cnt_full {ks : List Str} {es : List En} {its : List Str} (h : FitE "" 0 es its) (hin : ∀ x ∈ its, x ∈ ks) (nd : ks.Nodup) (kn : ∀ e ∈ es, e.1.isSome = true) : cntE ks es = 1 := by
  unfold cntE prodN numE
  exact prod_one 1 (num_full nd (eps_fit h) hin fun ep he e hm => kn e (eps_mem he e hm))
theorem cer_full {ks : List Str} {es : List En} (kn : ∀ e ∈ es, e.1.isSome = true) : cerE ks es = es.map (·.1) := by
  have gen : ∀ L : List (List En), (∀ ep ∈ L, ∀ e ∈ ep, e.1.isSome = true) → (L.flatMap fun ep => ep.map (cerK ks (optW ks ep))) = L.flatten.map (·.1) := by
    intro L
    induction L with
    | nil => intro _; rfl
    | cons ep r ih =>
      intro k
      rw [List.flatMap_cons, List.flatten_cons, List.map_append, ih fun ep' he => k ep' (List.mem_cons_of_mem _ he)]
      congr 1
      refine List.map_congr_left fun e he => ?_
      unfold cerK
      rw [k ep (List.mem_cons_self ..) e he]
      rfl
  unfold cerE
  rw [gen _ fun ep he e hm => kn e (eps_mem he e hm), eps_join]
/-! ### what is certain agrees with the items -/
def CerR (c : Option Str) (k : Str) : Prop := c = none ∨ c = some k
theorem cer_fitL {ks : List Str} {L : List (List En)} {its : List Str} (h : EpsF L its) : (∀ x ∈ its, x ∈ ks) → Paired CerR (L.flatMap fun ep => ep.map (cerK ks (optW ks ep))) its := by
  induction h with
  | nil => intro _; exact .nil
  | @cons w ep t rest r h _ ih =>
    intro hin
    rw [List.flatMap_cons]
    refine Paired.app ?_ (ih fun x hx => hin x (List.mem_append.mpr (.inr hx)))
    have ins : ∀ k ∈ w :: t, k ∈ ks := fun k hk => hin k (List.mem_append.mpr (.inl hk))
    have hw := w_opt h (ins w (List.mem_cons_self ..))
    generalize optW ks ep = opt at *
    have one : ∀ e k, e.2 = decide (k = w) → KnE e k → k ∈ ks → CerR (cerK ks opt e) k := fun e k h1 h2 hk => by
      unfold cerK
      cases e1 : e.1 with
      | some x =>
        refine .inr ?_
        show some x = some k
        rw [h2 x e1]
      | none =>
        by_cases c : opt.length > 1
        · rw [decide_eq_true c]
          exact .inl rfl
        · rw [decide_eq_false c]
          show CerR (match optL ks (opt.headD "") e with
            | [x] => some x
            | _ => none) k
          have eo : opt.headD "" = w := by
            match opt, hw, c with
            | [z], hw, _ => exact (List.mem_singleton.mp hw).symm
            | z :: y :: r, _, c => exact absurd (by simp) c
          rw [eo]
          have ho := opt_item h1 h2 hk
          generalize optL ks w e = L at *
          match L, ho with
          | [x], ho => exact .inr (by rw [List.mem_singleton.mp ho])
          | x :: y :: r, ho => exact .inl rfl
    clear hw ih hin
    revert ins
    generalize w :: t = its at h ⊢
    intro ins
    induction h with
    | nil => exact .nil
    | @cons e k er t' h1 _ ih => exact .cons (one e k h1.1 h1.2 (ins k (List.mem_cons_self ..))) (ih fun x hx => ins x (List.mem_cons_of_mem _ hx))
theorem cer_fit {ks : List Str} {es : List En} {its : List Str} (h : FitE "" 0 es its) (hin : ∀ x ∈ its, x ∈ ks) : Paired CerR (cerE ks es) its := cer_fitL (eps_fit h) hin
/-! ### two records with the same actions -/
theorem spl_pair {R : En → En → Prop} (hR : ∀ a b, R a b → a.2 = b.2) : ∀ {es es' : List En}, Paired R es es' → ∀ l, Paired R (splE l es).1 (splE l es').1 ∧ Paired (Paired R) (splE l es).2 (splE l es').2
  | _, _, .nil, l => ⟨.nil, .nil⟩
  | e :: es, e' :: es', .cons h p, l => by
    have en : nxtE l e = nxtE l e' := by
      unfold nxtE
      rw [hR _ _ h]
    obtain ⟨i1, i2⟩ := spl_pair hR p (nxtE l e')
    rw [splE, splE, en]
    by_cases c : l = 0
    · rw [if_pos c, if_pos c]
      exact ⟨.nil, .cons (.cons h i1) i2⟩
    · rw [if_neg c, if_neg c]
      exact ⟨.cons h i1, i2⟩
theorem eps_pair {R : En → En → Prop} (hR : ∀ a b, R a b → a.2 = b.2) {es es' : List En} (h : Paired R es es') : Paired (Paired R) (epsE es) (epsE es') := (spl_pair hR h 0).2
/-! ### less is known -/
def LeE (e' e : En) : Prop := e'.2 = e.2 ∧ (e'.1 = none ∨ e'.1 = e.1)
theorem kn_less {ep' ep : List En} (h : Paired LeE ep' ep) (b : Bool) : ∀ x ∈ knE ep' b, x ∈ knE ep b := by
  intro x hx
  obtain ⟨e', he, h1⟩ := List.mem_filterMap.mp hx
  obtain ⟨j, ej⟩ := List.getElem?_of_mem he
  obtain ⟨e, ee, h2, h3⟩ := Paired.at h ej
  split at h1
  · next c =>
    refine List.mem_filterMap.mpr ⟨e, List.mem_of_getElem? ee, ?_⟩
    rw [if_pos (by rw [← h2]; exact c)]
    rcases h3 with z | z
    · rw [z] at h1; cases h1
    · rw [← z]; exact h1
  · cases h1
theorem filt_le {p q : Str → Bool} {ks : List Str} (h : ∀ k, p k = true → q k = true) : (ks.filter p).length ≤ (ks.filter q).length := by
  rw [← List.countP_eq_length_filter, ← List.countP_eq_length_filter]
  exact List.countP_mono_left fun k _ => h k
theorem num_less {ks : List Str} (l0 : 0 < ks.length) {L : List (List En)} {its : List Str} (h : EpsF L its) : (∀ x ∈ its, x ∈ ks) → ∀ {L' : List (List En)}, Paired (Paired LeE) L' L → Paired (· ≤ ·) (L.flatMap (numP ks)) (L'.flatMap (numP ks)) := by
  induction h with
  | nil => intro _ L' p; cases p; exact .nil
  | @cons w ep t rest r h _ ih =>
    intro hin L' p
    cases p with
    | @cons ep' _ r' _ hp pr =>
    rw [List.flatMap_cons, List.flatMap_cons]
    refine Paired.app ?_ (ih (fun x hx => hin x (List.mem_append.mpr (.inr hx))) pr)
    have ins : ∀ k ∈ w :: t, k ∈ ks := fun k hk => hin k (List.mem_append.mpr (.inl hk))
    have hw := ins w (List.mem_cons_self ..)
    unfold numP
    refine .cons ?_ ?_
    · have k1 := kn_less hp true
      have k2 := kn_less hp false
      cases hp with
      | nil => exact Nat.le_refl _
      | @cons e' e er' er h1 h2 =>
        rw [optW_eq, optW_eq, h1.1]
        split
        · refine filt_le fun k hk => ?_
          unfold pW at hk ⊢
          rw [Bool.and_eq_true] at hk ⊢
          refine ⟨?_, List.all_eq_true.mpr fun x hx => List.all_eq_true.mp hk.2 x (k1 x hx)⟩
          have h3 := hk.1
          simp only [Bool.not_eq_true', decide_eq_false_iff_not] at h3 ⊢
          exact fun z => h3 (k2 k z)
        · exact Nat.le_refl _
    · have tl : EpB w ep.tail t := by
        cases h with
        | cons _ h2 => exact h2
      have tp := pair_tail hp
      have ins2 : ∀ k ∈ t, k ∈ ks := fun k hk => ins k (List.mem_cons_of_mem _ hk)
      revert ins2
      generalize ep.tail = A at tl tp
      generalize ep'.tail = A' at tp
      clear hp h ih hin ins pr
      induction tl generalizing A' with
      | nil => intro _; cases tp; exact .nil
      | @cons e k er t' h1 _ ih =>
        intro ins2
        cases tp with
        | @cons e' _ er' _ g1 g2 =>
        refine .cons ?_ (ih _ g2 fun x hx => ins2 x (List.mem_cons_of_mem _ hx))
        show (optL ks (ks.headD "") e).length ≤ (optL ks (ks.headD "") e').length
        unfold optL
        rw [g1.1]
        by_cases c : e.2 = true
        · rw [if_pos c, if_pos c]
          exact Nat.le_refl _
        · rw [if_neg c, if_neg c]
          rcases g1.2 with z | z
          · rw [z]
            cases e1 : e.1 with
            | none => exact Nat.le_refl _
            | some x =>
              have hk := ins2 k (List.mem_cons_self ..)
              have nkw : k ≠ w := fun z => c (by rw [h1.1, decide_eq_true z])
              show 1 ≤ (ks.filter fun k => !decide (k = ks.headD "")).length
              refine List.length_pos_iff.mpr (List.ne_nil_of_mem (a := if k = ks.headD "" then w else k) (List.mem_filter.mpr ?_))
              by_cases q : k = ks.headD ""
              · rw [if_pos q]
                exact ⟨hw, by rw [decide_eq_false (fun y => nkw (by rw [q, y]))]; rfl⟩
              · rw [if_neg q]
                exact ⟨hk, by rw [decide_eq_false q]; rfl⟩
          · rw [z]
            exact Nat.le_refl _
theorem prod_mono : ∀ {l l' : List Nat} (a a' : Nat), a ≤ a' → Paired (· ≤ ·) l l' → l.foldl (· * ·) a ≤ l'.foldl (· * ·) a'
  | _, _, a, a', h, .nil => h
  | n :: t, n' :: t', a, a', h, .cons h1 p => prod_mono (a * n) (a' * n') (Nat.mul_le_mul h h1) p
theorem cnt_less {ks : List Str} {es less : List En} {its : List Str} (h : FitE "" 0 es its) (hin : ∀ x ∈ its, x ∈ ks) (l0 : 0 < ks.length) (p : Paired LeE less es) : cntE ks es ≤ cntE ks less := by
  unfold cntE prodN numE
  exact prod_mono 1 1 (Nat.le_refl _) (num_less l0 (eps_fit h) hin (eps_pair (fun _ _ z => z.1) p))
theorem fit_less : ∀ {less es : List En}, Paired LeE less es → ∀ {its : List Str} {w : Str} {c : Nat}, FitE w c es its → FitE w c less its
  | _, _, .nil, its, w, c, h => h
  | e' :: _, e :: _, .cons h1 p, k :: t, w, c, h => ⟨by rw [h1.1]; exact h.1, fun x hx => by
      rcases h1.2 with z | z
      · rw [z] at hx; cases hx
      · exact h.2.1 x (by rw [← z]; exact hx), fit_less p h.2.2⟩
  | _ :: _, _ :: _, .cons _ _, [], _, _, h => h.elim
end UP

set_option Elab.async false
set_option linter.all false
set_option maxRecDepth 100000
set_option maxHeartbeats 4000000
set_option pp.maxSteps 400
namespace UP
open PySem PySem.Spec PyProof.Rows L2
/-! ### other names -/
def ReN (φ : Str → Str) (e' e : En) : Prop := e'.2 = e.2 ∧ e'.1 = e.1.map φ
def Inj (φ : Str → Str) (ks : List Str) : Prop := ∀ x ∈ ks, ∀ y ∈ ks, φ x = φ y → x = y
section
variable {φ : Str → Str} {ks : List Str}
theorem kn_ren {ep' ep : List En} (h : Paired (ReN φ) ep' ep) (b : Bool) : knE ep' b = (knE ep b).map φ := by
  induction h with
  | nil => rfl
  | @cons e' e er' er h _ ih =>
    unfold knE at ih ⊢
    rw [List.filterMap_cons, List.filterMap_cons, h.1, h.2, ih]
    by_cases c : e.2 = b
    · rw [if_pos c, if_pos c]
      cases e.1 with
      | none => rfl
      | some x => rfl
    · rw [if_neg c, if_neg c]
theorem kn_in {ep : List En} (h : InK ks ep) (b : Bool) : ∀ x ∈ knE ep b, x ∈ ks := by
  intro x hx
  obtain ⟨e, he, h1⟩ := List.mem_filterMap.mp hx
  split at h1
  · exact h e he x h1
  · cases h1
theorem dec_ren (hi : Inj φ ks) {x y : Str} (hx : x ∈ ks) (hy : y ∈ ks) : decide (φ x = φ y) = decide (x = y) := decide_eq_decide.mpr ⟨hi x hx y hy, fun h => congrArg φ h⟩
theorem pW_ren (hi : Inj φ ks) {ep' ep : List En} (h : Paired (ReN φ) ep' ep) (ik : InK ks ep) {k : Str} (hk : k ∈ ks) : pW ep' (φ k) = pW ep k := by
  unfold pW
  rw [kn_ren h, kn_ren h]
  congr 1
  · congr 1
    refine decide_eq_decide.mpr ⟨fun z => ?_, fun z => List.mem_map.mpr ⟨k, z, rfl⟩⟩
    obtain ⟨y, hy, e⟩ := List.mem_map.mp z
    rw [← hi y (kn_in ik false y hy) k hk e]
    exact hy
  · rw [List.all_map]
    have : ∀ l : List Str, (∀ x ∈ l, x ∈ ks) → l.all ((fun w => decide (φ k = w)) ∘ φ) = l.all fun w => decide (k = w) := by
      intro l
      induction l with
      | nil => intro _; rfl
      | cons x t ih =>
        intro hl
        rw [List.all_cons, List.all_cons, ih fun y hy => hl y (List.mem_cons_of_mem _ hy)]
        congr 1
        exact dec_ren hi hk (hl x (List.mem_cons_self ..))
    exact this _ (kn_in ik true)
theorem optW_ren (hi : Inj φ ks) {ep' ep : List En} (h : Paired (ReN φ) ep' ep) (ik : InK ks ep) : optW (ks.map φ) ep' = (optW ks ep).map φ := by
  have hh := h
  cases h with
  | nil => rfl
  | @cons e' e er' er h1 h2 =>
    rw [optW_eq, optW_eq, h1.1]
    split
    · rw [List.filter_map]
      congr 1
      exact List.filter_congr fun k hk => pW_ren hi hh ik hk
    · rfl
theorem optL_ren (hi : Inj φ ks) {e' e : En} (h : ReN φ e' e) {w : Str} (hw : w ∈ ks) : optL (ks.map φ) (φ w) e' = (optL ks w e).map φ := by
  unfold optL
  rw [h.1, h.2]
  split
  · rfl
  · cases e.1 with
    | some x => rfl
    | none =>
      show (ks.map φ).filter (fun k => !decide (k = φ w)) = (ks.filter fun k => !decide (k = w)).map φ
      rw [List.filter_map]
      congr 1
      refine List.filter_congr fun k hk => ?_
      show (!decide (φ k = φ w)) = _
      rw [dec_ren hi hk hw]
theorem head_ren (l0 : 0 < ks.length) : (ks.map φ).headD "" = φ (ks.headD "") ∧ ks.headD "" ∈ ks := by
  cases ks with
  | nil => exact absurd l0 (by decide)
  | cons k r => exact ⟨rfl, List.mem_cons_self ..⟩
theorem numP_ren (hi : Inj φ ks) (l0 : 0 < ks.length) {ep' ep : List En} (h : Paired (ReN φ) ep' ep) (ik : InK ks ep) : numP (ks.map φ) ep' = numP ks ep := by
  obtain ⟨h1, h2⟩ := head_ren (φ := φ) l0
  unfold numP
  rw [optW_ren hi h ik, List.length_map, h1]
  congr 1
  have tp := pair_tail h
  generalize ep.tail = A at tp
  generalize ep'.tail = A' at tp
  induction tp with
  | nil => rfl
  | @cons e' e _ _ g _ ih =>
    rw [List.map_cons, List.map_cons, ih, optL_ren hi g h2, List.length_map]
theorem numL_ren (hi : Inj φ ks) (l0 : 0 < ks.length) {L' L : List (List En)} (h : Paired (Paired (ReN φ)) L' L) : (∀ ep ∈ L, InK ks ep) → L'.flatMap (numP (ks.map φ)) = L.flatMap (numP ks) := by
  induction h with
  | nil => intro _; rfl
  | cons h _ ih =>
    intro ik
    rw [List.flatMap_cons, List.flatMap_cons, numP_ren hi l0 h (ik _ (List.mem_cons_self ..)), ih fun ep he => ik ep (List.mem_cons_of_mem _ he)]
theorem cnt_ren (hi : Inj φ ks) (l0 : 0 < ks.length) {es' es : List En} (h : Paired (ReN φ) es' es) (ik : InK ks es) : cntE (ks.map φ) es' = cntE ks es := by
  unfold cntE numE
  rw [numL_ren hi l0 (eps_pair (fun _ _ z => z.1) h) fun ep he e hm => ik e (eps_mem he e hm)]
theorem optE_ren (hi : Inj φ ks) {L : List (List En)} {its : List Str} (h : EpsF L its) : ∀ {L' : List (List En)}, Paired (Paired (ReN φ)) L' L → (∀ x ∈ its, x ∈ ks) → (∀ ep ∈ L, InK ks ep) → optE (ks.map φ) L' (its.map φ) = (optE ks L its).map (List.map φ) := by
  induction h with
  | nil => intro L' p _ _; cases p; rfl
  | @cons w ep t rest r h _ ih =>
    intro L' p hin ik
    cases p with
    | @cons ep' _ r' _ hp pr =>
    have l1 := h.len
    have l2 := Paired.len hp
    have e1 : ((w :: t) ++ rest).drop ep.length = rest := by rw [← l1, List.drop_left]
    have e2 : (((w :: t) ++ rest).map φ).drop ep'.length = rest.map φ := by rw [List.map_append, l2, ← l1, ← List.length_map (f := φ), List.drop_left]
    have hw := hin w (List.mem_append.mpr (.inl (List.mem_cons_self ..)))
    rw [optE, optE, e1, e2, ih pr (fun x hx => hin x (List.mem_append.mpr (.inr hx))) (fun ep he => ik ep (List.mem_cons_of_mem _ he)), show (((w :: t) ++ rest).map φ).headD "" = φ w from rfl, show ((w :: t) ++ rest).headD "" = w from rfl, List.map_append]
    congr 1
    unfold optP
    rw [List.map_cons, optW_ren hi hp (ik ep (List.mem_cons_self ..)), List.map_map]
    congr 1
    have tp := pair_tail hp
    generalize ep.tail = A at tp
    generalize ep'.tail = A' at tp
    clear hp h
    induction tp with
    | nil => rfl
    | @cons e' e _ _ g _ ih =>
      rw [List.map_cons, List.map_cons, ih, optL_ren hi g hw]
      rfl
theorem idx_ren (hi : Inj φ ks) {x : Str} (hx : x ∈ ks) : ∀ {o : List Str}, (∀ y ∈ o, y ∈ ks) → (o.map φ).idxOf (φ x) = o.idxOf x
  | [], _ => rfl
  | y :: t, h => by
    rw [List.map_cons, List.idxOf_cons, List.idxOf_cons, idx_ren hi hx fun z hz => h z (List.mem_cons_of_mem _ hz)]
    by_cases c : y = x
    · rw [c]
      simp
    · have c2 : ¬ φ y = φ x := fun z => c (hi y (h y (List.mem_cons_self ..)) x hx z)
      have e1 : (y == x) = false := by simpa using c
      have e2 : (φ y == φ x) = false := by simpa using c2
      rw [e1, e2]
theorem optW_in {ep : List En} : ∀ x ∈ optW ks ep, x ∈ ks := by
  intro x hx
  cases ep with
  | nil => cases hx
  | cons e r =>
    rw [optW_eq] at hx
    split at hx
    · exact (List.mem_filter.mp hx).1
    · cases hx
theorem optE_in : ∀ {L : List (List En)} {its : List Str}, (∀ ep ∈ L, InK ks ep) → (∀ x ∈ its, x ∈ ks) → its.length = L.flatten.length → (∀ ep ∈ L, ep ≠ []) → ∀ o ∈ optE ks L its, ∀ x ∈ o, x ∈ ks
  | [], _, _, _, _, _ => fun o h => by cases h
  | ep :: r, its, ik, hin, hl, ne => fun o h x hx => by
    rw [optE] at h
    have np := List.length_pos_iff.mpr (ne ep (List.mem_cons_self ..))
    rw [List.flatten_cons, List.length_append] at hl
    rcases List.mem_append.mp h with z | z
    · unfold optP at z
      rcases List.mem_cons.mp z with q | q
      · rw [q] at hx
        exact optW_in x hx
      · obtain ⟨e, he, rfl⟩ := List.mem_map.mp q
        unfold optL at hx
        split at hx
        · rw [List.mem_singleton.mp hx]
          cases its with
          | nil => rw [List.length_nil] at hl; omega
          | cons k t => exact hin k (List.mem_cons_self ..)
        · split at hx
          · exact (List.mem_filter.mp hx).1
          · next k hk =>
            rw [List.mem_singleton.mp hx]
            exact ik ep (List.mem_cons_self ..) e (List.mem_of_mem_tail he) k hk
    · exact optE_in (fun ep he => ik ep (List.mem_cons_of_mem _ he)) (fun x hx => hin x (List.mem_of_mem_drop hx)) (by rw [List.length_drop]; omega) (fun ep he => ne ep (List.mem_cons_of_mem _ he)) o z x hx
theorem fold_ren {g : Str × List Str → Str × List Str} : ∀ (Z : List (Str × List Str)) (a : Nat), (∀ p ∈ Z, ∀ a, stepI a (g p) = stepI a p) → (Z.map g).foldl stepI a = Z.foldl stepI a
  | [], _, _ => rfl
  | p :: t, a, h => by
    show (t.map g).foldl stepI (stepI a (g p)) = t.foldl stepI (stepI a p)
    rw [h p (List.mem_cons_self ..), fold_ren t _ fun x hx => h x (List.mem_cons_of_mem _ hx)]
theorem ix_ren (hi : Inj φ ks) {es' es : List En} {its : List Str} (h : FitE "" 0 es its) (p : Paired (ReN φ) es' es) (hin : ∀ x ∈ its, x ∈ ks) (ik : InK ks es) :
    ixZ ((its.map φ).zip (optE (ks.map φ) (epsE es') (its.map φ))) = ixZ (its.zip (optE ks (epsE es) its)) := by
  have iks : ∀ ep ∈ epsE es, InK ks ep := fun ep he e hm => ik e (eps_mem he e hm)
  rw [optE_ren hi (eps_fit h) (eps_pair (fun _ _ z => z.1) p) hin iks, List.zip_map]
  unfold ixZ
  refine fold_ren _ 0 fun q hq a => ?_
  have h1 := (List.of_mem_zip (a := q.1) (b := q.2) hq).1
  have h2 := (List.of_mem_zip (a := q.1) (b := q.2) hq).2
  unfold stepI
  show a * (q.2.map φ).length + (q.2.map φ).idxOf (φ q.1) = _
  rw [List.length_map, idx_ren hi (hin _ h1) (optE_in iks hin (eps_fit h).len (fun ep he => eps_ne ep he) _ h2)]
theorem fit_w0 : ∀ {es : List En} {its : List Str} {w w' : Str}, FitE w 0 es its → FitE w' 0 es its
  | [], [], _, _, _ => True.intro
  | _ :: _, _ :: _, _, _, h => h
  | [], _ :: _, _, _, h => h.elim
  | _ :: _, [], _, _, h => h.elim
theorem fit_ren (hi : Inj φ ks) : ∀ {es' es : List En}, Paired (ReN φ) es' es → ∀ {its : List Str} {w : Str} {c : Nat}, (c = 0 ∨ w ∈ ks) → (∀ x ∈ its, x ∈ ks) → FitE w c es its → FitE (φ w) c es' (its.map φ)
  | _, _, .nil, [], _, _, _, _, _ => True.intro
  | _, _, .nil, _ :: _, _, _, _, _, h => h.elim
  | _ :: _, _ :: _, .cons _ _, [], _, _, _, _, h => h.elim
  | e' :: _, e :: _, .cons h1 p, k :: t, w, c, hw, hin, h => by
    have hk := hin k (List.mem_cons_self ..)
    have st : staysI (φ w) c (φ k) = staysI w c k := by
      unfold staysI
      rcases hw with z | z
      · rw [z]; rfl
      · rw [dec_ren hi hk z]
    have ew : nxtW (φ w) c (φ k) = φ (nxtW w c k) := by
      unfold nxtW
      rw [st]
      split <;> rfl
    have ec : nxtC (φ w) c (φ k) = nxtC w c k := by
      unfold nxtC
      rw [st]
    have inw : nxtW w c k ∈ ks := by
      unfold nxtW
      split
      · exact hk
      · next hs =>
        rcases hw with z | z
        · exact absurd (by unfold staysI; rw [z]; rfl) hs
        · exact z
    refine ⟨by rw [h1.1, h.1, st], fun x hx => ?_, ?_⟩
    · rw [h1.2] at hx
      obtain ⟨y, hy, rfl⟩ := Option.map_eq_some_iff.mp hx
      rw [h.2.1 y hy]
    · rw [ew, ec]
      exact fit_ren hi p (.inr inw) (fun x hx => hin x (List.mem_cons_of_mem _ hx)) h.2.2
end
/-! ### a record behind another one -/
def shC (n : Nat) : Cf → Cf
  | .lev l => .lev (l + n)
  | .thr w a l => .thr w (a + n) (l + n)
section
variable {ks : List Str} {A B : List En}
theorem enA_app (a : Nat) : enA (A ++ B) (a + A.length) = enA B a := by
  unfold enA
  rw [List.getD_eq_getElem?_getD, List.getD_eq_getElem?_getD, List.getElem?_append_right (by omega), Nat.add_sub_cancel]
theorem oth_app (f l : Nat) : othE (A ++ B) (f + A.length) (l + A.length) = (othE B f l).map (· + A.length) := by
  unfold othE
  have e : List.range' (f + A.length) (l + A.length - (f + A.length)) = (List.range' f (l - f)).map (· + A.length) := by
    rw [show l + A.length - (f + A.length) = l - f by omega, show (fun x : Nat => x + A.length) = (A.length + ·) from funext fun x => Nat.add_comm _ _, List.map_add_range', Nat.add_comm A.length f]
  rw [e, List.filter_map]
  congr 1
  refine List.filter_congr fun a _ => ?_
  show ((enA (A ++ B) (l + A.length)).1.isSome && (enA (A ++ B) (a + A.length)).1.isSome) = _
  rw [enA_app, enA_app]
theorem btw_app (f l : Nat) : btwE (A ++ B) (f + A.length) (l + A.length) = (btwE B f l).map (shC A.length) := by
  unfold btwE
  rw [oth_app, enA_app, List.map_append, List.filter_map, List.filter_map, List.map_map, List.map_map, List.map_map, List.map_map]
  congr 1
  · congr 1
    refine List.filter_congr fun a _ => ?_
    show ((decide ((enA B l).2 = (enA (A ++ B) (a + A.length)).2) && decide ((enA (A ++ B) (a + A.length)).2 = true)) && !decide ((enA (A ++ B) (a + A.length)).1 = (enA B l).1)) = _
    rw [enA_app]
  · congr 1
    refine List.filter_congr fun a _ => ?_
    show ((!decide ((enA B l).2 = (enA (A ++ B) (a + A.length)).2)) && decide ((enA (A ++ B) (a + A.length)).1 = (enA B l).1)) = _
    rw [enA_app]
theorem cut_app (f l : Nat) : cutE (A ++ B) (f + A.length) (l + A.length) = cutE B f l := by
  unfold cutE
  rw [show l + A.length + 1 - (f + A.length) = l + 1 - f by omega, Nat.add_comm f, ← List.drop_drop, List.drop_left]
theorem cfs_app (f l : Nat) : cfsE ks (A ++ B) (f + A.length) (l + A.length) = (cfsE ks B f l).map (shC A.length) := by
  unfold cfsE
  rw [enA_app, btw_app, cut_app, show decide (f + A.length = l + A.length) = decide (f = l) from decide_eq_decide.mpr ⟨fun z => by omega, fun z => by omega⟩]
  split
  · rfl
  · rw [List.map_append]
    congr 1
    split <;> rfl
theorem cfGo_app : ∀ (L : List (List En)) (f : Nat), cfGo ks (A ++ B) (f + A.length) L = (cfGo ks B f L).map (shC A.length)
  | [], _ => rfl
  | ep :: r, f => by
    have e1 : cfEp ks (A ++ B) (f + A.length) ep.length = (cfEp ks B f ep.length).map (shC A.length) := by
      unfold cfEp
      have : ∀ l : List Nat, (l.findSome? fun j => (cfsE ks (A ++ B) (f + A.length) (f + A.length + j)).head?) = (l.findSome? fun j => (cfsE ks B f (f + j)).head?).map (shC A.length) := by
        intro l
        induction l with
        | nil => rfl
        | cons j t ih =>
          rw [List.findSome?_cons, List.findSome?_cons, show f + A.length + j = (f + j) + A.length by omega, cfs_app, List.head?_map, ih]
          cases (cfsE ks B f (f + j)).head? <;> rfl
      exact this _
    rw [cfGo, cfGo, e1, show f + A.length + ep.length = (f + ep.length) + A.length by omega, cfGo_app r]
    cases cfEp ks B f ep.length <;> rfl
theorem eps_app (h : lvlE 0 A = 0) : epsE (A ++ B) = epsE A ++ epsE B := by
  rw [← go_eps, goE_app, go_eps, h, goE_eq _ _ _ (fun z => absurd rfl z)]
  unfold attE epsE
  rw [if_pos rfl]
theorem fold_mul : ∀ (l : List Nat) (a : Nat), l.foldl (· * ·) a = a * l.foldl (· * ·) 1
  | [], a => (Nat.mul_one a).symm
  | n :: t, a => by
    show t.foldl (· * ·) (a * n) = a * t.foldl (· * ·) (1 * n)
    rw [fold_mul t (a * n), fold_mul t (1 * n), Nat.one_mul, Nat.mul_assoc]
theorem cnt_app (h : lvlE 0 A = 0) : cntE ks (A ++ B) = cntE ks A * cntE ks B := by
  unfold cntE numE prodN
  rw [eps_app h, List.flatMap_append, List.foldl_append, fold_mul]
end
def twoA : List En := [(none, true), (none, false)]
theorem two_cf {ks : List Str} (l1 : 1 < ks.length) (B : List En) : cfE ks (twoA ++ B) = (cfE ks B).map (shC 2) := by
  have e1 : epsE twoA = [twoA] := rfl
  have ex : ∀ ep : List En, knE ep true = [] → knE ep false = [] → exhE ks ep = false := fun ep h1 h2 => by
    unfold exhE
    rw [h1, h2, decide_eq_false (show ¬ ks.length = 1 by omega)]
    cases ks with
    | nil => exact absurd l1 (by decide)
    | cons k r => rfl
  have e0 : cfEp ks (twoA ++ B) 0 2 = none := by
    refine find_none fun j hj => ?_
    rcases (show j = 0 ∨ j = 1 by omega) with z | z
    · subst z
      have : cfsE ks (twoA ++ B) 0 (0 + 0) = [] := by
        unfold cfsE
        rw [ex (cutE (twoA ++ B) 0 (0 + 0)) rfl rfl]
        rfl
      rw [this]
      rfl
    · subst z
      have : cfsE ks (twoA ++ B) 0 (0 + 1) = [] := by
        unfold cfsE
        rw [ex (cutE (twoA ++ B) 0 (0 + 1)) rfl rfl]
        rfl
      rw [this]
      rfl
  unfold cfE
  rw [eps_app (A := twoA) rfl, e1]
  show (cfEp ks (twoA ++ B) 0 2).or (cfGo ks (twoA ++ B) (0 + 2) (epsE B)) = _
  rw [e0]
  show cfGo ks (twoA ++ B) (0 + twoA.length) (epsE B) = _
  rw [cfGo_app]
  rfl
theorem shC0 (c : Cf) : shC 0 c = c := by cases c <;> rfl
end UP

set_option Elab.async false
set_option linter.all false
set_option maxRecDepth 100000
set_option maxHeartbeats 4000000
set_option pp.maxSteps 900
namespace UP
open PySem PySem.Spec PyProof.Rows L2
theorem pos_noneL : PosO none := fun r h => by cases h
/-! ### the record of items, one by one and by runs -/
def recS : Option Run → List Str → List En
  | _, [] => []
  | st, k :: t => (some k, decide (leavR st k 1 = 0)) :: recS (stepR st k 1) t
theorem recS_app : ∀ (l m : List Str) (st : Option Run), recS st (l ++ m) = recS st l ++ recS (stI l st) m
  | [], m, st => rfl
  | k :: t, m, st => by
    show _ :: recS (stepR st k 1) (t ++ m) = _
    rw [recS_app t m]
    rfl
theorem recS_len : ∀ (l : List Str) (st : Option Run), (recS st l).length = l.length
  | [], _ => rfl
  | k :: t, st => congrArg (· + 1) (recS_len t _)
def actB (st : Option Run) (r : Run) : List En := List.replicate (leavR st r.1 r.2).toNat (some r.1, false) ++ List.replicate (r.2 - leavR st r.1 r.2).toNat (some r.1, true)
def recB : Option Run → List Run → List En
  | _, [] => []
  | st, r :: t => actB st r ++ recB (stepR st r.1 r.2) t
theorem recB_app : ∀ (l m : List Run) (st : Option Run), recB st (l ++ m) = recB st l ++ recB (stR l st) m
  | [], m, st => rfl
  | r :: t, m, st => by
    show actB st r ++ recB (stepR st r.1 r.2) (t ++ m) = _
    rw [recB_app t m, ← List.append_assoc]
    rfl
theorem recS_same (k : Str) : ∀ (c : Nat) (n : Int), recS (some (k, n)) (List.replicate c k) = List.replicate c (some k, true)
  | 0, n => rfl
  | c + 1, n => by
    show (some k, decide (leavR (some (k, n)) k 1 = 0)) :: recS (stepR (some (k, n)) k 1) (List.replicate c k) = (some k, true) :: List.replicate c (some k, true)
    rw [step_same (r := (k, n)) rfl, recS_same k c, show leavR (some (k, n)) k 1 = 0 from if_pos rfl]
    rfl
theorem recS_none (k : Str) : ∀ (c : Nat), recS none (List.replicate c k) = List.replicate c (some k, true)
  | 0 => rfl
  | c + 1 => by
    show (some k, true) :: recS (some (k, 1)) (List.replicate c k) = (some k, true) :: List.replicate c (some k, true)
    rw [recS_same k c]
theorem leav_leL {st : Option Run} {k : Str} {c : Int} (h : PosO st) (hc : 0 ≤ c) : 0 ≤ leavR st k c ∧ leavR st k c ≤ c := by
  cases st with
  | none => exact ⟨Int.le_refl _, hc⟩
  | some r =>
    have := h r rfl
    unfold leavR
    dsimp only
    split
    · omega
    · split <;> omega
theorem recS_other {k : Str} : ∀ (c : Nat) (r : Run), 1 ≤ r.2 → r.1 ≠ k → recS (some r) (List.replicate c k) = List.replicate (leavR (some r) k c).toNat (some k, false) ++ List.replicate ((c : Int) - leavR (some r) k c).toNat (some k, true)
  | 0, r, h, e => by
    rw [show leavR (some r) k ((0 : Nat) : Int) = 0 by unfold leavR; dsimp only; rw [if_neg e, if_pos (by omega)]; rfl]
    rfl
  | c + 1, r, h, e => by
    show (some k, decide (leavR (some r) k 1 = 0)) :: recS (stepR (some r) k 1) (List.replicate c k) = _
    have e1 : leavR (some r) k 1 = 1 := by
      unfold leavR
      dsimp only
      rw [if_neg e]
      split <;> omega
    rw [e1, step_other e]
    by_cases h1 : 0 < r.2 - 1
    · rw [if_pos h1, recS_other c (r.1, r.2 - 1) (by show 1 ≤ r.2 - 1; omega) e]
      have e2 : leavR (some r) k ((c + 1 : Nat) : Int) = leavR (some (r.1, r.2 - 1)) k (c : Int) + 1 := by
        unfold leavR
        dsimp only
        rw [if_neg e, if_neg e]
        split <;> split <;> omega
      have b := leav_leL (st := some (r.1, r.2 - 1)) (k := k) (c := (c : Int)) (fun x hx => by cases hx; show 1 ≤ r.2 - 1; omega) (by omega)
      rw [e2, show (leavR (some (r.1, r.2 - 1)) k (c : Int) + 1).toNat = (leavR (some (r.1, r.2 - 1)) k (c : Int)).toNat + 1 by omega, show ((c + 1 : Nat) : Int) - (leavR (some (r.1, r.2 - 1)) k (c : Int) + 1) = (c : Int) - leavR (some (r.1, r.2 - 1)) k (c : Int) by omega]
      rfl
    · rw [if_neg h1, if_pos (by omega), recS_none]
      have e2 : leavR (some r) k ((c + 1 : Nat) : Int) = 1 := by
        unfold leavR
        dsimp only
        rw [if_neg e]
        split <;> omega
      rw [e2, show ((c + 1 : Nat) : Int) - 1 = (c : Int) by omega]
      rfl
theorem recS_run {st : Option Run} (h : PosO st) (k : Str) (c : Nat) : recS st (List.replicate c k) = List.replicate (leavR st k c).toNat (some k, false) ++ List.replicate ((c : Int) - leavR st k c).toNat (some k, true) := by
  cases st with
  | none =>
    rw [recS_none, show leavR none k (c : Int) = 0 from rfl, Int.sub_zero, Int.toNat_natCast]
    rfl
  | some r =>
    by_cases e : r.1 = k
    · obtain ⟨a, n⟩ := r
      have e : a = k := e
      rw [e, recS_same, show leavR (some (k, n)) k (c : Int) = 0 from if_pos rfl, Int.sub_zero, Int.toNat_natCast]
      rfl
    · exact recS_other c r (h r rfl) e
theorem recS_runs : ∀ (rs : List Run) (st : Option Run), PosO st → (∀ r ∈ rs, 1 ≤ r.2) → recS st (itR rs) = recB st rs
  | [], st, _, _ => rfl
  | r :: t, st, h, k => by
    have c1 := k r (List.mem_cons_self ..)
    have e : itR (r :: t) = List.replicate r.2.toNat r.1 ++ itR t := rfl
    obtain ⟨n, hn⟩ : ∃ n : Nat, r.2.toNat = n + 1 := ⟨r.2.toNat - 1, by omega⟩
    have es : stI (List.replicate r.2.toNat r.1) st = stepR st r.1 r.2 := by
      rw [hn, it_step n _ _ h, show ((n : Int) + 1) = r.2 by omega]
    rw [e, recS_app, es, recS_runs t _ (stepR_pos h c1) fun x hx => k x (List.mem_cons_of_mem _ hx), recS_run h, show ((r.2.toNat : Nat) : Int) = r.2 by omega]
    rfl
/-- a state of items, as a word and a number -/
def StI (st : Option Run) (w : Str) (c : Nat) : Prop := match st with
  | none => c = 0
  | some r => r.1 = w ∧ r.2 = (c : Int) ∧ 1 ≤ c
theorem recS_recI : ∀ (its : List Str) (st : Option Run) (w : Str) (c : Nat), StI st w c → recS st its = recI w c its
  | [], _, _, _, _ => rfl
  | k :: t, st, w, c, h => by
    rw [recS, recI]
    cases st with
    | none =>
      have h : c = 0 := h
      subst h
      have e1 : staysI w 0 k = true := rfl
      rw [e1, recS_recI t _ (nxtW w 0 k) (nxtC w 0 k) (by
        unfold nxtW nxtC
        rw [if_pos e1, if_pos e1]
        exact ⟨rfl, rfl, Nat.le_refl _⟩)]
      rfl
    | some r =>
      obtain ⟨h1, h2, h3⟩ := h
      have c0 : c ≠ 0 := by omega
      by_cases q : k = w
      · have e1 : staysI w c k = true := by unfold staysI; rw [decide_eq_true q, Bool.or_true]
        have e2 : r.1 = k := by rw [h1, q]
        rw [e1, step_same e2, show leavR (some r) k 1 = 0 from if_pos e2, recS_recI t _ (nxtW w c k) (nxtC w c k) (by
          unfold nxtW nxtC
          rw [if_pos e1, if_pos e1]
          exact ⟨rfl, by show r.2 + 1 = _; omega, by omega⟩)]
        rfl
      · have e1 : staysI w c k = false := by unfold staysI; rw [decide_eq_false q, decide_eq_false c0]; rfl
        have e2 : r.1 ≠ k := fun z => q (by rw [← z, h1])
        have e3 : leavR (some r) k 1 = 1 := by
          unfold leavR
          dsimp only
          rw [if_neg e2]
          split <;> omega
        rw [e1, step_other e2, e3, recS_recI t _ (nxtW w c k) (nxtC w c k) (by
          unfold nxtW nxtC
          rw [e1]
          show StI (if 0 < r.2 - 1 then some (r.1, r.2 - 1) else if r.2 - 1 = 0 then none else some (k, -(r.2 - 1))) w (c - 1)
          by_cases z : 0 < r.2 - 1
          · rw [if_pos z]
            exact ⟨h1, by show r.2 - 1 = _; omega, by omega⟩
          · rw [if_neg z, if_pos (by omega)]
            show c - 1 = 0
            omega)]
        rfl
theorem recB_recI {rs : List Run} {its : List Str} (h : itR rs = its) (k : ∀ r ∈ rs, 1 ≤ r.2) : recB none rs = recI "" 0 its := by
  rw [← recS_runs rs none pos_noneL k, h]
  exact recS_recI its none "" 0 rfl
theorem stR_posL : ∀ (rs : List Run) {st : Option Run}, PosO st → (∀ r ∈ rs, 1 ≤ r.2) → PosO (stR rs st)
  | [], _, h, _ => h
  | r :: t, st, h, k => by
    rw [stR_cons]
    exact stR_posL t (stepR_pos h (k r (List.mem_cons_self ..))) fun x hx => k x (List.mem_cons_of_mem _ hx)
theorem itR_take_lenL (rs : List Run) (i : Nat) : (itR (rs.take i)).length ≤ (itR rs).length := by
  have a1 : itR (rs.take i) ++ itR (rs.drop i) = itR rs := by
    rw [← it_app, List.take_append_drop]
  rw [← a1, List.length_append]
  omega
theorem recB_len {rs : List Run} (k : ∀ r ∈ rs, 1 ≤ r.2) : (recB none rs).length = (itR rs).length := by
  rw [← recS_runs rs none pos_noneL k, recS_len]
theorem tk_butL {H H' : Hp} {p : Addr} {l : List V} (hp : H p = some (.lst l)) (b : But p H H') : ∀ t xs, H t = some (.tup xs) → H' t = some (.tup xs) := fun c xs e => b _ _ (ne_of e hp (by intro y; cases y)) e
theorem StV.tkL {H H' : Hp} {v : V} {st : Option Run} (k : ∀ t xs, H t = some (.tup xs) → H' t = some (.tup xs)) (h : StV H v st) : StV H' v st := by
  cases st with
  | none => exact h
  | some r =>
    obtain ⟨t, e, ht⟩ := h
    exact ⟨t, e, k _ _ ht⟩
section
variable {P : Program} {w : World} {K : PySem.W.Frag} {mg : Str → Option Value} {base : Heap}
/-! record_of: slots 0:items 1:record 2:state 3:kind 4:count 5:leaving -/
abbrev s_record_of : Stmt := topS 44
theorem sc_record_of : FnScope ["items", "record", "state", "kind", "count", "leaving"] ["items"] (defScope s_record_of) := ⟨rfl, rfl, rfl, by decide +kernel, rfl, by decide +kernel, by decide +kernel⟩
def sp_record_of : Sp := fun vs H Q _ => ∃ (a : Addr) (ks : List Str), vs = [.ref a] ∧ Sq2 H a (ks.map V.str) ∧ ks.length ≤ 400 ∧ (∀ k ∈ ks, KindOk k) ∧ ∀ H' p, Same H H' → H p = none → Rec H' p (recI "" 0 ks) → Q (.ref p) H'
theorem ok_record_of (D : Df K mg "record_of" s_record_of) (G_runs_of : Has P w K mg base 2 "runs_of" ["items"] sp_runs_of) (G_leaving_number : Has P w K mg base 1 "leaving_number" ["state", "kind", "count"] sp_leaving_number) (G_state_after_run : Has P w K mg base 2 "state_after_run" ["state", "kind", "count"] sp_state_after_run) :
    Has P w K mg base 3 "record_of" ["items"] sp_record_of := by
  refine has_of D sc_record_of (fun _ _ _ _ _ _ us hl => match us, hl with | [_], _ => rfl) (fun vs H Q E h => ?_) (fun f cdv A outer s₀ H vs Q E hr h => ?_)
  · obtain ⟨_, _, rfl, _⟩ := h
    rfl
  · obtain ⟨a, ks, rfl, ha, l4, ok, q⟩ := h
    have ro := runs_all ks
    have pos := ro.pos
    have hit := ro.it
    have len4 : (itR (runR ks)).length ≤ 400 := by rw [hit]; exact l4
    have cnt : ∀ r ∈ runR ks, r.2 ≤ 400 := fun r hr => by
      have h1 := len_mem pos r hr
      have h2 := len_it _ pos
      omega
    refine ⟨_, (pss_cons (ps_set (i := 1) sc_record_of.nd rfl (by first | exact Or.inl rfl | exact Or.inr rfl) (pe_lst pa_nil))
    (pss_cons (ps_set (i := 2) sc_record_of.nd rfl (by first | exact Or.inl rfl | exact Or.inr rfl) pe_non)
    (pss_cons (ps_for PassesOwn.never rfl (pi_list (pe_callH G_runs_of (hr.mono (by omega)) (by rfl) (pa_cons (pv 0) pa_nil))) (pg_tup rfl (pgs_cons (pg_name (i := 3) sc_record_of.nd rfl (by first | exact Or.inl rfl | exact Or.inr rfl)) (pgs_cons (pg_name (i := 4) sc_record_of.nd rfl (by first | exact Or.inl rfl | exact Or.inr rfl)) pgs_nil)))
      (pss_cons (ps_set (i := 5) sc_record_of.nd rfl (by first | exact Or.inl rfl | exact Or.inr rfl) (pe_callH G_leaving_number (hr.mono (by omega)) (by rfl) (pa_cons (pv 2) (pa_cons (pv 3) (pa_cons (pv 4) pa_nil)))))
    (pss_cons (ps_expr (pe_bm PySem.F.plainAttrs_list PySem.F.slot_list_extend PySem.F.type_list_extend mt_extend (pv 1) (pa_cons (pe_op op_cat (pe_op op_rep (pe_lst (pa_cons (pe_tup (pa_cons (pv 3) (pa_cons pe_str pa_nil))) pa_nil)) (pv 5)) (pe_op op_rep (pe_lst (pa_cons (pe_tup (pa_cons (pv 3) (pa_cons pe_str pa_nil))) pa_nil)) (pe_op op_sub (pv 4) (pv 5)))) pa_nil)))
    (pss_one (ps_set (i := 2) sc_record_of.nd rfl (by first | exact Or.inl rfl | exact Or.inr rfl) (pe_callH G_state_after_run (hr.mono (by omega)) (by rfl) (pa_cons (pv 2) (pa_cons (pv 3) (pa_cons (pv 4) pa_nil)))))))))
    (pss_one (ps_ret (pv 1)))))), ?_⟩
    refine ⟨Nat.zero_le _, fun p np => ?_⟩
    have sp0 := same_upd (o := .lst []) np
    have hp0 : (upd H p (.lst [])) p = some (.lst []) := upd_same
    generalize upd H p (.lst []) = H1 at *
    refine ⟨_, rfl, a, ks, rfl, ha.same sp0, l4, ok, fun H2 b s2 nb ⟨ys, hb, hyp⟩ => ?_⟩
    have bp : b ≠ p := fun z => by rw [z, hp0] at nb; cases nb
    have hp2 := s2 _ _ hp0
    generalize runR ks = rs at *
    have ly : ys.length = rs.length := Paired.len hyp
    refine ⟨b, rfl, ⟨ys, .of hb⟩, for_list (K := K) (a := b) (xs := ys) (fun i σ H' => ∃ v y3 y4 y5 xs, σ = [some (.ref a), some (.ref p), some v, y3, y4, y5] ∧ But p H2 H' ∧ StV H' v (stR (rs.take i) none) ∧ H' p = some (.lst xs) ∧ Paired (EnV H') xs (recB none (rs.take i)))
      ⟨.non, none, none, none, [], rfl, But.refl, rfl, hp2, .nil⟩ (fun i σ H' _ hP => ?_) (fun i x σ H3 ex hP => ?_) (fun σ H3 hP => ?_)⟩
    · obtain ⟨_, _, _, _, _, _, b3, _⟩ := hP
      exact .of (b3 _ _ bp hb)
    · obtain ⟨v, y3, y4, y5, xs, rfl, b3, hv, hx, hxp⟩ := hP
      obtain ⟨r, er, hr1⟩ := Paired.at hyp ex
      obtain ⟨t, rfl, ht0⟩ := hr1
      have ht : H3 t = some (.tup [.str r.1, .int r.2]) := tk_butL hp2 b3 _ _ ht0
      have mem := List.mem_of_getElem? er
      have c1 := pos r mem
      have c4 := cnt r mem
      have lxs : xs.length ≤ 400 := by
        rw [Paired.len hxp, recB_len fun r hr => pos r (List.mem_of_mem_take hr)]
        exact Nat.le_trans (itR_take_lenL rs i) len4
      have po : PosO (stR (rs.take i) none) := stR_posL _ pos_noneL fun r hr => pos r (List.mem_of_mem_take hr)
      obtain ⟨v0, v1⟩ := leav_leL (k := r.1) (c := r.2) po (by omega)
      have e1 : stR (rs.take (i + 1)) none = stepR (stR (rs.take i) none) r.1 r.2 := by rw [take_snoc er, stR_snoc]
      have e2 : recB none (rs.take (i + 1)) = recB none (rs.take i) ++ actB (stR (rs.take i) none) r := by
        rw [take_snoc er, recB_app]
        show _ ++ (actB (stR (rs.take i) none) r ++ []) = _
        rw [List.append_nil]
      rw [e1, e2]
      unfold actB
      generalize hlv : leavR (stR (rs.take i) none) r.1 r.2 = lv at *
      refine ⟨t, _, rfl, .of ht, rfl, _, _, rfl, _, _, rfl, rfl, ?_⟩
      refine ⟨_, rfl, _, rfl, _, rfl, v, _, r.1, r.2, rfl, hv, ?_⟩
      rw [hlv]
      refine ⟨_, rfl, .inl ⟨rfl, _, SqL.of hx⟩, _, rfl, (by show 2 ≤ sizeLine; decide), fun t1 n1 => ⟨(by show 1 ≤ sizeLine; decide), fun l1 m1 => ⟨_, rfl, l1, lv, [.ref t1], rfl, rfl, upd_same, by omega, by omega, Nat.le_of_lt (small (by show 1 * lv.toNat ≤ 1000000; omega)), fun l2 m2 => ?_⟩⟩⟩
      rw [flat_one]
      have s1 := same_upd (o := .tup [.str r.1, .str "leaves"]) n1
      have h1 : (upd H3 t1 (.tup [.str r.1, .str "leaves"])) t1 = some (.tup [.str r.1, .str "leaves"]) := upd_same
      generalize upd H3 t1 (.tup [.str r.1, .str "leaves"]) = H4 at *
      have s2' := (same_upd (o := .lst [.ref t1]) m1).trans (same_upd (o := .lst (List.replicate lv.toNat (.ref t1))) m2)
      have h2 : (upd (upd H4 l1 (.lst [.ref t1])) l2 (.lst (List.replicate lv.toNat (.ref t1)))) l2 = some (.lst (List.replicate lv.toNat (.ref t1))) := upd_same
      generalize upd (upd H4 l1 (.lst [.ref t1])) l2 (.lst (List.replicate lv.toNat (.ref t1))) = H5 at *
      refine ⟨_, rfl, (by show 2 ≤ sizeLine; decide), fun t2 n2 => ⟨(by show 1 ≤ sizeLine; decide), fun l3 m3 => ⟨_, rfl, _, rfl, r.2, lv, rfl, rfl, l3, r.2 - lv, [.ref t2], rfl, rfl, upd_same, by omega, by omega, Nat.le_of_lt (small (by show 1 * (r.2 - lv).toNat ≤ 1000000; omega)), fun l4 m4 => ?_⟩⟩⟩
      rw [flat_one]
      have s6 := same_upd (o := .tup [.str r.1, .str "waits"]) n2
      have h6 : (upd H5 t2 (.tup [.str r.1, .str "waits"])) t2 = some (.tup [.str r.1, .str "waits"]) := upd_same
      generalize upd H5 t2 (.tup [.str r.1, .str "waits"]) = H6 at *
      have s7 := (same_upd (o := .lst [.ref t2]) m3).trans (same_upd (o := .lst (List.replicate (r.2 - lv).toNat (.ref t2))) m4)
      have h7 : (upd (upd H6 l3 (.lst [.ref t2])) l4 (.lst (List.replicate (r.2 - lv).toNat (.ref t2)))) l4 = some (.lst (List.replicate (r.2 - lv).toNat (.ref t2))) := upd_same
      generalize upd (upd H6 l3 (.lst [.ref t2])) l4 (.lst (List.replicate (r.2 - lv).toNat (.ref t2))) = H7 at *
      have hl2 := s7 _ _ (s6 _ _ h2)
      refine ⟨l2, l4, _, _, rfl, rfl, hl2, h7, Nat.le_of_lt (small (by rw [List.length_replicate, List.length_replicate]; omega)), fun l5 m5 => ?_⟩
      have sA : Same H3 (upd H7 l5 (.lst (List.replicate lv.toNat (.ref t1) ++ List.replicate (r.2 - lv).toNat (.ref t2)))) := s1.trans (s2'.trans (s6.trans (s7.trans (same_upd m5))))
      have h1' : (upd H7 l5 (.lst (List.replicate lv.toNat (.ref t1) ++ List.replicate (r.2 - lv).toNat (.ref t2)))) t1 = some (.tup [.str r.1, .str "leaves"]) := same_upd m5 _ _ (s7 _ _ (s6 _ _ (s2' _ _ h1)))
      have h6' : (upd H7 l5 (.lst (List.replicate lv.toNat (.ref t1) ++ List.replicate (r.2 - lv).toNat (.ref t2)))) t2 = some (.tup [.str r.1, .str "waits"]) := same_upd m5 _ _ (s7 _ _ h6)
      have h8 : (upd H7 l5 (.lst (List.replicate lv.toNat (.ref t1) ++ List.replicate (r.2 - lv).toNat (.ref t2)))) l5 = some (.lst (List.replicate lv.toNat (.ref t1) ++ List.replicate (r.2 - lv).toNat (.ref t2))) := upd_same
      generalize upd H7 l5 (.lst (List.replicate lv.toNat (.ref t1) ++ List.replicate (r.2 - lv).toNat (.ref t2))) = H8 at *
      have hx8 := sA _ _ hx
      refine ⟨p, l5, _, _, rfl, rfl, hx8, h8, Nat.le_of_lt (small (by rw [List.length_append, List.length_replicate, List.length_replicate]; omega)), ?_⟩
      have b9 : But p H8 (upd H8 p (.lst (xs ++ (List.replicate lv.toNat (.ref t1) ++ List.replicate (r.2 - lv).toNat (.ref t2))))) := but_upd
      have kp := tk_butL hx8 b9
      have hx9 : (upd H8 p (.lst (xs ++ (List.replicate lv.toNat (.ref t1) ++ List.replicate (r.2 - lv).toNat (.ref t2))))) p = some (.lst (xs ++ (List.replicate lv.toNat (.ref t1) ++ List.replicate (r.2 - lv).toNat (.ref t2)))) := upd_same
      generalize upd H8 p (.lst (xs ++ (List.replicate lv.toNat (.ref t1) ++ List.replicate (r.2 - lv).toNat (.ref t2)))) = H9 at *
      refine ⟨_, rfl, _, rfl, _, rfl, v, _, r.1, r.2, rfl, (hv.same sA).tkL kp, c1, fun H10 v' s10 hv' => ?_⟩
      refine ⟨v', _, _, _, _, rfl, (b3.trans (Same.but sA)).trans (b9.trans (Same.but s10)), hv', s10 _ _ hx9, ?_⟩
      refine Paired.app (Paired.imp (fun _ _ y => ((EnV.same sA y).tk kp).same s10) hxp) (Paired.app (paired_rep ?_ _) (paired_rep ?_ _))
      · exact ⟨t1, rfl, s10 _ _ (kp _ _ h1')⟩
      · exact ⟨t2, rfl, s10 _ _ (kp _ _ h6')⟩
    · obtain ⟨v, y3, y4, y5, xs, rfl, b3, hv, hx, hxp⟩ := hP
      rw [ly, List.take_length, recB_recI hit pos] at hxp
      refine ⟨_, rfl, q H3 p (fun c o e => b3 _ _ (ne_of_none e np) (s2 _ _ (sp0 _ _ e))) np ⟨xs, hx, hxp⟩⟩
end
end UP

set_option Elab.async false
set_option linter.all false
set_option maxRecDepth 100000
set_option maxHeartbeats 4000000
set_option pp.maxSteps 600
/-! ### list(zip(xs, ys)) of two lists of one length -/
namespace UP.Lz
open PySem PySem.Calls PyProof.Rows PySem.Spec
theorem zip_no_len : typeLookup (.type "zip") "__len__" = pure none := by rw [typeLookup_type, builtinLookup_eq_fast]; kernel_rfl
theorem zip_no_hint : typeLookup (.type "zip") "__length_hint__" = pure none := by rw [typeLookup_type, builtinLookup_eq_fast]; kernel_rfl
structure Got (xs ys : Array Value) (lo : Addr) (h : Heap) (as : List Addr) : Prop where
  rise : as.Pairwise (· < ·)
  above : ∀ a ∈ as, lo < a
  pairs : ∀ (j : Nat) (a : Addr), as[j]? = some a → ∃ x y, xs[j]? = some x ∧ ys[j]? = some y ∧ h.get? a = some { cls := .type "tuple", data := .seq #[x, y] }
theorem Got.there {xs ys : Array Value} {lo : Addr} {h : Heap} {as : List Addr} (g : Got xs ys lo h as) {a : Addr} (ha : a ∈ as) : a < h.objs.size := by
  obtain ⟨j, hj⟩ := List.mem_iff_getElem?.mp ha
  obtain ⟨_, _, _, _, e⟩ := g.pairs j a hj
  exact Heap.lt_size e
/-- the zip under way, its tuples above S -/
def St (z TI TO i1 i2 l1 l2 : Addr) (xs ys : Array Value) (S : Addr) (i : Nat) (h : Heap) : Prop :=
  IsPair h TI (.ref i1) (.ref i2) ∧ h.IsListIter i1 l1 i ∧ h.IsListIter i2 l2 i ∧ h.IsList l1 xs ∧ h.IsList l2 ys ∧
    ((IsZip h z TI TO .none ∧ ∃ a b, IsPair h TO a b) ∨ ∃ T f oT, IsZipHeld h z TI TO T f ∧ h.get? T = some oT ∧ T ≠ z ∧ T ≠ i1 ∧ T ≠ i2 ∧ T ≠ S)
section
variable {prog : Program} {w : World} {A : Around} {s : Shared} {z TI TO i1 i2 l1 l2 S : Addr} {xs ys : Array Value}
theorem St.keep {i : Nat} {h h' : Heap} (st : St z TI TO i1 i2 l1 l2 xs ys S i h) (hk : ∀ b o, b ≠ S → h.get? b = some o → h'.get? b = some o)
    (dz : z ≠ S) (dTI : TI ≠ S) (dTO : TO ≠ S) (d1 : i1 ≠ S) (d2 : i2 ≠ S) (e1 : l1 ≠ S) (e2 : l2 ≠ S) : St z TI TO i1 i2 l1 l2 xs ys S i h' := by
  obtain ⟨hTI, h1, h2, hl1, hl2, hz⟩ := st
  refine ⟨hk _ _ dTI hTI, h1.at fun o e => hk _ o d1 e, h2.at fun o e => hk _ o d2 e, hl1.at fun o e => hk _ o e1 e, hl2.at fun o e => hk _ o e2 e, ?_⟩
  rcases hz with ⟨hz, a, b, hTO⟩ | ⟨T, f, oT, hz, hT, r1, r2, r3, r4⟩
  · exact .inl ⟨hk _ _ dz hz, a, b, hk _ _ dTO hTO⟩
  · exact .inr ⟨T, f, oT, hk _ _ dz hz, hk _ _ r4 hT, r1, r2, r3, r4⟩
theorem item {i : Nat} {E : Value → Shared → Prop} {Q : Option Value → Shared → Prop} (D : ZipApart z TI TO i1 i2 l1 l2) (st : St z TI TO i1 i2 l1 l2 xs ys S i s.heap) (hS : S < s.heap.objs.size) (hx : i < xs.size) (hy : i < ys.size)
    (hQ : ∀ h', St z TI TO i1 i2 l1 l2 xs ys S (i + 1) h' → h'.get? s.heap.objs.size = some { cls := .type "tuple", data := .seq #[xs[i], ys[i]] } → h'.objs.size = s.heap.objs.size + 1 →
      (∀ c o, c ≠ z → c ≠ TO → c ≠ i1 → c ≠ i2 → s.heap.get? c = some o → h'.get? c = some o) → Q (some (.ref s.heap.objs.size)) { s with heap := h' }) :
    wpAny (model prog w) A (pyNext (.ref z)) Q E s := by
  obtain ⟨hTI, h1, h2, hl1, hl2, hz⟩ := st
  have ex := Array.getElem?_eq_getElem hx
  have ey := Array.getElem?_eq_getElem hy
  have lt : ∀ {c o}, s.heap.get? c = some o → s.heap.objs.size ≠ c := fun e => Nat.ne_of_gt (Heap.lt_size e)
  have n1 : s.heap.objs.size ≠ i1 := let ⟨_, e, _⟩ := h1; lt e
  have n2 : s.heap.objs.size ≠ i2 := let ⟨_, e, _⟩ := h2; lt e
  rcases hz with ⟨hz, a, b, hTO⟩ | ⟨T, f, oT, hz, hT, r1, r2, r3, r4⟩
  · refine wpAny_pyNext_zip_item D hz hTI hTO h1 h2 hl1 hl2 ex ey fun h' a1 a2 a3 a4 a5 a6 hk => ?_
    exact hQ h' ⟨hk _ _ D.TIz D.TITO D.TIi1 D.TIi2 hTI, a3, a4, hl1.at fun o e => hk _ o D.l1z D.l1TO D.l1i1 D.l1i2 e, hl2.at fun o e => hk _ o D.l2z D.l2TO D.l2i1 D.l2i2 e,
        .inr ⟨s.heap.objs.size, false, _, a1, a5, lt hz, n1, n2, Nat.ne_of_gt hS⟩⟩ a5 a6
      fun c o c1 c2 c3 c4 e => hk c o c1 c2 c3 c4 e
  · refine wpAny_pyNext_zip_item_held D hz hT hTI h1 h2 hl1 hl2 ex ey fun h' a1 a3 a4 a5 a6 hk => ?_
    exact hQ h' ⟨hk _ _ D.TIz D.TIi1 D.TIi2 hTI, a3, a4, hl1.at fun o e => hk _ o D.l1z D.l1i1 D.l1i2 e, hl2.at fun o e => hk _ o D.l2z D.l2i1 D.l2i2 e,
        .inr ⟨T, true, oT, a1, hk _ _ r1 r2 r3 hT, r1, r2, r3, r4⟩⟩ a5 a6
      fun c o c1 _ c3 c4 e => hk c o c1 c3 c4 e
theorem done {i : Nat} {E : Value → Shared → Prop} {Q : Option Value → Shared → Prop} (hh : A.handled = none) (D : ZipApart z TI TO i1 i2 l1 l2) (st : St z TI TO i1 i2 l1 l2 xs ys S i s.heap) (hx : xs.size ≤ i)
    (hQ : ∀ h', (∀ c o, c ≠ z → c ≠ TO → c ≠ i1 → c ≠ i2 → s.heap.get? c = some o → h'.get? c = some o) → Q none { s with heap := h' }) :
    wpAny (model prog w) A (pyNext (.ref z)) Q E s := by
  obtain ⟨hTI, h1, h2, hl1, hl2, hz⟩ := st
  have hend : xs[i]? = none ∨ ys[i]? = none := .inl (Array.getElem?_eq_none hx)
  rcases hz with ⟨hz, a, b, hTO⟩ | ⟨T, f, oT, hz, hT, r1, r2, r3, r4⟩
  · exact wpAny_pyNext_zip_end hh D hz hTI hTO h1 h2 hl1 hl2 hend fun h' hk => hQ h' fun c o c1 c2 c3 c4 e => hk c o c1 c2 c3 c4 e
  · exact wpAny_pyNext_zip_end_held hh D hz hT hTI h1 h2 hl1 hl2 hend fun h' hk => hQ h' fun c o c1 c2 c3 c4 e => hk c o c1 c3 c4 e
structure Low (z TI TO i1 i2 l1 l2 S : Addr) : Prop where
  z : z < S
  TI : TI < S
  TO : TO < S
  i1 : i1 < S
  i2 : i2 < S
  l1 : l1 < S
  l2 : l2 < S
theorem loop {R : Result → Shared → Prop} (hh : A.handled = none) (D : ZipApart z TI TO i1 i2 l1 l2) (L : Low z TI TO i1 i2 l1 l2 S) (hxy : xs.size = ys.size) (hn : xs.size ≤ sizeLine) (res : Value) {h₁ : Heap}
    (hR : ∀ h' tk acc c as, (∀ b o, b ≠ S → b ≠ z → b ≠ TO → b ≠ i1 → b ≠ i2 → h₁.get? b = some o → h'.get? b = some o) → h'.get? S = some { cls := .type "list", dict := none, data := .seq acc c, slots := #[] } → as.length = xs.size → Got xs ys S h' as →
      acc.toList = as.map Value.ref → R (.ok (.ret res)) { s with heap := h', toks := tk }) :
    ∀ (k i : Nat) (h : Heap) (tk c : Nat) (acc : Array Value) (as : List Addr), xs.size - i = k → i ≤ xs.size → St z TI TO i1 i2 l1 l2 xs ys S i h → (∀ b o, b ≠ S → b ≠ z → b ≠ TO → b ≠ i1 → b ≠ i2 → h₁.get? b = some o → h.get? b = some o) →
      h.get? S = some { cls := .type "list", dict := none, data := .seq acc c, slots := #[] } → acc.toList = as.map Value.ref → as.length = i → Got xs ys S h as →
      codeAny (model prog w) A (.builtin "list.extend.loop" ⟨[.ref S, .ref z, res], []⟩) R { s with heap := h, toks := tk } := by
  have nz := Nat.ne_of_gt L.z
  have nTO := Nat.ne_of_gt L.TO
  have n1 := Nat.ne_of_gt L.i1
  have n2 := Nat.ne_of_gt L.i2
  have hi_ : ∀ {a : Addr}, S < a → a ≠ z ∧ a ≠ TO ∧ a ≠ i1 ∧ a ≠ i2 := fun {a} g => ⟨Nat.ne_of_gt (Nat.lt_trans L.z g), Nat.ne_of_gt (Nat.lt_trans L.TO g), Nat.ne_of_gt (Nat.lt_trans L.i1 g), Nat.ne_of_gt (Nat.lt_trans L.i2 g)⟩
  intro k
  induction k with
  | zero =>
    intro i h tk c acc as hk hi hst hkeep hS hacc hal hG
    have hin : i = xs.size := by omega
    refine codeAny_builtin PySem.F.entry_extend_loop ?_
    rw [Around.under_plainId PySem.F.plain_extend_loop _]
    show wpAny _ A.in1 (pyNext (.ref z) >>= _) _ _ _
    refine wpAny_bind (done (s := { s with heap := h, toks := tk }) (A := A.in1) hh D hst (by omega) fun h' he => ?_)
    refine wpAny_pure (hR h' tk acc c as (fun b o c0 c1 c2 c3 c4 e => he b o c1 c2 c3 c4 (hkeep b o c0 c1 c2 c3 c4 e)) (he S _ nz nTO n1 n2 hS) (by omega) ⟨hG.rise, hG.above, fun j a hj => ?_⟩ hacc)
    obtain ⟨x, y, f1, f2, e3⟩ := hG.pairs j a hj
    obtain ⟨g1, g2, g3, g4⟩ := hi_ (hG.above a (List.mem_of_getElem? hj))
    exact ⟨x, y, f1, f2, he a _ g1 g2 g3 g4 e3⟩
  | succ k ih =>
    intro i h tk c acc as hk hi hst hkeep hS hacc hal hG
    have hlt : i < xs.size := by omega
    have hsz : acc.size = i := by rw [← Array.length_toList, hacc, List.length_map, hal]
    have hSl : S < h.objs.size := Heap.lt_size hS
    refine codeAny_builtin PySem.F.entry_extend_loop ?_
    rw [Around.under_plainId PySem.F.plain_extend_loop _]
    show wpAny _ A.in1 (pyNext (.ref z) >>= _) _ _ _
    refine wpAny_bind (item (s := { s with heap := h, toks := tk }) D hst hSl hlt (by omega) fun h' hst' ht hz hkp => ?_)
    dsimp only at ht hz hkp ⊢
    have hS' := hkp S _ nz nTO n1 n2 hS
    have up : ∀ b o, b ≠ S → h'.get? b = some o → (h'.update S (Obj.mapSeq (·.push (Value.ref h.objs.size)))).get? b = some o := fun b o hb e => (Heap.get?_update_other _ _ (Ne.symm hb)).trans e
    show wpAny _ A.in1 (updateSeq S (·.push (Value.ref h.objs.size)) >>= _) _ _ _
    refine wpAny_bind ?_
    refine wpAny_updateSeq hS' rfl (wpAny_pure ⟨plainId_quiet PySem.F.plain_extend_loop _, ih (i + 1) _ tk _ (acc.push (Value.ref h.objs.size)) (as ++ [h.objs.size]) (by omega) hlt (hst'.keep up nz.symm (Nat.ne_of_lt L.TI) nTO.symm n1.symm n2.symm (Nat.ne_of_lt L.l1) (Nat.ne_of_lt L.l2))
      (fun b o c0 c1 c2 c3 c4 e => up b o c0 (hkp b o c1 c2 c3 c4 (hkeep b o c0 c1 c2 c3 c4 e))) (Heap.get?_update_self _ hS' rfl) (by rw [Array.toList_push, hacc, List.map_append]; rfl) (by rw [List.length_append, hal]; rfl) ⟨?_, ?_, ?_⟩⟩) (by rw [hsz]; omega) (by show (acc.push (Value.ref h.objs.size)).size ≤ sizeLine + 1; rw [Array.size_push, hsz]; omega)
    · refine List.pairwise_append.mpr ⟨hG.rise, List.pairwise_singleton _ _, fun a ha b hb => ?_⟩
      rw [List.mem_singleton.mp hb]
      exact hG.there ha
    · intro a ha
      rcases List.mem_append.mp ha with ha | ha
      · exact hG.above a ha
      · rw [List.mem_singleton.mp ha]; exact hSl
    · intro j b hj
      rcases Nat.lt_trichotomy j as.length with q1 | q1 | q1
      · rw [List.getElem?_append_left q1] at hj
        obtain ⟨x, y, f1, f2, e3⟩ := hG.pairs j b hj
        have hb := hG.above b (List.mem_of_getElem? hj)
        obtain ⟨g1, g2, g3, g4⟩ := hi_ hb
        exact ⟨x, y, f1, f2, up b _ (Nat.ne_of_gt hb) (hkp b _ g1 g2 g3 g4 e3)⟩
      · subst q1
        have hb : h.objs.size = b := by simpa using hj
        subst hb
        subst hal
        exact ⟨_, _, Array.getElem?_eq_getElem hlt, Array.getElem?_eq_getElem (by omega), up _ _ (Nat.ne_of_gt hSl) ht⟩
      · have hnone : (as ++ [h.objs.size])[j]? = none := List.getElem?_eq_none (by rw [List.length_append, List.length_singleton]; omega)
        rw [hnone] at hj; cases hj
theorem extend {R : Result → Shared → Prop} (hh : A.handled = none) (D : ZipApart z TI TO i1 i2 l1 l2) (L : Low z TI TO i1 i2 l1 l2 S) (hxy : xs.size = ys.size) (hn : xs.size ≤ sizeLine) (st : St z TI TO i1 i2 l1 l2 xs ys S 0 s.heap) (hz : IsZip s.heap z TI TO .none) (res : Value) (c₀ : Nat) (hS : s.heap.get? S = some { cls := .type "list", data := .seq #[] c₀ })
    (hR : ∀ h' tk acc c as, (∀ b o, b ≠ S → b ≠ z → b ≠ TO → b ≠ i1 → b ≠ i2 → s.heap.get? b = some o → h'.get? b = some o) → h'.get? S = some { cls := .type "list", dict := none, data := .seq acc c, slots := #[] } → as.length = xs.size → Got xs ys S h' as →
      acc.toList = as.map Value.ref → R (.ok (.ret res)) { s with heap := h', toks := tk }) :
    wpAny (model prog w) A.in1 (Builtin.List.listExtendWith (.ref S) (.ref z) res)
      (fun fin s' => match fin with | .done f => R (.ok f) s' | .again c' => c'.quiet = true ∧ codeAny (model prog w) A c' R s') (fun e s' => R (.error e) s') s := by
  have hT : s.TypeIs (.ref z) "zip" := ⟨_, hz, rfl⟩
  unfold Builtin.List.listExtendWith
  refine wpAny_bind (wpAny_typeOf hT ?_)
  have h1 : Builtin.List.listSameRef (.ref S) (.ref z) = false := by simp [Builtin.List.listSameRef, Nat.ne_of_gt L.z]
  have h2 : (Value.type "zip" == Value.type "list") = false := by decide
  have h3 : (Value.type "zip" == Value.type "tuple") = false := by decide
  simp only [h1, h2, h3, Bool.or_false, Bool.false_eq_true, if_false]
  refine wpAny_bind (wpAny_pyIter_zip hz ?_)
  refine wpAny_bind (wpAny_holding ?_)
  unfold Builtin.List.listLengthHint
  refine wpAny_bind (wpAny_specialOf hT zip_no_len ?_)
  show wpAny _ A.in1 (specialOf (Value.ref z) (Str.ofString "__length_hint__") >>= _) _ _ _
  refine wpAny_bind (wpAny_specialOf hT zip_no_hint ?_)
  refine wpAny_pure ?_
  show wpAny _ A.in1 (rule "list.extend.makes-room" >>= fun _ => Builtin.List.listTouch (.ref S) >>= fun _ =>
    again (.builtin "list.extend.loop" ⟨[.ref S, .ref z, res], []⟩)) _ _ _
  refine wpAny_bind (wpAny_rule ?_)
  refine wpAny_bind ?_
  show wpAny _ A.in1 (updateSeq S (·.push .none) >>= fun _ => updateSeq S (·.pop)) _ _ _
  refine wpAny_bind (wpAny_updateSeq hS rfl ?_)
  have hS₂ := Heap.get?_update_self (Obj.mapSeq (·.push Value.none)) hS rfl
  refine wpAny_updateSeq (hz := by seq_fits) hS₂ rfl ?_
  have hS₃ := Heap.get?_update_self (Obj.mapSeq (·.pop)) hS₂ rfl
  have oth : ∀ b o, b ≠ S → s.heap.get? b = some o → ((s.heap.update S (Obj.mapSeq (·.push Value.none))).update S (Obj.mapSeq (·.pop))).get? b = some o :=
    fun b o hb e => (Heap.get?_update_other _ _ (Ne.symm hb)).trans ((Heap.get?_update_other _ _ (Ne.symm hb)).trans e)
  refine wpAny_pure ⟨plainId_quiet F.plain_extend_loop _, ?_⟩
  exact loop hh D L hxy hn res (h₁ := s.heap) (fun h' tk acc c as hk hS' hl hG hacc => hR h' tk acc c as hk hS' hl hG hacc) xs.size 0 _ s.toks _ #[] [] (Nat.sub_zero _) (Nat.zero_le _)
    (st.keep oth (Nat.ne_of_lt L.z) (Nat.ne_of_lt L.TI) (Nat.ne_of_lt L.TO) (Nat.ne_of_lt L.i1) (Nat.ne_of_lt L.i2) (Nat.ne_of_lt L.l1) (Nat.ne_of_lt L.l2)) (fun b o c0 _ _ _ _ e => oth b o c0 e) hS₃ rfl rfl
    ⟨List.Pairwise.nil, (fun _ ha => nomatch ha), (fun j a hj => by simp at hj)⟩
theorem init {R : Result → Shared → Prop} (hh : A.handled = none) (D : ZipApart z TI TO i1 i2 l1 l2) (L : Low z TI TO i1 i2 l1 l2 S) (hxy : xs.size = ys.size) (hn : xs.size ≤ sizeLine) (st : St z TI TO i1 i2 l1 l2 xs ys S 0 s.heap) (hz : IsZip s.heap z TI TO .none) (hS : s.heap.get? S = some { cls := .type "list", data := .seq #[] })
    (hR : ∀ h' tk acc c as, (∀ b o, b ≠ S → b ≠ z → b ≠ TO → b ≠ i1 → b ≠ i2 → s.heap.get? b = some o → h'.get? b = some o) → h'.get? S = some { cls := .type "list", dict := none, data := .seq acc c, slots := #[] } → as.length = xs.size → Got xs ys S h' as →
      acc.toList = as.map Value.ref → R (.ok (.ret .none)) { s with heap := h', toks := tk }) :
    wpAny (model prog w) A.in1 (Builtin.«list.__init__» ⟨[.ref S, .ref z], []⟩)
      (fun fin s' => match fin with | .done f => R (.ok f) s' | .again c' => c'.quiet = true ∧ codeAny (model prog w) A c' R s') (fun e s' => R (.error e) s') s := by
  show wpAny _ A.in1 (do let old ← Builtin.List.listItems (.ref S); Builtin.List.listUpdate (.ref S) (fun _ => #[]); letGo old.toList.reverse; Builtin.List.listExtendWith (.ref S) (.ref z) .none) _ _ s
  refine wpAny_bind ?_
  unfold Builtin.List.listItems
  refine wpAny_bind (wpAny_seqItems hS rfl (wpAny_pure ?_))
  show wpAny _ A.in1 (updateSeq S (fun _ => #[]) >>= fun _ => letGo (#[] : Array Value).toList.reverse >>= fun _ => Builtin.List.listExtendWith (.ref S) (.ref z) .none) _ _ s
  refine wpAny_bind (wpAny_updateSeq hS rfl ?_)
  have hS₂ := Heap.get?_update_self (Obj.mapSeq (fun _ => (#[] : Array Value))) hS rfl
  have oth : ∀ b o, b ≠ S → s.heap.get? b = some o → (s.heap.update S (Obj.mapSeq (fun _ => (#[] : Array Value)))).get? b = some o :=
    fun b o hb e => (Heap.get?_update_other _ _ (Ne.symm hb)).trans e
  refine wpAny_bind (wpAny_letGo ?_)
  refine extend hh D L hxy hn (st.keep oth (Nat.ne_of_lt L.z) (Nat.ne_of_lt L.TI) (Nat.ne_of_lt L.TO) (Nat.ne_of_lt L.i1) (Nat.ne_of_lt L.i2) (Nat.ne_of_lt L.l1) (Nat.ne_of_lt L.l2)) (oth _ _ (Nat.ne_of_lt L.z) hz) .none _ hS₂ fun h' tk acc c as hk hS' hl hG hacc => ?_
  exact hR h' tk acc c as (fun b o c0 c1 c2 c3 c4 e => hk b o c0 c1 c2 c3 c4 (oth b o c0 e)) hS' hl hG hacc
end
section
variable {prog : Program} {w : World} {A : Around} {E : Value → Shared → Prop} {s : Shared} {z TI TO i1 i2 l1 l2 : Addr} {xs ys : Array Value}
theorem call {Q : Value → Shared → Prop} (hh : A.handled = none) (D : ZipApart z TI TO i1 i2 l1 l2) (hxy : xs.size = ys.size) (hn : xs.size ≤ sizeLine)
    (hz : IsZip s.heap z TI TO .none) (hTI : IsPair s.heap TI (.ref i1) (.ref i2)) {a b : Value} (hTO : IsPair s.heap TO a b) (h1 : s.heap.IsListIter i1 l1 0) (h2 : s.heap.IsListIter i2 l2 0) (hl1 : s.heap.IsList l1 xs) (hl2 : s.heap.IsList l2 ys)
    (hQ : ∀ h' tk acc c as, (∀ b o, b ≠ z → b ≠ TO → b ≠ i1 → b ≠ i2 → s.heap.get? b = some o → h'.get? b = some o) → h'.get? s.heap.objs.size = some { cls := .type "list", dict := none, data := .seq acc c, slots := #[] } → as.length = xs.size → Got xs ys s.heap.objs.size h' as →
      acc.toList = as.map Value.ref → Q (.ref s.heap.objs.size) { s with heap := h', toks := tk }) :
    wpAny (model prog w) A (PySem.call (.type "list") [.ref z]) Q E s := by
  refine callType_codes (Q₁ := fun obj s₁ => obj = .ref s.heap.objs.size ∧ s₁ = { s with heap := s.heap.push { cls := .type "list", data := .seq #[] } }) PySem.F.called_list (PySem.F.typeCall_list_1 _) PySem.F.entry_list_init
    (code_list_new _ ⟨rfl, rfl⟩) fun obj s₁ h₁ => ?_
  obtain ⟨rfl, rfl⟩ := h₁
  have hS : (s.heap.push { cls := .type "list", data := .seq #[] }).get? s.heap.objs.size = some { cls := .type "list", data := .seq #[] } := Heap.get?_push_size _ rfl
  have kp : ∀ b o, s.heap.get? b = some o → (s.heap.push { cls := .type "list", data := .seq #[] }).get? b = some o := fun b o e => Heap.get?_push_of_some _ e
  have L : Low z TI TO i1 i2 l1 l2 s.heap.objs.size := ⟨Heap.lt_size hz, Heap.lt_size hTI, Heap.lt_size hTO, (let ⟨_, e, _⟩ := h1; Heap.lt_size e), (let ⟨_, e, _⟩ := h2; Heap.lt_size e), (let ⟨_, e, _⟩ := hl1; Heap.lt_size e), (let ⟨_, e, _⟩ := hl2; Heap.lt_size e)⟩
  refine ⟨⟨_, hS, rfl⟩, PySem.F.args_list_init_2 _ _, init (A := A.in1) hh D L hxy hn ⟨kp _ _ hTI, h1.at fun o e => kp _ o e, h2.at fun o e => kp _ o e, hl1.at fun o e => kp _ o e, hl2.at fun o e => kp _ o e, .inl ⟨kp _ _ hz, _, _, kp _ _ hTO⟩⟩ (kp _ _ hz) hS (fun h' tk acc c as hk hS' hl hG hacc => ?_)⟩
  exact ⟨rfl, hQ h' tk acc c as (fun b o c1 c2 c3 c4 e => hk b o (Nat.ne_of_lt (Heap.lt_size e)) c1 c2 c3 c4 (kp b o e)) hS' hl hG hacc⟩
end
end UP.Lz
namespace UP
open PySem PySem.Spec PyProof.Rows L2
theorem paired_ofix {α β : Type} {F : α → β → Prop} : ∀ {xs : List α} {ys : List β}, xs.length = ys.length → (∀ (i : Nat) (x : α) (y : β), xs[i]? = some x → ys[i]? = some y → F x y) → Paired F xs ys
  | [], [], _, _ => .nil
  | [], _ :: _, h, _ => by cases h
  | _ :: _, [], h, _ => by cases h
  | _ :: _, _ :: _, h, g => .cons (g 0 _ _ rfl rfl) (paired_ofix (Nat.succ.inj h) fun i x y hx hy => g (i + 1) x y hx hy)
def putZ : Hp → List Addr → List (V × V) → Hp
  | H, a :: as, p :: kvs => putZ (upd H a (.tup [p.1, p.2])) as kvs
  | H, _, _ => H
theorem putZ_off {b : Addr} : ∀ (as : List Addr) (kvs : List (V × V)) (H : Hp), b ∉ as → putZ H as kvs b = H b
  | [], _, _, _ => rfl
  | _ :: _, [], _, _ => rfl
  | a :: as, p :: kvs, H, h => by
    show putZ (upd H a (.tup [p.1, p.2])) as kvs b = H b
    rw [putZ_off as kvs _ (fun z => h (List.mem_cons_of_mem _ z)), upd_ne (fun z => h (by rw [z]; exact List.mem_cons_self))]
theorem putZ_at : ∀ (as : List Addr) (kvs : List (V × V)) (H : Hp), as.length = kvs.length → as.Nodup → Paired (fun (t : Addr) (p : V × V) => putZ H as kvs t = some (.tup [p.1, p.2])) as kvs
  | [], [], _, _, _ => .nil
  | [], _ :: _, _, h, _ => by cases h
  | _ :: _, [], _, h, _ => by cases h
  | a :: as, p :: kvs, H, h, hn => by
    have hn' := List.nodup_cons.mp hn
    have ih := putZ_at as kvs (upd H a (.tup [p.1, p.2])) (Nat.succ.inj h) hn'.2
    refine .cons ?_ ih
    show putZ (upd H a (.tup [p.1, p.2])) as kvs a = some (.tup [p.1, p.2])
    rw [putZ_off as kvs _ hn'.1, upd_same]
def tListZip (ta : TA) : TE := fun σ H Q => ta σ H fun vs H1 => ∃ a xs b ys, vs = [.ref a, .ref b] ∧ H1 a = some (.lst xs) ∧ H1 b = some (.lst ys) ∧ xs.length = ys.length ∧
  ∀ (H' : Hp) (p : Addr) (ts : List Addr), Same H1 H' → H1 p = none → (∀ t ∈ ts, H1 t = none) → H' p = some (.lst (ts.map V.ref)) → Paired (fun (t : Addr) (q : V × V) => H' t = some (.tup [q.1, q.2])) ts (xs.zip ys) → Q (.ref p) H'
section
variable {X : Cx} {e e2 : Expr} {ta : TA} {p p2 pos pos2 : Pos}
theorem zip_laid {pins : List (Addr × Obj)} {σ : L2.St} {H : Hp} {s : Shared} {h' : Heap} {tk : Nat} {xs ys : List V} {us ws : List Value} {acc : Array Value} {c : Nat} {as : List Addr} {ch : List Addr} (I : Inv X pins σ H s) (hz : xs.length ≤ sizeLine) (hxy : xs.length = ys.length) (rx : Vals xs us) (ry : Vals ys ws) {S : Addr} (lS : s.heap.objs.size ≤ S)
    (hk : ∀ b o, s.heap.get? b = some o → h'.get? b = some o) (hS : h'.get? S = some { cls := .type "list", dict := none, data := .seq acc c, slots := #[] }) (hl : as.length = us.length) (hG : Lz.Got us.toArray ws.toArray S h' as) (hacc : acc.toList = as.map Value.ref) :
    ∃ H' : Hp, Same H H' ∧ H S = none ∧ (∀ t ∈ as, H t = none) ∧ H' S = some (.lst (as.map V.ref)) ∧ Paired (fun (t : Addr) (q : V × V) => H' t = some (.tup [q.1, q.2])) as (xs.zip ys) ∧ Inv X pins σ H' { s with heap := h', toks := tk } := by
  have lk : xs.length = us.length := Paired.length rx
  have lz : (xs.zip ys).length = xs.length := by rw [List.length_zip, ← hxy, Nat.min_self]
  have hSn : S ∉ as := fun z => Nat.lt_irrefl _ (hG.above _ z)
  have nd : as.Nodup := List.Pairwise.imp (fun {a b} (h : a < b) => Nat.ne_of_lt h) hG.rise
  have new : ∀ t ∈ as, H t = none := fun t ht => I.hok.fresh (Nat.le_trans lS (Nat.le_of_lt (hG.above t ht)))
  have newS : H S = none := I.hok.fresh lS
  have atP := putZ_at as (xs.zip ys) (upd H S (.lst (as.map V.ref))) (by omega) nd
  have off : ∀ b, b ∉ as → b ≠ S → putZ (upd H S (.lst (as.map V.ref))) as (xs.zip ys) b = H b := fun b h1 h2 => by rw [putZ_off as _ _ h1, upd_ne h2]
  have low : ∀ b o, s.heap.get? b = some o → b ∉ as ∧ b ≠ S := fun b o e => ⟨fun z => absurd (Heap.lt_size e) (Nat.not_lt.mpr (Nat.le_trans lS (Nat.le_of_lt (hG.above b z)))), Nat.ne_of_lt (Nat.lt_of_lt_of_le (Heap.lt_size e) lS)⟩
  have kp : ∀ b u, H b = some u → (putZ (upd H S (.lst (as.map V.ref))) as (xs.zip ys)) b = some u := fun b u e => by
    rw [off b (fun z => by rw [new b z] at e; cases e) (fun z => by rw [z, newS] at e; cases e)]
    exact e
  have eS : putZ (upd H S (.lst (as.map V.ref))) as (xs.zip ys) S = some (.lst (as.map V.ref)) := by rw [putZ_off as _ _ hSn, upd_same]
  refine ⟨putZ (upd H S (.lst (as.map V.ref))) as (xs.zip ys), kp, newS, new, eS, atP, ?_⟩
  refine I.call' (ch := []) rfl ⟨fun b o q _ _ _ => hk b o q, fun b o q _ _ _ => ⟨o.slots, hk b o q⟩, fun b o q n _ => ?_, fun b o q _ => ⟨o, hk b o q⟩, fun b xs q => kp b _ q, fun b o u q => kp b _ q, fun b ps q => ⟨#[], by rw [kp b _ q]; simp⟩⟩ (fun b u q => ?_) I.bare fun b z => by simp at z
  · obtain ⟨z1, z2⟩ := low b o q
    rw [off b z1 z2]
    exact n
  · by_cases hb : b ∈ as
    · obtain ⟨j, pk, e1, e2, e3⟩ := LiI.paired_ix atP hb
      rw [e3] at q
      cases q
      obtain ⟨x, y, f1, f2, f3⟩ := hG.pairs j b e1
      obtain ⟨g1, g2⟩ := List.getElem?_zip_eq_some.mp e2
      have f1 : us[j]? = some x := by simpa using f1
      have f2 : ws[j]? = some y := by simpa using f2
      obtain ⟨x', k1, r1⟩ := rx.get g1
      obtain ⟨y', k2, r2⟩ := ry.get g2
      rw [f1] at k1
      rw [f2] at k2
      cases k1
      cases k2
      exact ⟨by show 2 ≤ sizeLine; decide, [x, y], .cons r1 (.cons r2 .nil), ⟨_, f3, rfl, _, rfl⟩⟩
    · by_cases hb2 : b = S
      · rw [hb2] at q ⊢
        rw [eS] at q
        cases q
        refine ⟨by rw [List.length_map]; omega, acc.toList, c, by rw [hacc]; exact LiI.vals_refs as, ?_⟩
        rw [Array.toArray_toList]
        exact hS
      · rw [off b hb hb2] at q
        exact (I.hok b u q).stay (fun d v _ y => hk d v y) (fun d y => kp d _ y) fun d xs y => kp d _ y
theorem pe_listZip (calm : X.calm = true) (hg : Gl X "list") (hm : X.mg "list" = none) (hg2 : Gl X "zip") (hm2 : X.mg "zip" = none) (ha : PA X [e, e2] ta)
    (hs : starEach [e, e2] X.env = (false, eval e X.env) :: starEach [e2] X.env := by rfl) (hpl : (backTo pos2 (starEach [e2] X.env)).any (·.1) = false := by rfl)
    (na : starEach [.Call (.Name "zip" p2) [e, e2] [] pos2] X.env = (false, eval (.Call (.Name "zip" p2) [e, e2] [] pos2) X.env) :: starEach [] X.env := by rfl) :
    PE X (.Call (.Name "list" p) [.Call (.Name "zip" p2) [e, e2] [] pos2] [] pos) (tListZip ta) := by
  constructor
  intro pins s σ H Q I h
  refine Call_ (ld_blt I hg hm boot_list (PyProof.Rows.callWith_type1 (args_cons ?_ na) na))
  refine Call_ (ld_blt I hg2 hm2 PyProof.Rows.boot_zip (PyProof.Rows.callWith_type1 (thn (ha.run pos2 pins s σ H _ I h) fun us s1 ⟨vs, H1, I1, r1, q1⟩ => ?_) hs hpl))
  obtain ⟨a, xs, b, ys, rfl, h1, h2, hxy, q⟩ := q1
  cases r1 with
  | @cons _ u1 _ _ ru1 rr =>
    cases rr with
    | @cons _ u2 _ _ ru2 rr =>
      cases rr
      cases (show u1 = Value.ref a from ru1)
      cases (show u2 = Value.ref b from ru2)
      obtain ⟨l1, us, c1, rx, ax⟩ := I1.hok a _ h1
      obtain ⟨l2, ws, c2, ry, ay⟩ := I1.hok b _ h2
      have lx : us.toArray.size = xs.length := by rw [List.size_toArray]; exact (Paired.length rx).symm
      have ly : ws.toArray.size = ys.length := by rw [List.size_toArray]; exact (Paired.length ry).symm
      have il1 : s1.heap.IsList a us.toArray := ⟨_, ax, rfl, _, rfl⟩
      have il2 : s1.heap.IsList b ws.toArray := ⟨_, ay, rfl, _, rfl⟩
      have al : a < s1.heap.objs.size := Heap.lt_size ax
      have bl : b < s1.heap.objs.size := Heap.lt_size ay
      refine zip_begins2 (begins_list a us.toArray) (begins_list b ws.toArray) il1 il2 fun h' hz hTI hTO g1 g2 hsz hk => args_nil ?_
      have I2 : Inv X pins σ H1 { s1 with heap := h' } := I1.kept (t' := s1.toks) hk
      have lz : s1.heap.objs.size ≤ h'.objs.size := by omega
      have D : ZipApart (s1.heap.objs.size + 4) (s1.heap.objs.size + 2) (s1.heap.objs.size + 3) s1.heap.objs.size (s1.heap.objs.size + 1) a b := by
        constructor <;> first | exact zne (by decide) | exact zne (j := 0) (by decide) | exact zne (i := 0) (by decide) | exact Nat.ne_of_lt (Nat.lt_of_lt_of_le al (Nat.le_add_right _ _)) | exact Nat.ne_of_lt (Nat.lt_of_lt_of_le bl (Nat.le_add_right _ _)) | exact Nat.ne_of_lt al | exact Nat.ne_of_lt bl
      have lo4 : ∀ {c : Addr} {o : Obj}, s1.heap.get? c = some o → ∀ k : Nat, c ≠ s1.heap.objs.size + k := fun e k => Nat.ne_of_lt (Nat.lt_of_lt_of_le (Heap.lt_size e) (Nat.le_add_right _ _))
      refine Lz.call (s := { s1 with heap := h' }) (I1.ok.hd calm) D (by omega) (by omega) hz hTI hTO ⟨_, g1, rfl, rfl⟩ ⟨_, g2, rfl, rfl⟩ (il1.at fun o e => hk _ o e) (il2.at fun o e => hk _ o e) fun h2 tk acc c as hk2 hS hl hG hacc => ?_
      obtain ⟨H', k1, k2, k3, k4, k5, J⟩ := zip_laid (ch := []) (tk := tk) I1 (by omega) hxy rx ry lz (fun b o e => hk2 b o (lo4 e 4) (lo4 e 3) (lo4 e 0) (lo4 e 1) (hk b o e)) hS (by rw [hl, List.size_toArray]) hG hacc
      exact ⟨.ref _, H', J, rfl, q H' _ as k1 k2 k3 k4 k5⟩
/-- list(text) -/
theorem call_list_text (calm : X.calm = true) : CallR X (.type "list") (fun xs H Q => ∃ z : Str, xs = [.str z] ∧ z.cps.size ≤ sizeLine ∧ ∀ l, H l = none → Q (.ref l) (upd H l (.lst (z.cps.toList.map fun c => V.str ⟨#[c]⟩)))) := by
  intro pins s σ H xs us Q I r h
  obtain ⟨z, rfl, hz, q⟩ := h
  obtain ⟨u, rfl, rx⟩ := vals1 r
  obtain ⟨t, rfl⟩ := rx
  refine call_list_str (I.ok.hd calm) z t (hn := hz) fun h' tk acc c hk hS hacc => ?_
  refine ⟨.ref s.heap.objs.size, _, I.laid (t' := tk) hk (Nat.le_refl _) (show ObjOk X.prog X.w _ h' _ (.lst _) from ⟨by rw [List.length_map]; exact hz, acc.toList, c, ?_, by rw [Array.toArray_toList]; exact hS⟩), rfl, q _ (I.hok.fresh (Nat.le_refl _))⟩
  have sz := hacc.1
  refine paired_ofix (by rw [List.length_map, Array.length_toList, Array.length_toList, sz]) fun i x y hx hy => ?_
  obtain ⟨c', u, hc, rfl⟩ := hacc.2 i y (by simpa using hy)
  rw [List.getElem?_map, Array.getElem?_toList, hc] at hx
  cases hx
  exact ⟨u, rfl⟩
end
end UP

set_option Elab.async false
set_option linter.all false
set_option maxRecDepth 100000
set_option maxHeartbeats 4000000
set_option pp.maxSteps 600
namespace UP
open PySem PySem.Spec PyProof.Rows L2
theorem Sq2.bagT {H H' : Hp} {pb cl a : Addr} {n : Nat} {xs : List V} (z : Bag H pb cl n) (b : But pb H H') (na : a ≠ pb) (h : Sq2 H a xs) : Sq2 H' a xs := h.elim (fun e => .inl (b _ _ na e)) (fun e => .inr (b _ _ na e))
theorem erase_perm {α : Type} : ∀ (l : List α) (i : Nat) (h : i < l.length), (l[i] :: l.eraseIdx i).Perm l
  | [], _, h => absurd h (Nat.not_lt_zero _)
  | x :: t, 0, _ => List.Perm.refl _
  | x :: t, i + 1, h => (List.Perm.swap x (t[i]'(Nat.lt_of_succ_lt_succ h)) (t.eraseIdx i)).trans ((erase_perm t i (Nat.lt_of_succ_lt_succ h)).cons x)
theorem orv {σ : L2.St} {H : Hp} {Q : VK} {p b2 : Bool} {tb : TE} (hb : ∀ R : VK, R (.bl b2) H → tb σ H R) (q : Q (.bl (p || b2)) H) : if p = true then Q (.bl true) H else tb σ H Q := by
  cases p with
  | true => exact iteT q
  | false => exact iteF (hb Q q)
theorem frB {H H' : Hp} {p cl : Addr} {n : Nat} (b : But p H H') (z : Bag H' p cl n) {x : Addr} (e : H' x = none) : H x = none := by
  cases y : H x with
  | none => rfl
  | some o =>
    rw [b _ _ (z.ne e) y] at e
    cases e
section
variable {P : Program} {w : World} {K : PySem.W.Frag} {mg : Str → Option Value} {base : Heap}
/-! _law_shuffled: slots 0:bag 1:items 2:left 3:step -/
abbrev s_law_shuffled : Stmt := topS 49
theorem sc_law_shuffled : FnScope ["bag", "items", "left", "step"] ["bag", "items"] (defScope s_law_shuffled) := ⟨rfl, rfl, rfl, by decide +kernel, rfl, by decide +kernel, by decide +kernel⟩
def sp_law_shuffled : Sp := fun vs H Q _ => ∃ (p cl a : Addr) (n : Nat) (xs : List Str), vs = [.ref p, .ref a] ∧ Bag H p cl n ∧ n ≤ 100000000 ∧ H a = some (.lst (xs.map V.str)) ∧ a ≠ p ∧ xs.length ≤ 1000 ∧
  ∀ (H' : Hp) (L : Addr) (ys : List Str), But p H H' → Bag H' p cl (n + 1000) → H L = none → H' L = some (.lst (ys.map V.str)) → ys.Perm xs → Q (.ref L) H'
theorem ok_law_shuffled (D : Df K mg "_law_shuffled" s_law_shuffled) (T : Tx mg) (G_law_draw : Has P w K mg base 2 "_law_draw" ["bag", "bound"] sp_law_draw) : Has P w K mg base 3 "_law_shuffled" ["bag", "items"] sp_law_shuffled := by
  refine has_of D sc_law_shuffled (fun _ _ _ _ _ _ us hl => match us, hl with | [_, _], _ => rfl) (fun vs H Q E h => ?_) (fun f cdv A outer s₀ H vs Q E hr h => ?_)
  · obtain ⟨_, _, _, _, _, rfl, _⟩ := h
    rfl
  · obtain ⟨p, cl, a, n, xs, rfl, z, ln, ha, ap, l4, q⟩ := h
    refine ⟨_, (pss_cons (ps_set (i := 2) sc_law_shuffled.nd rfl (by first | exact Or.inl rfl | exact Or.inr rfl) (pe_callTy call_list_of (by rfl) T.n_list (by decide +kernel) (pa_cons (pv 1) pa_nil)))
    (pss_one (ps_ret (pe_lc (own := [("step", 3)]) rfl sc_law_shuffled.nd (pi_range1 (by rfl) T.n_range (pa_cons (pe_callB call_len_seq (by rfl) T.n_len (by decide +kernel) (pa_cons (pv 1) pa_nil)) pa_nil)) (blkOk_by (N := ["bag", "items", "left", "step"]) (sc := defScope s_law_shuffled) (by decide +kernel)) (fun _ _ _ _ _ => (pg_name (i := 3) sc_law_shuffled.nd rfl (by first | exact Or.inl rfl | exact Or.inr rfl))) (fun _ _ _ _ _ => pts_nil) (fun _ _ _ _ _ => (pe_bmK (K := K) rfl (pe_bm PySem.F.plainAttrs_list PySem.F.slot_list_pop PySem.F.type_list_pop mt_popAt (pv 2) (pa_cons (pe_callH G_law_draw (hr.mono (by omega)) (by rfl) (pa_cons (pv 0) (pa_cons (pe_callB (call_len_seqK (K := K) rfl) (by rfl) T.n_len (by decide +kernel) (pa_cons (pv 2) pa_nil)) pa_nil))) pa_nil)))))))), ?_⟩
    refine ⟨_, rfl, a, xs.map V.str, rfl, .inl (.of ha), fun l nl => ?_⟩
    have lp := z.ne nl
    have sl := same_upd (o := .lst (xs.map V.str)) nl
    have hl : (upd H l (.lst (xs.map V.str))) l = some (.lst (xs.map V.str)) := upd_same
    obtain ⟨_, _, hcl, _⟩ := id z
    have cL : cl ≠ l := ne_of_none hcl nl
    have z1 := z.same sl
    have ha1 := sl _ _ ha
    have s1 : Same H (upd H l (.lst (xs.map V.str))) := sl
    generalize upd H l (.lst (xs.map V.str)) = H1 at *
    refine ⟨_, rfl, a, _, rfl, .inl (.of ha1), _, rfl, by rw [List.length_map]; omega, by rw [List.length_map]; omega, fun L nL => ?_⟩
    have Lp := z1.ne nL
    have lL : l ≠ L := ne_of_none hl nL
    have nlH : H l = none := nl
    have nLH : H L = none := s1.free nL
    have cLL : cl ≠ L := ne_of_none hcl nLH
    refine lc_range (lo := 0) (n := _) (fun i H' => ∃ zs ys : List Str, But p H H' ∧ Bag H' p cl (n + i) ∧ H' l = some (.lst (zs.map V.str)) ∧ zs.length + i = xs.length ∧ (zs ++ ys).Perm xs ∧ H' L = some (.lst (ys.map V.str)) ∧ ys.length = i)
      ⟨xs, [], (Same.but s1).trans (Same.but (same_upd nL)), z1.same (same_upd nL), same_upd nL _ _ hl, rfl, (by rw [List.append_nil]), upd_same, rfl⟩ (fun i H3 hi hP => ?_) (fun H3 hP => ?_)
    · obtain ⟨zs, ys, b3, z3, hz, lz, mz, hL, ly⟩ := hP
      have hi : i < xs.length := by
        have hi : i < _ := hi
        rw [List.length_map] at hi
        omega
      refine ⟨rfl, yesT ⟨_, rfl, .inl ⟨rfl, _, SqL.of hz⟩, _, rfl, _, rfl, l, _, rfl, .inl (.of hz), p, cl, n + i, _, rfl, z3, by omega, by rw [List.length_map]; omega, wideB (by omega) (by rw [List.length_map]; omega), fun H4 r4 b4 z4 r40 r41 => ?_⟩⟩
      rw [List.length_map] at r41
      have lt : r4.toNat < zs.length := by omega
      have h4 := b4 _ _ lp hz
      have hL4 := b4 _ _ Lp hL
      have ix : seqIndex? r4 (zs.map V.str).length = some r4.toNat := by
        unfold seqIndex?
        have e1 : ¬ r4 < 0 := by omega
        simp only [e1, if_false]
        rw [if_pos]
        simp
        omega
      refine ⟨l, _, r4, r4.toNat, _, rfl, rfl, h4, by omega, by omega, ix, by rw [List.getElem?_map, List.getElem?_eq_getElem lt]; rfl, ys.map V.str, ?_, by rw [List.length_map]; exact small (by omega), zs.eraseIdx r4.toNat, ys ++ [zs[r4.toNat]], ?_, ?_, ?_, ?_, ?_, ?_, ?_⟩
      · rw [upd_ne lL.symm]
        exact hL4
      · intro b o nb eb
        have e1 : b ≠ L := ne_of_none eb nLH
        have e2 : b ≠ l := ne_of_none eb nlH
        rw [upd_ne e1, upd_ne e2]
        exact b4 b o nb (b3 b o nb eb)
      · exact (z4.keep (fun o e => by rw [upd_ne Lp.symm, upd_ne lp.symm]; exact e) (fun o e => by rw [upd_ne cLL, upd_ne cL]; exact e)).mono (by omega)
      · rw [upd_ne lL, upd_same, erase_map]
      · rw [List.length_eraseIdx_of_lt lt]
        omega
      · refine List.Perm.trans ?_ mz
        rw [← List.append_assoc]
        refine List.Perm.trans List.perm_append_comm ?_
        rw [List.singleton_append, ← List.cons_append]
        exact List.Perm.append_right _ (erase_perm zs r4.toNat lt)
      · rw [upd_same, List.map_append]
        rfl
      · rw [List.length_append, ly]
        rfl
    · obtain ⟨zs, ys, b3, z3, hz, lz, mz, hL, ly⟩ := hP
      rw [List.length_map] at *
      have : zs = [] := by
        refine List.eq_nil_of_length_eq_zero ?_
        omega
      rw [this, List.nil_append] at mz
      exact q H3 L ys b3 (z3.mono (by omega)) nLH hL mz
/-! _law_either: slots 0:bag 1:items -/
abbrev s_law_either : Stmt := topS 50
theorem sc_law_either : FnScope ["bag", "items"] ["bag", "items"] (defScope s_law_either) := ⟨rfl, rfl, rfl, by decide +kernel, rfl, by decide +kernel, by decide +kernel⟩
def sp_law_either : Sp := fun vs H Q _ => ∃ (pb cl a : Addr) (n : Nat) (xs : List V), vs = [.ref pb, .ref a] ∧ Bag H pb cl n ∧ n + 1 ≤ 1000000000000000 ∧ Sq2 H a xs ∧ a ≠ pb ∧ ∀ H' p, But pb H H' → Bag H' pb cl (n + 1) → p ≠ pb → Sq2 H' p xs → Q (.ref p) H'
theorem ok_law_either (D : Df K mg "_law_either" s_law_either) (T : Tx mg) (G_law_draw : Has P w K mg base 2 "_law_draw" ["bag", "bound"] sp_law_draw) : Has P w K mg base 3 "_law_either" ["bag", "items"] sp_law_either := by
  refine has_of D sc_law_either (fun _ _ _ _ _ _ us hl => match us, hl with | [_, _], _ => rfl) (fun vs H Q E h => ?_) (fun f cdv A outer s₀ H vs Q E hr h => ?_)
  · obtain ⟨_, _, _, _, _, rfl, _⟩ := h
    rfl
  · obtain ⟨pb, cl, a, n, xs, rfl, z, ln, hx, na, q⟩ := h
    refine ⟨_, (pss_one (ps_ret (pe_ix ix_list (pe_lst (pa_cons (pe_callTy call_list_of (by rfl) T.n_list (by decide +kernel) (pa_cons (pv 1) pa_nil)) (pa_cons (pe_callTy call_tuple_of (by rfl) T.n_tuple (by decide +kernel) (pa_cons (pv 1) pa_nil)) pa_nil))) (pe_callH G_law_draw (hr.mono (by omega)) (by rfl) (pa_cons (pv 0) (pa_cons pe_int pa_nil))) (fun _ _ => rfl)))), ?_⟩
    have fin : ∀ (H1 : Hp) (l t : Addr), Same H H1 → l ≠ pb → t ≠ pb → Sq2 H1 l xs → Sq2 H1 t xs → ∀ m, H1 m = none → ∀ (H2 : Hp) (r : Int), But pb (upd H1 m (.lst [.ref l, .ref t])) H2 → Bag H2 pb cl (n + 1) → 0 ≤ r → r < 2 → rIxL K (.ref m) (.int r) H2 Q := fun H1 l t s1 nl nt hl ht m nm H2 r b2 z2 r0 r1 => by
      have sm := same_upd (o := .lst [.ref l, .ref t]) nm
      have mp : m ≠ pb := (z.same s1).ne nm
      have hm := b2 _ _ mp (upd_same (H := H1) (a := m) (o := .lst [.ref l, .ref t]))
      have B : But pb H H2 := (Same.but (s1.trans sm)).trans b2
      have z1 := (z.same s1).same sm
      rcases (show r = 0 ∨ r = 1 by omega) with e | e
      · subst e
        exact ⟨m, _, 0, _, rfl, rfl, .of hm, at0, q _ l B z2 nl ((hl.same sm).bagT z1 b2 nl)⟩
      · subst e
        exact ⟨m, _, 1, _, rfl, rfl, .of hm, at1, q _ t B z2 nt ((ht.same sm).bagT z1 b2 nt)⟩
    rcases hx with hx | hx
    · refine ⟨_, rfl, a, _, rfl, .inl (.of hx), fun l nl => ?_⟩
      have s1 := same_upd (o := .lst xs) nl
      refine ⟨_, rfl, a, _, rfl, .inl ⟨.of (s1 _ _ hx), fun t nt => ?_⟩⟩
      have s2 := s1.trans (same_upd (o := .tup xs) nt)
      refine ⟨(by show 2 ≤ sizeLine; decide), fun m nm => ⟨_, rfl, pb, cl, n, 2, rfl, (z.same s2).same (same_upd nm), ln, by decide, by decide, fun H2 r b2 z2 r0 r1 => ?_⟩⟩
      exact fin _ l t s2 (z.ne nl) ((z.same s1).ne nt) (.inl (same_upd nt _ _ upd_same)) (.inr upd_same) m nm H2 r b2 z2 r0 r1
    · refine ⟨_, rfl, a, _, rfl, .inr (.of hx), fun l nl => ?_⟩
      have s1 := same_upd (o := .lst xs) nl
      refine ⟨_, rfl, a, _, rfl, .inr ⟨.of (s1 _ _ hx), ?_⟩⟩
      refine ⟨(by show 2 ≤ sizeLine; decide), fun m nm => ⟨_, rfl, pb, cl, n, 2, rfl, (z.same s1).same (same_upd nm), ln, by decide, by decide, fun H2 r b2 z2 r0 r1 => ?_⟩⟩
      exact fin _ l a s1 (z.ne nl) na (.inl upd_same) (.inr (s1 _ _ hx)) m nm H2 r b2 z2 r0 r1
def kd12 : List Str := ["a", "b", "abcdefgh", "zz", "m", "ba", "q", "xyz", "cc", "p", "waits", "aa"]
theorem kd12_ok : (∀ k ∈ kd12, KindOk k) ∧ kd12.Nodup := by
  refine ⟨?_, by decide +kernel⟩
  intro k hk
  simp only [kd12, List.mem_cons, List.not_mem_nil, or_false] at hk
  rcases hk with e | e | e | e | e | e | e | e | e | e | e | e <;> (subst e; decide +kernel)
/-- sorted head of a shuffled list of kinds -/
theorem ks_sorted {base ys ks : List Str} {m : Nat} (hb : ∀ k ∈ base, KindOk k) (nd : base.Nodup) (p : ys.Perm base) (q : ks.Perm (ys.take m)) (s : sortedS ks = true) (m0 : 0 < m) (b0 : 0 < base.length) (l : (ys.take m).length ≤ 12) : KsOk ks ∧ ks.Nodup ∧ ks.length = (ys.take m).length := by
  have ln := q.length_eq
  have nks : ks.Nodup := q.nodup_iff.mpr ((p.nodup_iff.mpr nd).sublist (List.take_sublist ..))
  have lp := p.length_eq
  refine ⟨ks_of ?_ (by omega) (fun k hk => hb k (p.mem_iff.mp (List.mem_of_mem_take (q.mem_iff.mp hk)))) ⟨nks, s⟩, nks, ln⟩
  rw [ln, List.length_take]
  omega
theorem cutV_take (l : List Str) (m : Int) (h0 : 0 ≤ m) : cutV (l.map V.str) none (some m) = (l.take m.toNat).map V.str := by
  unfold cutV
  show ((l.map V.str).drop (HT.sIx _ 0 none)).take (HT.sIx _ _ (some m) - HT.sIx _ 0 none) = _
  have e0 : HT.sIx (l.map V.str).length 0 none = 0 := rfl
  rw [e0, List.drop_zero, Nat.sub_zero, List.map_take]
  have : HT.sIx (l.map V.str).length (l.map V.str).length (some m) = min m.toNat (l.map V.str).length := by
    show (if m < 0 then (m + ((l.map V.str).length : Int)).toNat else min m.toNat (l.map V.str).length) = _
    rw [if_neg (by omega)]
  rw [this]
  rcases Nat.le_total m.toNat (l.map V.str).length with h | h
  · rw [Nat.min_eq_left h]
  · rw [Nat.min_eq_right h, List.take_length, List.take_of_length_le h]
/-! _law_kinds: slots 0:bag 1:most 2:names -/
abbrev s_law_kinds : Stmt := topS 51
theorem sc_law_kinds : FnScope ["bag", "most", "names"] ["bag", "most"] (defScope s_law_kinds) := ⟨rfl, rfl, rfl, by decide +kernel, rfl, by decide +kernel, by decide +kernel⟩
def sp_law_kinds : Sp := fun vs H Q _ => ∃ (p cl : Addr) (n : Nat), vs = [.ref p, .int 12] ∧ Bag H p cl n ∧ n ≤ 10000000 ∧
  ∀ (H' : Hp) (L : Addr) (ks : List Str), But p H H' → Bag H' p cl (n + 1001) → H L = none → L ≠ p → H' L = some (.lst (ks.map V.str)) → KsOk ks → ks.Nodup → Q (.ref L) H'
theorem ok_law_kinds (D : Df K mg "_law_kinds" s_law_kinds) (T : Tx mg) (G_law_draw : Has P w K mg base 2 "_law_draw" ["bag", "bound"] sp_law_draw) (G_law_shuffled : Has P w K mg base 3 "_law_shuffled" ["bag", "items"] sp_law_shuffled) : Has P w K mg base 4 "_law_kinds" ["bag", "most"] sp_law_kinds := by
  refine has_of D sc_law_kinds (fun _ _ _ _ _ _ us hl => match us, hl with | [_, _], _ => rfl) (fun vs H Q E h => ?_) (fun f cdv A outer s₀ H vs Q E hr h => ?_)
  · obtain ⟨_, _, _, rfl, _⟩ := h
    rfl
  · obtain ⟨p, cl, n, rfl, z, ln, q⟩ := h
    refine ⟨_, (pss_cons (ps_set (i := 2) sc_law_kinds.nd rfl (by first | exact Or.inl rfl | exact Or.inr rfl) (pe_lst (pa_cons pe_str (pa_cons pe_str (pa_cons pe_str (pa_cons pe_str (pa_cons pe_str (pa_cons pe_str (pa_cons pe_str (pa_cons pe_str (pa_cons pe_str (pa_cons pe_str (pa_cons pe_str (pa_cons pe_str pa_nil))))))))))))))
    (pss_one (ps_ret (pe_callB cr_sortedS (by rfl) T.n_sorted (by decide +kernel) (pa_cons (pe_slice sl_list (pe_callH G_law_shuffled (hr.mono (by omega)) (by rfl) (pa_cons (pv 0) (pa_cons (pv 2) pa_nil))) po_none (po_some (pe_op op_add pe_int (pe_callH G_law_draw (hr.mono (by omega)) (by rfl) (pa_cons (pv 0) (pa_cons (pv 1) pa_nil)))))) pa_nil))))), ?_⟩
    refine ⟨(by show 12 ≤ sizeLine; decide), fun a na => ?_⟩
    have s1 := same_upd (o := .lst (kd12.map V.str)) na
    have ha := upd_same (H := H) (a := a) (o := .lst (kd12.map V.str))
    have ap := z.ne na
    show tSeq _ _ _ _ (upd H a (.lst (kd12.map V.str)))
    generalize upd H a (.lst (kd12.map V.str)) = H1 at *
    have z1 := z.same s1
    refine ⟨_, rfl, _, rfl, p, cl, a, n, kd12, rfl, z1, by omega, ha, ap, by decide, fun H2 L ys b2 z2 nL hL pm => ?_⟩
    refine ⟨_, rfl, _, rfl, p, cl, n + 1000, 12, rfl, z2, by omega, by decide, by decide, fun H3 r b3 z3 r0 r1 => ?_⟩
    have Lp := z1.ne nL
    refine ⟨1, r, rfl, rfl, _, rfl, L, _, rfl, .of (b3 _ _ Lp hL), fun M nM => ?_⟩
    have e1 := cutV_take ys (1 + r) (by omega)
    rw [e1]
    have lt : (ys.take (1 + r).toNat).length ≤ 12 := by
      rw [List.length_take]
      omega
    refine ⟨M, ys.take (1 + r).toNat, rfl, .of upd_same, by omega, fun ks N pk sk nN => ?_⟩
    obtain ⟨h1, h2, _⟩ := ks_sorted kd12_ok.1 kd12_ok.2 pm pk sk (by omega) (by decide) lt
    have sM := same_upd (o := .lst ((ys.take (1 + r).toNat).map V.str)) nM
    have sN := same_upd (o := .lst (ks.map V.str)) nN
    have z5 := (z3.same sM).same sN
    have B : But p H (upd (upd H3 M (.lst ((ys.take (1 + r).toNat).map V.str))) N (.lst (ks.map V.str))) := ((Same.but s1).trans b2).trans (b3.trans (Same.but (sM.trans sN)))
    have nN3 : H3 N = none := sM.free nN
    have B3 : But p H H3 := ((Same.but s1).trans b2).trans b3
    exact q _ N ks B (z5.mono (by omega)) (frB B3 z3 nN3) (z3.ne nN3) upd_same h1 h2
/-! _law_actions: slots 0:items 1:item 2:waiting 3:count 4:found 5:stays -/
abbrev s_law_actions : Stmt := topS 52
theorem sc_law_actions : FnScope ["items", "item", "waiting", "count", "found", "stays"] ["items"] (defScope s_law_actions) := ⟨rfl, rfl, rfl, by decide +kernel, rfl, by decide +kernel, by decide +kernel⟩
def sp_law_actions : Sp := fun vs H Q _ => ∃ (a : Addr) (its : List Str), vs = [.ref a] ∧ H a = some (.lst (its.map V.str)) ∧ its.length ≤ 400 ∧ ∀ H' p, Same H H' → H p = none → H' p = some (.lst ((actI "" 0 its).map fun b => V.str (actS b))) → Q (.ref p) H'
def aftW : Str → Nat → List Str → Str × Nat
  | w, c, [] => (w, c)
  | w, c, k :: t => aftW (nxtW w c k) (nxtC w c k) t
theorem actI_app : ∀ (l m : List Str) (w : Str) (c : Nat), actI w c (l ++ m) = actI w c l ++ actI (aftW w c l).1 (aftW w c l).2 m
  | [], _, _, _ => rfl
  | k :: t, m, w, c => congrArg (staysI w c k :: ·) (actI_app t m _ _)
theorem aftW_app : ∀ (l m : List Str) (w : Str) (c : Nat), aftW w c (l ++ m) = aftW (aftW w c l).1 (aftW w c l).2 m
  | [], _, _, _ => rfl
  | k :: t, m, w, c => aftW_app t m _ _
theorem ok_law_actions (D : Df K mg "_law_actions" s_law_actions) : Has P w K mg base 1 "_law_actions" ["items"] sp_law_actions := by
  refine has_of D sc_law_actions (fun _ _ _ _ _ _ us hl => match us, hl with | [_], _ => rfl) (fun vs H Q E h => ?_) (fun f cdv A outer s₀ H vs Q E hr h => ?_)
  · obtain ⟨_, _, rfl, _⟩ := h
    rfl
  · obtain ⟨a, its, rfl, ha, l4, q⟩ := h
    refine ⟨_, (pss_cons (ps_par3 (i := 2) (j := 3) (l := 4) (by rfl) sc_law_actions.nd rfl rfl rfl (by decide) (by decide) (by decide) rfl rfl rfl (pa_cons pe_str (pa_cons pe_int (pa_cons (pe_lst pa_nil) pa_nil))) (by rfl))
    (pss_cons (ps_for PassesOwn.never rfl (pi_list (pv 0)) (pg_name (i := 1) sc_law_actions.nd rfl (by first | exact Or.inl rfl | exact Or.inr rfl))
      (pss_cons (ps_set (i := 5) sc_law_actions.nd rfl (by first | exact Or.inl rfl | exact Or.inr rfl) (pe_or (pe_cmpR op_eq (pv 3) pe_int (nomark _)) (pe_one (pe_cmpR op_eq (pv 1) (pv 2) (nomark _)))))
    (pss_cons (ps_set (i := 2) sc_law_actions.nd rfl (by first | exact Or.inl rfl | exact Or.inr rfl) (pe_ifExp (pt_val (pv 5)) (pv 1) (pv 2)))
    (pss_cons (ps_set (i := 3) sc_law_actions.nd rfl (by first | exact Or.inl rfl | exact Or.inr rfl) (pe_ifExp (pt_val (pv 5)) (pe_op op_add (pv 3) pe_int) (pe_op op_sub (pv 3) pe_int)))
    (pss_one (ps_expr (pe_bm PySem.F.plainAttrs_list PySem.F.slot_list_append PySem.F.type_list_append mt_append (pv 4) (pa_cons (pe_ifExp (pt_val (pv 5)) pe_str pe_str) pa_nil))))))))
    (pss_one (ps_ret (pv 4))))), ?_⟩
    refine ⟨Nat.zero_le _, fun p np => ?_⟩
    have ap : a ≠ p := ne_of_none ha np
    refine ⟨_, _, _, rfl, _, rfl, a, rfl, ⟨_, .of (same_upd np _ _ ha)⟩, for_list (K := K) (a := a) (xs := its.map V.str) (fun i σ H' => ∃ y1 y5, σ = [some (.ref a), y1, some (.str (aftW "" 0 (its.take i)).1), some (.int ((aftW "" 0 (its.take i)).2 : Nat)), some (.ref p), y5] ∧ Same H H' ∧ H' p = some (.lst ((actI "" 0 (its.take i)).map fun b => V.str (actS b))))
      ⟨none, none, rfl, same_upd np, upd_same⟩ (fun i σ H' _ hP => ?_) (fun i x σ H1 ex hP => ?_) (fun σ H1 hP => ?_)⟩
    · obtain ⟨_, _, _, sm, _⟩ := hP
      exact .of (sm _ _ ha)
    · obtain ⟨y1, y5, rfl, sm, hp⟩ := hP
      obtain ⟨k, ek, rfl⟩ := str_at ex
      have hi : i < its.length := (List.getElem?_eq_some_iff.mp ek).1
      have e1 : aftW "" 0 (its.take (i + 1)) = (nxtW (aftW "" 0 (its.take i)).1 (aftW "" 0 (its.take i)).2 k, nxtC (aftW "" 0 (its.take i)).1 (aftW "" 0 (its.take i)).2 k) := by
        rw [take_snoc ek, aftW_app]
        rfl
      have e2 : actI "" 0 (its.take (i + 1)) = actI "" 0 (its.take i) ++ [staysI (aftW "" 0 (its.take i)).1 (aftW "" 0 (its.take i)).2 k] := by
        rw [take_snoc ek, actI_app]
        rfl
      have la : (actI "" 0 (its.take i)).length = i := by rw [actI_len, List.length_take]; omega
      rw [e1, e2]
      have c400 : ∀ (l : List Str) (w : Str) (c : Nat), (aftW w c l).2 ≤ c + l.length := by
        intro l
        induction l with
        | nil => intro w c; exact Nat.le_refl _
        | cons k t ih =>
          intro w c
          have := ih (nxtW w c k) (nxtC w c k)
          have h2 : nxtC w c k ≤ c + 1 := by
            unfold nxtC
            split <;> omega
          show (aftW (nxtW w c k) (nxtC w c k) t).2 ≤ c + (t.length + 1)
          omega
      have cc := c400 (its.take i) "" 0
      generalize (aftW "" 0 (its.take i)).1 = wd at *
      generalize (aftW "" 0 (its.take i)).2 = c at *
      generalize actI "" 0 (its.take i) = acc at *
      refine ⟨_, rfl, rfl, _, rfl, orv (b2 := decide (k = wd)) (fun R hR => ⟨_, rfl, _, rfl, rfl, ?_⟩) ?_⟩
      · rw [show decide (V.str k = V.str wd) = decide (k = wd) from decide_eq_decide.mpr ⟨fun h => V.str.inj h, fun h => congrArg V.str h⟩]
        exact hR
      have e0 : (decide (V.int (c : Nat) = V.int 0) || decide (k = wd)) = staysI wd c k := by
        rw [show decide (V.int (c : Nat) = V.int 0) = decide (c = 0) from nv_dec c 0]
        rfl
      rw [e0]
      have e3 : nxtW wd c k = if staysI wd c k = true then k else wd := rfl
      have e4 : nxtC wd c k = if staysI wd c k = true then c + 1 else c - 1 := rfl
      rw [e3, e4]
      have c0 : staysI wd c k = false → c ≠ 0 := fun h z => by
        subst z
        cases h
      generalize staysI wd c k = b at *
      have fin : ∀ o : List V, o = acc.map (fun b => V.str (actS b)) ++ [V.str (actS b)] → Same H (upd H1 p (.lst o)) ∧ (upd H1 p (.lst o)) p = some (.lst ((acc ++ [b]).map fun b => V.str (actS b))) := fun o ho => by
        refine ⟨same_grow np sm, ?_⟩
        rw [upd_same, ho, List.map_append]
        rfl
      have lac : (acc.map fun b => V.str (actS b)).length < sizeLine := by
        rw [List.length_map, la]
        exact small (by omega)
      cases b with
      | true => exact ⟨_, rfl, _, rfl, iteT ⟨_, rfl, _, rfl, _, rfl, iteT ⟨_, rfl, _, _, rfl, rfl, _, rfl, .inl ⟨rfl, _, SqL.of hp⟩, _, rfl, _, rfl, iteT ⟨p, _, _, rfl, rfl, hp, lac, _, _, rfl, fin _ rfl⟩⟩⟩⟩
      | false =>
        have := c0 rfl
        refine ⟨_, rfl, _, rfl, iteF ⟨_, rfl, _, rfl, _, rfl, iteF ⟨_, rfl, _, _, rfl, rfl, _, rfl, .inl ⟨rfl, _, SqL.of hp⟩, _, rfl, _, rfl, iteF ⟨p, _, _, rfl, rfl, hp, lac, some (.str k), some (.bl false), ?_, fin _ rfl⟩⟩⟩⟩
        show [some (V.ref a), some (V.str k), some (V.str wd), some (V.int ((c : Int) - 1)), some (V.ref p), some (V.bl false)] = [some (V.ref a), some (V.str k), some (V.str wd), some (V.int ((c - 1 : Nat) : Int)), some (V.ref p), some (V.bl false)]
        rw [show ((c - 1 : Nat) : Int) = (c : Int) - 1 by omega]
    · obtain ⟨y1, y5, rfl, sm, hp⟩ := hP
      rw [List.length_map, List.take_length] at hp
      exact ⟨_, rfl, q _ _ sm np hp⟩
end
end UP

set_option Elab.async false
set_option linter.all false
set_option maxRecDepth 100000
set_option maxHeartbeats 4000000
set_option pp.maxSteps 600
namespace UP
open PySem PySem.Spec PyProof.Rows L2
theorem EnV.bagT {H H' : Hp} {pb cl : Addr} {n : Nat} {v : V} {e : En} (z : Bag H pb cl n) (b : But pb H H') (h : EnV H v e) : EnV H' v e := by
  obtain ⟨q, h1, _⟩ := id z
  exact h.tk fun t xs e => b _ _ (ne_of e h1 (by intro y; cases y)) e
theorem Rec.bagT {H H' : Hp} {pb cl a : Addr} {n : Nat} {es : List En} (z : Bag H pb cl n) (b : But pb H H') (na : a ≠ pb) (h : Rec H a es) : Rec H' a es := by
  obtain ⟨xs, hx, hp⟩ := h
  exact ⟨xs, b _ _ na hx, Paired.imp (fun _ _ y => EnV.bagT z b y) hp⟩
theorem pick3 (r : Int) (h0 : 0 ≤ r) (h1 : r < 3) (a b c : Int) (P : Int → Prop) (pa : P a) (pb : P b) (pc : P c) : ∃ g : Int, atI [V.int a, V.int b, V.int c] r = some (.int g) ∧ P g := by
  rcases (show r = 0 ∨ r = 1 ∨ r = 2 by omega) with er | er | er
  · rw [er]
    exact ⟨a, rfl, pa⟩
  · rw [er]
    exact ⟨b, rfl, pb⟩
  · rw [er]
    exact ⟨c, rfl, pc⟩
section
variable {P : Program} {w : World} {K : PySem.W.Frag} {mg : Str → Option Value} {base : Heap}
/-! _law_items: slots 0:bag 1:kinds 2:count 3:again 4:found 5:step 6:item -/
abbrev s_law_items : Stmt := topS 53
theorem sc_law_items : FnScope ["bag", "kinds", "count", "again", "found", "step", "item"] ["bag", "kinds", "count"] (defScope s_law_items) := ⟨rfl, rfl, rfl, by decide +kernel, rfl, by decide +kernel, by decide +kernel⟩
def sp_law_items : Sp := fun vs H Q _ => ∃ (p cl ka : Addr) (n : Nat) (ks : List Str) (m : Int), vs = [.ref p, .ref ka, .int m] ∧ Bag H p cl n ∧ n ≤ 100000000 ∧ H ka = some (.lst (ks.map V.str)) ∧ ka ≠ p ∧ 1 ≤ ks.length ∧ ks.length ≤ 100 ∧ (∀ k ∈ ks, KindOk k) ∧ 0 ≤ m ∧ m ≤ 400 ∧
  ∀ (H' : Hp) (L : Addr) (items : List Str), But p H H' → Bag H' p cl (n + 900) → H L = none → L ≠ p → H' L = some (.lst (items.map V.str)) → (∀ k ∈ items, k ∈ ks) → items.length ≤ 400 → Q (.ref L) H'
theorem ok_law_items (D : Df K mg "_law_items" s_law_items) (T : Tx mg) (G_law_draw : Has P w K mg base 2 "_law_draw" ["bag", "bound"] sp_law_draw) : Has P w K mg base 3 "_law_items" ["bag", "kinds", "count"] sp_law_items := by
  refine has_of D sc_law_items (fun _ _ _ _ _ _ us hl => match us, hl with | [_, _, _], _ => rfl) (fun vs H Q E h => ?_) (fun f cdv A outer s₀ H vs Q E hr h => ?_)
  · obtain ⟨_, _, _, _, _, _, rfl, _⟩ := h
    rfl
  · obtain ⟨p, cl, ka, n, ks, m, rfl, z, ln, hka, kap, k1, k100, kok, m0, m1, q⟩ := h
    refine ⟨_, (pss_cons (ps_set (i := 3) sc_law_items.nd rfl (by first | exact Or.inl rfl | exact Or.inr rfl) (pe_ix ix_list (pe_lst (pa_cons pe_int (pa_cons pe_int (pa_cons pe_int pa_nil)))) (pe_callH G_law_draw (hr.mono (by omega)) (by rfl) (pa_cons (pv 0) (pa_cons pe_int pa_nil))) (fun _ _ => rfl)))
    (pss_cons (ps_set (i := 4) sc_law_items.nd rfl (by first | exact Or.inl rfl | exact Or.inr rfl) (pe_lst pa_nil))
    (pss_cons (ps_for PassesOwn.never rfl (pi_range1 (by rfl) T.n_range (pa_cons (pv 2) pa_nil)) (pg_name (i := 5) sc_law_items.nd rfl (by first | exact Or.inl rfl | exact Or.inr rfl))
      (pss_cons (ps_set (i := 6) sc_law_items.nd rfl (by first | exact Or.inl rfl | exact Or.inr rfl) (pe_ix ix_list (pv 1) (pe_callH G_law_draw (hr.mono (by omega)) (by rfl) (pa_cons (pv 0) (pa_cons (pe_callB call_len_seq (by rfl) T.n_len (by decide +kernel) (pa_cons (pv 1) pa_nil)) pa_nil))) (fun _ _ => rfl)))
    (pss_one (ps_expr (pe_bm PySem.F.plainAttrs_list PySem.F.slot_list_append PySem.F.type_list_append mt_append (pv 4) (pa_cons (pe_ifExp (PW.pt (pw_and (pt_cmpR (op_neD hr.units) (pv 4) (pe_lst pa_nil) (nomark _)) (pw_and1 (pt_cmpR op_gt (pe_callH G_law_draw (hr.mono (by omega)) (by rfl) (pa_cons (pv 0) (pa_cons (pv 3) pa_nil))) pe_int (nomark _))))) (pe_ix ix_list (pv 4) (pe_un un_neg pe_int) (fun _ _ => rfl)) (pv 6)) pa_nil))))))
    (pss_one (ps_ret (pv 4)))))), ?_⟩
    refine ⟨(by show 3 ≤ sizeLine; decide), fun e ne => ⟨_, rfl, p, cl, n, 3, rfl, z.same (same_upd ne), by omega, by decide, by decide, fun H2 r b2 z2 r0 r1 => ?_⟩⟩
    have he := b2 _ _ (z.ne ne) (upd_same (H := H) (a := e) (o := .lst [.int 1, .int 2, .int 8]))
    have B2 : But p H H2 := (Same.but (same_upd ne)).trans b2
    have hka2 := B2 _ _ kap hka
    obtain ⟨g, hg, g1, g2⟩ : ∃ g : Int, atI [V.int 1, V.int 2, V.int 8] r = some (.int g) ∧ 1 ≤ g ∧ g ≤ 8 := by
      rcases (show r = 0 ∨ r = 1 ∨ r = 2 by omega) with er | er | er
      · rw [er]
        exact ⟨1, rfl, by decide, by decide⟩
      · rw [er]
        exact ⟨2, rfl, by decide, by decide⟩
      · rw [er]
        exact ⟨8, rfl, by decide, by decide⟩
    refine ⟨e, _, r, _, rfl, rfl, .of he, hg, ?_⟩
    clear hg he b2
    have fr : ∀ {x : Addr}, H2 x = none → H x = none := fun {x} e => by
      cases y : H x with
      | none => rfl
      | some o =>
        rw [B2 _ _ (z2.ne e) y] at e
        cases e
    refine ⟨Nat.zero_le _, fun L nL => ?_⟩
    have nLp := z2.ne nL
    have nLk : ka ≠ L := ne_of_none hka2 nL
    have sL := same_upd (o := .lst []) nL
    have hL0 : (upd H2 L (.lst [])) L = some (.lst []) := upd_same
    obtain ⟨qb, hb1, hb2, _⟩ := id z2
    have cL : cl ≠ L := ne_of_none hb2 nL
    have zL := z2.same sL
    have BL : But p H (upd H2 L (.lst [])) := B2.trans (Same.but sL)
    generalize upd H2 L (.lst []) = H3 at *
    refine ⟨_, rfl, m, rfl, by omega, by omega, for_range (lo := 0) (n := m.toNat) (fun i σ H' => ∃ (y5 y6 : Option V) (items : List Str), σ = [some (.ref p), some (.ref ka), some (.int m), some (.int g), some (.ref L), y5, y6] ∧ But p H H' ∧ Bag H' p cl (n + 1 + 2 * i) ∧ H' L = some (.lst (items.map V.str)) ∧ items.length = i ∧ (∀ k ∈ items, k ∈ ks))
      ⟨none, none, [], rfl, BL, zL, hL0, rfl, (fun r h => by cases h)⟩ (fun i σ H6 hi hP => ?_) (fun σ H6 hP => ?_)⟩
    · obtain ⟨y5, y6, items, rfl, b6, z6, hL, li, ok⟩ := hP
      have hi : i < m.toNat := hi
      have hk6 := b6 _ _ kap hka
      refine ⟨_, rfl, _, rfl, _, rfl, ka, _, rfl, .inl (.of hk6), ?_⟩
      refine ⟨p, cl, _, _, rfl, z6, by omega, by rw [List.length_map]; omega, wideB (by rw [List.length_map]; omega) (by rw [List.length_map]; omega), fun H7 r7 b7 z7 r70 r71 => ?_⟩
      rw [List.length_map] at r71
      have l8 : r7.toNat < ks.length := by omega
      have ek : atI (ks.map V.str) r7 = some (.str ks[r7.toNat]) := atI_ofB r70 (by rw [List.getElem?_map, List.getElem?_eq_getElem l8]; rfl)
      have kk : ks[r7.toNat] ∈ ks := List.getElem_mem l8
      generalize ks[r7.toNat] = kd at ek kk
      have hL7 := b7 _ _ nLp hL
      refine ⟨ka, _, r7, _, rfl, rfl, .of (b7 _ _ kap hk6), ek, ?_⟩
      have B7 := b6.trans b7
      have fin : ∀ (H9 : Hp) (x : Str), x ∈ ks → But p H7 H9 → Bag H9 p cl (n + 1 + 2 * i + 1 + 1) → H9 L = some (.lst (items.map V.str)) → (items.map V.str).length < sizeLine ∧ ∃ (y5 y6 : Option V) (items' : List Str), [some (V.ref p), some (V.ref ka), some (V.int m), some (V.int g), some (V.ref L), some (V.int (0 + (i : Int))), some (V.str kd)] = [some (.ref p), some (.ref ka), some (.int m), some (.int g), some (.ref L), y5, y6] ∧ But p H (upd H9 L (.lst (items.map V.str ++ [.str x]))) ∧ Bag (upd H9 L (.lst (items.map V.str ++ [.str x]))) p cl (n + 1 + 2 * (i + 1)) ∧ (upd H9 L (.lst (items.map V.str ++ [.str x]))) L = some (.lst (items'.map V.str)) ∧ items'.length = i + 1 ∧ (∀ k ∈ items', k ∈ ks) := fun H9 x kx b9 z9 h9 => by
        refine ⟨by rw [List.length_map]; exact small (by omega), _, _, items ++ [x], rfl, fun b o nb e => ?_, ?_, ?_, ?_, fun k hk => ?_⟩
        · have : b ≠ L := ne_of_none e (fr nL)
          exact but_upd _ _ this (b9 _ _ nb (B7 _ _ nb e))
        · exact (z9.keep (fun o e => but_upd _ _ nLp.symm e) (fun o e => but_upd _ _ cL e)).mono (by omega)
        · rw [upd_same, List.map_append]
          rfl
        · rw [List.length_append, li]
          rfl
        · rcases List.mem_append.mp hk with h | h
          · exact ok k h
          · rw [List.mem_singleton.mp h]
            exact kx
      refine ⟨_, rfl, .inl ⟨rfl, _, SqL.of hL7⟩, ?_⟩
      refine ⟨_, rfl, Nat.zero_le _, fun e ne => ?_⟩
      have se : Same H7 (upd H7 e (.lst [])) := same_upd ne
      refine ⟨.list (items.map PyData.str), .list [], .lst (.of (se _ _ hL7)) (dp_strl _), .lst (.of upd_same) .nil, shaped_strl fun k hk => kok _ (ok k hk), shaped_nil, _, rfl, ?_⟩
      rw [eqv_nilS]
      cases hit : items with
      | nil =>
        refine iteN rfl ?_
        dsimp only [Bool.false_eq_true, if_false]
        have f := fin (upd H7 e (.lst [])) kd kk (Same.but se) ((z7.same se).mono (by omega)) (se _ _ hL7)
        rw [hit] at f
        exact ⟨_, rfl, L, _, _, rfl, rfl, by rw [hit] at hL7; exact se _ _ hL7, f.1, f.2⟩
      | cons i0 it0 =>
        refine iteP rfl ?_
        refine ⟨_, rfl, _, rfl, p, cl, _, g, rfl, z7.same se, by omega, g1, wideB (by omega) (by omega), fun H10 r10 b10 z10 r100 r101 => ?_⟩
        have hL10 := b10 _ _ nLp (se _ _ hL7)
        refine ⟨r10, 0, rfl, rfl, _, rfl, ?_⟩
        by_cases c : 0 < r10
        · refine iteP (decide_eq_true c) ?_
          have hne : items ≠ [] := by rw [hit]; exact fun z => by cases z
          have e2 : items = items.dropLast ++ [items.getLast hne] := (List.dropLast_concat_getLast hne).symm
          have exl : atI (items.map V.str) (-1) = some (.str (items.getLast hne)) := by
            have : items.map V.str = items.dropLast.map V.str ++ [V.str (items.getLast hne)] := by
              conv => lhs; rw [e2]
              rw [List.map_append]
              rfl
            rw [this]
            exact atI_last _ _
          have f := fin H10 (items.getLast hne) (ok _ (List.getLast_mem hne)) ((Same.but se).trans b10) (z10.mono (by omega)) hL10
          refine ⟨_, rfl, 1, rfl, L, _, -1, _, rfl, rfl, .of hL10, exl, L, _, _, rfl, rfl, hL10, f.1, f.2⟩
        · refine iteN (decide_eq_false c) ?_
          have f := fin H10 kd kk ((Same.but se).trans b10) (z10.mono (by omega)) hL10
          exact ⟨_, rfl, L, _, _, rfl, rfl, hL10, f.1, f.2⟩
    · obtain ⟨y5, y6, items, rfl, b6, z6, hL, li, ok⟩ := hP
      exact ⟨_, rfl, q H6 L items b6 (z6.mono (by omega)) (fr nL) nLp hL ok (by omega)⟩
/-! _law_hidden: slots 0:bag 1:items 2:often 3:found 4:item 5:action -/
abbrev s_law_hidden : Stmt := topS 54
theorem sc_law_hidden : FnScope ["bag", "items", "often", "found", "item", "action"] ["bag", "items"] (defScope s_law_hidden) := ⟨rfl, rfl, rfl, by decide +kernel, rfl, by decide +kernel, by decide +kernel⟩
def sp_law_hidden : Sp := fun vs H Q _ => ∃ (p cl a : Addr) (n : Nat) (its : List Str), vs = [.ref p, .ref a] ∧ Bag H p cl n ∧ n ≤ 100000000 ∧ H a = some (.lst (its.map V.str)) ∧ a ≠ p ∧ its.length ≤ 400 ∧
  ∀ (H' : Hp) (L : Addr) (es : List En), But p H H' → Bag H' p cl (n + 500) → H L = none → L ≠ p → Rec H' L es → Paired LeE es (recI "" 0 its) → Q (.ref L) H'
theorem recI_at {its : List Str} {i : Nat} {k : Str} {c : Bool} (h1 : its[i]? = some k) (h2 : (actI "" 0 its)[i]? = some c) : (recI "" 0 its)[i]? = some (some k, c) := by
  have e1 := recI_kind its "" 0
  have e2 := recI_act its "" 0
  have f1 : ((recI "" 0 its).map (·.1))[i]? = some (some k) := by rw [e1, List.getElem?_map, h1]; rfl
  have f2 : ((recI "" 0 its).map (·.2))[i]? = some c := by rw [e2, h2]
  rw [List.getElem?_map] at f1 f2
  cases h : (recI "" 0 its)[i]? with
  | none => rw [h] at f1; cases f1
  | some e =>
    rw [h] at f1 f2
    obtain ⟨x, y⟩ := e
    cases Option.some.inj f1
    cases Option.some.inj f2
    rfl
theorem ok_law_hidden (D : Df K mg "_law_hidden" s_law_hidden) (T : Tx mg) (G_law_draw : Has P w K mg base 2 "_law_draw" ["bag", "bound"] sp_law_draw) (G_law_actions : Has P w K mg base 1 "_law_actions" ["items"] sp_law_actions) : Has P w K mg base 3 "_law_hidden" ["bag", "items"] sp_law_hidden := by
  refine has_of D sc_law_hidden (fun _ _ _ _ _ _ us hl => match us, hl with | [_, _], _ => rfl) (fun vs H Q E h => ?_) (fun f cdv A outer s₀ H vs Q E hr h => ?_)
  · obtain ⟨_, _, _, _, _, rfl, _⟩ := h
    rfl
  · obtain ⟨p, cl, a, n, its, rfl, z, ln, ha, ap, l4, q⟩ := h
    refine ⟨_, (pss_cons (ps_set (i := 2) sc_law_hidden.nd rfl (by first | exact Or.inl rfl | exact Or.inr rfl) (pe_ix ix_list (pe_lst (pa_cons pe_int (pa_cons pe_int (pa_cons pe_int pa_nil)))) (pe_callH G_law_draw (hr.mono (by omega)) (by rfl) (pa_cons (pv 0) (pa_cons pe_int pa_nil))) (fun _ _ => rfl)))
    (pss_cons (ps_set (i := 3) sc_law_hidden.nd rfl (by first | exact Or.inl rfl | exact Or.inr rfl) (pe_lst pa_nil))
    (pss_cons (ps_for PassesOwn.never rfl (pi_zip (by rfl) T.n_zip (pa_cons (pv 1) (pa_cons (pe_callH G_law_actions (hr.mono (by omega)) (by rfl) (pa_cons (pv 1) pa_nil)) pa_nil))) (pg_tup rfl (pgs_cons (pg_name (i := 4) sc_law_hidden.nd rfl (by first | exact Or.inl rfl | exact Or.inr rfl)) (pgs_cons (pg_name (i := 5) sc_law_hidden.nd rfl (by first | exact Or.inl rfl | exact Or.inr rfl)) pgs_nil)))
      (pss_one (ps_expr (pe_bm PySem.F.plainAttrs_list PySem.F.slot_list_append PySem.F.type_list_append mt_append (pv 3) (pa_cons (pe_tup (pa_cons (pe_ifExp (pt_cmpR op_eq (pe_callH G_law_draw (hr.mono (by omega)) (by rfl) (pa_cons (pv 0) (pa_cons (pv 2) pa_nil))) pe_int (nomark _)) pe_non (pv 4)) (pa_cons (pv 5) pa_nil))) pa_nil)))))
    (pss_one (ps_ret (pv 3)))))), ?_⟩
    refine ⟨(by show 3 ≤ sizeLine; decide), fun e ne => ⟨_, rfl, p, cl, n, 3, rfl, z.same (same_upd ne), by omega, by decide, by decide, fun H2 r b2 z2 r0 r1 => ?_⟩⟩
    have he := b2 _ _ (z.ne ne) (upd_same (H := H) (a := e) (o := .lst [.int 1, .int 2, .int 5]))
    have B2 : But p H H2 := (Same.but (same_upd ne)).trans b2
    have ha2 := B2 _ _ ap ha
    obtain ⟨g, hg, g1, g2⟩ := pick3 r r0 r1 1 2 5 (fun g => 1 ≤ g ∧ g ≤ 8) (by decide) (by decide) (by decide)
    refine ⟨e, _, r, _, rfl, rfl, .of he, hg, ?_⟩
    clear hg he b2
    refine ⟨Nat.zero_le _, fun L nL => ?_⟩
    have nLp := z2.ne nL
    have nLk : a ≠ L := ne_of_none ha2 nL
    have sL := same_upd (o := .lst []) nL
    have hL0 : (upd H2 L (.lst [])) L = some (.lst []) := upd_same
    obtain ⟨qb, hb1, hb2, _⟩ := id z2
    have cL : cl ≠ L := ne_of_none hb2 nL
    have zL := z2.same sL
    have BL : But p H (upd H2 L (.lst [])) := B2.trans (Same.but sL)
    have nLH : H L = none := frB B2 z2 nL
    have ha3 := sL _ _ ha2
    generalize upd H2 L (.lst []) = H3 at *
    refine ⟨_, rfl, _, rfl, a, its, rfl, ha3, l4, fun H4 b s4 nb hb => ?_⟩
    have lact : (actI "" 0 its).length = its.length := actI_len ..
    have bL0 : b ≠ L := fun z => by rw [z, hL0] at nb; cases nb
    have bp : b ≠ p := zL.ne nb
    have ha4 := s4 _ _ ha3
    have hL4 := s4 _ _ hL0
    have z4 := zL.same s4
    have B4 : But p H H4 := BL.trans (Same.but s4)
    have lxy : (its.map V.str).length = ((actI "" 0 its).map fun b => V.str (actS b)).length := by rw [List.length_map, List.length_map, lact]
    refine ⟨a, b, _, _, rfl, .of ha4, .of hb, RZ.for_zipL (K := K) lxy (fun i σ H' => ∃ y4 y5 xs es, σ = [some (.ref p), some (.ref a), some (.int g), some (.ref L), y4, y5] ∧ But p H H' ∧ H' a = some (.lst (its.map V.str)) ∧ H' b = some (.lst ((actI "" 0 its).map fun b => V.str (actS b))) ∧ Bag H' p cl (n + 1 + i) ∧ H' L = some (.lst xs) ∧ xs.length = i ∧ Paired (EnV H') xs es ∧ Paired LeE es ((recI "" 0 its).take i))
      ⟨none, none, [], [], rfl, B4, ha4, hb, z4, hL4, rfl, .nil, .nil⟩ (fun i σ H' hP => ?_) (fun i x y T σ H5 ex ey hP nT => ?_) (fun σ H5 hP => ?_)⟩
    · obtain ⟨_, _, _, _, _, _, h1, h2, _⟩ := hP
      exact ⟨.of h1, .of h2⟩
    · obtain ⟨y4, y5, xs, es, rfl, b5, ha5, hb5, z5, hL5, lxs, hp5, hle⟩ := hP
      obtain ⟨k, ek, rfl⟩ := str_at ex
      rw [List.getElem?_map] at ey
      obtain ⟨c, ec, rfl⟩ := Option.map_eq_some_iff.mp ey
      have hi : i < its.length := (List.getElem?_eq_some_iff.mp ek).1
      have er := recI_at ek ec
      have sT := same_upd (o := .tup [.str k, .str (actS c)]) nT
      have hT : (upd H5 T (.tup [.str k, .str (actS c)])) T = some (.tup [.str k, .str (actS c)]) := upd_same
      have nTp := z5.ne nT
      have z6 := z5.same sT
      have ha6 := sT _ _ ha5
      have hb6 := sT _ _ hb5
      have hL6 := sT _ _ hL5
      have hp6 := Paired.imp (fun _ _ z => EnV.same sT z) hp5
      have b6 : But p H _ := b5.trans (Same.but sT)
      generalize upd H5 T (.tup [.str k, .str (actS c)]) = H6 at *
      refine ⟨T, _, rfl, .of hT, rfl, _, _, rfl, _, _, rfl, rfl, ?_⟩
      refine ⟨_, rfl, .inl ⟨rfl, _, SqL.of hL6⟩, _, rfl, _, rfl, p, cl, n + 1 + i, g, rfl, z6, by omega, g1, wideB (by omega) (by omega), fun H7 r7 b7 z7 r70 r71 => ?_⟩
      have bL : L ≠ p := nLp
      have ha7 := b7 _ _ ap ha6
      have hb7 := b7 _ _ bp hb6
      have hL7 := b7 _ _ bL hL6
      have hp7 := Paired.imp (fun _ _ z => EnV.bagT z6 b7 z) hp6
      have B7 := b6.trans b7
      have fin : ∀ o : Option Str, (o = none ∨ o = some k) → ∀ t, H7 t = none → ∃ y4 y5 xs' es', [some (V.ref p), some (.ref a), some (.int g), some (.ref L), some (.str k), some (.str (actS c))] = [some (.ref p), some (.ref a), some (.int g), some (.ref L), y4, y5] ∧ But p H (upd (upd H7 t (.tup [koV o, .str (actS c)])) L (.lst (xs ++ [.ref t]))) ∧ (upd (upd H7 t (.tup [koV o, .str (actS c)])) L (.lst (xs ++ [.ref t]))) a = some (.lst (its.map V.str)) ∧ (upd (upd H7 t (.tup [koV o, .str (actS c)])) L (.lst (xs ++ [.ref t]))) b = some (.lst ((actI "" 0 its).map fun b => V.str (actS b))) ∧ Bag (upd (upd H7 t (.tup [koV o, .str (actS c)])) L (.lst (xs ++ [.ref t]))) p cl (n + 1 + (i + 1)) ∧ (upd (upd H7 t (.tup [koV o, .str (actS c)])) L (.lst (xs ++ [.ref t]))) L = some (.lst xs') ∧ xs'.length = i + 1 ∧ Paired (EnV (upd (upd H7 t (.tup [koV o, .str (actS c)])) L (.lst (xs ++ [.ref t])))) xs' es' ∧ Paired LeE es' ((recI "" 0 its).take (i + 1)) := fun o ho t nt => by
        have st := same_upd (o := .tup [koV o, .str (actS c)]) nt
        have hLt := st _ _ hL7
        refine ⟨_, _, xs ++ [.ref t], es ++ [(o, c)], rfl, fun x u nx e => ?_, ?_, ?_, ?_, upd_same, by rw [List.length_append, lxs]; rfl, ?_, ?_⟩
        · rw [upd_ne (ne_of_none e nLH)]
          exact st _ _ (B7 _ _ nx e)
        · rw [upd_ne nLk]
          exact st _ _ ha7
        · rw [upd_ne bL0]
          exact st _ _ hb7
        · exact ((z7.same st).keep (fun o e => by rw [upd_ne nLp.symm]; exact e) (fun o e => by rw [upd_ne cL]; exact e)).mono (by omega)
        · exact Paired.app (Paired.imp (fun _ _ z => EnV.grow hLt (EnV.same st z)) hp7) (.cons (EnV.grow hLt ⟨t, rfl, upd_same⟩) .nil)
        · rw [take_snoc er]
          exact Paired.app hle (.cons ⟨rfl, ho⟩ .nil)
      refine ⟨rfl, _, rfl, ?_⟩
      by_cases c0 : r7 = 0
      · refine iteP (decide_eq_true (by rw [c0])) ⟨_, rfl, (by show 2 ≤ sizeLine; decide), fun t nt => ⟨L, _, _, rfl, rfl, same_upd nt _ _ hL7, small (by omega), fin none (.inl rfl) t nt⟩⟩
      · refine iteN (decide_eq_false fun z => c0 (V.int.inj z)) ⟨_, rfl, _, rfl, (by show 2 ≤ sizeLine; decide), fun t nt => ⟨L, _, _, rfl, rfl, same_upd nt _ _ hL7, small (by omega), fin (some k) (.inr rfl) t nt⟩⟩
    · obtain ⟨y4, y5, xs, es, rfl, b5, ha5, hb5, z5, hL5, lxs, hp5, hle⟩ := hP
      rw [List.length_map, List.take_of_length_le (by have := congrArg List.length (recI_act its "" 0); rw [List.length_map, lact] at this; omega)] at hle
      rw [List.length_map] at z5
      exact ⟨_, rfl, q H5 L es b5 (z5.mono (by omega)) nLH nLp ⟨xs, hL5, hp5⟩ hle⟩
/-! _law_less: slots 0:bag 1:record 2:kind 3:action -/
abbrev s_law_less : Stmt := topS 56
theorem sc_law_less : FnScope ["bag", "record", "kind", "action"] ["bag", "record"] (defScope s_law_less) := ⟨rfl, rfl, rfl, by decide +kernel, rfl, by decide +kernel, by decide +kernel⟩
def sp_law_less : Sp := fun vs H Q _ => ∃ (p cl a : Addr) (n : Nat) (es : List En), vs = [.ref p, .ref a] ∧ Bag H p cl n ∧ n ≤ 100000000 ∧ Rec H a es ∧ a ≠ p ∧ es.length ≤ 400 ∧
  ∀ (H' : Hp) (L : Addr) (less : List En), But p H H' → Bag H' p cl (n + 500) → H L = none → L ≠ p → Rec H' L less → Paired LeE less es → Q (.ref L) H'
theorem ok_law_less (D : Df K mg "_law_less" s_law_less) (G_law_draw : Has P w K mg base 2 "_law_draw" ["bag", "bound"] sp_law_draw) : Has P w K mg base 3 "_law_less" ["bag", "record"] sp_law_less := by
  refine has_of D sc_law_less (fun _ _ _ _ _ _ us hl => match us, hl with | [_, _], _ => rfl) (fun vs H Q E h => ?_) (fun f cdv A outer s₀ H vs Q E hr h => ?_)
  · obtain ⟨_, _, _, _, _, rfl, _⟩ := h
    rfl
  · obtain ⟨p, cl, a, n, es, rfl, z, ln, ⟨xs, hx, hp⟩, ap, l4, q⟩ := h
    have lx := Paired.len hp
    refine ⟨_, (pss_one (ps_ret (pe_lc (own := [("kind", 2), ("action", 3)]) rfl sc_law_less.nd (pi_list (pv 1)) (blkOk_by (N := ["bag", "record", "kind", "action"]) (sc := defScope s_law_less) (by decide +kernel)) (fun _ _ _ _ _ => (pg_tupK (K := K) (n := 2) rfl rfl (pgs_cons (pg_name (i := 2) sc_law_less.nd rfl (by first | exact Or.inl rfl | exact Or.inr rfl)) (pgs_cons (pg_name (i := 3) sc_law_less.nd rfl (by first | exact Or.inl rfl | exact Or.inr rfl)) pgs_nil)))) (fun _ _ _ _ _ => pts_nil) (fun _ _ _ _ _ => (pe_tup (pa_cons (pe_ifExp (pt_cmpR op_eq (pe_callH G_law_draw (hr.mono (by omega)) (by rfl) (pa_cons (pv 0) (pa_cons pe_int pa_nil))) pe_int (nomark _)) (pv 2) pe_non) (pa_cons (pv 3) pa_nil))))))), ?_⟩
    refine ⟨_, rfl, a, rfl, ⟨xs, .of hx⟩, fun L nL => ?_⟩
    have nLp := z.ne nL
    have aL : a ≠ L := ne_of_none hx nL
    have sL := same_upd (o := .lst []) nL
    obtain ⟨qb, hb1, hb2, _⟩ := id z
    have cL : cl ≠ L := ne_of_none hb2 nL
    refine lc_list (K := K) (a := a) (xs := xs) (fun i H' => ∃ ys less, But p H H' ∧ H' a = some (.lst xs) ∧ Paired (EnV H') xs es ∧ Bag H' p cl (n + i) ∧ H' L = some (.lst ys) ∧ ys.length = i ∧ Paired (EnV H') ys less ∧ Paired LeE less (es.take i))
      ⟨[], [], Same.but sL, sL _ _ hx, Paired.imp (fun _ _ z => EnV.same sL z) hp, z.same sL, upd_same, rfl, .nil, .nil⟩ (fun i H' _ hP => ?_) (fun i x H1 ex hP => ?_) (fun H1 hP => ?_)
    · obtain ⟨_, _, _, h1, _⟩ := hP
      exact .of h1
    · obtain ⟨ys, less, b1, hx1, hp1, z1, hL1, lys, hy1, hle⟩ := hP
      obtain ⟨e, ee, hr1⟩ := Paired.at hp1 ex
      obtain ⟨t, rfl, ht⟩ := hr1
      have hi : i < xs.length := (List.getElem?_eq_some_iff.mp ex).1
      refine ⟨t, _, rfl, .of ht, rfl, _, _, rfl, _, _, rfl, rfl, rfl, yesT ?_⟩
      refine ⟨_, rfl, p, cl, n + i, 2, rfl, z1, by omega, by decide, by decide, fun H2 r b2 z2 r0 r1 => ?_⟩
      have hL2 := b2 _ _ nLp hL1
      have hy2 := Paired.imp (fun _ _ z => EnV.bagT z1 b2 z) hy1
      have hp2 := Paired.imp (fun _ _ z => EnV.bagT z1 b2 z) hp1
      have B2 := b1.trans b2
      have hx2 := b2 _ _ ap hx1
      have fin : ∀ o : Option Str, (o = none ∨ o = e.1) → ∀ t, H2 t = none → ∃ ys0, (upd H2 t (.tup [koV o, .str (actS e.2)])) L = some (.lst ys0) ∧ ys0.length < sizeLine ∧ ∃ ys' less', But p H (upd (upd H2 t (.tup [koV o, .str (actS e.2)])) L (.lst (ys0 ++ [.ref t]))) ∧ (upd (upd H2 t (.tup [koV o, .str (actS e.2)])) L (.lst (ys0 ++ [.ref t]))) a = some (.lst xs) ∧ Paired (EnV (upd (upd H2 t (.tup [koV o, .str (actS e.2)])) L (.lst (ys0 ++ [.ref t])))) xs es ∧ Bag (upd (upd H2 t (.tup [koV o, .str (actS e.2)])) L (.lst (ys0 ++ [.ref t]))) p cl (n + (i + 1)) ∧ (upd (upd H2 t (.tup [koV o, .str (actS e.2)])) L (.lst (ys0 ++ [.ref t]))) L = some (.lst ys') ∧ ys'.length = i + 1 ∧ Paired (EnV (upd (upd H2 t (.tup [koV o, .str (actS e.2)])) L (.lst (ys0 ++ [.ref t])))) ys' less' ∧ Paired LeE less' (es.take (i + 1)) := fun o ho t nt => by
        have st := same_upd (o := .tup [koV o, .str (actS e.2)]) nt
        have hLt := st _ _ hL2
        refine ⟨ys, hLt, small (by omega), ys ++ [.ref t], less ++ [(o, e.2)], fun x u nx e => ?_, ?_, ?_, ?_, upd_same, by rw [List.length_append, lys]; rfl, ?_, ?_⟩
        · rw [upd_ne (ne_of_none e nL)]
          exact st _ _ (B2 _ _ nx e)
        · rw [upd_ne aL]
          exact st _ _ hx2
        · exact Paired.imp (fun _ _ z => EnV.grow hLt (EnV.same st z)) hp2
        · exact ((z2.same st).keep (fun o e => by rw [upd_ne nLp.symm]; exact e) (fun o e => by rw [upd_ne cL]; exact e)).mono (by omega)
        · exact Paired.app (Paired.imp (fun _ _ z => EnV.grow hLt (EnV.same st z)) hy2) (.cons (EnV.grow hLt ⟨t, rfl, upd_same⟩) .nil)
        · rw [take_snoc ee]
          exact Paired.app hle (.cons ⟨rfl, ho⟩ .nil)

      refine ⟨rfl, _, rfl, ?_⟩
      by_cases c0 : r = 0
      · exact iteP (decide_eq_true (by rw [c0])) ⟨_, rfl, _, rfl, (by show 2 ≤ sizeLine; decide), fun t nt => fin e.1 (.inr rfl) t nt⟩
      · exact iteN (decide_eq_false fun z => c0 (V.int.inj z)) ⟨_, rfl, (by show 2 ≤ sizeLine; decide), fun t nt => fin none (.inl rfl) t nt⟩
    · obtain ⟨ys, less, b1, hx1, hp1, z1, hL1, lys, hy1, hle⟩ := hP
      rw [lx, List.take_length] at hle
      rw [lx] at z1
      exact q H1 L less b1 (z1.mono (by omega)) nL nLp ⟨ys, hL1, hy1⟩ hle
end
end UP

set_option Elab.async false
set_option linter.all false
set_option maxRecDepth 100000
set_option maxHeartbeats 4000000
set_option pp.maxSteps 300
namespace UP
open PySem PySem.Spec PyProof.Rows L2
/-! ### defs that call repr: no other repr is under way around them -/
structure FnG (P : Program) (w : World) (K : PySem.W.Frag) (mg : Str → Option Value) (base : Heap) (k : Nat) (f : Addr) (fd : FuncData) (ps : List Str) (sp : Sp) : Prop where
  len : ∀ vs H Q E, sp vs H Q E → vs.length = ps.length
  run : ∀ (A : Around) (outer : List Env) (s : Shared) (H : Hp) (args : Args) (us : List Value) (vs : List V) (Q : VK) (E : XK), Room k A → A.guards = some [] → Env0 P w K mg base A outer s H → BindsTo s fd args (ps.zip us) → Vals vs us → sp vs H Q E →
    codeAny (model P w) A (.call (.ref f) args) (CR CX0 outer P w H s Q E) s
def HasG (P : Program) (w : World) (K : PySem.W.Frag) (mg : Str → Option Value) (base : Heap) (k : Nat) (x : Str) (ps : List Str) (sp : Sp) : Prop :=
  ∃ f fd, mg x = some (.ref f) ∧ PySem.W.keepIn K (.ref f) = true ∧ Binds K fd ps [] ∧ FnG P w K mg base k f fd ps sp
section
variable {P : Program} {w : World} {K : PySem.W.Frag} {mg : Str → Option Value} {base : Heap}
theorem hasG_of {x : Str} {st : Stmt} {ps N : List Str} {k : Nat} {sp : Sp} (D : Df K mg x st) (S : FnScope N ps (defScope st))
    (hb : ∀ (kV doc pm : Value) (an : Option Addr) (cdv ct : Value) (us : List Value), us.length = ps.length → bindArgs (PySem.W.fnOf x x (defArgs st) (defBody st) (defScope st) .none kV doc pm an cdv ct) ⟨us, []⟩ = pure (ps.zip us))
    (len : ∀ vs H Q E, sp vs H Q E → vs.length = ps.length)
    (body : ∀ (f : Addr) (cdv : Value) (A : Around) (outer : List Env) (s : Shared) (H : Hp) (vs : List V) (Q : VK) (E : XK), Room k (A.deeper (envOfC x (defScope st) s.heap.objs.size f cdv)) → A.guards = some [] → sp vs H Q E →
      ∃ t, PSs (cxOf CX0 P w K mg base N x (defScope st) f cdv A outer s H E).nox (defBody st) t ∧ t { nx := fun _ H' => Q .non H', rt := Q } (start N vs) H) :
    HasG P w K mg base (k + 1) x ps sp := by
  obtain ⟨f, fd, g, F⟩ := D
  refine ⟨f, fd, g, F.kp, F.binds hb, len, ?_⟩
  obtain ⟨oc, od, kV, doc, pm, an, cdv, ct, osl, rfl, lk, hcd⟩ := F.ex
  intro A out s H args us vs Q E hr gd e0 hb rv hsp
  have inS : K.In s.heap := e0.mod.kin.keeps fun b o z => (e0.bs b o z).1
  have noL : s.heap.NoLimit := e0.mod.nolimit.keeps fun b o z => (e0.bs b o z).1
  have kinds : ∀ y ∈ ps.zip us, (defScope st).names.lookup y.1 = some .local ∨ ((defScope st).names.lookup y.1 = some .cell ∧ ((cellsFrom (s.heap.objs.size + 1) (defScope st).names []).lookup y.1).isSome = true) := by
    intro y hy
    rcases S.par y.1 (List.of_mem_zip (a := y.1) (b := y.2) hy).1 with z | z
    · exact Or.inl z
    · exact Or.inr ⟨z, PySem.W.cellsFrom_some _ _ _ (Or.inl z)⟩
  refine codeAny_call_function hr.depth (inS _ _ lk) rfl S.co S.gen rfl (PySem.W.codeRec_of inS hcd) (hb _ _ _ _ ?_)
  refine wpAny_newFunctionEnv_cells S.kind kinds fun env he s1 inC => ?_
  subst he
  refine ⟨noL.keeps inC.toInCall.keep, codeAny_func ?_⟩
  obtain ⟨t, ht0, hq⟩ := body f cdv A out s H vs Q E (hr.deeper _) gd hsp
  have ht := PSs.nox ht0
  have I0 : Inv (cxOf CX0 P w K mg base N x (defScope st) f cdv A out s H E) [] (start N vs) H s1 := inv_start S hr.hd e0 (len _ _ _ _ hsp) rv inC
  refine wpAny_mono (ht.run [] s1 (start N vs) H _ I0 hq) (fun fl s2 h2 => ?_) fun _ _ z => z
  cases fl with
  | next =>
    obtain ⟨σ2, H2, J, q2⟩ := h2
    exact ⟨V.non, H2, J.os, J.bare, J.base, J.hok, rfl, q2⟩
  | ret u =>
    obtain ⟨v, σ2, H2, J, rv2, q2⟩ := h2
    exact ⟨v, H2, J.os, J.bare, J.base, J.hok, rv2, q2⟩
  | brk =>
    obtain ⟨_, _, _, z⟩ := h2
    exact z.elim
  | cont =>
    obtain ⟨_, _, _, z⟩ := h2
    exact z.elim
end
section
variable {X : Cx}
theorem pe_callGH {k : Nat} {x : Str} {ps : List Str} {sp : Sp} {p pos : Pos} {e : Expr} {es : List Expr} {t : TA} (G : HasG X.prog X.w X.K X.mg X.base k x ps sp) (gd : X.A.guards = some []) (hr : Room k X.A) (hg : Gl X x) (ha : PA X (e :: es) t)
    (hdb : (x == ("__debug__" : Str)) = false := by decide) (he : starEach (e :: es) X.env = (false, eval e X.env) :: starEach es X.env := by rfl) (hpl : (backTo pos (starEach es X.env)).any (·.1) = false := by rfl) :
    PE X (.Call (.Name x p) (e :: es) [] pos) (tCall sp [] E0 t) := by
  obtain ⟨f, fd, g, kp, hb, F⟩ := G
  refine ⟨fun pins s σ H Q I h => ?_⟩
  refine wpAny_Call_Name_kw (ld_glob I hg g ?_ hdb)
  refine PySem.W.callWith_K (h₀ := X.base) I.ok.mod.kin kp (thn (ha.run pos pins s σ H _ I h) fun us s1 ⟨vs, H1, I1, r, q⟩ => ⟨I1.kIn, ?_⟩) he hpl
  have r2 : Vals (vs ++ []) (us ++ []) := r.append .nil
  have hl : (us ++ []).length = ps.length := by rw [← r2.length]; exact F.len _ _ _ _ q
  refine wpAny_call (codeAny_mono (F.run X.A X.stack s1 H1 ⟨us, []⟩ (us ++ []) (vs ++ []) Q E0 hr gd I1.env0 (hb s1 us I1.kIn hl) r2 q) fun r s' hq => ?_)
  cases r with
  | error e => exact pass0 pins σ H1 s1 e s' I1 hq
  | ok fl =>
    cases fl with
    | ret u => exact I1.after hq
    | next => exact False.elim hq
    | brk => exact False.elim hq
    | cont => exact False.elim hq
/-- repr of a list, a tuple or None -/
def rReprV (K : PySem.W.Frag) : List V → Hp → VK → Prop := fun xs H Q => (xs = [.non] ∧ Q (.str (PyData.none).shown) H) ∨ rRepr K xs H Q
theorem call_reprV {X : Cx} (hg : X.A.guards = some []) (hu : X.A.units + 70 < cLine) : CallR X (.builtin "repr") (rReprV X.K) := by
  intro pins s σ H xs us Q I r h
  rcases h with ⟨rfl, q⟩ | h
  · obtain ⟨u, rfl, ru⟩ := vals1 r
    obtain rfl : u = Value.none := ru
    exact PySem.P.repr_of_none ⟨.str (PyData.none).shown, H, I.kept (t' := s.toks + 1) (fun _ _ e => e), ⟨s.toks, rfl⟩, q⟩
  · exact call_reprD hg hu pins s σ H xs us Q I r h
end
end UP

set_option Elab.async false
set_option linter.all false
set_option maxRecDepth 100000
set_option maxHeartbeats 4000000
set_option pp.maxSteps 600
namespace UP
open PySem PySem.Spec PyProof.Rows L2
theorem merge_hitT {k : Key} {v : V} : ∀ (kvs acc : List (Key × V)), (∀ kv ∈ kvs, kv.1 = k → kv.2 = v) → (valV acc k = some v ∨ ∃ kv ∈ kvs, kv.1 = k) → valV (mergeK acc kvs) k = some v
  | [], acc, _, h => by
    rcases h with h | ⟨_, h, _⟩
    · exact h
    · cases h
  | x :: t, acc, hv, h => by
    show valV (mergeK (putK acc x.1 x.2) t) k = some v
    refine merge_hitT t _ (fun kv hkv => hv kv (List.mem_cons_of_mem _ hkv)) ?_
    rw [valV_put]
    by_cases e : k = x.1
    · rw [if_pos e]
      exact .inl (by rw [hv x (List.mem_cons_self ..) e.symm])
    · rw [if_neg e]
      rcases h with h | ⟨kv, h, ek⟩
      · exact .inl h
      · rcases List.mem_cons.mp h with z | z
        · rw [z] at ek
          exact absurd ek.symm e
        · exact .inr ⟨kv, z, ek⟩
/-- the new name of a kind -/
def nmS (ks ns : List Str) (k : Str) : Str := ns.getD (ks.idxOf k) ""
theorem nm_at : ∀ {ks ns : List Str}, ks.Nodup → ∀ {i : Nat} {k n : Str}, ks[i]? = some k → ns[i]? = some n → nmS ks ns k = n := by
  intro ks ns nd i k n hk hn
  obtain ⟨h1, e1⟩ := List.getElem?_eq_some_iff.mp hk
  have := List.Nodup.idxOf_getElem nd i h1
  rw [e1] at this
  unfold nmS
  rw [this, List.getD_eq_getElem?_getD, hn]
  rfl
theorem nm_map {ks ns : List Str} (nd : ks.Nodup) (l : ks.length = ns.length) : ks.map (nmS ks ns) = ns := by
  refine List.ext_getElem? fun i => ?_
  rw [List.getElem?_map]
  cases h : ks[i]? with
  | none =>
    have := List.getElem?_eq_none_iff.mp h
    exact (List.getElem?_eq_none (by omega)).symm
  | some k =>
    have hl := (List.getElem?_eq_some_iff.mp h).1
    have h2 : ns[i]? = some ns[i] := List.getElem?_eq_getElem (by omega)
    rw [h2]
    exact congrArg some (nm_at nd h h2)
theorem nm_inj {ks ns : List Str} (nd : ks.Nodup) (nn : ns.Nodup) (l : ks.length = ns.length) : Inj (nmS ks ns) ks := by
  intro x hx y hy e
  obtain ⟨i, hi⟩ := List.getElem?_of_mem hx
  obtain ⟨j, hj⟩ := List.getElem?_of_mem hy
  have li := (List.getElem?_eq_some_iff.mp hi).1
  have lj := (List.getElem?_eq_some_iff.mp hj).1
  have h1 : ns[i]? = some ns[i] := List.getElem?_eq_getElem (by omega)
  have h2 : ns[j]? = some ns[j] := List.getElem?_eq_getElem (by omega)
  rw [nm_at nd hi h1, nm_at nd hj h2] at e
  have a1 := List.Nodup.idxOf_getElem nn i (by omega)
  have a2 := List.Nodup.idxOf_getElem nn j (by omega)
  rw [e, a2] at a1
  rw [a1] at hj
  rw [hi] at hj
  exact Option.some.inj hj
def kvN (ks ns : List Str) : List (Key × V) := (ks.zip ns).map fun q => (Sum.inr q.1, V.str q.2)
theorem kv_get {ks ns : List Str} (nd : ks.Nodup) (l : ks.length = ns.length) {k : Str} (hk : k ∈ ks) : valV (mergeK [] (kvN ks ns)) (Sum.inr k) = some (V.str (nmS ks ns k)) := by
  have at_ : ∀ q ∈ ks.zip ns, nmS ks ns q.1 = q.2 := fun q hq => by
    obtain ⟨i, hi⟩ := List.getElem?_of_mem hq
    obtain ⟨h1, h2⟩ := List.getElem?_zip_eq_some.mp hi
    exact nm_at nd h1 h2
  refine merge_hitT _ _ (fun kv hkv e => ?_) (.inr ?_)
  · obtain ⟨q, hq, rfl⟩ := List.mem_map.mp hkv
    have e : q.1 = k := Sum.inr.inj e
    rw [← e, at_ q hq]
  · obtain ⟨i, hi⟩ := List.getElem?_of_mem hk
    have li := (List.getElem?_eq_some_iff.mp hi).1
    refine ⟨(Sum.inr k, V.str ns[i]), List.mem_map.mpr ⟨(k, ns[i]), ?_, rfl⟩, rfl⟩
    exact List.mem_of_getElem? (zip_at hi (List.getElem?_eq_getElem (by omega)))
theorem paired_mapR {α β γ δ : Type} {F : α → γ → Prop} {G : α → δ → Prop} {g : β → γ} {h : β → δ} (i : ∀ a b, F a (g b) → G a (h b)) : ∀ {xs : List α} {l : List β}, Paired F xs (l.map g) → Paired G xs (l.map h)
  | _, [], p => by cases p; exact .nil
  | _, _ :: _, p => by
    cases p with
    | cons a b => exact .cons (i _ _ a) (paired_mapR i b)
def dEn (p : Str × Bool) : PyData := .tuple [.str p.1, .str (actS p.2)]
theorem recI_zip : ∀ (its : List Str) (w : Str) (c : Nat), recI w c its = (its.zip (actI w c its)).map fun p => (some p.1, p.2)
  | [], _, _ => rfl
  | k :: t, w, c => congrArg ((some k, staysI w c k) :: ·) (recI_zip t _ _)
theorem dp_rec {K : PySem.W.Frag} {H : Hp} : ∀ {l : List (Str × Bool)} {xs : List V}, Paired (EnV H) xs (l.map fun p => (some p.1, p.2)) → DpAll K H xs (l.map dEn)
  | [], _, p => by cases p; exact .nil
  | q :: t, _, p => by
    cases p with
    | cons a b =>
      obtain ⟨u, rfl, hu⟩ := a
      exact .cons (.tup (.of hu) (.cons (.str _) (.cons (.str _) .nil))) (dp_rec b)
theorem dp_zip {K : PySem.W.Frag} {H : Hp} : ∀ {l : List (Str × Bool)} {ts : List Addr}, Paired (fun (t : Addr) (q : V × V) => H t = some (.tup [q.1, q.2])) ts (l.map fun p => (V.str p.1, V.str (actS p.2))) → DpAll K H (ts.map V.ref) (l.map dEn)
  | [], _, p => by cases p; exact .nil
  | q :: t, _, p => by
    cases p with
    | cons a b => exact .cons (.tup (.of a) (.cons (.str _) (.cons (.str _) .nil))) (dp_zip b)
theorem nice_rec {l : List (Str × Bool)} (h : ∀ p ∈ l, KindOk p.1) (l4 : l.length ≤ 400) : Nice 7600 2 (.list (l.map dEn)) := by
  refine (nice_list (w := 18) (n := 1) (ds := l.map dEn) fun d hd => ?_).mono (by rw [List.length_map]; omega) (Nat.le_refl _)
  obtain ⟨p, hp, rfl⟩ := List.mem_map.mp hd
  refine (nice_tup (w := 8) (n := 0) (ds := [.str p.1, .str (actS p.2)]) fun d hd => ?_).mono (by show (8 + 1) * 2 ≤ 18; decide) (Nat.le_refl _)
  simp only [List.mem_cons, List.not_mem_nil, or_false] at hd
  rcases hd with e | e
  · rw [e]; exact nice_str (h p hp)
  · rw [e]
    refine nice_str ?_
    cases p.2 <;> decide +kernel
theorem eqvS_refl : ∀ l : List Str, PyData.eqv (.list (l.map PyData.str)) (.list (l.map PyData.str)) = true := by
  intro l
  have : ∀ l : List Str, PyData.eqvAll (l.map PyData.str) (l.map PyData.str) = true := by
    intro l
    induction l with
    | nil => simp [PyData.eqvAll]
    | cons x t ih => simp [PyData.eqvAll, PyData.eqv, ih]
  simp [PyData.eqv, this l]
section
variable {P : Program} {w : World} {K : PySem.W.Frag} {mg : Str → Option Value} {base : Heap}
/-! _law_named: slots 0:record 1:old 2:new 3:names 4:kind 5:action -/
abbrev s_law_named : Stmt := topS 55
theorem sc_law_named : FnScope ["record", "old", "new", "names", "kind", "action"] ["record", "old", "new"] (defScope s_law_named) := ⟨rfl, rfl, rfl, by decide +kernel, rfl, by decide +kernel, by decide +kernel⟩
def sp_law_named : Sp := fun vs H Q _ => ∃ (a b c : Addr) (es : List En) (ks ns : List Str), vs = [.ref a, .ref b, .ref c] ∧ Rec H a es ∧ es.length ≤ 400 ∧ H b = some (.lst (ks.map V.str)) ∧ H c = some (.lst (ns.map V.str)) ∧ ks.length = ns.length ∧ ks.length ≤ 12 ∧ ks.Nodup ∧ InK ks es ∧
  ∀ H' p es', Same H H' → H p = none → Rec H' p es' → Paired (ReN (nmS ks ns)) es' es → Q (.ref p) H'
theorem ok_law_named (D : Df K mg "_law_named" s_law_named) (T : Tx mg) : Has P w K mg base 1 "_law_named" ["record", "old", "new"] sp_law_named := by
  refine has_of D sc_law_named (fun _ _ _ _ _ _ us hl => match us, hl with | [_, _, _], _ => rfl) (fun vs H Q E h => ?_) (fun f cdv A outer s₀ H vs Q E hr h => ?_)
  · obtain ⟨_, _, _, _, _, _, rfl, _⟩ := h
    rfl
  · obtain ⟨a, b, c, es, ks, ns, rfl, ⟨xs, hx, hp⟩, l4, hb, hc, lk, l12, nd, ik, q⟩ := h
    have lx := Paired.len hp
    refine ⟨_, (pss_cons (ps_set (i := 3) sc_law_named.nd rfl (by first | exact Or.inl rfl | exact Or.inr rfl) (pe_callTy (call_dictP rfl) (by rfl) T.n_dict (by decide +kernel) (pa_cons (pe_listZip (by rfl) (by rfl) T.n_list (by rfl) T.n_zip (pa_cons (pv 1) (pa_cons (pv 2) pa_nil))) pa_nil)))
    (pss_one (ps_ret (pe_lc (own := [("kind", 4), ("action", 5)]) rfl sc_law_named.nd (pi_list (pv 0)) (blkOk_by (N := ["record", "old", "new", "names", "kind", "action"]) (sc := defScope s_law_named) (by decide +kernel)) (fun _ _ _ _ _ => (pg_tupK (K := K) (n := 2) rfl rfl (pgs_cons (pg_name (i := 4) sc_law_named.nd rfl (by first | exact Or.inl rfl | exact Or.inr rfl)) (pgs_cons (pg_name (i := 5) sc_law_named.nd rfl (by first | exact Or.inl rfl | exact Or.inr rfl)) pgs_nil)))) (fun _ _ _ _ _ => pts_nil) (fun _ _ _ _ _ => (pe_tup (pa_cons (pe_ifExp (pt_cmpR op_isN (pv 4) pe_non (nomark _)) pe_non (pe_dget (hu_of hr) (pv 3) (pv 4) (fun _ _ => rfl))) (pa_cons (pv 5) pa_nil)))))))), ?_⟩
    refine ⟨_, rfl, _, rfl, b, _, c, _, rfl, hb, hc, by rw [List.length_map, List.length_map]; exact lk, fun H1 p ts s1 np nts hpl hts => ?_⟩
    rw [List.zip_map] at hts
    refine ⟨p, ts, kvN ks ns, rfl, .of hpl, paired_mapR (fun t q h => .of h) hts, fun d nd1 => ?_⟩
    have sd := same_upd (o := .dK (mergeK [] (kvN ks ns))) nd1
    have hd := upd_same (H := H1) (a := d) (o := .dK (mergeK [] (kvN ks ns)))
    have s2 := s1.trans sd
    show tSeq _ _ _ _ (upd H1 d (.dK (mergeK [] (kvN ks ns))))
    generalize upd H1 d (.dK (mergeK [] (kvN ks ns))) = H2 at *
    refine ⟨_, rfl, a, rfl, ⟨xs, .of (s2 _ _ hx)⟩, fun L nL => lc_list (K := K) (a := a) (xs := xs) (fun i H' => Same H2 H' ∧ ∃ ys es', H' L = some (.lst ys) ∧ ys.length = i ∧ Paired (EnV H') ys es' ∧ Paired (ReN (nmS ks ns)) es' (es.take i)) ⟨same_upd nL, [], [], upd_same, rfl, .nil, .nil⟩ (fun i H' _ p => .of (p.1 _ _ (s2 _ _ hx))) (fun i x H3 ex p => ?_) (fun H3 p => ?_)⟩
    · obtain ⟨sm, ys, es', hL, ly, hy, hre⟩ := p
      obtain ⟨e, ee, hr1⟩ := Paired.at hp ex
      obtain ⟨t, rfl, ht⟩ := EnV.same (s2.trans sm) hr1
      have hi : i < xs.length := (List.getElem?_eq_some_iff.mp ex).1
      refine ⟨t, _, rfl, .of ht, rfl, _, _, rfl, _, _, rfl, rfl, rfl, yesT ?_⟩
      have fin : ∀ o : Option Str, o = e.1.map (nmS ks ns) → ∀ t, H3 t = none → ∃ ys0, (upd H3 t (.tup [koV o, .str (actS e.2)])) L = some (.lst ys0) ∧ ys0.length < sizeLine ∧ Same H2 (upd (upd H3 t (.tup [koV o, .str (actS e.2)])) L (.lst (ys0 ++ [.ref t]))) ∧ ∃ ys' es'', (upd (upd H3 t (.tup [koV o, .str (actS e.2)])) L (.lst (ys0 ++ [.ref t]))) L = some (.lst ys') ∧ ys'.length = i + 1 ∧ Paired (EnV (upd (upd H3 t (.tup [koV o, .str (actS e.2)])) L (.lst (ys0 ++ [.ref t])))) ys' es'' ∧ Paired (ReN (nmS ks ns)) es'' (es.take (i + 1)) := fun o ho t nt => by
        have st := same_upd (o := .tup [koV o, .str (actS e.2)]) nt
        have hLt := st _ _ hL
        refine ⟨ys, hLt, small (by omega), same_grow nL (sm.trans st), ys ++ [.ref t], es' ++ [(o, e.2)], upd_same, by rw [List.length_append, ly]; rfl, ?_, ?_⟩
        · exact Paired.app (Paired.imp (fun _ _ z => EnV.grow hLt (EnV.same st z)) hy) (.cons (EnV.grow hLt ⟨t, rfl, upd_same⟩) .nil)
        · rw [take_snoc ee]
          exact Paired.app hre (.cons ⟨rfl, ho⟩ .nil)
      obtain ⟨k, c⟩ := e
      cases k with
      | none => exact ⟨_, rfl, rfl, _, rfl, iteP (decide_eq_true rfl) ⟨_, rfl, (by show 2 ≤ sizeLine; decide), fun t nt => fin none rfl t nt⟩⟩
      | some k =>
        refine ⟨_, rfl, rfl, _, rfl, iteN (decide_eq_false (fun z => by cases z)) ⟨_, rfl, _, rfl, d, .str (nmS ks ns k), rfl, .inl ⟨_, Sum.inr k, .inl (sm _ _ hd), rfl, (kv_get nd lk (ik _ (List.mem_of_getElem? ee) k rfl)).symm⟩, _, rfl, (by show 2 ≤ sizeLine; decide), fun t nt => fin (some (nmS ks ns k)) rfl t nt⟩⟩
    · obtain ⟨sm, ys, es', hL, ly, hy, hre⟩ := p
      rw [lx, List.take_length] at hre
      exact q _ _ es' (s2.trans sm) (s2.free nL) ⟨ys, hL, hy⟩ hre
/-! _law_known_right: slots 0:bag 1:kinds 2:items 3:record -/
abbrev s_law_known_right : Stmt := topS 57
theorem sc_law_known_right : FnScope ["bag", "kinds", "items", "record"] ["bag", "kinds", "items"] (defScope s_law_known_right) := ⟨rfl, rfl, rfl, by decide +kernel, rfl, by decide +kernel, by decide +kernel⟩
def sp_law_known_right : Sp := fun vs H Q _ => ∃ (p cl ka a : Addr) (n : Nat) (ks its : List Str), vs = [.ref p, .ref ka, .ref a] ∧ Bag H p cl n ∧ n ≤ 100000000 ∧ H ka = some (.lst (ks.map V.str)) ∧ ka ≠ p ∧ KsOk ks ∧ ks.Nodup ∧ H a = some (.lst (its.map V.str)) ∧ a ≠ p ∧ its.length ≤ 400 ∧ (∀ x ∈ its, x ∈ ks) ∧
  ∀ H', But p H H' → Bag H' p cl (n + 1) → Q (.bl true) H'
theorem ok_law_known_right (D : Df K mg "_law_known_right" s_law_known_right) (T : Tx mg) (G_law_either : Has P w K mg base 3 "_law_either" ["bag", "items"] sp_law_either) (G_record_of : Has P w K mg base 3 "record_of" ["items"] sp_record_of) (G_law_actions : Has P w K mg base 1 "_law_actions" ["items"] sp_law_actions)
    (G_fitting_count : Has P w K mg base 5 "fitting_count" ["kinds", "record"] sp_fitting_count) (G_certain_kinds : Has P w K mg base 5 "certain_kinds" ["kinds", "record"] sp_certain_kinds) : HasG P w K mg base 6 "_law_known_right" ["bag", "kinds", "items"] sp_law_known_right := by
  refine hasG_of D sc_law_known_right (fun _ _ _ _ _ _ us hl => match us, hl with | [_, _, _], _ => rfl) (fun vs H Q E h => ?_) (fun f cdv A outer s₀ H vs Q E hr gd h => ?_)
  · obtain ⟨_, _, _, _, _, _, _, rfl, _⟩ := h
    rfl
  · obtain ⟨p, cl, ka, a, n, ks, its, rfl, z, ln, hk, kp, kso, nd, ha, ap, l4, hin, q⟩ := h
    have ok : ∀ x ∈ its, KindOk x := fun x hx => kso.2.2.1 x (hin x hx)
    have lact : (actI "" 0 its).length = its.length := actI_len ..
    have lrec : (recI "" 0 its).length = its.length := by
      have := congrArg List.length (recI_act its "" 0)
      rw [List.length_map, lact] at this
      exact this
    refine ⟨_, (pss_cons (ps_set (i := 3) sc_law_known_right.nd rfl (by first | exact Or.inl rfl | exact Or.inr rfl) (pe_callH G_record_of (hr.mono (by omega)) (by rfl) (pa_cons (pe_callH G_law_either (hr.mono (by omega)) (by rfl) (pa_cons (pv 0) (pa_cons (pv 2) pa_nil))) pa_nil)))
    (pss_cons (ps_if (pt_cmpR op_ne (pe_callB (call_reprV gd (room70 hr)) (by rfl) T.n_repr (by decide +kernel) (pa_cons (pv 3) pa_nil)) (pe_callB (call_reprV gd (room70 hr)) (by rfl) T.n_repr (by decide +kernel) (pa_cons (pe_listZip (by rfl) (by rfl) T.n_list (by rfl) T.n_zip (pa_cons (pv 2) (pa_cons (pe_callH G_law_actions (hr.mono (by omega)) (by rfl) (pa_cons (pv 2) pa_nil)) pa_nil))) pa_nil)) (nomark _)) (pss_one (ps_ret pe_bl)) pss_nil)
    (pss_one (ps_ret (pe_and (pe_cmpR op_eq (pe_callH G_fitting_count (hr.mono (by omega)) (by rfl) (pa_cons (pv 1) (pa_cons (pv 3) pa_nil))) pe_int (nomark _)) (pe_one (pe_cmpR (op_eqD hr.units) (pe_callH G_certain_kinds (hr.mono (by omega)) (by rfl) (pa_cons (pv 1) (pa_cons (pv 3) pa_nil))) (pv 2) (nomark _)))))))), ?_⟩
    refine ⟨_, rfl, _, rfl, p, cl, a, n, its.map V.str, rfl, z, by omega, .inl ha, ap, fun H1 i1 b1 z1 ip hi1 => ⟨i1, its, rfl, hi1, l4, ok, fun H2 r s2 nr hrec => ?_⟩⟩
    obtain ⟨xs, hr2, hxs⟩ := hrec
    have ha2 := s2 _ _ (b1 _ _ ap ha)
    have hk2 := s2 _ _ (b1 _ _ kp hk)
    have nic := nice_rec (l := its.zip (actI "" 0 its)) (fun q hq => ok _ (List.of_mem_zip (a := q.1) (b := q.2) hq).1) (by rw [List.length_zip]; omega)
    obtain ⟨f1, f2, f3⟩ := nic.fits (by decide) (by decide)
    have dr : Dp K H2 (.ref r) (.list ((its.zip (actI "" 0 its)).map dEn)) := .lst (.of hr2) (dp_rec (by rw [← recI_zip]; exact hxs))
    refine ⟨_, rfl, .inr ⟨r, _, rfl, dr, f1, f2, f3, ?_⟩⟩
    refine ⟨_, rfl, _, rfl, a, its, rfl, ha2, l4, fun H3 b s3 nb hb => ?_⟩
    refine ⟨a, _, b, _, rfl, s3 _ _ ha2, hb, by rw [List.length_map, List.length_map, lact], fun H4 L ts s4 nL nts hL hts => ?_⟩
    rw [List.zip_map] at hts
    refine .inr ⟨L, _, rfl, .lst (.of hL) (dp_zip hts), f1, f2, f3, rfl, _, rfl, iteN (by rw [decide_eq_true rfl]; rfl) ?_⟩
    have s24 := s3.trans s4
    have hk4 := s24 _ _ hk2
    have hrec4 : Rec H4 r (recI "" 0 its) := Rec.same s24 ⟨xs, hr2, hxs⟩
    have fit := recI_fit its "" 0
    have ik := inK_of fit hin
    refine ⟨_, rfl, _, rfl, ka, .ref r, ks, _, rfl, .inl hk4, kso, hrec4.dress, ik, by rw [lrec]; exact l4, fun H5 s5 => ?_⟩
    rw [cnt_full fit hin nd (recI_known its "" 0)]
    refine ⟨rfl, _, rfl, iteP (decide_eq_true rfl) ?_⟩
    refine ⟨_, rfl, _, rfl, ka, .ref r, ks, _, rfl, .inl (s5 _ _ hk4), kso, (hrec4.same s5).dress, ik, by rw [lrec]; exact l4, cf_none fit hin, opts_ne (eps_fit fit) hin, fun H6 c s6 nc hc => ?_⟩
    rw [cer_full (recI_known its "" 0), recI_kind, List.map_map] at hc
    have ha6 := s6 _ _ (s5 _ _ (s24 _ _ ha2))
    refine ⟨_, rfl, .list (its.map PyData.str), .list (its.map PyData.str), .lst (.of (show H6 c = some (.lst (its.map V.str)) from hc)) (dp_strl _), .lst (.of ha6) (dp_strl _), shaped_strl ok, shaped_strl ok, ?_⟩
    rw [eqvS_refl]
    have sA : Same H1 H6 := s2.trans (s24.trans (s5.trans s6))
    exact q _ (b1.trans (Same.but sA)) (z1.same sA)
end
end UP

set_option Elab.async false
set_option linter.all false
set_option maxRecDepth 100000
set_option maxHeartbeats 4000000
set_option pp.maxSteps 600
namespace UP
open PySem PySem.Spec PyProof.Rows L2
def wdC : Cf → Str
  | .lev _ => "level"
  | .thr w _ _ => w
def idC : Cf → List Nat
  | .lev l => [l]
  | .thr _ a l => [a, l]
theorem cfL_eq (c : Cf) : cfL c = .str (wdC c) :: (idC c).map nvV := by cases c <;> rfl
theorem wd_sh (n : Nat) (c : Cf) : wdC (shC n c) = wdC c := by cases c <;> rfl
theorem id_sh (n : Nat) (c : Cf) : idC (shC n c) = (idC c).map (· + n) := by cases c <;> rfl
theorem kind_level : KindOk "level" := by decide +kernel
theorem kind_waits : KindOk "waits" := by decide +kernel
theorem kind_leaves : KindOk "leaves" := by decide +kernel
theorem kind_all : KindOk "all" := by decide +kernel
theorem cfs_word {ks : List Str} {es : List En} {f l : Nat} {c : Cf} (h : c ∈ cfsE ks es f l) : KindOk (wdC c) := by
  unfold cfsE at h
  split at h
  · rw [List.mem_singleton.mp h]
    exact kind_level
  · rcases List.mem_append.mp h with h | h
    · unfold btwE at h
      rcases List.mem_append.mp h with h | h
      · obtain ⟨a, _, rfl⟩ := List.mem_map.mp h
        exact kind_waits
      · obtain ⟨a, _, rfl⟩ := List.mem_map.mp h
        exact kind_leaves
    · split at h
      · rw [List.mem_singleton.mp h]
        exact kind_all
      · cases h
theorem cfGo_word {ks : List Str} {es : List En} : ∀ {L : List (List En)} {f : Nat} {c : Cf}, cfGo ks es f L = some c → KindOk (wdC c)
  | [], _, _, h => by cases h
  | ep :: r, f, c, h => by
    rw [cfGo] at h
    rcases Option.or_eq_some_iff.mp h with h | ⟨_, h⟩
    · unfold cfEp at h
      obtain ⟨j, _, hj⟩ := List.exists_of_findSome?_eq_some h
      exact cfs_word (List.mem_of_mem_head? hj)
    · exact cfGo_word h
theorem cfE_word {ks : List Str} {es : List En} {c : Cf} (h : cfE ks es = some c) : KindOk (wdC c) := cfGo_word h
def dCf (c : Cf) : PyData := .tuple (.str (wdC c) :: (idC c).map fun n : Nat => .int (n : Int))
theorem dp_ints {K : PySem.W.Frag} {H : Hp} : ∀ l : List Nat, DpAll K H (l.map nvV) (l.map fun n : Nat => .int (n : Int))
  | [] => .nil
  | n :: t => .cons (.int _) (dp_ints t)
theorem dp_cf {K : PySem.W.Frag} {H : Hp} {t : Addr} {c : Cf} (h : H t = some (.tup (cfL c))) : Dp K H (.ref t) (dCf c) := by
  rw [cfL_eq] at h
  exact .tup (.of h) (.cons (.str _) (dp_ints _))
theorem can_cf {c : Cf} (h : KindOk (wdC c)) : (dCf c).canLay0 = true ∧ SeqAt.shaped (dCf c) = true := by
  have g : ∀ l : List Nat, PyData.canLayAll0 (l.map fun n : Nat => PyData.int (n : Int)) = true ∧ PyData.depthAll (l.map fun n : Nat => PyData.int (n : Int)) ≤ 1 := by
    intro l
    induction l with
    | nil => exact ⟨by simp [PyData.canLayAll0], by simp [PyData.depthAll]⟩
    | cons n t ih => exact ⟨by rw [List.map_cons, PyData.canLayAll0, ih.1]; simp [PyData.canLay0], by rw [List.map_cons, PyData.depthAll]; exact Nat.max_le.mpr ⟨by simp [PyData.depth], ih.2⟩⟩
  obtain ⟨g1, g2⟩ := g (idC c)
  have c1 : (dCf c).canLay0 = true := by
    unfold dCf
    rw [PyData.canLay0, PyData.canLayAll0, g1]
    simp [PyData.canLay0, h.str]
  refine ⟨c1, ?_⟩
  unfold SeqAt.shaped
  rw [c1]
  have : (dCf c).depth ≤ 3 := by
    unfold dCf
    rw [PyData.depth, PyData.depthAll]
    have : (PyData.str (wdC c)).depth ≤ 1 := by simp [PyData.depth]
    omega
  exact decide_eq_true (by omega)
theorem cf_cut1 (c : Cf) : cutV (cfL c) none (some 1) = [.str (wdC c)] := by cases c <;> rfl
theorem cf_cut2 (c : Cf) : cutV (cfL c) (some 1) none = (idC c).map nvV := by cases c <;> rfl
theorem cf_whole1 (c : Cf) : ¬ (HT.sIx (cfL c).length 0 none = 0 ∧ HT.sIx (cfL c).length (cfL c).length (some 1) = (cfL c).length) := by
  cases c with
  | lev l => show ¬ (HT.sIx 2 0 none = 0 ∧ HT.sIx 2 2 (some 1) = 2); decide
  | thr w a l => show ¬ (HT.sIx 3 0 none = 0 ∧ HT.sIx 3 3 (some 1) = 3); decide
theorem cf_whole2 (c : Cf) : ¬ (HT.sIx (cfL c).length 0 (some 1) = 0 ∧ HT.sIx (cfL c).length (cfL c).length none = (cfL c).length) := by
  cases c with
  | lev l => show ¬ (HT.sIx 2 0 (some 1) = 0 ∧ HT.sIx 2 2 none = 2); decide
  | thr w a l => show ¬ (HT.sIx 3 0 (some 1) = 0 ∧ HT.sIx 3 3 none = 3); decide
theorem inK_app {ks : List Str} {A B : List En} (h : InK ks A) (g : InK ks B) : InK ks (A ++ B) := fun e he => by
  rcases List.mem_append.mp he with z | z
  · exact h e z
  · exact g e z
theorem cnt_lt {ks : List Str} {es : List En} (h0 : 0 < ks.length) (h : ks.length ≤ 12) (l4 : es.length ≤ 400) : cntE ks es < 2 ^ 1700 := prod_lt (numE_le h0 h) (by rw [numE_len]; exact l4)
section
variable {P : Program} {w : World} {K : PySem.W.Frag} {mg : Str → Option Value} {base : Heap}
/-! _law_after_right: slots 0:kinds 1:ahead 2:record 3:whole 4:due 5:index -/
abbrev s_law_after_right : Stmt := topS 58
theorem sc_law_after_right : FnScope ["kinds", "ahead", "record", "whole", "due", "index"] ["kinds", "ahead", "record"] (defScope s_law_after_right) := ⟨rfl, rfl, rfl, by decide +kernel, rfl, by decide +kernel, by decide +kernel⟩
def sp_law_after_right : Sp := fun vs H Q _ => ∃ (ka a b : Addr) (ks : List Str) (A B : List En), vs = [.ref ka, .ref a, .ref b] ∧ H ka = some (.lst (ks.map V.str)) ∧ KsOk ks ∧ Rec H a A ∧ Rec H b B ∧ A.length + B.length ≤ 400 ∧ InK ks A ∧ InK ks B ∧ cntE ks (A ++ B) = cntE ks A * cntE ks B ∧ cfE ks (A ++ B) = (cfE ks B).map (shC A.length) ∧
  ∀ H', Same H H' → Q (.bl true) H'
theorem ok_law_after_right (D : Df K mg "_law_after_right" s_law_after_right) (T : Tx mg) (G_fitting_count : Has P w K mg base 5 "fitting_count" ["kinds", "record"] sp_fitting_count) (G_conflict_of : Has P w K mg base 5 "conflict_of" ["kinds", "record"] sp_conflict_of) : Has P w K mg base 6 "_law_after_right" ["kinds", "ahead", "record"] sp_law_after_right := by
  refine has_of D sc_law_after_right (fun _ _ _ _ _ _ us hl => match us, hl with | [_, _, _], _ => rfl) (fun vs H Q E h => ?_) (fun f cdv A₀ outer s₀ H vs Q E hr h => ?_)
  · obtain ⟨_, _, _, _, _, _, rfl, _⟩ := h
    rfl
  · obtain ⟨ka, a, b, ks, A, B, rfl, hk, kso, ⟨xs, hx, hxp⟩, ⟨ys, hy, hyp⟩, l4, ikA, ikB, hcn, hcf, q⟩ := h
    have lx := Paired.len hxp
    have ly := Paired.len hyp
    refine ⟨_, (pss_cons (ps_set (i := 3) sc_law_after_right.nd rfl (by first | exact Or.inl rfl | exact Or.inr rfl) (pe_op op_cat (pv 1) (pv 2)))
    (pss_cons (ps_if (pt_cmpR op_ne (pe_callH G_fitting_count (hr.mono (by omega)) (by rfl) (pa_cons (pv 0) (pa_cons (pv 3) pa_nil))) (pe_op op_mulW (pe_callH G_fitting_count (hr.mono (by omega)) (by rfl) (pa_cons (pv 0) (pa_cons (pv 1) pa_nil))) (pe_callH G_fitting_count (hr.mono (by omega)) (by rfl) (pa_cons (pv 0) (pa_cons (pv 2) pa_nil)))) (nomark _)) (pss_one (ps_ret pe_bl)) pss_nil)
    (pss_cons (ps_set (i := 4) sc_law_after_right.nd rfl (by first | exact Or.inl rfl | exact Or.inr rfl) (pe_callH G_conflict_of (hr.mono (by omega)) (by rfl) (pa_cons (pv 0) (pa_cons (pv 2) pa_nil))))
    (pss_cons (ps_if (pt_cmpR op_notN (pv 4) pe_non (nomark _)) (pss_one (ps_set (i := 4) sc_law_after_right.nd rfl (by first | exact Or.inl rfl | exact Or.inr rfl) (pe_op op_catT (pe_slice sl_tup (pv 4) po_none (po_some pe_int)) (pe_callTy call_tuple_of (by rfl) T.n_tuple (by decide +kernel) (pa_cons (pe_lc (own := [("index", 5)]) rfl sc_law_after_right.nd (pi_tup (pe_slice sl_tup (pv 4) (po_some pe_int) po_none)) (blkOk_by (N := ["kinds", "ahead", "record", "whole", "due", "index"]) (sc := defScope s_law_after_right) (by decide +kernel)) (fun _ _ _ _ _ => (pg_name (i := 5) sc_law_after_right.nd rfl (by first | exact Or.inl rfl | exact Or.inr rfl))) (fun _ _ _ _ _ => pts_nil) (fun _ _ _ _ _ => (pe_op op_add (pv 5) (pe_callB (call_len_seqK (K := K) rfl) (by rfl) T.n_len (by decide +kernel) (pa_cons (pv 1) pa_nil))))) pa_nil))))) pss_nil)
    (pss_one (ps_ret (pe_cmpR (op_eqD hr.units) (pe_callH G_conflict_of (hr.mono (by omega)) (by rfl) (pa_cons (pv 0) (pa_cons (pv 3) pa_nil))) (pv 4) (nomark _)))))))), ?_⟩
    refine ⟨_, rfl, _, rfl, a, b, xs, ys, rfl, rfl, hx, hy, smallE (by omega), fun p np => ?_⟩
    have s1 := same_upd (o := .lst (xs ++ ys)) np
    have hp1 : Rec (upd H p (.lst (xs ++ ys))) p (A ++ B) := ⟨_, upd_same, Paired.app (Paired.imp (fun _ _ z => EnV.same s1 z) hxp) (Paired.imp (fun _ _ z => EnV.same s1 z) hyp)⟩
    have hA1 := Rec.same s1 ⟨xs, hx, hxp⟩
    have hB1 := Rec.same s1 ⟨ys, hy, hyp⟩
    have hk1 := s1 _ _ hk
    have s1' : Same H _ := s1
    generalize upd H p (.lst (xs ++ ys)) = H1 at *
    refine ⟨_, rfl, _, rfl, ka, .ref p, ks, A ++ B, rfl, .inl hk1, kso, hp1.dress, inK_app ikA ikB, by rw [List.length_append]; exact l4, fun H2 s2 => ?_⟩
    refine ⟨_, rfl, _, rfl, ka, .ref a, ks, A, rfl, .inl (s2 _ _ hk1), kso, (hA1.same s2).dress, ikA, by omega, fun H3 s3 => ?_⟩
    have s23 := s2.trans s3
    refine ⟨_, rfl, _, rfl, ka, .ref b, ks, B, rfl, .inl (s23 _ _ hk1), kso, (hB1.same s23).dress, ikB, by omega, fun H4 s4 => ?_⟩
    have s24 := s23.trans s4
    have k0 := kso.1
    have k12 := kso.2.1
    refine ⟨_, _, rfl, rfl, wide_mul (a := 1700) (b := 1700) (by rw [Int.natAbs_natCast]; exact cnt_lt k0 k12 (by omega)) (by rw [Int.natAbs_natCast]; exact cnt_lt k0 k12 (by omega)) (by decide) (by decide) (by decide), rfl, _, rfl, iteN ?_ ?_⟩
    · rw [hcn, Int.natCast_mul, decide_eq_true rfl]
      rfl
    refine ⟨_, rfl, _, rfl, ka, .ref b, ks, B, rfl, .inl (s24 _ _ hk1), kso, (hB1.same s24).dress, ikB, by omega, fun H5 v s5 hv => ?_⟩
    have s25 := s24.trans s5
    dsimp only
    refine if_gen (fun σ' H' => ∃ v6, σ' = [some (.ref ka), some (.ref a), some (.ref b), some (.ref p), some v6, none] ∧ Same H5 H' ∧ CfO H' v6 ((cfE ks B).map (shC A.length))) (fun R k => ?_) (fun σ' H6 hO => ?_)
    · cases hc : cfE ks B with
      | none =>
        rw [hc] at hv k
        cases (show v = .non from hv)
        exact ⟨_, rfl, rfl, _, rfl, iteN yes_non (k _ _ ⟨.non, rfl, Same.refl _, rfl⟩)⟩
      | some c =>
        rw [hc] at hv k
        obtain ⟨t, rfl, ht⟩ := hv
        have hA5 : H5 a = some (.lst xs) := s25 _ _ (s1' _ _ hx)
        refine ⟨_, rfl, rfl, _, rfl, iteP (by rw [decide_eq_false (fun z => by cases z)]; rfl) ?_⟩
        refine ⟨_, rfl, _, rfl, t, _, rfl, .of ht, cf_whole1 c, fun p1 n1 => ?_⟩
        rw [cf_cut1]
        have sp1 := same_upd (o := .tup [.str (wdC c)]) n1
        have hp1' : (upd H5 p1 (.tup [.str (wdC c)])) p1 = some (.tup [.str (wdC c)]) := upd_same
        have ht1 := sp1 _ _ ht
        have hA6 := sp1 _ _ hA5
        generalize upd H5 p1 (.tup [.str (wdC c)]) = H6 at *
        refine ⟨_, rfl, _, rfl, t, _, rfl, .of ht1, cf_whole2 c, fun p2 n2 => ?_⟩
        rw [cf_cut2]
        have sp2 := same_upd (o := .tup ((idC c).map nvV)) n2
        have hp2' : (upd H6 p2 (.tup ((idC c).map nvV))) p2 = some (.tup ((idC c).map nvV)) := upd_same
        have hA7 := sp2 _ _ hA6
        generalize upd H6 p2 (.tup ((idC c).map nvV)) = H7 at *
        refine ⟨p2, rfl, ⟨_, .of hp2'⟩, fun L nL => lc_tup (K := K) (a := p2) (xs := (idC c).map nvV) (fun i H' => Same H7 H' ∧ H' L = some (.lst ((((idC c).take i).map (· + A.length)).map nvV))) ⟨same_upd nL, upd_same⟩ (fun i H' _ p => .of (p.1 _ _ hp2')) (fun i x H8 ex hP => ?_) (fun H8 hP => ?_)⟩
        · obtain ⟨sm, hL⟩ := hP
          rw [List.getElem?_map] at ex
          obtain ⟨m, em, rfl⟩ := Option.map_eq_some_iff.mp ex
          refine ⟨rfl, yesT ⟨_, rfl, _, rfl, a, _, rfl, .inl (.of (sm _ _ hA7)), _, _, rfl, rfl, _, hL, ?_, same_grow nL sm, ?_⟩⟩
          · simp only [List.length_map, List.length_take]
            exact small (by have : (idC c).length ≤ 2 := (by cases c <;> simp [idC]); omega)
          · rw [upd_same, take_snoc em, List.map_append, List.map_append, lx]
            rfl
        · obtain ⟨sm, hL⟩ := hP
          rw [List.length_map, List.take_length] at hL
          refine ⟨L, _, rfl, .inl ⟨.of hL, fun l nl => ?_⟩⟩
          have sl := same_upd (o := .tup (((idC c).map (· + A.length)).map nvV)) nl
          refine ⟨p1, l, _, _, rfl, rfl, .of (sl _ _ (sm _ _ (sp2 _ _ hp1'))), .of upd_same, by simp, smallE (by simp only [List.length_map, List.length_cons, List.length_nil]; have : (idC c).length ≤ 2 := (by cases c <;> simp [idC]); omega), fun z => ?_, fun _ r nr => ?_⟩
          · exfalso
            cases c <;> simp [idC] at z
          · have sr := same_upd (o := .tup ([.str (wdC c)] ++ ((idC c).map (· + A.length)).map nvV)) nr
            refine k _ _ ⟨.ref r, rfl, sp1.trans (sp2.trans (sm.trans (sl.trans sr))), r, rfl, ?_⟩
            rw [upd_same, cfL_eq, wd_sh, id_sh]
            rfl
    · obtain ⟨v6, rfl, s6, h6⟩ := hO
      have s26 := s25.trans s6
      refine ⟨_, rfl, _, rfl, ka, .ref p, ks, A ++ B, rfl, .inl (s26 _ _ hk1), kso, (hp1.same s26).dress, inK_app ikA ikB, by rw [List.length_append]; exact l4, fun H7 v7 s7 h7 => ?_⟩
      rw [hcf] at h7
      have sA : Same H H7 := s1.trans (s26.trans s7)
      cases hc : cfE ks B with
      | none =>
        rw [hc] at h6 h7
        cases (show v6 = .non from h6)
        cases (show v7 = .non from h7)
        refine ⟨_, rfl, .none, .none, .non, .non, (by decide +kernel), (by decide +kernel), ?_⟩
        exact q _ sA
      | some c =>
        have hw := cfE_word hc
        rw [hc] at h6 h7
        obtain ⟨t6, rfl, h6⟩ := h6
        obtain ⟨t7, rfl, h7⟩ := h7
        obtain ⟨c1, c2⟩ := can_cf (c := shC A.length c) (by rw [wd_sh]; exact hw)
        refine ⟨_, rfl, dCf (shC A.length c), dCf (shC A.length c), dp_cf h7, dp_cf (s7 _ _ h6), c2, c2, ?_⟩
        rw [SeqAt.eqv_refl _ c1]
        exact q _ sA
end
end UP

set_option Elab.async false
set_option linter.all false
set_option maxRecDepth 100000
set_option maxHeartbeats 4000000
set_option pp.maxSteps 900
namespace UP
open PySem PySem.Spec PyProof.Rows L2
theorem mt_indexK {X : Cx} {K : PySem.W.Frag} (h : X.K = K) : MtR X "list.index" (rIndex K) := h ▸ mt_index
theorem two_at47 {a b r : Int} (r0 : 0 ≤ r) (r1 : r < 2) : ∃ g, atI [V.int a, V.int b] r = some (.int g) ∧ (g = a ∨ g = b) := by
  rcases (show r = 0 ∨ r = 1 by omega) with e | e
  · rw [e]
    exact ⟨a, rfl, .inl rfl⟩
  · rw [e]
    exact ⟨b, rfl, .inr rfl⟩
theorem cutV_tk (l : List V) (m : Int) (h0 : 0 ≤ m) : cutV l none (some m) = l.take m.toNat := by
  unfold cutV
  show (l.drop (HT.sIx _ 0 none)).take (HT.sIx _ _ (some m) - HT.sIx _ 0 none) = _
  have e0 : HT.sIx l.length 0 none = 0 := rfl
  have e1 : HT.sIx l.length l.length (some m) = min m.toNat l.length := by
    show (if m < 0 then (m + (l.length : Int)).toNat else min m.toNat l.length) = _
    rw [if_neg (by omega)]
  rw [e0, List.drop_zero, Nat.sub_zero, e1]
  rcases Nat.le_total m.toNat l.length with h | h
  · rw [Nat.min_eq_left h]
  · rw [Nat.min_eq_right h, List.take_length, List.take_of_length_le h]
theorem paired_tk {α β : Type} {F : α → β → Prop} : ∀ {xs : List α} {ys : List β} (n : Nat), Paired F xs ys → Paired F (xs.take n) (ys.take n)
  | _, _, 0, _ => .nil
  | _, _, n + 1, .nil => .nil
  | _, _, n + 1, .cons h t => .cons h (paired_tk n t)
def kd14 : List Str := ["g", "h", "i", "j", "k", "l", "m", "n", "o", "p", "q", "r", "s", "t"]
theorem kd14_ok : (∀ k ∈ kd14, KindOk k) ∧ kd14.Nodup := by
  refine ⟨?_, by decide +kernel⟩
  intro k hk
  simp only [kd14, List.mem_cons, List.not_mem_nil, or_false] at hk
  rcases hk with e | e | e | e | e | e | e | e | e | e | e | e | e | e <;> (subst e; decide +kernel)
theorem kd14_eq : (("ghijklmnopqrst" : Str).cps.toList.map fun c => V.str ⟨#[c]⟩) = kd14.map V.str := by decide +kernel
section
variable {P : Program} {w : World} {K : PySem.W.Frag} {mg : Str → Option Value} {base : Heap}
/-! law: slots 0:script 1:bag 2:turn 3:kinds 4:items 5:record 6:less 7:new 8:other 9:mates 10:ahead 11:some 12:item 13:sure -/
abbrev s_law : Stmt := topS 59
theorem sc_law : FnScope ["script", "bag", "turn", "kinds", "items", "record", "less", "new", "other", "mates", "ahead", "some", "item", "sure"] ["script"] (defScope s_law) := ⟨rfl, rfl, rfl, by decide +kernel, rfl, by decide +kernel, by decide +kernel⟩
def sp_law (K : PySem.W.Frag) : Sp := fun vs H Q _ => ∃ (a : Addr) (ns : List Int), vs = [.ref a] ∧ SqL K H a (ns.map V.int) ∧ ns.length ≤ 63 ∧ ∀ H', Q (.bl true) H'
theorem fn_law {f : Addr} {fd : FuncData} (F : Fun K "law" "law" s_law f fd) (T : Tx mg) (G_law_bag : Has P w K mg base 1 "_law_bag" ["script"] (sp_law_bag K)) (G_law_draw : Has P w K mg base 2 "_law_draw" ["bag", "bound"] sp_law_draw)
    (G_law_kinds : Has P w K mg base 4 "_law_kinds" ["bag", "most"] sp_law_kinds) (G_law_items : Has P w K mg base 3 "_law_items" ["bag", "kinds", "count"] sp_law_items) (G_law_known_right : HasG P w K mg base 6 "_law_known_right" ["bag", "kinds", "items"] sp_law_known_right)
    (G_law_hidden : Has P w K mg base 3 "_law_hidden" ["bag", "items"] sp_law_hidden) (G_law_less : Has P w K mg base 3 "_law_less" ["bag", "record"] sp_law_less) (G_conflict_of : Has P w K mg base 5 "conflict_of" ["kinds", "record"] sp_conflict_of) (G_fitting_count : Has P w K mg base 5 "fitting_count" ["kinds", "record"] sp_fitting_count)
    (G_certain_kinds : Has P w K mg base 5 "certain_kinds" ["kinds", "record"] sp_certain_kinds) (G_law_shuffled : Has P w K mg base 3 "_law_shuffled" ["bag", "items"] sp_law_shuffled) (G_law_named : Has P w K mg base 1 "_law_named" ["record", "old", "new"] sp_law_named)
    (G_fitting_index : Has P w K mg base 5 "fitting_index" ["kinds", "record", "items"] sp_fitting_index) (G_law_after_right : Has P w K mg base 6 "_law_after_right" ["kinds", "ahead", "record"] sp_law_after_right) (G_record_of : Has P w K mg base 3 "record_of" ["items"] sp_record_of) :
    FnC P w K mg base f fd ["script"] (sp_law K) := by
  refine fnC_of F sc_law (fun vs H Q E h => ?_) (fun cdv outer s H vs Q E hr h => ?_)
  · obtain ⟨_, _, rfl, _⟩ := h
    rfl
  · obtain ⟨a, ns, rfl, hS, l63, q⟩ := h
    refine ⟨_, (pss_cons (ps_set (i := 1) sc_law.nd rfl (by first | exact Or.inl rfl | exact Or.inr rfl) (pe_callH G_law_bag (hr.mono (by omega)) (by rfl) (pa_cons (pv 0) pa_nil)))
    (pss_cons (ps_for PassesOwn.never rfl (pi_range1 (by rfl) T.n_range (pa_cons (pe_op op_add pe_int (pe_callB (call_min2 rfl) (by rfl) T.n_min (by decide +kernel) (pa_cons pe_int (pa_cons (pe_callB call_len_seq (by rfl) T.n_len (by decide +kernel) (pa_cons (pv 0) pa_nil)) pa_nil)))) pa_nil)) (pg_name (i := 2) sc_law.nd rfl (by first | exact Or.inl rfl | exact Or.inr rfl))
      (pss_cons (ps_set (i := 3) sc_law.nd rfl (by first | exact Or.inl rfl | exact Or.inr rfl) (pe_callH G_law_kinds (hr.mono (by omega)) (by rfl) (pa_cons (pv 1) (pa_cons pe_int pa_nil))))
    (pss_cons (ps_set (i := 4) sc_law.nd rfl (by first | exact Or.inl rfl | exact Or.inr rfl) (pe_callH G_law_items (hr.mono (by omega)) (by rfl) (pa_cons (pv 1) (pa_cons (pv 3) (pa_cons (pe_callH G_law_draw (hr.mono (by omega)) (by rfl) (pa_cons (pv 1) (pa_cons (pe_ix ix_list (pe_lst (pa_cons pe_int (pa_cons pe_int pa_nil))) (pe_callB (call_min2 rfl) (by rfl) T.n_min (by decide +kernel) (pa_cons pe_int (pa_cons (pv 2) pa_nil))) (fun _ _ => rfl)) pa_nil))) pa_nil)))))
    (pss_cons (ps_if (pt_not (pt_val (pe_callGH G_law_known_right (by rfl) (hr.mono (by omega)) (by rfl) (pa_cons (pv 1) (pa_cons (pv 3) (pa_cons (pv 4) pa_nil)))))) (pss_one (ps_ret pe_bl)) pss_nil)
    (pss_cons (ps_set (i := 5) sc_law.nd rfl (by first | exact Or.inl rfl | exact Or.inr rfl) (pe_callH G_law_hidden (hr.mono (by omega)) (by rfl) (pa_cons (pv 1) (pa_cons (pv 4) pa_nil))))
    (pss_cons (ps_set (i := 6) sc_law.nd rfl (by first | exact Or.inl rfl | exact Or.inr rfl) (pe_callH G_law_less (hr.mono (by omega)) (by rfl) (pa_cons (pv 1) (pa_cons (pv 5) pa_nil))))
    (pss_cons (ps_if (PW.pt (pw_or (pt_cmpR op_notN (pe_callH G_conflict_of (hr.mono (by omega)) (by rfl) (pa_cons (pv 3) (pa_cons (pv 6) pa_nil))) pe_non (nomark _)) (pw_or1 (pt_cmpR op_lt (pe_callH G_fitting_count (hr.mono (by omega)) (by rfl) (pa_cons (pv 3) (pa_cons (pv 6) pa_nil))) (pe_callH G_fitting_count (hr.mono (by omega)) (by rfl) (pa_cons (pv 3) (pa_cons (pv 5) pa_nil))) (nomark _))))) (pss_one (ps_ret pe_bl)) pss_nil)
    (pss_cons (ps_if (pt_cmpR (op_neD hr.units) (pe_lc (own := [("sure", 13), ("item", 12)]) rfl sc_law.nd (pi_zip (by rfl) T.n_zip (pa_cons (pe_callH G_certain_kinds (hr.mono (by omega)) (by rfl) (pa_cons (pv 3) (pa_cons (pv 6) pa_nil))) (pa_cons (pv 4) pa_nil))) (blkOk_by (N := ["script", "bag", "turn", "kinds", "items", "record", "less", "new", "other", "mates", "ahead", "some", "item", "sure"]) (sc := defScope s_law) (by decide +kernel)) (fun _ _ _ _ _ => (pg_tupK (K := K) (n := 2) rfl rfl (pgs_cons (pg_name (i := 13) sc_law.nd rfl (by first | exact Or.inl rfl | exact Or.inr rfl)) (pgs_cons (pg_name (i := 12) sc_law.nd rfl (by first | exact Or.inl rfl | exact Or.inr rfl)) pgs_nil)))) (fun _ _ _ _ _ => pts_one (pt_cmpR (op_notIn_seqK (K := K) rfl) (pv 13) (pe_tup (pa_cons pe_non (pa_cons (pv 12) pa_nil))) (by with_unfolding_all rfl))) (fun _ _ _ _ _ => pe_int)) (pe_lst pa_nil) (nomark _)) (pss_one (ps_ret pe_bl)) pss_nil)
    (pss_cons (ps_set (i := 7) sc_law.nd rfl (by first | exact Or.inl rfl | exact Or.inr rfl) (pe_callB cr_sortedS (by rfl) T.n_sorted (by decide +kernel) (pa_cons (pe_slice sl_list (pe_callH G_law_shuffled (hr.mono (by omega)) (by rfl) (pa_cons (pv 1) (pa_cons (pe_callTy (call_list_text (by rfl)) (by rfl) T.n_list (by decide +kernel) (pa_cons pe_str pa_nil)) pa_nil))) po_none (po_some (pe_callB call_len_seq (by rfl) T.n_len (by decide +kernel) (pa_cons (pv 3) pa_nil)))) pa_nil)))
    (pss_cons (ps_set (i := 8) sc_law.nd rfl (by first | exact Or.inl rfl | exact Or.inr rfl) (pe_callH G_law_named (hr.mono (by omega)) (by rfl) (pa_cons (pv 6) (pa_cons (pv 3) (pa_cons (pv 7) pa_nil)))))
    (pss_cons (ps_if (PW.pt (pw_or (pt_cmpR op_ne (pe_callH G_fitting_count (hr.mono (by omega)) (by rfl) (pa_cons (pv 7) (pa_cons (pv 8) pa_nil))) (pe_callH G_fitting_count (hr.mono (by omega)) (by rfl) (pa_cons (pv 3) (pa_cons (pv 6) pa_nil))) (nomark _)) (pw_or1 (pt_cmpR op_notN (pe_callH G_conflict_of (hr.mono (by omega)) (by rfl) (pa_cons (pv 7) (pa_cons (pv 8) pa_nil))) pe_non (nomark _))))) (pss_one (ps_ret pe_bl)) pss_nil)
    (pss_cons (ps_setLc (i := 9) (own := [("item", 12)]) rfl sc_law.nd rfl rfl (sw_true rfl rfl rfl (by decide +kernel)) (pi_list (pv 4)) (blkOk_by (N := ["script", "bag", "turn", "kinds", "items", "record", "less", "new", "other", "mates", "ahead", "some", "item", "sure"]) (sc := defScope s_law) (by decide +kernel)) (fun _ _ _ _ _ => (pg_name (i := 12) sc_law.nd rfl (by first | exact Or.inl rfl | exact Or.inr rfl))) (fun _ _ _ _ _ => pts_nil) (fun _ _ _ _ _ => (pe_ix (ix_listK (K := K) rfl) (pv 7) (pe_bmK (K := K) rfl (pe_bm PySem.F.plainAttrs_list PySem.F.slot_list_index PySem.F.type_list_index (mt_indexK (K := K) rfl) (pv 3) (pa_cons (pv 12) pa_nil))) (fun _ _ => rfl))))
    (pss_cons (ps_if (pt_cmpR op_ne (pe_callH G_fitting_index (hr.mono (by omega)) (by rfl) (pa_cons (pv 7) (pa_cons (pv 8) (pa_cons (pv 9) pa_nil)))) (pe_callH G_fitting_index (hr.mono (by omega)) (by rfl) (pa_cons (pv 3) (pa_cons (pv 6) (pa_cons (pv 4) pa_nil)))) (nomark _)) (pss_one (ps_ret pe_bl)) pss_nil)
    (pss_cons (ps_set (i := 10) sc_law.nd rfl (by first | exact Or.inl rfl | exact Or.inr rfl) (pe_op op_rep (pe_lst (pa_cons (pe_tup (pa_cons pe_non (pa_cons pe_str pa_nil))) (pa_cons (pe_tup (pa_cons pe_non (pa_cons pe_str pa_nil))) pa_nil))) (pe_callTy call_int1 (by rfl) T.n_int (by decide +kernel) (pa_cons (pe_cmpR op_gt (pe_callB call_len_seq (by rfl) T.n_len (by decide +kernel) (pa_cons (pv 3) pa_nil)) pe_int (nomark _)) pa_nil))))
    (pss_cons (ps_set (i := 11) sc_law.nd rfl (by first | exact Or.inl rfl | exact Or.inr rfl) (pe_slice sl_list (pv 6) po_none (po_some pe_int)))
    (pss_cons (ps_if (pt_cmpR op_eq (pe_callH G_law_draw (hr.mono (by omega)) (by rfl) (pa_cons (pv 1) (pa_cons pe_int pa_nil))) pe_int (nomark _)) (pss_one (ps_set (i := 11) sc_law.nd rfl (by first | exact Or.inl rfl | exact Or.inr rfl) (pe_op op_cat (pv 11) (pe_lst (pa_cons (pe_tup (pa_cons (pe_ix ix_list (pv 3) pe_int (fun _ _ => rfl)) (pa_cons pe_str pa_nil))) (pa_cons (pe_tup (pa_cons pe_non (pa_cons pe_str pa_nil))) pa_nil)))))) pss_nil)
    (pss_one (ps_if (pt_not (pt_val (pe_callH G_law_after_right (hr.mono (by omega)) (by rfl) (pa_cons (pv 3) (pa_cons (pv 10) (pa_cons (pv 11) pa_nil)))))) (pss_one (ps_ret pe_bl)) pss_nil))))))))))))))))))
    (pss_one (ps_ret (pe_cmpR (op_eqD hr.units) (pe_callH G_record_of (hr.mono (by omega)) (by rfl) (pa_cons (pe_lst pa_nil) pa_nil)) (pe_lst pa_nil) (nomark _)))))), ?_⟩
    refine ⟨_, rfl, a, ns, rfl, hS, l63, fun H1 pb cl s1 npb ncl zb1 => ?_⟩
    refine ⟨_, rfl, a, _, rfl, .inl (s1.seq hS), _, _, rfl, _, _, rfl, rfl, _, rfl, ?_, ?_, for_range (lo := 0) (n := _) (fun i σ H' => ∃ y2 y3 y4 y5 y6 y7 y8 y9 y10 y11, σ = [some (.ref a), some (.ref pb), y2, y3, y4, y5, y6, y7, y8, y9, y10, y11, none, none] ∧ Bag H' pb cl (5000 * i))
      ⟨_, _, _, _, _, _, _, _, _, _, rfl, zb1⟩ (fun i σ H2 hi hP => ?_) (fun σ H2 hP => ?_)⟩
    · rw [List.length_map]
      split <;> omega
    · rw [List.length_map]
      split <;> omega
    · obtain ⟨y2, y3, y4, y5, y6, y7, y8, y9, y10, y11, rfl, z2⟩ := hP
      have hi : i ≤ 100 := by
        have hi : i < _ := hi
        rw [List.length_map] at hi
        split at hi <;> omega
      obtain ⟨N, eN⟩ : ∃ N : Nat, N = 5000 * i := ⟨_, rfl⟩
      have N1 : N ≤ 500000 := by omega
      rw [← eN] at z2
      refine ⟨_, rfl, pb, cl, N, rfl, z2, by omega, fun H3 ka ks b3 z3 nka kap hk3 kso nd => ?_⟩
      have l0 := kso.1
      have l12 := kso.2.1
      -- items
      refine ⟨_, rfl, _, rfl, _, rfl, (by show 2 ≤ sizeLine; decide), fun l nl => ?_⟩
      have sl := same_upd (o := .lst [.int 401, .int 60]) nl
      have hl := upd_same (H := H3) (a := l) (o := .lst [.int 401, .int 60])
      have z4 := z3.same sl
      have hk4 := sl _ _ hk3
      generalize upd H3 l (.lst [.int 401, .int 60]) = H4 at *
      refine ⟨_, rfl, _, _, rfl, ?_⟩
      have hm : 0 ≤ (if (0 + (i : Int)) < 1 then (0 + (i : Int)) else 1) ∧ (if (0 + (i : Int)) < 1 then (0 + (i : Int)) else 1) < 2 := by
        split <;> omega
      obtain ⟨g, hg, eg⟩ := two_at47 (a := 401) (b := 60) hm.1 hm.2
      have g0 : 1 ≤ g ∧ g ≤ 401 := by omega
      refine ⟨l, _, _, _, rfl, rfl, .of hl, hg, pb, cl, N + 1001, g, rfl, z4, by omega, g0.1, wideB (by omega) (by omega), fun H5 r5 b5 z5 r50 r51 => ?_⟩
      have hk5 := b5 _ _ kap hk4
      refine ⟨pb, cl, ka, _, ks, r5, rfl, z5, by omega, hk5, kap, l0, by omega, kso.2.2.1, r50, by omega, fun H6 ia its b6 z6 nia iap hi6 hin l4 => ?_⟩
      have hk6 := b6 _ _ kap hk5
      have ok : ∀ x ∈ its, KindOk x := fun x hx => kso.2.2.1 x (hin x hx)
      refine ⟨_, rfl, _, rfl, _, rfl, pb, cl, ka, ia, _, ks, its, rfl, z6, by omega, hk6, kap, kso, nd, hi6, iap, l4, hin, fun H7 b7 z7 => ⟨true, rfl, iteF ?_⟩⟩
      have hk7 := b7 _ _ kap hk6
      have hi7 := b7 _ _ iap hi6
      -- record
      refine ⟨_, rfl, _, rfl, pb, cl, ia, _, its, rfl, z7, by omega, hi7, iap, l4, fun H8 ra es b8 z8 nra rap hre8 le1 => ?_⟩
      have hk8 := b8 _ _ kap hk7
      have hi8 := b8 _ _ iap hi7
      have fit1 := fit_less le1 (recI_fit its "" 0)
      have les : es.length ≤ 400 := by have := fit1.len; omega
      have ik1 := inK_of fit1 hin
      -- less
      refine ⟨_, rfl, _, rfl, pb, cl, ra, _, es, rfl, z8, by omega, hre8, rap, les, fun H9 la less b9 z9 nla lap hle9 le2 => ?_⟩
      have hk9 := b9 _ _ kap hk8
      have hi9 := b9 _ _ iap hi8
      have hre9 := hre8.bagT z8 b9 rap
      have fit2 := fit_less le2 fit1
      have lle : less.length ≤ 400 := by have := fit2.len; omega
      have ik2 := inK_of fit2 hin
      clear b3 b5 b6 b7 b8 b9 hk3 hk4 hk5 hk6 hk7 hk8 hi6 hi7 hi8 hre8 z3 z4 z5 z6 z7 z8 hl hg sl
      -- no conflict, no fewer
      refine ⟨_, rfl, _, rfl, ka, .ref la, ks, less, rfl, .inl hk9, kso, hle9.dress, ik2, lle, fun H10 v10 s10 hv => ?_⟩
      rw [cf_none fit2 hin] at hv
      cases (show v10 = .non from hv)
      have hk10 := s10 _ _ hk9
      have hle10 := hle9.same s10
      have hre10 := hre9.same s10
      refine ⟨rfl, _, rfl, iteN yes_non ?_⟩
      refine ⟨_, rfl, _, rfl, ka, .ref la, ks, less, rfl, .inl hk10, kso, hle10.dress, ik2, lle, fun H11 s11 => ?_⟩
      have hk11 := s11 _ _ hk10
      have hre11 := hre10.same s11
      refine ⟨_, rfl, _, rfl, ka, .ref ra, ks, es, rfl, .inl hk11, kso, hre11.dress, ik1, les, fun H12 s12 => ?_⟩
      have s9_12 := s10.trans (s11.trans s12)
      have cl12 := cnt_less fit1 hin l0 le2
      refine ⟨_, _, rfl, rfl, _, rfl, iteN (decide_eq_false (by omega)) ?_⟩
      have hk12 := s9_12 _ _ hk9
      have hi12 := s9_12 _ _ hi9
      have hle12 := hle9.same s9_12
      have z12 := z9.same s9_12
      -- what is certain
      refine ⟨_, rfl, _, rfl, ka, .ref la, ks, less, rfl, .inl hk12, kso, hle12.dress, ik2, lle, cf_none fit2 hin, opts_ne (eps_fit fit2) hin, fun H13 c s13 nc hc => ?_⟩
      have hi13 := s13 _ _ hi12
      have cer := cer_fitL (ks := ks) (eps_fit fit2) hin
      have lcer := Paired.len cer
      have lce : (cerE ks less).length = its.length := lcer
      refine ⟨_, rfl, c, ia, _, _, rfl, .of hc, .of hi13, fun M nM => ?_⟩
      refine lc_gen (J := Itz K c ia) (n := its.length) (fun i H' => Same H13 H' ∧ H' M = some (.lst [])) ⟨same_upd nM, upd_same⟩ (fun i H' hi hP => ⟨_, _, _, _, .of (hP.1 _ _ hc), .of (hP.1 _ _ hi13), List.getElem?_eq_getElem (by rw [List.length_map, lce]; exact hi), List.getElem?_eq_getElem (by rw [List.length_map]; exact hi)⟩) (fun H' hP => ⟨_, _, .of (hP.1 _ _ hc), .of (hP.1 _ _ hi13), .inr (by rw [List.length_map]; exact Nat.le_refl _)⟩) (fun i x H14 H15 hi hP y => ?_) (fun H14 hP => ?_)
      · obtain ⟨s14, hM⟩ := hP
        obtain ⟨T, u, v, rfl, nT, rfl, hu, hv⟩ := y
        have hu := hu _ (.of (s14 _ _ hc))
        have hv := hv _ (.of (s14 _ _ hi13))
        obtain ⟨k, ek, rfl⟩ := str_at hv
        rw [List.getElem?_map] at hu
        obtain ⟨o, eo, rfl⟩ := Option.map_eq_some_iff.mp hu
        obtain ⟨k2, ek2, hck⟩ := Paired.at cer eo
        rw [ek] at ek2
        cases Option.some.inj ek2
        have sT := same_upd (o := .tup [koV o, .str k]) nT
        have hT : (upd H14 T (.tup [koV o, .str k])) T = some (.tup [koV o, .str k]) := upd_same
        have z3 : inV (koV o) [V.non, V.str k] = true := by
          rcases hck with e | e <;> rw [e] <;> simp [inV, koV, eqV]
        refine ⟨T, _, rfl, .of hT, rfl, _, _, rfl, _, _, rfl, rfl, rfl, _, rfl, _, rfl, (by show 2 ≤ sizeLine; decide), fun t nt => ?_⟩
        refine ⟨t, _, rfl, .inr (.of upd_same), by cases o <;> rfl, rfl, _, rfl, ?_⟩
        rw [z3]
        exact iteF ⟨s14.trans (sT.trans (same_upd nt)), same_upd nt _ _ (sT _ _ hM)⟩
      · obtain ⟨s14, hM⟩ := hP
        refine ⟨Nat.zero_le _, fun e ne => ?_⟩
        have se := same_upd (o := .lst []) ne
        refine ⟨.list [], .list [], .lst (.of (se _ _ hM)) .nil, .lst (.of upd_same) .nil, shaped_nil, shaped_nil, _, rfl, iteF ?_⟩
        have s12 := s13.trans (s14.trans se)
        generalize upd H14 e (.lst []) = H15 at *
        clear hM se ne nM hc hi13 nc s13 s14
        have hk15 := s12 _ _ hk12
        have hi15 := s12 _ _ hi12
        have hle15 := hle12.same s12
        have z15 := z12.same s12
        clear hk12 hi12 hle12 z12
        -- new
        refine ⟨_, rfl, _, rfl, by decide +kernel, fun l nl => ?_⟩
        rw [kd14_eq]
        have sl := same_upd (o := .lst (kd14.map V.str)) nl
        have hl := upd_same (H := H15) (a := l) (o := .lst (kd14.map V.str))
        have hk16 := sl _ _ hk15
        have hi16 := sl _ _ hi15
        have hle16 := hle15.same sl
        have z16 := z15.same sl
        have lp : l ≠ pb := z15.ne nl
        generalize upd H15 l (.lst (kd14.map V.str)) = H16 at *
        refine ⟨pb, cl, l, _, kd14, rfl, z16, by omega, hl, lp, by decide, fun H17 L ys b17 z17 nL hL pm => ?_⟩
        have hk17 := b17 _ _ kap hk16
        have hi17 := b17 _ _ iap hi16
        have hle17 := hle16.bagT z16 b17 lap
        refine ⟨_, rfl, ka, _, rfl, .inl (.of hk17), _, rfl, L, _, rfl, .of hL, fun M2 nM2 => ?_⟩
        rw [List.length_map, cutV_take ys _ (by omega), Int.toNat_natCast]
        have lys : ys.length = 14 := pm.length_eq
        have ltk : (ys.take ks.length).length = ks.length := by rw [List.length_take]; omega
        have sM2 := same_upd (o := .lst ((ys.take ks.length).map V.str)) nM2
        refine ⟨M2, ys.take ks.length, rfl, .of upd_same, by omega, fun nw N2 pk sk nN2 => ?_⟩
        obtain ⟨nwo, nwn, lnw⟩ := ks_sorted kd14_ok.1 kd14_ok.2 pm pk sk l0 (by decide) (by omega)
        have lnw : nw.length = ks.length := lnw.trans ltk
        have sN2 := sM2.trans (same_upd (o := .lst (nw.map V.str)) nN2)
        have hn18 : (upd (upd H17 M2 (.lst ((ys.take ks.length).map V.str))) N2 (.lst (nw.map V.str))) N2 = some (.lst (nw.map V.str)) := upd_same
        have hk18 := sN2 _ _ hk17
        have hi18 := sN2 _ _ hi17
        have hle18 := hle17.same sN2
        have z18 := z17.same sN2
        generalize upd (upd H17 M2 (.lst ((ys.take ks.length).map V.str))) N2 (.lst (nw.map V.str)) = H18 at *
        clear sN2 sM2 nN2 nM2 hk17 hi17 hle17 z17 hL nL hk16 hi16 hle16 z16 hl hk15 hi15 hle15 z15 b17
        -- other names
        refine ⟨_, rfl, _, rfl, _, rfl, la, ka, N2, less, ks, nw, rfl, hle18, lle, hk18, hn18, lnw.symm, l12, nd, ik2, fun H19 o es' s19 no ho re => ?_⟩
        have inj := nm_inj nd nwn lnw.symm
        have mapn := nm_map nd lnw.symm
        have hk19 := s19 _ _ hk18
        have hi19 := s19 _ _ hi18
        have hn19 := s19 _ _ hn18
        have hle19 := hle18.same s19
        have z19 := z18.same s19
        have cnr := cnt_ren inj l0 re ik2
        rw [mapn] at cnr
        have fitr := fit_ren inj re (w := "") (c := 0) (.inl rfl) hin fit2
        have fitr0 := fit_w0 (w' := "") fitr
        have hinr : ∀ x ∈ its.map (nmS ks nw), x ∈ nw := fun x hx => by
          obtain ⟨y, hy, rfl⟩ := List.mem_map.mp hx
          have z : nmS ks nw y ∈ ks.map (nmS ks nw) := List.mem_map.mpr ⟨y, hin y hy, rfl⟩
          rw [mapn] at z
          exact z
        have ikr := inK_of fitr0 hinr
        have les' : es'.length ≤ 400 := by
          have := Paired.len re
          omega
        refine ⟨_, rfl, _, rfl, N2, .ref o, nw, es', rfl, .inl hn19, nwo, ho.dress, ikr, les', fun H20 s20 => ?_⟩
        refine ⟨_, rfl, _, rfl, ka, .ref la, ks, less, rfl, .inl (s20 _ _ hk19), kso, (hle19.same s20).dress, ik2, lle, fun H21 s21 => ?_⟩
        rw [cnr]
        refine ⟨rfl, _, rfl, iteN (by rw [decide_eq_true rfl]; rfl) ?_⟩
        have s1921 := s20.trans s21
        refine ⟨_, rfl, _, rfl, N2, .ref o, nw, es', rfl, .inl (s1921 _ _ hn19), nwo, (ho.same s1921).dress, ikr, les', fun H22 v22 s22 hv => ?_⟩
        rw [cf_none fitr0 hinr] at hv
        cases (show v22 = .non from hv)
        refine ⟨rfl, _, rfl, iteN yes_non ?_⟩
        have s1922 := s1921.trans s22
        have hk22 := s1922 _ _ hk19
        have hi22 := s1922 _ _ hi19
        have hn22 := s1922 _ _ hn19
        have hle22 := hle19.same s1922
        have ho22 := ho.same s1922
        have z22 := z19.same s1922
        clear hk19 hi19 hn19 hle19 ho z19 s1922 s1921 s22 s21 s20
        -- mates
        refine ⟨_, rfl, ia, rfl, ⟨_, .of hi22⟩, fun L3 nL3 => lc_list (K := K) (a := ia) (xs := its.map V.str) (fun i H' => Same H22 H' ∧ H' L3 = some (.lst ((its.take i).map fun x => V.str (nmS ks nw x)))) ⟨same_upd nL3, upd_same⟩ (fun i H' _ p => .of (p.1 _ _ hi22)) (fun i x H23 ex hP => ?_) (fun H23 hP => ?_)⟩
        · obtain ⟨sm, hL⟩ := hP
          obtain ⟨k, ek, rfl⟩ := str_at ex
          have hik : k ∈ ks := hin k (List.mem_of_getElem? ek)
          have hj : ks.idxOf k < ks.length := List.idxOf_lt_length_of_mem hik
          have ej : ks[ks.idxOf k]? = some k := by
            rw [List.getElem?_eq_getElem hj, List.getElem_idxOf]
          have ejn : nw[ks.idxOf k]? = some (nmS ks nw k) := by
            have h2 : ks.idxOf k < nw.length := by omega
            rw [nm_at nd ej (List.getElem?_eq_getElem h2)]
            exact List.getElem?_eq_getElem h2
          refine ⟨rfl, yesT ⟨_, rfl, _, rfl, .inl ⟨rfl, _, .of (sm _ _ hk22)⟩, _, rfl, ka, ks.map V.str, .str k, ks.idxOf k, .str k, rfl, rfl, .of (sm _ _ hk22), rfl, flat_strs ks, by rw [List.getElem?_map, ej]; rfl, by simp [eqV], fun m z' hm ez => ?_, ?_⟩⟩
          · rw [List.getElem?_map] at ez
            obtain ⟨y, ey, rfl⟩ := Option.map_eq_some_iff.mp ez
            have ne : y ≠ k := fun e => by
              subst e
              have := (List.getElem?_inj (List.getElem?_eq_some_iff.mp ey).1 nd).mp (ey.trans ej.symm)
              omega
            simp [eqV, ne]
          · refine ⟨N2, _, _, _, rfl, rfl, .of (sm _ _ hn22), atI_ofB (Int.natCast_nonneg _) (by rw [Int.toNat_natCast, List.getElem?_map, ejn]; rfl), _, hL, ?_, same_grow nL3 sm, ?_⟩
            · rw [List.length_map, List.length_take]
              exact smallE (by omega)
            · rw [upd_same, take_snoc ek, List.map_append]
              rfl
        obtain ⟨s23, hL3⟩ := hP
        rw [List.length_map, List.take_length] at hL3
        have hmt : H23 L3 = some (.lst ((its.map (nmS ks nw)).map V.str)) := by
          rw [List.map_map]
          exact hL3
        have hk23 := s23 _ _ hk22
        have hi23 := s23 _ _ hi22
        have hn23 := s23 _ _ hn22
        have hle23 := hle22.same s23
        have ho23 := ho22.same s23
        have z23 := z22.same s23
        clear hk22 hi22 hn22 hle22 ho22 z22 hL3
        have ixr := ix_ren inj fit2 re hin ik2
        rw [mapn] at ixr
        refine ⟨_, rfl, _, rfl, _, rfl, N2, L3, .ref o, nw, es', its.map (nmS ks nw), rfl, .inl hn23, nwo, ho23.dress, ikr, les', .inl hmt, fitI_of fitr0 hinr nwo, fun H24 s24 => ?_⟩
        refine ⟨_, rfl, _, rfl, _, rfl, ka, ia, .ref la, ks, less, its, rfl, .inl (s24 _ _ hk23), kso, (hle23.same s24).dress, ik2, lle, .inl (s24 _ _ hi23), fitI_of fit2 hin kso, fun H25 s25 => ?_⟩
        rw [ixr]
        refine ⟨rfl, _, rfl, iteN (by rw [decide_eq_true rfl]; rfl) ?_⟩
        have s2325 := s24.trans s25
        have hk25 := s2325 _ _ hk23
        have hle25 := hle23.same s2325
        have z25 := z23.same s2325
        clear hk23 hi23 hn23 hle23 ho23 z23 s2325 s24 s25 hmt s23
        -- ahead
        refine ⟨(by show 2 ≤ sizeLine; decide), fun t1 n1 => ?_⟩
        have e1 := same_upd (o := .tup [.non, .str "waits"]) n1
        have h1 : (upd H25 t1 (.tup [.non, .str "waits"])) t1 = some (.tup [.non, .str "waits"]) := upd_same
        have hk26 := e1 _ _ hk25
        have hle26 := hle25.same e1
        have z26 := z25.same e1
        generalize upd H25 t1 (.tup [.non, .str "waits"]) = H26 at *
        clear e1 hk25 hle25 z25
        refine ⟨(by show 2 ≤ sizeLine; decide), fun t2 n2 => ?_⟩
        have e2 := same_upd (o := .tup [.non, .str "leaves"]) n2
        have h2 : (upd H26 t2 (.tup [.non, .str "leaves"])) t2 = some (.tup [.non, .str "leaves"]) := upd_same
        have h1 := e2 _ _ h1
        have hk27 := e2 _ _ hk26
        have hle27 := hle26.same e2
        have z27 := z26.same e2
        generalize upd H26 t2 (.tup [.non, .str "leaves"]) = H27 at *
        clear e2 hk26 hle26 z26
        refine ⟨(by show 2 ≤ sizeLine; decide), fun l2 nl2 => ?_⟩
        have e3 := same_upd (o := .lst [.ref t1, .ref t2]) nl2
        have hl2 : (upd H27 l2 (.lst [.ref t1, .ref t2])) l2 = some (.lst [.ref t1, .ref t2]) := upd_same
        have h1 := e3 _ _ h1
        have h2 := e3 _ _ h2
        have hk28 := e3 _ _ hk27
        have hle28 := hle27.same e3
        have z28 := z27.same e3
        generalize upd H27 l2 (.lst [.ref t1, .ref t2]) = H28 at *
        clear e3 hk27 hle27 z27
        refine ⟨_, rfl, ka, _, rfl, .inl (.of hk28), _, _, rfl, rfl, .inr ⟨_, rfl, ?_⟩⟩
        refine ⟨l2, _, _, rfl, rfl, hl2, by split <;> decide, by split <;> decide, ?_, fun p np => ?_⟩
        · split
          · exact (by show 2 * 1 ≤ sizeLine; decide)
          · exact Nat.zero_le _
        obtain ⟨A, hA, lA, ikA, cA, fA⟩ : ∃ A : List En, Rec (upd H28 p (.lst (List.replicate (if decide ((1 : Int) < ((ks.map V.str).length : Nat)) = true then (1 : Int) else 0).toNat [V.ref t1, V.ref t2]).flatten)) p A ∧ A.length ≤ 2 ∧ InK ks A ∧ (∀ B, cntE ks (A ++ B) = cntE ks A * cntE ks B) ∧ ∀ B, cfE ks (A ++ B) = (cfE ks B).map (shC A.length) := by
          by_cases hgt : (1 : Int) < ((ks.map V.str).length : Nat)
          · rw [decide_eq_true hgt]
            have sp := same_upd (o := .lst [.ref t1, .ref t2]) np
            refine ⟨twoA, ⟨_, upd_same, .cons ⟨t1, rfl, sp _ _ h1⟩ (.cons ⟨t2, rfl, sp _ _ h2⟩ .nil)⟩, Nat.le_refl _, fun e he k hk => ?_, fun B => cnt_app rfl, fun B => two_cf (by rw [List.length_map] at hgt; omega) B⟩
            rcases List.mem_cons.mp he with e' | e'
            · rw [e'] at hk; cases hk
            · rw [List.mem_singleton.mp e'] at hk; cases hk
          · rw [decide_eq_false hgt]
            refine ⟨[], ⟨_, upd_same, .nil⟩, Nat.zero_le _, fun e he => (by cases he), fun B => ?_, fun B => ?_⟩
            · exact (Nat.one_mul _).symm
            · show cfE ks B = (cfE ks B).map (shC 0)
              cases cfE ks B with
              | none => rfl
              | some c => exact congrArg some (shC0 c).symm
        have sp := same_upd (o := .lst (List.replicate (if decide ((1 : Int) < ((ks.map V.str).length : Nat)) = true then (1 : Int) else 0).toNat [V.ref t1, V.ref t2]).flatten) np
        have hk29 := sp _ _ hk28
        have hle29 := hle28.same sp
        have z29 := z28.same sp
        have pp : p ≠ pb := z28.ne np
        dsimp only
        generalize upd H28 p (.lst (List.replicate (if decide ((1 : Int) < ((ks.map V.str).length : Nat)) = true then (1 : Int) else 0).toNat [V.ref t1, V.ref t2]).flatten) = H29 at *
        clear sp np hk28 hle28 z28 hl2 h1 h2 nl2
        -- some
        obtain ⟨xs, hx, hxp⟩ := hle29
        refine ⟨_, rfl, _, rfl, la, _, rfl, .of hx, fun u nu => ?_⟩
        rw [cutV_tk xs 390 (by decide)]
        have su := same_upd (o := .lst (xs.take (390 : Int).toNat)) nu
        have hu : Rec (upd H29 u (.lst (xs.take (390 : Int).toNat))) u (less.take 390) := ⟨_, upd_same, paired_tk _ (Paired.imp (fun _ _ z => EnV.same su z) hxp)⟩
        have hk30 := su _ _ hk29
        have hA30 := hA.same su
        have z30 := z29.same su
        have up : u ≠ pb := z29.ne nu
        generalize upd H29 u (.lst (xs.take (390 : Int).toNat)) = H30 at *
        clear su hk29 hA z29 hx hxp nu
        dsimp only
        refine if_gen (fun σ' H' => ∃ v B, σ' = [some (.ref a), some (.ref pb), some (.int (0 + (i : Int))), some (.ref ka), some (.ref ia), some (.ref ra), some (.ref la), some (.ref N2), some (.ref o), some (.ref L3), some (.ref p), some (.ref v), none, none] ∧ Bag H' pb cl (5000 * i + 4000) ∧ H' ka = some (.lst (ks.map V.str)) ∧ Rec H' p A ∧ Rec H' v B ∧ B.length ≤ 392 ∧ InK ks B) (fun R k => ?_) (fun σ' H33 hO => ?_)
        · refine ⟨_, rfl, pb, cl, _, 2, rfl, z30, by omega, by decide, by decide, fun H31 r31 b31 z31 r310 r311 => ?_⟩
          have hk31 := b31 _ _ kap hk30
          have hA31 := hA30.bagT z30 b31 pp
          have hu31 := hu.bagT z30 b31 up
          have ikt : InK ks (less.take 390) := fun e he => ik2 e (List.mem_of_mem_take he)
          refine ⟨rfl, _, rfl, ?_⟩
          by_cases c0 : r31 = 0
          · refine iteP (decide_eq_true (by rw [c0])) ?_
            obtain ⟨k0, kt, ek⟩ : ∃ k0 kt, ks = k0 :: kt := by
              cases ks with
              | nil => exact absurd l0 (Nat.lt_irrefl _)
              | cons k0 kt => exact ⟨k0, kt, rfl⟩
            refine ⟨_, rfl, _, rfl, ka, _, _, .str k0, rfl, rfl, .of hk31, atI_ofB (by decide) (by rw [ek]; rfl), (by show 2 ≤ sizeLine; decide), fun t3 n3 => ?_⟩
            have e3 := same_upd (o := .tup [.str k0, .str "leaves"]) n3
            have h3 : (upd H31 t3 (.tup [.str k0, .str "leaves"])) t3 = some (.tup [.str k0, .str "leaves"]) := upd_same
            have hk32 := e3 _ _ hk31
            have hA32 := hA31.same e3
            have hu32 := hu31.same e3
            have z32 := z31.same e3
            generalize upd H31 t3 (.tup [.str k0, .str "leaves"]) = H32 at *
            refine ⟨(by show 2 ≤ sizeLine; decide), fun t4 n4 => ?_⟩
            have e4 := same_upd (o := .tup [.non, .str "leaves"]) n4
            have h4 : (upd H32 t4 (.tup [.non, .str "leaves"])) t4 = some (.tup [.non, .str "leaves"]) := upd_same
            refine ⟨(by show 2 ≤ sizeLine; decide), fun l5 n5 => ?_⟩
            have e5 := same_upd (o := .lst [.ref t3, .ref t4]) n5
            have e45 := e4.trans e5
            obtain ⟨ys, hy, hyp⟩ := hu32.same e45
            have ly := Paired.len hyp
            have h5 := upd_same (H := upd H32 t4 (.tup [.non, .str "leaves"])) (a := l5) (o := .lst [.ref t3, .ref t4])
            have h3 := e45 _ _ h3
            have h4 := e5 _ _ h4
            have hk33 := e45 _ _ hk32
            have hA33 := hA32.same e45
            have z33 := z32.same e45
            generalize upd (upd H32 t4 (.tup [.non, .str "leaves"])) l5 (.lst [.ref t3, .ref t4]) = H33 at *
            have l392 : ys.length ≤ 390 := by
              rw [ly, List.length_take]
              omega
            refine ⟨u, l5, ys, _, rfl, rfl, hy, h5, smallE (by show ys.length + 2 ≤ _; omega), fun v nv => ?_⟩
            have ev := same_upd (o := .lst (ys ++ [.ref t3, .ref t4])) nv
            refine k _ _ ⟨v, less.take 390 ++ [(some k0, false), (none, false)], rfl, (z33.same ev).mono (by omega), ev _ _ hk33, hA33.same ev, ⟨_, upd_same, Paired.app (Paired.imp (fun _ _ z => EnV.same ev z) hyp) (.cons ⟨t3, rfl, ev _ _ h3⟩ (.cons ⟨t4, rfl, ev _ _ h4⟩ .nil))⟩, ?_, ?_⟩
            · rw [List.length_append, ← ly]
              show ys.length + 2 ≤ 392
              omega
            · refine inK_app ikt fun e he z hz => ?_
              rcases List.mem_cons.mp he with e' | e'
              · rw [e'] at hz
                cases hz
                rw [ek]
                exact List.mem_cons_self
              · rw [List.mem_singleton.mp e'] at hz
                cases hz
          · refine iteN (decide_eq_false fun z => c0 (V.int.inj z)) (k _ _ ⟨u, less.take 390, rfl, z31.mono (by omega), hk31, hA31, hu31, ?_, ikt⟩)
            rw [List.length_take]
            omega
        · obtain ⟨v, B, rfl, zf, hkf, hAf, hBf, lB, ikB⟩ := hO
          refine ⟨_, rfl, _, rfl, _, rfl, ka, p, v, ks, A, B, rfl, hkf, kso, hAf, hBf, by omega, ikA, ikB, cA B, fA B, fun H34 s34 => ⟨true, rfl, iteF ?_⟩⟩
          exact ⟨_, _, _, _, _, _, _, _, _, _, rfl, (zf.same s34).mono (by omega)⟩
    · obtain ⟨y2, y3, y4, y5, y6, y7, y8, y9, y10, y11, rfl, zb⟩ := hP
      refine ⟨Nat.zero_le _, fun l nl => ?_⟩
      have sl := same_upd (o := .lst []) nl
      refine ⟨l, [], rfl, .inl upd_same, by decide, fun x hx => (by cases hx), fun H3 p s3 np hp => ?_⟩
      obtain ⟨xs, hx, hxp⟩ := hp
      have e : xs = [] := by
        cases hxp
        rfl
      subst e
      refine ⟨Nat.zero_le _, fun e ne => ?_⟩
      have se := same_upd (o := .lst []) ne
      refine ⟨.list [], .list [], .lst (.of (se _ _ hx)) .nil, .lst (.of upd_same) .nil, shaped_nil, shaped_nil, ?_⟩
      exact q _
end
end UP

set_option Elab.async false
set_option linter.all false
set_option maxRecDepth 100000
set_option maxHeartbeats 4000000
namespace UP
open PySem PySem.Spec PyProof.Rows L2
section
variable {K : PySem.W.Frag} {h : Heap} {mg : Str → Option Value}
theorem df_mk {x : Str} {st : Stmt} {f : Addr} {od an : Option Addr} {sl : Array (Option Value)} {oc kV dc pm cd ct : Value} (X : K.In h) (G : h.Ns mainGlobals mg) (a : PySem.W.nsIn K mainGlobals x = some (some (.ref f)))
    (l : K.lookup f = some ⟨oc, od, .func (PySem.W.fnOf x x (defArgs st) (defBody st) (defScope st) .none kV dc pm an cd ct), sl⟩) (c : PySem.W.codeIn K cd x = true) (k : PySem.W.keepIn K (.ref f) = true) : Df K mg x st :=
  ⟨f, _, PySem.W.mg_of X G a, fun_mk l c k⟩
theorem dfd_mk {x : Str} {st : Stmt} {f T : Addr} {od an od2 : Option Addr} {sl sl2 : Array (Option Value)} {n2 : Nat} {oc kV dc pm cd ct oc2 : Value} (X : K.In h) (G : h.Ns mainGlobals mg) (a : PySem.W.nsIn K mainGlobals x = some (some (.ref f)))
    (l : K.lookup f = some ⟨oc, od, .func (PySem.W.fnOf x x (defArgs st) (defBody st) (defScope st) (.ref T) kV dc pm an cd ct), sl⟩) (t : K.lookup T = some ⟨oc2, od2, .seq #[.none] n2, sl2⟩) (c : PySem.W.codeIn K cd x = true) (k : PySem.W.keepIn K (.ref f) = true) : DfD K mg x st [.non] :=
  ⟨f, _, PySem.W.mg_of X G a, ⟨⟨oc, od, _, kV, dc, pm, an, cd, ct, sl, rfl, l, c, .inr ⟨(by intro z; cases z), T, _, [.none], n2, rfl, t, rfl, .cons rfl .nil⟩, .inl rfl⟩, k⟩⟩
theorem cst_mk {x : Str} {i : Int} {t : Tok} (X : K.In h) (G : h.Ns mainGlobals mg) (a : PySem.W.nsIn K mainGlobals x = some (some (.int i t))) : ∃ t, mg x = some (.int i t) := ⟨t, PySem.W.mg_of X G a⟩
end
/-- all that the top has written -/
structure Top (K : PySem.W.Frag) (w : World) (mg : Str → Option Value) : Prop where
  T : Tx mg
  d_is_listed : Df K mg "is_listed" s_is_listed
  d_is_couple : Df K mg "is_couple" s_is_couple
  d_is_kind : Df K mg "is_kind" s_is_kind
  d_is_kinds : Df K mg "is_kinds" s_is_kinds
  d_check_kinds : Df K mg "check_kinds" s_check_kinds
  d_product_of : Df K mg "product_of" s_product_of
  d_add_run : Df K mg "add_run" s_add_run
  d_runs_of : Df K mg "runs_of" s_runs_of
  d_waiting_number : Df K mg "waiting_number" s_waiting_number
  d_state_with : Df K mg "state_with" s_state_with
  d_leaving_number : Df K mg "leaving_number" s_leaving_number
  d_state_after_run : Df K mg "state_after_run" s_state_after_run
  d_is_entry : Df K mg "is_entry" s_is_entry
  d_is_record : Df K mg "is_record" s_is_record
  d_checked_entries : Df K mg "checked_entries" s_checked_entries
  d_known_kinds : Df K mg "known_kinds" s_known_kinds
  d_epochs_of : Df K mg "epochs_of" s_epochs_of
  d_waiting_options : Df K mg "waiting_options" s_waiting_options
  d_later_options : Df K mg "later_options" s_later_options
  d_option_numbers : Df K mg "option_numbers" s_option_numbers
  d_options_after : Df K mg "options_after" s_options_after
  d_conflicts_between : Df K mg "conflicts_between" s_conflicts_between
  d_is_exhausted : Df K mg "is_exhausted" s_is_exhausted
  d_conflicts_at : Df K mg "conflicts_at" s_conflicts_at
  d_conflict_in : Df K mg "conflict_in" s_conflict_in
  d_certain_kind : Df K mg "certain_kind" s_certain_kind
  d_conflict_of : Df K mg "conflict_of" s_conflict_of
  d_fitting_count : Df K mg "fitting_count" s_fitting_count
  d_fitting_index : Df K mg "fitting_index" s_fitting_index
  d_certain_kinds : Df K mg "certain_kinds" s_certain_kinds
  d_record_of : Df K mg "record_of" s_record_of
  d_law_bag : Df K mg "_law_bag" s_law_bag
  d_law_stir : Df K mg "_law_stir" s_law_stir
  d_law_draw : Df K mg "_law_draw" s_law_draw
  d_law_shuffled : Df K mg "_law_shuffled" s_law_shuffled
  d_law_either : Df K mg "_law_either" s_law_either
  d_law_kinds : Df K mg "_law_kinds" s_law_kinds
  d_law_actions : Df K mg "_law_actions" s_law_actions
  d_law_items : Df K mg "_law_items" s_law_items
  d_law_hidden : Df K mg "_law_hidden" s_law_hidden
  d_law_named : Df K mg "_law_named" s_law_named
  d_law_less : Df K mg "_law_less" s_law_less
  d_law_known_right : Df K mg "_law_known_right" s_law_known_right
  d_law_after_right : Df K mg "_law_after_right" s_law_after_right
theorem Top.law {P : Program} {w : World} {K : PySem.W.Frag} {mg : Str → Option Value} (Y : Top K w mg) {f : Addr} {fd : FuncData} (F : Fun K "law" "law" s_law f fd) (base : Heap) : FnC P w K mg base f fd ["script"] (sp_law K) := by
  have T := Y.T
  have g_is_listed := ok_is_listed (P := P) (w := w) (base := base) Y.d_is_listed T
  have g_is_couple := ok_is_couple (P := P) (w := w) (base := base) Y.d_is_couple T
  have g_is_kind := ok_is_kind (P := P) (w := w) (base := base) Y.d_is_kind T
  have g_waiting_number := ok_waiting_number (P := P) (w := w) (base := base) Y.d_waiting_number
  have g_leaving_number := ok_leaving_number (P := P) (w := w) (base := base) Y.d_leaving_number T
  have g_state_with := ok_state_with (P := P) (w := w) (base := base) Y.d_state_with
  have g_state_after_run := ok_state_after_run (P := P) (w := w) (base := base) Y.d_state_after_run g_waiting_number g_state_with
  have g_add_run := ok_add_run (P := P) (w := w) (base := base) Y.d_add_run
  have g_runs_of := ok_runs_of (P := P) (w := w) (base := base) Y.d_runs_of T g_is_listed g_is_kind g_add_run
  have g_law_bag := ok_law_bag (P := P) (w := w) (base := base) Y.d_law_bag T
  have g_law_stir := ok_law_stir (P := P) (w := w) (base := base) Y.d_law_stir T
  have g_law_draw := ok_law_draw (P := P) (w := w) (base := base) Y.d_law_draw T g_law_stir
  have g_is_entry := ok_is_entry (P := P) (w := w) (base := base) Y.d_is_entry T g_is_couple g_is_kind
  have g_is_record := ok_is_record (P := P) (w := w) (base := base) Y.d_is_record T g_is_listed g_is_entry
  have g_is_kinds := ok_is_kinds (P := P) (w := w) (base := base) Y.d_is_kinds T g_is_listed g_is_kind
  have g_check_kinds := ok_check_kinds (P := P) (w := w) (base := base) Y.d_check_kinds g_is_kinds
  have g_checked_entries := ok_checked_entries (P := P) (w := w) (base := base) Y.d_checked_entries T g_check_kinds g_is_record
  have g_known_kinds := ok_known_kinds (P := P) (w := w) (base := base) Y.d_known_kinds
  have g_epochs_of := ok_epochs_of (P := P) (w := w) (base := base) Y.d_epochs_of T
  have g_waiting_options := ok_waiting_options (P := P) (w := w) (base := base) Y.d_waiting_options T g_known_kinds
  have g_later_options := ok_later_options (P := P) (w := w) (base := base) Y.d_later_options
  have g_product_of := ok_product_of (P := P) (w := w) (base := base) Y.d_product_of
  have g_option_numbers := ok_option_numbers (P := P) (w := w) (base := base) Y.d_option_numbers T g_epochs_of g_waiting_options g_later_options
  have g_fitting_count := ok_fitting_count (P := P) (w := w) (base := base) Y.d_fitting_count g_checked_entries g_option_numbers g_product_of
  have g_options_after := ok_options_after (P := P) (w := w) (base := base) Y.d_options_after T g_epochs_of g_waiting_options g_later_options
  have g_fitting_index := ok_fitting_index (P := P) (w := w) (base := base) Y.d_fitting_index T g_checked_entries g_is_listed g_options_after g_is_kind
  have g_conflicts_between := ok_conflicts_between (P := P) (w := w) (base := base) Y.d_conflicts_between T
  have g_is_exhausted := ok_is_exhausted (P := P) (w := w) (base := base) Y.d_is_exhausted T g_known_kinds
  have g_conflicts_at := ok_conflicts_at (P := P) (w := w) (base := base) Y.d_conflicts_at T g_is_exhausted g_conflicts_between
  have g_conflict_in := ok_conflict_in (P := P) (w := w) (base := base) Y.d_conflict_in T g_epochs_of g_conflicts_at
  have g_conflict_of := ok_conflict_of (P := P) (w := w) (base := base) Y.d_conflict_of g_checked_entries g_conflict_in
  have g_certain_kind := ok_certain_kind (P := P) (w := w) (base := base) Y.d_certain_kind T g_later_options
  have g_certain_kinds := ok_certain_kinds (P := P) (w := w) (base := base) Y.d_certain_kinds T g_checked_entries g_conflict_in g_epochs_of g_waiting_options g_certain_kind
  have g_record_of := ok_record_of (P := P) (w := w) (base := base) Y.d_record_of g_runs_of g_leaving_number g_state_after_run
  have g_law_shuffled := ok_law_shuffled (P := P) (w := w) (base := base) Y.d_law_shuffled T g_law_draw
  have g_law_either := ok_law_either (P := P) (w := w) (base := base) Y.d_law_either T g_law_draw
  have g_law_kinds := ok_law_kinds (P := P) (w := w) (base := base) Y.d_law_kinds T g_law_draw g_law_shuffled
  have g_law_actions := ok_law_actions (P := P) (w := w) (base := base) Y.d_law_actions
  have g_law_items := ok_law_items (P := P) (w := w) (base := base) Y.d_law_items T g_law_draw
  have g_law_hidden := ok_law_hidden (P := P) (w := w) (base := base) Y.d_law_hidden T g_law_draw g_law_actions
  have g_law_less := ok_law_less (P := P) (w := w) (base := base) Y.d_law_less g_law_draw
  have g_law_named := ok_law_named (P := P) (w := w) (base := base) Y.d_law_named T
  have g_law_known_right := ok_law_known_right (P := P) (w := w) (base := base) Y.d_law_known_right T g_law_either g_record_of g_law_actions g_fitting_count g_certain_kinds
  have g_law_after_right := ok_law_after_right (P := P) (w := w) (base := base) Y.d_law_after_right T g_fitting_count g_conflict_of
  exact fn_law F T g_law_bag g_law_draw g_law_kinds g_law_items g_law_known_right g_law_hidden g_law_less g_conflict_of g_fitting_count g_certain_kinds g_law_shuffled g_law_named g_fitting_index g_law_after_right g_record_of
theorem all_mk {P : Program} {w : World} {K : PySem.W.Frag} {h : Heap} {mg : Str → Option Value} {fa f : Addr} {od an : Option Addr} {sl : Array (Option Value)} {oc kV dc pm cd ct : Value} (X : K.In h) (G : h.Ns mainGlobals mg) (hfa : mg "law" = some (.ref fa)) (a : PySem.W.nsIn K mainGlobals "law" = some (some (.ref f)))
    (l : K.lookup f = some ⟨oc, od, .func (PySem.W.fnOf "law" "law" (defArgs s_law) (defBody s_law) (defScope s_law) .none kV dc pm an cd ct), sl⟩) (c : PySem.W.codeIn K cd "law" = true) (k : PySem.W.keepIn K (.ref f) = true) (Y : Top K w mg) :
    ∃ fd : FuncData, (∀ (s : Shared) (v : Value), BindsTo s fd ⟨[v], []⟩ [("script", v)]) ∧ ∀ base : Heap, K.In base → base.Ns mainGlobals mg → FnC P w K mg base fa fd ["script"] (sp_law K) := by
  have e := hfa.symm.trans (PySem.W.mg_of X G a)
  cases e
  exact ⟨_, fun s v => .of_eq rfl, fun base _ _ => Y.law (fun_mk (st := s_law) l c k) base⟩
end UP
open PySem PySem.W PyProof.Rows
set_option maxHeartbeats 0 in
theorem PySem.Challenge.cw_unlikepairs_k47_whole_records_of_items_holds : PySem.Challenge.rw_unlikepairs_k47_whole_records_of_items.Holds := by
  w_on; o_law; k_head; (case hw => w_witness2)
  k_fill
  refine UP.walkC (l := PySem.Challenge.rw_unlikepairs_k47_whole_records_of_items) (n := 63) (x := "script") (sp := fun w => UP.sp_law _) rfl (by decide) rfl (fun w h Y => PySem.W.kIn_of Y) ?F (fun _ _ a ns hl hS => ⟨a, ns, rfl, hS, hl, fun _ => rfl⟩)
  case F =>
    intro w mg fa h KX G hmg
    refine' UP.all_mk KX G hmg ?a ?l ?c ?k ?Y
    (case a => k_is); (case l => k_is); (case c => k_is); (case k => k_is)
    case Y =>
      constructor
      · constructor
        · refine' PySem.W.mg_none_of KX G ?z; (case z => k_is)
        · refine' PySem.W.mg_none_of KX G ?z; (case z => k_is)
        · refine' PySem.W.mg_none_of KX G ?z; (case z => k_is)
        · refine' PySem.W.mg_none_of KX G ?z; (case z => k_is)
        · refine' PySem.W.mg_none_of KX G ?z; (case z => k_is)
        · refine' PySem.W.mg_none_of KX G ?z; (case z => k_is)
        · refine' PySem.W.mg_none_of KX G ?z; (case z => k_is)
        · refine' PySem.W.mg_none_of KX G ?z; (case z => k_is)
        · refine' PySem.W.mg_none_of KX G ?z; (case z => k_is)
        · refine' PySem.W.mg_none_of KX G ?z; (case z => k_is)
        · refine' PySem.W.mg_none_of KX G ?z; (case z => k_is)
        · refine' PySem.W.mg_none_of KX G ?z; (case z => k_is)
        · refine' PySem.W.mg_none_of KX G ?z; (case z => k_is)
        · refine' PySem.W.mg_none_of KX G ?z; (case z => k_is)
        · refine' PySem.W.mg_none_of KX G ?z; (case z => k_is)
        · refine' PySem.W.mg_none_of KX G ?z; (case z => k_is)
        · refine' PySem.W.mg_none_of KX G ?z; (case z => k_is)
        · refine' PySem.W.mg_none_of KX G ?z; (case z => k_is)
        · refine' PySem.W.mg_none_of KX G ?z; (case z => k_is)
        · refine' PySem.W.mg_none_of KX G ?z; (case z => k_is)
        · refine' PySem.W.mg_none_of KX G ?z; (case z => k_is)
        · refine' UP.cst_mk KX G ?z; (case z => k_is)
        · refine' UP.cst_mk KX G ?z; (case z => k_is)
        · refine' UP.cst_mk KX G ?z; (case z => k_is)
        · refine' UP.cst_mk KX G ?z; (case z => k_is)
      · refine' UP.df_mk KX G ?a ?l ?c ?k; (case a => k_is); (case l => k_is); (case c => k_is); (case k => k_is)
      · refine' UP.df_mk KX G ?a ?l ?c ?k; (case a => k_is); (case l => k_is); (case c => k_is); (case k => k_is)
      · refine' UP.df_mk KX G ?a ?l ?c ?k; (case a => k_is); (case l => k_is); (case c => k_is); (case k => k_is)
      · refine' UP.df_mk KX G ?a ?l ?c ?k; (case a => k_is); (case l => k_is); (case c => k_is); (case k => k_is)
      · refine' UP.df_mk KX G ?a ?l ?c ?k; (case a => k_is); (case l => k_is); (case c => k_is); (case k => k_is)
      · refine' UP.df_mk KX G ?a ?l ?c ?k; (case a => k_is); (case l => k_is); (case c => k_is); (case k => k_is)
      · refine' UP.df_mk KX G ?a ?l ?c ?k; (case a => k_is); (case l => k_is); (case c => k_is); (case k => k_is)
      · refine' UP.df_mk KX G ?a ?l ?c ?k; (case a => k_is); (case l => k_is); (case c => k_is); (case k => k_is)
      · refine' UP.df_mk KX G ?a ?l ?c ?k; (case a => k_is); (case l => k_is); (case c => k_is); (case k => k_is)
      · refine' UP.df_mk KX G ?a ?l ?c ?k; (case a => k_is); (case l => k_is); (case c => k_is); (case k => k_is)
      · refine' UP.df_mk KX G ?a ?l ?c ?k; (case a => k_is); (case l => k_is); (case c => k_is); (case k => k_is)
      · refine' UP.df_mk KX G ?a ?l ?c ?k; (case a => k_is); (case l => k_is); (case c => k_is); (case k => k_is)
      · refine' UP.df_mk KX G ?a ?l ?c ?k; (case a => k_is); (case l => k_is); (case c => k_is); (case k => k_is)
      · refine' UP.df_mk KX G ?a ?l ?c ?k; (case a => k_is); (case l => k_is); (case c => k_is); (case k => k_is)
      · refine' UP.df_mk KX G ?a ?l ?c ?k; (case a => k_is); (case l => k_is); (case c => k_is); (case k => k_is)
      · refine' UP.df_mk KX G ?a ?l ?c ?k; (case a => k_is); (case l => k_is); (case c => k_is); (case k => k_is)
      · refine' UP.df_mk KX G ?a ?l ?c ?k; (case a => k_is); (case l => k_is); (case c => k_is); (case k => k_is)
      · refine' UP.df_mk KX G ?a ?l ?c ?k; (case a => k_is); (case l => k_is); (case c => k_is); (case k => k_is)
      · refine' UP.df_mk KX G ?a ?l ?c ?k; (case a => k_is); (case l => k_is); (case c => k_is); (case k => k_is)
      · refine' UP.df_mk KX G ?a ?l ?c ?k; (case a => k_is); (case l => k_is); (case c => k_is); (case k => k_is)
      · refine' UP.df_mk KX G ?a ?l ?c ?k; (case a => k_is); (case l => k_is); (case c => k_is); (case k => k_is)
      · refine' UP.df_mk KX G ?a ?l ?c ?k; (case a => k_is); (case l => k_is); (case c => k_is); (case k => k_is)
      · refine' UP.df_mk KX G ?a ?l ?c ?k; (case a => k_is); (case l => k_is); (case c => k_is); (case k => k_is)
      · refine' UP.df_mk KX G ?a ?l ?c ?k; (case a => k_is); (case l => k_is); (case c => k_is); (case k => k_is)
      · refine' UP.df_mk KX G ?a ?l ?c ?k; (case a => k_is); (case l => k_is); (case c => k_is); (case k => k_is)
      · refine' UP.df_mk KX G ?a ?l ?c ?k; (case a => k_is); (case l => k_is); (case c => k_is); (case k => k_is)
      · refine' UP.df_mk KX G ?a ?l ?c ?k; (case a => k_is); (case l => k_is); (case c => k_is); (case k => k_is)
      · refine' UP.df_mk KX G ?a ?l ?c ?k; (case a => k_is); (case l => k_is); (case c => k_is); (case k => k_is)
      · refine' UP.df_mk KX G ?a ?l ?c ?k; (case a => k_is); (case l => k_is); (case c => k_is); (case k => k_is)
      · refine' UP.df_mk KX G ?a ?l ?c ?k; (case a => k_is); (case l => k_is); (case c => k_is); (case k => k_is)
      · refine' UP.df_mk KX G ?a ?l ?c ?k; (case a => k_is); (case l => k_is); (case c => k_is); (case k => k_is)
      · refine' UP.df_mk KX G ?a ?l ?c ?k; (case a => k_is); (case l => k_is); (case c => k_is); (case k => k_is)
      · refine' UP.df_mk KX G ?a ?l ?c ?k; (case a => k_is); (case l => k_is); (case c => k_is); (case k => k_is)
      · refine' UP.df_mk KX G ?a ?l ?c ?k; (case a => k_is); (case l => k_is); (case c => k_is); (case k => k_is)
      · refine' UP.df_mk KX G ?a ?l ?c ?k; (case a => k_is); (case l => k_is); (case c => k_is); (case k => k_is)
      · refine' UP.df_mk KX G ?a ?l ?c ?k; (case a => k_is); (case l => k_is); (case c => k_is); (case k => k_is)
      · refine' UP.df_mk KX G ?a ?l ?c ?k; (case a => k_is); (case l => k_is); (case c => k_is); (case k => k_is)
      · refine' UP.df_mk KX G ?a ?l ?c ?k; (case a => k_is); (case l => k_is); (case c => k_is); (case k => k_is)
      · refine' UP.df_mk KX G ?a ?l ?c ?k; (case a => k_is); (case l => k_is); (case c => k_is); (case k => k_is)
      · refine' UP.df_mk KX G ?a ?l ?c ?k; (case a => k_is); (case l => k_is); (case c => k_is); (case k => k_is)
      · refine' UP.df_mk KX G ?a ?l ?c ?k; (case a => k_is); (case l => k_is); (case c => k_is); (case k => k_is)
      · refine' UP.df_mk KX G ?a ?l ?c ?k; (case a => k_is); (case l => k_is); (case c => k_is); (case k => k_is)
      · refine' UP.df_mk KX G ?a ?l ?c ?k; (case a => k_is); (case l => k_is); (case c => k_is); (case k => k_is)
      · refine' UP.df_mk KX G ?a ?l ?c ?k; (case a => k_is); (case l => k_is); (case c => k_is); (case k => k_is)
