import PyProof.Rows.All
import Wide.All
import OpenK.AllK
import Wide.FinOn
import PyProof.EqAt
import PyProof.EqKinds
import PyProof.TupleCall
import KE.KStateDown
import KE.OsHead
import KE.OsGo
import Open.SpecLaws
import HandS.ForSpec
import HandS.ForMost
import HandS.Defaults
import HandS.CallLocal
import HandS.Codes
import HandS.Flow
import HandS.FStr
import HandS.Deep
import HandS.DictTup
import HandS.Conv
import HandS.Head0
import HandS.Head1
import HandS.Head2
import HandS.Head3
import HandS.Head4
import HandS.HeadHook1
import HandS.HeadHook2
import HandS.Walk
import HandS.More
import KE.KDictWalk
import KE.KMinBuiltin
import HandS.SortKw
import HandS.Slots
import PyVaescn
import PySem.Challenge.RW_shortmark_s01_answers
set_option Elab.async false
set_option linter.all false
set_option maxRecDepth 100000
set_option maxHeartbeats 0
/-! the head: what the program's top leaves, by names -/
namespace Sm
open PySem PySem.Spec PyProof.Rows L2
universe u
variable {α : Type}
abbrev prg : Program := PySem.Challenge.pw_shortmark_s01_answers
def sT (i : Nat) : Stmt := prg.main.body.getD i (.Pass ⟨0, 0, 0, 0⟩)
/-- the function's data, read off the written part -/
def fdA (K : PySem.W.Frag) (p : Str × Option Str) : FuncData := match K.lookup (He.fAd K p) with
  | some ⟨_, _, .func fd, _⟩ => fd
  | _ => PySem.W.fnOf "" "" (defArgs (.Pass ⟨0, 0, 0, 0⟩)) [] (defScope (.Pass ⟨0, 0, 0, 0⟩)) .none .none .none .none none .none .none
abbrev FnP (K : PySem.W.Frag) (p : Str × Option Str) (x qual : Str) (st : Stmt) : Prop := FunD K x qual (defArgs st) (defBody st) (defScope st) [] [] (He.fAd K p) (fdA K p)
/-- the tuple at an address -/
def tupAt (K : PySem.W.Frag) (a : Addr) (vs : List V) : Bool := match K.lookup a with
  | some ⟨.type c, _, .seq its _, _⟩ => decide (c = "tuple") && (decide (its.size ≤ sizeLine) && He.relAll vs its.toList)
  | _ => false
theorem tupAt_ok {K : PySem.W.Frag} {a : Addr} {vs : List V} (h : tupAt K a vs = true) (H : Hp) : SqT K H a vs := by
  unfold tupAt at h
  cases q : K.lookup a with
  | none =>
    rw [q] at h
    cases h
  | some o =>
    obtain ⟨oc, od, dt, osl⟩ := o
    rw [q] at h
    cases oc with
    | type c =>
      cases dt with
      | seq its n =>
        obtain ⟨h1, h2⟩ := He.ba (show (decide (c = "tuple") && (decide (its.size ≤ sizeLine) && He.relAll vs its.toList)) = true from h)
        obtain ⟨h3, h4⟩ := He.ba h2
        exact .inr ⟨_, its, n, q, congrArg Value.type (of_decide_eq_true h1), rfl, of_decide_eq_true h3, He.relAll_ok h4⟩
      | _ => cases h
    | _ => cases dt <;> cases h
/-- the i-th item of the tuple at an address -/
def itAt (K : PySem.W.Frag) (a : Addr) (i : Nat) : Addr := match K.lookup a with
  | some ⟨_, _, .seq its _, _⟩ => (match its.toList[i]? with
    | some (.ref b) => b
    | _ => 0)
  | _ => 0
def dfs_0 : List He.DefD := [⟨("Cursor", some "__init__"), "__init__", "Cursor.__init__", defArgs (inClass (sT 1) 0), defBody (inClass (sT 1) 0), defScope (inClass (sT 1) 0), [], []⟩, ⟨("Cursor", some "is_through"), "is_through", "Cursor.is_through", defArgs (inClass (sT 1) 1), defBody (inClass (sT 1) 1), defScope (inClass (sT 1) 1), [], []⟩, ⟨("Cursor", some "take_number"), "take_number", "Cursor.take_number", defArgs (inClass (sT 1) 2), defBody (inClass (sT 1) 2), defScope (inClass (sT 1) 2), [], []⟩, ⟨("Cursor", some "take_row"), "take_row", "Cursor.take_row", defArgs (inClass (sT 1) 3), defBody (inClass (sT 1) 3), defScope (inClass (sT 1) 3), [], []⟩, ⟨("Token", some "__init__"), "__init__", "Token.__init__", defArgs (inClass (sT 8) 0), defBody (inClass (sT 8) 0), defScope (inClass (sT 8) 0), [], []⟩, ⟨("signs_token", none), "signs_token", "signs_token", defArgs (sT 9), defBody (sT 9), defScope (sT 9), [], []⟩, ⟨("open_tag", none), "open_tag", "open_tag", defArgs (sT 10), defBody (sT 10), defScope (sT 10), [], []⟩, ⟨("close_tag", none), "close_tag", "close_tag", defArgs (sT 11), defBody (sT 11), defScope (sT 11), [], []⟩, ⟨("Joiner", some "__init__"), "__init__", "Joiner.__init__", defArgs (inClass (sT 13) 0), defBody (inClass (sT 13) 0), defScope (inClass (sT 13) 0), [], []⟩, ⟨("Joiner", some "settle"), "settle", "Joiner.settle", defArgs (inClass (sT 13) 1), defBody (inClass (sT 13) 1), defScope (inClass (sT 13) 1), [], []⟩, ⟨("Joiner", some "release"), "release", "Joiner.release", defArgs (inClass (sT 13) 2), defBody (inClass (sT 13) 2), defScope (inClass (sT 13) 2), [], []⟩, ⟨("closes", none), "closes", "closes", defArgs (sT 14), defBody (sT 14), defScope (sT 14), [], []⟩, ⟨("joined", none), "joined", "joined", defArgs (sT 15), defBody (sT 15), defScope (sT 15), [], []⟩, ⟨("normal_tokens", none), "normal_tokens", "normal_tokens", defArgs (sT 16), defBody (sT 16), defScope (sT 16), [], []⟩, ⟨("signs_of", none), "signs_of", "signs_of", defArgs (sT 34), defBody (sT 34), defScope (sT 34), [], []⟩, ⟨("is_byte", none), "is_byte", "is_byte", defArgs (sT 35), defBody (sT 35), defScope (sT 35), [], []⟩, ⟨("is_blank", none), "is_blank", "is_blank", defArgs (sT 36), defBody (sT 36), defScope (sT 36), [], []⟩, ⟨("is_small_letter", none), "is_small_letter", "is_small_letter", defArgs (sT 37), defBody (sT 37), defScope (sT 37), [], []⟩, ⟨("is_large_letter", none), "is_large_letter", "is_large_letter", defArgs (sT 38), defBody (sT 38), defScope (sT 38), [], []⟩, ⟨("is_digit", none), "is_digit", "is_digit", defArgs (sT 39), defBody (sT 39), defScope (sT 39), [], []⟩]
def dfs_1 : List He.DefD := [⟨("is_name_sign", none), "is_name_sign", "is_name_sign", defArgs (sT 40), defBody (sT 40), defScope (sT 40), [], []⟩, ⟨("is_body_sign", none), "is_body_sign", "is_body_sign", defArgs (sT 41), defBody (sT 41), defScope (sT 41), [], []⟩, ⟨("is_bare", none), "is_bare", "is_bare", defArgs (sT 42), defBody (sT 42), defScope (sT 42), [], []⟩, ⟨("Reader", some "__init__"), "__init__", "Reader.__init__", defArgs (inClass (sT 78) 0), defBody (inClass (sT 78) 0), defScope (inClass (sT 78) 0), [], []⟩, ⟨("Reader", some "fail"), "fail", "Reader.fail", defArgs (inClass (sT 78) 1), defBody (inClass (sT 78) 1), defScope (inClass (sT 78) 1), [], []⟩, ⟨("Reader", some "finish_run"), "finish_run", "Reader.finish_run", defArgs (inClass (sT 78) 2), defBody (inClass (sT 78) 2), defScope (inClass (sT 78) 2), [], []⟩, ⟨("Reader", some "finish_attribute"), "finish_attribute", "Reader.finish_attribute", defArgs (inClass (sT 78) 3), defBody (inClass (sT 78) 3), defScope (inClass (sT 78) 3), [], []⟩, ⟨("Reader", some "finish_open_tag"), "finish_open_tag", "Reader.finish_open_tag", defArgs (inClass (sT 78) 4), defBody (inClass (sT 78) 4), defScope (inClass (sT 78) 4), [], []⟩, ⟨("Reader", some "finish_close_tag"), "finish_close_tag", "Reader.finish_close_tag", defArgs (inClass (sT 78) 5), defBody (inClass (sT 78) 5), defScope (inClass (sT 78) 5), [], []⟩, ⟨("Reader", some "finish_raw"), "finish_raw", "Reader.finish_raw", defArgs (inClass (sT 78) 6), defBody (inClass (sT 78) 6), defScope (inClass (sT 78) 6), [], []⟩, ⟨("is_raw_name", none), "is_raw_name", "is_raw_name", defArgs (sT 79), defBody (sT 79), defScope (sT 79), [], []⟩, ⟨("byte_of", none), "byte_of", "byte_of", defArgs (sT 82), defBody (sT 82), defScope (sT 82), [], []⟩, ⟨("byte_in_base", none), "byte_in_base", "byte_in_base", defArgs (sT 83), defBody (sT 83), defScope (sT 83), [], []⟩, ⟨("digit_value", none), "digit_value", "digit_value", defArgs (sT 84), defBody (sT 84), defScope (sT 84), [], []⟩, ⟨("text_step", none), "text_step", "text_step", defArgs (sT 88), defBody (sT 88), defScope (sT 88), [], []⟩, ⟨("text_reference_step", none), "text_reference_step", "text_reference_step", defArgs (sT 89), defBody (sT 89), defScope (sT 89), [], []⟩, ⟨("double_reference_step", none), "double_reference_step", "double_reference_step", defArgs (sT 90), defBody (sT 90), defScope (sT 90), [], []⟩, ⟨("single_reference_step", none), "single_reference_step", "single_reference_step", defArgs (sT 91), defBody (sT 91), defScope (sT 91), [], []⟩, ⟨("bare_reference_step", none), "bare_reference_step", "bare_reference_step", defArgs (sT 92), defBody (sT 92), defScope (sT 92), [], []⟩, ⟨("reference_step", none), "reference_step", "reference_step", defArgs (sT 93), defBody (sT 93), defScope (sT 93), [], []⟩]
def dfs_2 : List He.DefD := [⟨("finish_reference", none), "finish_reference", "finish_reference", defArgs (sT 94), defBody (sT 94), defScope (sT 94), [], []⟩, ⟨("behind_less_step", none), "behind_less_step", "behind_less_step", defArgs (sT 95), defBody (sT 95), defScope (sT 95), [], []⟩, ⟨("only_step", none), "only_step", "only_step", defArgs (sT 96), defBody (sT 96), defScope (sT 96), [], []⟩, ⟨("add_to_name", none), "add_to_name", "add_to_name", defArgs (sT 97), defBody (sT 97), defScope (sT 97), [], []⟩, ⟨("open_name_step", none), "open_name_step", "open_name_step", defArgs (sT 98), defBody (sT 98), defScope (sT 98), [], []⟩, ⟨("behind_close_step", none), "behind_close_step", "behind_close_step", defArgs (sT 99), defBody (sT 99), defScope (sT 99), [], []⟩, ⟨("close_name_step", none), "close_name_step", "close_name_step", defArgs (sT 100), defBody (sT 100), defScope (sT 100), [], []⟩, ⟨("gap_step", none), "gap_step", "gap_step", defArgs (sT 101), defBody (sT 101), defScope (sT 101), [], []⟩, ⟨("attribute_name_step", none), "attribute_name_step", "attribute_name_step", defArgs (sT 102), defBody (sT 102), defScope (sT 102), [], []⟩, ⟨("behind_equals_step", none), "behind_equals_step", "behind_equals_step", defArgs (sT 103), defBody (sT 103), defScope (sT 103), [], []⟩, ⟨("double_value_step", none), "double_value_step", "double_value_step", defArgs (sT 104), defBody (sT 104), defScope (sT 104), [], []⟩, ⟨("single_value_step", none), "single_value_step", "single_value_step", defArgs (sT 105), defBody (sT 105), defScope (sT 105), [], []⟩, ⟨("quoted_value_step", none), "quoted_value_step", "quoted_value_step", defArgs (sT 106), defBody (sT 106), defScope (sT 106), [], []⟩, ⟨("bare_value_step", none), "bare_value_step", "bare_value_step", defArgs (sT 107), defBody (sT 107), defScope (sT 107), [], []⟩, ⟨("behind_value_step", none), "behind_value_step", "behind_value_step", defArgs (sT 108), defBody (sT 108), defScope (sT 108), [], []⟩, ⟨("behind_slash_step", none), "behind_slash_step", "behind_slash_step", defArgs (sT 109), defBody (sT 109), defScope (sT 109), [], []⟩, ⟨("behind_exclamation_step", none), "behind_exclamation_step", "behind_exclamation_step", defArgs (sT 110), defBody (sT 110), defScope (sT 110), [], []⟩, ⟨("behind_dash_step", none), "behind_dash_step", "behind_dash_step", defArgs (sT 111), defBody (sT 111), defScope (sT 111), [], []⟩, ⟨("comment_no_dash_step", none), "comment_no_dash_step", "comment_no_dash_step", defArgs (sT 112), defBody (sT 112), defScope (sT 112), [], []⟩, ⟨("comment_one_dash_step", none), "comment_one_dash_step", "comment_one_dash_step", defArgs (sT 113), defBody (sT 113), defScope (sT 113), [], []⟩]
def dfs_3 : List He.DefD := [⟨("comment_two_dashes_step", none), "comment_two_dashes_step", "comment_two_dashes_step", defArgs (sT 114), defBody (sT 114), defScope (sT 114), [], []⟩, ⟨("raw_step", none), "raw_step", "raw_step", defArgs (sT 115), defBody (sT 115), defScope (sT 115), [], []⟩, ⟨("raw_behind_less_step", none), "raw_behind_less_step", "raw_behind_less_step", defArgs (sT 116), defBody (sT 116), defScope (sT 116), [], []⟩, ⟨("raw_behind_close_step", none), "raw_behind_close_step", "raw_behind_close_step", defArgs (sT 117), defBody (sT 117), defScope (sT 117), [], []⟩, ⟨("take_sign", none), "take_sign", "take_sign", defArgs (sT 119), defBody (sT 119), defScope (sT 119), [], []⟩, ⟨("read_signs", none), "read_signs", "read_signs", defArgs (sT 121), defBody (sT 121), defScope (sT 121), [], []⟩, ⟨("read_end", none), "read_end", "read_end", defArgs (sT 122), defBody (sT 122), defScope (sT 122), [], []⟩, ⟨("read_text", none), "read_text", "read_text", defArgs (sT 123), defBody (sT 123), defScope (sT 123), [], []⟩, ⟨("shortest_form", none), "shortest_form", "shortest_form", defArgs (sT 125), defBody (sT 125), defScope (sT 125), [], []⟩, ⟨("reference_to", none), "reference_to", "reference_to", defArgs (sT 126), defBody (sT 126), defScope (sT 126), [], []⟩, ⟨("quoted_form", none), "quoted_form", "quoted_form", defArgs (sT 127), defBody (sT 127), defScope (sT 127), [], []⟩, ⟨("bare_form", none), "bare_form", "bare_form", defArgs (sT 128), defBody (sT 128), defScope (sT 128), [], []⟩, ⟨("cheapest_form", none), "cheapest_form", "cheapest_form", defArgs (sT 129), defBody (sT 129), defScope (sT 129), [], []⟩, ⟨("short_open_tag", none), "short_open_tag", "short_open_tag", defArgs (sT 130), defBody (sT 130), defScope (sT 130), [], []⟩, ⟨("tag_end", none), "tag_end", "tag_end", defArgs (sT 131), defBody (sT 131), defScope (sT 131), [], []⟩, ⟨("short_attribute", none), "short_attribute", "short_attribute", defArgs (sT 132), defBody (sT 132), defScope (sT 132), [], []⟩, ⟨("short_token", none), "short_token", "short_token", defArgs (sT 133), defBody (sT 133), defScope (sT 133), [], []⟩, ⟨("short_tokens", none), "short_tokens", "short_tokens", defArgs (sT 134), defBody (sT 134), defScope (sT 134), [], []⟩, ⟨("Session", some "__init__"), "__init__", "Session.__init__", defArgs (inClass (sT 137) 0), defBody (inClass (sT 137) 0), defScope (inClass (sT 137) 0), [], []⟩, ⟨("Session", some "begin"), "begin", "Session.begin", defArgs (inClass (sT 137) 1), defBody (inClass (sT 137) 1), defScope (inClass (sT 137) 1), [], []⟩]
def dfs_4 : List He.DefD := [⟨("Session", some "is_over"), "is_over", "Session.is_over", defArgs (inClass (sT 137) 2), defBody (inClass (sT 137) 2), defScope (inClass (sT 137) 2), [], []⟩, ⟨("Session", some "has_room_for"), "has_room_for", "Session.has_room_for", defArgs (inClass (sT 137) 3), defBody (inClass (sT 137) 3), defScope (inClass (sT 137) 3), [], []⟩, ⟨("Session", some "feed"), "feed", "Session.feed", defArgs (inClass (sT 137) 4), defBody (inClass (sT 137) 4), defScope (inClass (sT 137) 4), [], []⟩, ⟨("Session", some "end"), "end", "Session.end", defArgs (inClass (sT 137) 5), defBody (inClass (sT 137) 5), defScope (inClass (sT 137) 5), [], []⟩, ⟨("Session", some "new_normal_tokens"), "new_normal_tokens", "Session.new_normal_tokens", defArgs (inClass (sT 137) 6), defBody (inClass (sT 137) 6), defScope (inClass (sT 137) 6), [], []⟩, ⟨("counted", none), "counted", "counted", defArgs (sT 139), defBody (sT 139), defScope (sT 139), [], []⟩, ⟨("told_token", none), "told_token", "told_token", defArgs (sT 140), defBody (sT 140), defScope (sT 140), [], []⟩, ⟨("told_attributes", none), "told_attributes", "told_attributes", defArgs (sT 141), defBody (sT 141), defScope (sT 141), [], []⟩, ⟨("laid_out", none), "laid_out", "laid_out", defArgs (sT 143), defBody (sT 143), defScope (sT 143), [], []⟩, ⟨("laid_token", none), "laid_token", "laid_token", defArgs (sT 144), defBody (sT 144), defScope (sT 144), [], []⟩, ⟨("full_open_tag", none), "full_open_tag", "full_open_tag", defArgs (sT 145), defBody (sT 145), defScope (sT 145), [], []⟩, ⟨("full_value", none), "full_value", "full_value", defArgs (sT 146), defBody (sT 146), defScope (sT 146), [], []⟩, ⟨("read_answer", none), "read_answer", "read_answer", defArgs (sT 148), defBody (sT 148), defScope (sT 148), [], []⟩, ⟨("fault_answer", none), "fault_answer", "fault_answer", defArgs (sT 149), defBody (sT 149), defScope (sT 149), [], []⟩, ⟨("minified_answer", none), "minified_answer", "minified_answer", defArgs (sT 150), defBody (sT 150), defScope (sT 150), [], []⟩, ⟨("saved_answer", none), "saved_answer", "saved_answer", defArgs (sT 151), defBody (sT 151), defScope (sT 151), [], []⟩, ⟨("saved_by_kinds", none), "saved_by_kinds", "saved_by_kinds", defArgs (sT 152), defBody (sT 152), defScope (sT 152), [], []⟩, ⟨("laid_answer", none), "laid_answer", "laid_answer", defArgs (sT 153), defBody (sT 153), defScope (sT 153), [], []⟩, ⟨("same_answer", none), "same_answer", "same_answer", defArgs (sT 154), defBody (sT 154), defScope (sT 154), [], []⟩, ⟨("tokens_answer", none), "tokens_answer", "tokens_answer", defArgs (sT 155), defBody (sT 155), defScope (sT 155), [], []⟩]
def dfs_5 : List He.DefD := [⟨("told_normal_tokens", none), "told_normal_tokens", "told_normal_tokens", defArgs (sT 156), defBody (sT 156), defScope (sT 156), [], []⟩, ⟨("begin_call", none), "begin_call", "begin_call", defArgs (sT 164), defBody (sT 164), defScope (sT 164), [], []⟩, ⟨("feed_call", none), "feed_call", "feed_call", defArgs (sT 165), defBody (sT 165), defScope (sT 165), [], []⟩, ⟨("end_call", none), "end_call", "end_call", defArgs (sT 166), defBody (sT 166), defScope (sT 166), [], []⟩, ⟨("minify_call", none), "minify_call", "minify_call", defArgs (sT 167), defBody (sT 167), defScope (sT 167), [], []⟩, ⟨("saved_call", none), "saved_call", "saved_call", defArgs (sT 168), defBody (sT 168), defScope (sT 168), [], []⟩, ⟨("laid_call", none), "laid_call", "laid_call", defArgs (sT 169), defBody (sT 169), defScope (sT 169), [], []⟩, ⟨("same_call", none), "same_call", "same_call", defArgs (sT 170), defBody (sT 170), defScope (sT 170), [], []⟩, ⟨("value_call", none), "value_call", "value_call", defArgs (sT 171), defBody (sT 171), defScope (sT 171), [], []⟩, ⟨("tokens_call", none), "tokens_call", "tokens_call", defArgs (sT 172), defBody (sT 172), defScope (sT 172), [], []⟩, ⟨("bytes_refusal", none), "bytes_refusal", "bytes_refusal", defArgs (sT 174), defBody (sT 174), defScope (sT 174), [], []⟩, ⟨("feed_refusal", none), "feed_refusal", "feed_refusal", defArgs (sT 175), defBody (sT 175), defScope (sT 175), [], []⟩, ⟨("width_refusal", none), "width_refusal", "width_refusal", defArgs (sT 176), defBody (sT 176), defScope (sT 176), [], []⟩, ⟨("tight_refusal", none), "tight_refusal", "tight_refusal", defArgs (sT 177), defBody (sT 177), defScope (sT 177), [], []⟩, ⟨("answers", none), "answers", "answers", defArgs (sT 178), defBody (sT 178), defScope (sT 178), [], []⟩]
def dfs : List He.DefD := dfs_0 ++ dfs_1 ++ dfs_2 ++ dfs_3 ++ dfs_4 ++ dfs_5
def fas_0 : List He.Fa := [.glo "signs_token", .glo "open_tag", .glo "close_tag", .glo "closes", .glo "joined", .glo "normal_tokens", .glo "signs_of", .glo "is_byte", .glo "is_blank", .glo "is_small_letter", .glo "is_large_letter", .glo "is_digit", .glo "is_name_sign", .glo "is_body_sign", .glo "is_bare", .glo "is_raw_name", .glo "byte_of", .glo "byte_in_base", .glo "digit_value", .glo "text_step", .glo "text_reference_step", .glo "double_reference_step", .glo "single_reference_step", .glo "bare_reference_step", .glo "reference_step", .glo "finish_reference", .glo "behind_less_step", .glo "only_step", .glo "add_to_name", .glo "open_name_step", .glo "behind_close_step", .glo "close_name_step", .glo "gap_step", .glo "attribute_name_step", .glo "behind_equals_step", .glo "double_value_step", .glo "single_value_step", .glo "quoted_value_step", .glo "bare_value_step", .glo "behind_value_step"]
def fas_1 : List He.Fa := [.glo "behind_slash_step", .glo "behind_exclamation_step", .glo "behind_dash_step", .glo "comment_no_dash_step", .glo "comment_one_dash_step", .glo "comment_two_dashes_step", .glo "raw_step", .glo "raw_behind_less_step", .glo "raw_behind_close_step", .glo "take_sign", .glo "read_signs", .glo "read_end", .glo "read_text", .glo "shortest_form", .glo "reference_to", .glo "quoted_form", .glo "bare_form", .glo "cheapest_form", .glo "short_open_tag", .glo "tag_end", .glo "short_attribute", .glo "short_token", .glo "short_tokens", .glo "counted", .glo "told_token", .glo "told_attributes", .glo "laid_out", .glo "laid_token", .glo "full_open_tag", .glo "full_value", .glo "read_answer", .glo "fault_answer", .glo "minified_answer", .glo "saved_answer", .glo "saved_by_kinds", .glo "laid_answer", .glo "same_answer", .glo "tokens_answer", .glo "told_normal_tokens", .glo "begin_call"]
def fas_2 : List He.Fa := [.glo "feed_call", .glo "end_call", .glo "minify_call", .glo "saved_call", .glo "laid_call", .glo "same_call", .glo "value_call", .glo "tokens_call", .glo "bytes_refusal", .glo "feed_refusal", .glo "width_refusal", .glo "tight_refusal", .glo "answers", .glo "Cursor", .cls "Cursor", .mkr "Cursor", .noat "Cursor" "numbers", .noat "Cursor" "place", .meth "Cursor" "is_through", .meth "Cursor" "take_number", .meth "Cursor" "take_row", .glo "Token", .cls "Token", .mkr "Token", .noat "Token" "kind", .noat "Token" "place", .noat "Token" "stop", .noat "Token" "name", .noat "Token" "attributes", .noat "Token" "ended", .noat "Token" "signs", .glo "Joiner", .cls "Joiner", .mkr "Joiner", .noat "Joiner" "held", .meth "Joiner" "settle", .meth "Joiner" "release", .glo "Reader", .cls "Reader", .mkr "Reader"]
def fas_3 : List He.Fa := [.noat "Reader" "mode", .noat "Reader" "count", .noat "Reader" "tokens", .noat "Reader" "tag_name", .noat "Reader" "attributes", .noat "Reader" "attribute_name", .noat "Reader" "body", .noat "Reader" "run", .noat "Reader" "begun", .noat "Reader" "fault_kind", .meth "Reader" "fail", .meth "Reader" "finish_run", .meth "Reader" "finish_attribute", .meth "Reader" "finish_open_tag", .meth "Reader" "finish_close_tag", .meth "Reader" "finish_raw", .glo "Session", .cls "Session", .mkr "Session", .noat "Session" "reader", .noat "Session" "joiner", .noat "Session" "looked_at", .meth "Session" "begin", .meth "Session" "is_over", .meth "Session" "has_room_for", .meth "Session" "feed", .meth "Session" "end", .meth "Session" "new_normal_tokens", .int "RUN_OF_TEXT" (0), .int "OPEN_TAG" (1), .int "CLOSE_TAG" (2), .int "COMMENT" (3), .int "RAW_TEXT" (4), .int "LINE_FEED" (10), .int "SPACE" (32), .int "EXCLAMATION" (33), .int "DOUBLE_QUOTE" (34), .int "NUMBER_SIGN" (35), .int "AMPERSAND" (38), .int "SINGLE_QUOTE" (39)]
def fas_4 : List He.Fa := [.int "DASH" (45), .int "SLASH" (47), .int "SEMICOLON" (59), .int "LESS" (60), .int "EQUALS" (61), .int "GREATER" (62), .int "LARGEST_BYTE" (255), .int "TEXT" (0), .int "REFERENCE_IN_TEXT" (1), .int "REFERENCE_IN_DOUBLE" (2), .int "REFERENCE_IN_SINGLE" (3), .int "REFERENCE_IN_BARE" (4), .int "BEHIND_LESS" (5), .int "OPEN_NAME" (6), .int "BEHIND_CLOSE" (7), .int "CLOSE_NAME" (8), .int "GAP" (9), .int "ATTRIBUTE_NAME" (10), .int "BEHIND_EQUALS" (11), .int "DOUBLE_VALUE" (12), .int "SINGLE_VALUE" (13), .int "BARE_VALUE" (14), .int "BEHIND_VALUE" (15), .int "BEHIND_SLASH" (16), .int "BEHIND_EXCLAMATION" (17), .int "BEHIND_DASH" (18), .int "COMMENT_NO_DASH" (19), .int "COMMENT_ONE_DASH" (20), .int "COMMENT_TWO_DASHES" (21), .int "RAW" (22), .int "RAW_BEHIND_LESS" (23), .int "RAW_BEHIND_CLOSE" (24), .int "ENDED" (25), .int "FAULT" (26), .int "WRONG_SIGN" (1), .int "LONG_NAME" (2), .int "NAME_TWICE" (3), .int "WRONG_REFERENCE" (4), .int "WRONG_RAW_CLOSE" (6), .int "UNFINISHED" (7)]
def fas_5 : List He.Fa := [.int "LONGEST_NAME" (32), .int "LONGEST_BODY" (4), .int "MOST_FED" (16384), .int "MOST_BYTES" (8192), .int "NO_BYTES" (-1), .int "TOO_MANY_BYTES" (-2), .int "TOO_MUCH_FED" (-3), .int "TEXT_IS_OVER" (-4), .int "WRONG_SETTING" (-5), .free "len", .free "ord", .free "list", .free "tuple", .free "min", .free "all", .free "sum", .free "enumerate", .glo "BLANKS", .glo "NOT_BARE", .glo "RAW_NAMES", .glo "NAMED", .glo "STEPS", .glo "CALLS"]
def fas : List He.Fa := fas_0 ++ fas_1 ++ fas_2 ++ fas_3 ++ fas_4 ++ fas_5
def exs (K : PySem.W.Frag) : List Bool := [tupAt K (He.ga K "BLANKS") ([(.int 9 : He.Dv), .int 10, .int 13, .int 32].map (He.Dv.v K)),
  tupAt K (He.ga K "NOT_BARE") ([(.int 9 : He.Dv), .int 10, .int 13, .int 32, .int 34, .int 38, .int 39, .int 60, .int 61, .int 62, .int 96].map (He.Dv.v K)),
  tupAt K (He.ga K "RAW_NAMES") ([(.str "calc" : He.Dv), .str "verb"].map (He.Dv.v K)),
  tupAt K (He.ga K "NAMED") [.ref (itAt K (He.ga K "NAMED") 0), .ref (itAt K (He.ga K "NAMED") 1), .ref (itAt K (He.ga K "NAMED") 2), .ref (itAt K (He.ga K "NAMED") 3), .ref (itAt K (He.ga K "NAMED") 4)],
  tupAt K (itAt K (He.ga K "NAMED") 0) [.str "amp", .int 38],
  tupAt K (itAt K (He.ga K "NAMED") 1) [.str "lt", .int 60],
  tupAt K (itAt K (He.ga K "NAMED") 2) [.str "gt", .int 62],
  tupAt K (itAt K (He.ga K "NAMED") 3) [.str "quot", .int 34],
  tupAt K (itAt K (He.ga K "NAMED") 4) [.str "apos", .int 39],
  tupAt K (He.ga K "STEPS") ([(.glo "text_step" : He.Dv), .glo "text_reference_step", .glo "double_reference_step", .glo "single_reference_step", .glo "bare_reference_step", .glo "behind_less_step", .glo "open_name_step", .glo "behind_close_step", .glo "close_name_step", .glo "gap_step", .glo "attribute_name_step", .glo "behind_equals_step", .glo "double_value_step", .glo "single_value_step", .glo "bare_value_step", .glo "behind_value_step", .glo "behind_slash_step", .glo "behind_exclamation_step", .glo "behind_dash_step", .glo "comment_no_dash_step", .glo "comment_one_dash_step", .glo "comment_two_dashes_step", .glo "raw_step", .glo "raw_behind_less_step", .glo "raw_behind_close_step"].map (He.Dv.v K)),
  tupAt K (He.ga K "CALLS") ([(.glo "begin_call" : He.Dv), .glo "feed_call", .glo "end_call", .glo "minify_call", .glo "saved_call", .glo "laid_call", .glo "same_call", .glo "value_call", .glo "tokens_call"].map (He.Dv.v K))]
def loo_0 : List Str := ["Cursor", "RUN_OF_TEXT", "OPEN_TAG", "CLOSE_TAG", "COMMENT", "RAW_TEXT", "Token", "signs_token", "open_tag", "close_tag", "Joiner", "closes", "joined", "normal_tokens", "LINE_FEED", "SPACE", "EXCLAMATION", "DOUBLE_QUOTE", "NUMBER_SIGN", "AMPERSAND", "SINGLE_QUOTE", "DASH", "SLASH", "SEMICOLON", "LESS", "EQUALS", "GREATER", "LARGEST_BYTE", "BLANKS", "NOT_BARE"]
def loo_1 : List Str := ["signs_of", "is_byte", "is_blank", "is_small_letter", "is_large_letter", "is_digit", "is_name_sign", "is_body_sign", "is_bare", "TEXT", "REFERENCE_IN_TEXT", "REFERENCE_IN_DOUBLE", "REFERENCE_IN_SINGLE", "REFERENCE_IN_BARE", "BEHIND_LESS", "OPEN_NAME", "BEHIND_CLOSE", "CLOSE_NAME", "GAP", "ATTRIBUTE_NAME", "BEHIND_EQUALS", "DOUBLE_VALUE", "SINGLE_VALUE", "BARE_VALUE", "BEHIND_VALUE", "BEHIND_SLASH", "BEHIND_EXCLAMATION", "BEHIND_DASH", "COMMENT_NO_DASH", "COMMENT_ONE_DASH"]
def loo_2 : List Str := ["COMMENT_TWO_DASHES", "RAW", "RAW_BEHIND_LESS", "RAW_BEHIND_CLOSE", "ENDED", "FAULT", "WRONG_SIGN", "LONG_NAME", "NAME_TWICE", "WRONG_REFERENCE", "WRONG_RAW_CLOSE", "UNFINISHED", "RAW_NAMES", "Reader", "is_raw_name", "NAMED", "byte_of", "byte_in_base", "digit_value", "LONGEST_NAME", "LONGEST_BODY", "text_step", "text_reference_step", "double_reference_step", "single_reference_step", "bare_reference_step", "reference_step", "finish_reference", "behind_less_step", "only_step"]
def loo_3 : List Str := ["add_to_name", "open_name_step", "behind_close_step", "close_name_step", "gap_step", "attribute_name_step", "behind_equals_step", "double_value_step", "single_value_step", "quoted_value_step", "bare_value_step", "behind_value_step", "behind_slash_step", "behind_exclamation_step", "behind_dash_step", "comment_no_dash_step", "comment_one_dash_step", "comment_two_dashes_step", "raw_step", "raw_behind_less_step", "raw_behind_close_step", "STEPS", "take_sign", "read_signs", "read_end", "read_text", "shortest_form", "reference_to", "quoted_form", "bare_form"]
def loo_4 : List Str := ["cheapest_form", "short_open_tag", "tag_end", "short_attribute", "short_token", "short_tokens", "MOST_FED", "Session", "counted", "told_token", "told_attributes", "laid_out", "laid_token", "full_open_tag", "full_value", "read_answer", "fault_answer", "minified_answer", "saved_answer", "saved_by_kinds", "laid_answer", "same_answer", "tokens_answer", "told_normal_tokens", "MOST_BYTES", "NO_BYTES", "TOO_MANY_BYTES", "TOO_MUCH_FED", "TEXT_IS_OVER", "WRONG_SETTING"]
def loo_5 : List Str := ["begin_call", "feed_call", "end_call", "minify_call", "saved_call", "laid_call", "same_call", "value_call", "tokens_call", "CALLS", "bytes_refusal", "feed_refusal", "width_refusal", "tight_refusal"]
def loo : List Str := loo_0 ++ loo_1 ++ loo_2 ++ loo_3 ++ loo_4 ++ loo_5
/-- what is looked at: the module's names, what they reach: code, class bodies, items; the methods, their code -/
def refsM (o : Obj) : List Addr := match o.data with
  | .seq its _ => its.toList.flatMap He.refV
  | .dict es _ => es.toList.flatMap fun e => He.refV e.val
  | .func fd => He.refV fd.code
  | .cls cd => [cd.ns]
  | _ => []
def seqN : List Addr → (List Addr → α) → α
  | [], k => k []
  | a :: r, k => HandSHeadRun.frNat a fun a => seqN r fun r => k (a :: r)
theorem seqN_eq : ∀ (l : List Addr) (k : List Addr → α), seqN l k = k l
  | [], _ => rfl
  | a :: r, k => by
    show HandSHeadRun.frNat a (fun a => seqN r fun r => k (a :: r)) = _
    rw [HandSHeadRun.frNat_eq, seqN_eq r]
def refsL (g : Addr → Option Obj) (l : List Addr) : List Addr := l.flatMap fun a => match g a with
  | some o => refsM o
  | none => []
def nsL (g : Addr → Option Obj) (l : List Addr) : List Addr := l.filter fun a => match g a with
  | some ⟨_, _, .dict _ _, _⟩ => true
  | _ => false
def tabL (g : Addr → Option Obj) (l : List Addr) : List Addr := l.filter fun a => match g a with
  | some ⟨_, _, .seq its _, _⟩ => Nat.ble its.size 5
  | some ⟨_, _, .func _, _⟩ => true
  | some ⟨_, _, .cls _, _⟩ => true
  | _ => false
def withAs {α : Type} (g : Addr → Option Obj) (k : List Addr → α) : α :=
  seqN (refsL g [mainGlobals]) fun l1 => seqN (refsL g (tabL g l1)) fun l2 => seqN (refsL g (nsL g l2)) fun l3 => seqN (refsL g l3) fun l4 => k (mainGlobals :: (l1 ++ (l2 ++ (l3 ++ l4))))
def frcF : PySem.W.Frag → (PySem.W.Frag → α) → α
  | [], k => k []
  | (a, o) :: r, k => frcF r fun r => k ((a, o) :: r)
theorem frcF_eq : ∀ (l : PySem.W.Frag) (k : PySem.W.Frag → α), frcF l k = k l
  | [], _ => rfl
  | (a, o) :: r, k => by
    show frcF r (fun r => k ((a, o) :: r)) = _
    rw [frcF_eq r]
def asM (g : Addr → Option Obj) : List Addr := withAs g id
def KM (g : Addr → Option Obj) : PySem.W.Frag := He.frG g (asM g)
def withK {α : Type} (g : Addr → Option Obj) (k : PySem.W.Frag → α) : α := withAs g fun as => frcF (He.frG g as) k
theorem withK_eq {α : Type} (g : Addr → Option Obj) (k : PySem.W.Frag → α) : withK g k = k (KM g) := by
  unfold withK KM asM withAs
  simp only [seqN_eq, frcF_eq, id]
def ob1 (g : Addr → Option Obj) : Bool := withK g fun K => (fas.all fun f => f.ok K) && (exs K).all id
def ob2 (g : Addr → Option Obj) : He.AlD := withK g fun K => (dfs.all fun d => d.ok K, dfs.map fun d => He.fnW K d.at_)
abbrev AlM : Type := Bool × He.AlD
def obM (g : Addr → Option Obj) : AlM := (ob1 g, ob2 g)
structure Says (K : PySem.W.Frag) : Prop where
  f : (fas.all fun f => f.ok K) = true
  e : (exs K).all id = true
  d : (dfs.all fun d => d.ok K) = true
  v : (dfs.map fun d => He.fnW K d.at_) = dfs.map He.DefD.val
def hkM : PySem.W.Hook where
  α := AlM
  obs := fun s => obM s.heap.get?
  val := fun _ => (true, (true, dfs.map He.DefD.val))
  says := fun _ h => ∃ K : PySem.W.Frag, K.In h ∧ Says K
  of := fun _ _ e => by
    have e1 : ob1 _ = true := congrArg (fun z : AlM => z.1) e
    have e2 : ob2 _ = (true, dfs.map He.DefD.val) := congrArg (fun z : AlM => z.2) e
    unfold ob1 at e1
    unfold ob2 at e2
    rw [withK_eq] at e1 e2
    exact ⟨_, He.frG_in, ⟨(He.ba e1).1, (He.ba e1).2, congrArg (fun z : He.AlD => z.1) e2, congrArg (fun z : He.AlD => z.2) e2⟩⟩
  keeps := fun _ _ _ ⟨K, hK, c⟩ k => ⟨K, PySem.W.Frag.In.keeps hK k, c⟩
def obT (s : PySem.W.SharedT) : AlM := obM (HandSHeadRun.getT s)
theorem obT_eq (s : PySem.W.SharedT) : obT s = hkM.obs s.abs := by
  have e : HandSHeadRun.getT s = s.abs.heap.get? := funext (HandSHeadRun.getT_eq s)
  show obM (HandSHeadRun.getT s) = obM s.abs.heap.get?
  rw [e]
abbrev iAns : Nat := 178
end Sm

set_option Elab.async false
set_option linter.all false
set_option maxRecDepth 100000
set_option maxHeartbeats 0
namespace Sm
open PySem PySem.W PySem.Calls PyProof.Rows
noncomputable abbrev endS (w : World) (os : OsState) : Option PySem.W.SharedT := HandSHeadRun.endF (HandSHeadRun.stepQ (HandSHeadRun.denQ HandSHeadRun.tabQ) prg w) 20000 prg w os
theorem run1 (w : World) (os : OsState) : (endS w os).map (fun s => (HandSHeadRun.looksF prg (boot_heap w.params) s.abs, HandSHeadRun.seenQ (PySem.W.view prg [iAns]) loo (importedModules prg.main.body) (fun s => PySem.W.xlAt (PySem.W.view prg [iAns]) [] s && PySem.W.recOk [] s) s.abs)) = some (true, PySem.W.openGood (PySem.W.view prg [iAns]) loo) := by
  kernel_rfl
theorem run2 (w : World) (os : OsState) : (endS w os).map (fun s => ob1 (HandSHeadRun.getT s)) = some true := by
  kernel_rfl
theorem run3 (w : World) (os : OsState) : (endS w os).map (fun s => ob2 (HandSHeadRun.getT s)) = some (true, dfs.map He.DefD.val) := by
  kernel_rfl
theorem saidT : PySem.Challenge.rw_shortmark_s01_answers.wellSaid = true := by decide +kernel
theorem chT : (chainsOk (view Sm.prg [Sm.iAns]) && opensWell PySem.Challenge.rw_shortmark_s01_answers.prog) = true := by decide +kernel
end Sm

set_option Elab.async false
set_option linter.all false
set_option maxRecDepth 100000
set_option maxHeartbeats 0
namespace Sm
open PySem PySem.Spec PyProof.Rows L2
variable {P : Program} {w : World} {K : PySem.W.Frag} {mg : Str → Option Value} {base : Heap}
/-- what the top has left -/
structure Tx (K : PySem.W.Frag) (mg : Str → Option Value) : Prop where
  s : Says K
  x : ∃ h : Heap, K.In h ∧ h.Ns mainGlobals mg
theorem Tx.fact (T : Tx K mg) (i : Nat) {f : He.Fa} (h : fas[i]? = some f) : f.ok K = true := List.all_eq_true.mp T.s.f f (List.mem_of_getElem? h)
theorem Tx.glo (T : Tx K mg) (i : Nat) {x : Str} (h : fas[i]? = some (.glo x)) : mg x = some (.ref (He.ga K x)) := let ⟨_, X, G⟩ := T.x; He.glo_ok X G (T.fact i h)
theorem Tx.free (T : Tx K mg) (i : Nat) {x : Str} (h : fas[i]? = some (.free x)) : mg x = none := let ⟨_, X, G⟩ := T.x; He.free_ok X G (T.fact i h)
theorem Tx.int (T : Tx K mg) (i : Nat) {x : Str} {n : Int} (h : fas[i]? = some (.int x n)) : ∃ t, mg x = some (.int n t) := let ⟨_, X, G⟩ := T.x; He.int_ok X G (T.fact i h)
theorem Tx.def_ (T : Tx K mg) (i : Nat) {d : He.DefD} (h : dfs[i]? = some d) (e1 : d.dfl = []) (e2 : d.kwd = []) : FunD K d.name d.qual d.params d.body d.scope [] [] (He.fAd K d.at_) (fdA K d.at_) := by
  have c2 := List.all_eq_true.mp T.s.d d (List.mem_of_getElem? h)
  have e := T.s.v
  have q : (dfs.map fun d => He.fnW K d.at_)[i]? = (dfs.map He.DefD.val)[i]? := by rw [e]
  rw [List.getElem?_map, List.getElem?_map, h] at q
  obtain ⟨fd, F⟩ := He.DefD.funD (Option.some.inj q) c2
  have ev : d.dvs K = [] := by
    show d.dfl.map (He.Dv.v K) = []
    rw [e1]; rfl
  have ek : d.kws K = [] := by
    show d.kwd.map (fun q => (q.1, q.2.v K)) = []
    rw [e2]; rfl
  rw [ev, ek] at F
  have ef : fdA K d.at_ = fd := by
    obtain ⟨oc, od, dV, kV, doc, pm, an, cdv, ct, osl, rfl, lk, _⟩ := F.ex
    unfold fdA
    rw [lk]
  rw [ef]
  exact F
theorem pe_gi {X : Cx} {x : Str} {i : Int} {pos : Pos} (hg : Gl X x) (hm : ∃ t, X.mg x = some (.int i t)) (hd : (x == ("__debug__" : Str)) = false := by decide) : PE X (.Name x pos) (tC (.int i)) := by
  obtain ⟨t, e⟩ := hm
  exact pe_glob hg e ⟨t, rfl⟩ hd
theorem Room.units65 {k : Nat} {A : Around} (r : Room k A) : A.units + 65 < cLine := by have := r.un; omega
theorem g_signs_token (T : Tx K mg) : mg "signs_token" = some (.ref (He.ga K "signs_token")) := T.glo 0 rfl
theorem g_open_tag (T : Tx K mg) : mg "open_tag" = some (.ref (He.ga K "open_tag")) := T.glo 1 rfl
theorem g_close_tag (T : Tx K mg) : mg "close_tag" = some (.ref (He.ga K "close_tag")) := T.glo 2 rfl
theorem g_closes (T : Tx K mg) : mg "closes" = some (.ref (He.ga K "closes")) := T.glo 3 rfl
theorem g_joined (T : Tx K mg) : mg "joined" = some (.ref (He.ga K "joined")) := T.glo 4 rfl
theorem g_normal_tokens (T : Tx K mg) : mg "normal_tokens" = some (.ref (He.ga K "normal_tokens")) := T.glo 5 rfl
theorem g_signs_of (T : Tx K mg) : mg "signs_of" = some (.ref (He.ga K "signs_of")) := T.glo 6 rfl
theorem g_is_byte (T : Tx K mg) : mg "is_byte" = some (.ref (He.ga K "is_byte")) := T.glo 7 rfl
theorem g_is_blank (T : Tx K mg) : mg "is_blank" = some (.ref (He.ga K "is_blank")) := T.glo 8 rfl
theorem g_is_small_letter (T : Tx K mg) : mg "is_small_letter" = some (.ref (He.ga K "is_small_letter")) := T.glo 9 rfl
theorem g_is_large_letter (T : Tx K mg) : mg "is_large_letter" = some (.ref (He.ga K "is_large_letter")) := T.glo 10 rfl
theorem g_is_digit (T : Tx K mg) : mg "is_digit" = some (.ref (He.ga K "is_digit")) := T.glo 11 rfl
theorem g_is_name_sign (T : Tx K mg) : mg "is_name_sign" = some (.ref (He.ga K "is_name_sign")) := T.glo 12 rfl
theorem g_is_body_sign (T : Tx K mg) : mg "is_body_sign" = some (.ref (He.ga K "is_body_sign")) := T.glo 13 rfl
theorem g_is_bare (T : Tx K mg) : mg "is_bare" = some (.ref (He.ga K "is_bare")) := T.glo 14 rfl
theorem g_is_raw_name (T : Tx K mg) : mg "is_raw_name" = some (.ref (He.ga K "is_raw_name")) := T.glo 15 rfl
theorem g_byte_of (T : Tx K mg) : mg "byte_of" = some (.ref (He.ga K "byte_of")) := T.glo 16 rfl
theorem g_byte_in_base (T : Tx K mg) : mg "byte_in_base" = some (.ref (He.ga K "byte_in_base")) := T.glo 17 rfl
theorem g_digit_value (T : Tx K mg) : mg "digit_value" = some (.ref (He.ga K "digit_value")) := T.glo 18 rfl
theorem g_text_step (T : Tx K mg) : mg "text_step" = some (.ref (He.ga K "text_step")) := T.glo 19 rfl
theorem g_text_reference_step (T : Tx K mg) : mg "text_reference_step" = some (.ref (He.ga K "text_reference_step")) := T.glo 20 rfl
theorem g_double_reference_step (T : Tx K mg) : mg "double_reference_step" = some (.ref (He.ga K "double_reference_step")) := T.glo 21 rfl
theorem g_single_reference_step (T : Tx K mg) : mg "single_reference_step" = some (.ref (He.ga K "single_reference_step")) := T.glo 22 rfl
theorem g_bare_reference_step (T : Tx K mg) : mg "bare_reference_step" = some (.ref (He.ga K "bare_reference_step")) := T.glo 23 rfl
theorem g_reference_step (T : Tx K mg) : mg "reference_step" = some (.ref (He.ga K "reference_step")) := T.glo 24 rfl
theorem g_finish_reference (T : Tx K mg) : mg "finish_reference" = some (.ref (He.ga K "finish_reference")) := T.glo 25 rfl
theorem g_behind_less_step (T : Tx K mg) : mg "behind_less_step" = some (.ref (He.ga K "behind_less_step")) := T.glo 26 rfl
theorem g_only_step (T : Tx K mg) : mg "only_step" = some (.ref (He.ga K "only_step")) := T.glo 27 rfl
theorem g_add_to_name (T : Tx K mg) : mg "add_to_name" = some (.ref (He.ga K "add_to_name")) := T.glo 28 rfl
theorem g_open_name_step (T : Tx K mg) : mg "open_name_step" = some (.ref (He.ga K "open_name_step")) := T.glo 29 rfl
theorem g_behind_close_step (T : Tx K mg) : mg "behind_close_step" = some (.ref (He.ga K "behind_close_step")) := T.glo 30 rfl
theorem g_close_name_step (T : Tx K mg) : mg "close_name_step" = some (.ref (He.ga K "close_name_step")) := T.glo 31 rfl
theorem g_gap_step (T : Tx K mg) : mg "gap_step" = some (.ref (He.ga K "gap_step")) := T.glo 32 rfl
theorem g_attribute_name_step (T : Tx K mg) : mg "attribute_name_step" = some (.ref (He.ga K "attribute_name_step")) := T.glo 33 rfl
theorem g_behind_equals_step (T : Tx K mg) : mg "behind_equals_step" = some (.ref (He.ga K "behind_equals_step")) := T.glo 34 rfl
theorem g_double_value_step (T : Tx K mg) : mg "double_value_step" = some (.ref (He.ga K "double_value_step")) := T.glo 35 rfl
theorem g_single_value_step (T : Tx K mg) : mg "single_value_step" = some (.ref (He.ga K "single_value_step")) := T.glo 36 rfl
theorem g_quoted_value_step (T : Tx K mg) : mg "quoted_value_step" = some (.ref (He.ga K "quoted_value_step")) := T.glo 37 rfl
theorem g_bare_value_step (T : Tx K mg) : mg "bare_value_step" = some (.ref (He.ga K "bare_value_step")) := T.glo 38 rfl
theorem g_behind_value_step (T : Tx K mg) : mg "behind_value_step" = some (.ref (He.ga K "behind_value_step")) := T.glo 39 rfl
theorem g_behind_slash_step (T : Tx K mg) : mg "behind_slash_step" = some (.ref (He.ga K "behind_slash_step")) := T.glo 40 rfl
theorem g_behind_exclamation_step (T : Tx K mg) : mg "behind_exclamation_step" = some (.ref (He.ga K "behind_exclamation_step")) := T.glo 41 rfl
theorem g_behind_dash_step (T : Tx K mg) : mg "behind_dash_step" = some (.ref (He.ga K "behind_dash_step")) := T.glo 42 rfl
theorem g_comment_no_dash_step (T : Tx K mg) : mg "comment_no_dash_step" = some (.ref (He.ga K "comment_no_dash_step")) := T.glo 43 rfl
theorem g_comment_one_dash_step (T : Tx K mg) : mg "comment_one_dash_step" = some (.ref (He.ga K "comment_one_dash_step")) := T.glo 44 rfl
theorem g_comment_two_dashes_step (T : Tx K mg) : mg "comment_two_dashes_step" = some (.ref (He.ga K "comment_two_dashes_step")) := T.glo 45 rfl
theorem g_raw_step (T : Tx K mg) : mg "raw_step" = some (.ref (He.ga K "raw_step")) := T.glo 46 rfl
theorem g_raw_behind_less_step (T : Tx K mg) : mg "raw_behind_less_step" = some (.ref (He.ga K "raw_behind_less_step")) := T.glo 47 rfl
theorem g_raw_behind_close_step (T : Tx K mg) : mg "raw_behind_close_step" = some (.ref (He.ga K "raw_behind_close_step")) := T.glo 48 rfl
theorem g_take_sign (T : Tx K mg) : mg "take_sign" = some (.ref (He.ga K "take_sign")) := T.glo 49 rfl
theorem g_read_signs (T : Tx K mg) : mg "read_signs" = some (.ref (He.ga K "read_signs")) := T.glo 50 rfl
theorem g_read_end (T : Tx K mg) : mg "read_end" = some (.ref (He.ga K "read_end")) := T.glo 51 rfl
theorem g_read_text (T : Tx K mg) : mg "read_text" = some (.ref (He.ga K "read_text")) := T.glo 52 rfl
theorem g_shortest_form (T : Tx K mg) : mg "shortest_form" = some (.ref (He.ga K "shortest_form")) := T.glo 53 rfl
theorem g_reference_to (T : Tx K mg) : mg "reference_to" = some (.ref (He.ga K "reference_to")) := T.glo 54 rfl
theorem g_quoted_form (T : Tx K mg) : mg "quoted_form" = some (.ref (He.ga K "quoted_form")) := T.glo 55 rfl
theorem g_bare_form (T : Tx K mg) : mg "bare_form" = some (.ref (He.ga K "bare_form")) := T.glo 56 rfl
theorem g_cheapest_form (T : Tx K mg) : mg "cheapest_form" = some (.ref (He.ga K "cheapest_form")) := T.glo 57 rfl
theorem g_short_open_tag (T : Tx K mg) : mg "short_open_tag" = some (.ref (He.ga K "short_open_tag")) := T.glo 58 rfl
theorem g_tag_end (T : Tx K mg) : mg "tag_end" = some (.ref (He.ga K "tag_end")) := T.glo 59 rfl
theorem g_short_attribute (T : Tx K mg) : mg "short_attribute" = some (.ref (He.ga K "short_attribute")) := T.glo 60 rfl
theorem g_short_token (T : Tx K mg) : mg "short_token" = some (.ref (He.ga K "short_token")) := T.glo 61 rfl
theorem g_short_tokens (T : Tx K mg) : mg "short_tokens" = some (.ref (He.ga K "short_tokens")) := T.glo 62 rfl
theorem g_counted (T : Tx K mg) : mg "counted" = some (.ref (He.ga K "counted")) := T.glo 63 rfl
theorem g_told_token (T : Tx K mg) : mg "told_token" = some (.ref (He.ga K "told_token")) := T.glo 64 rfl
theorem g_told_attributes (T : Tx K mg) : mg "told_attributes" = some (.ref (He.ga K "told_attributes")) := T.glo 65 rfl
theorem g_laid_out (T : Tx K mg) : mg "laid_out" = some (.ref (He.ga K "laid_out")) := T.glo 66 rfl
theorem g_laid_token (T : Tx K mg) : mg "laid_token" = some (.ref (He.ga K "laid_token")) := T.glo 67 rfl
theorem g_full_open_tag (T : Tx K mg) : mg "full_open_tag" = some (.ref (He.ga K "full_open_tag")) := T.glo 68 rfl
theorem g_full_value (T : Tx K mg) : mg "full_value" = some (.ref (He.ga K "full_value")) := T.glo 69 rfl
theorem g_read_answer (T : Tx K mg) : mg "read_answer" = some (.ref (He.ga K "read_answer")) := T.glo 70 rfl
theorem g_fault_answer (T : Tx K mg) : mg "fault_answer" = some (.ref (He.ga K "fault_answer")) := T.glo 71 rfl
theorem g_minified_answer (T : Tx K mg) : mg "minified_answer" = some (.ref (He.ga K "minified_answer")) := T.glo 72 rfl
theorem g_saved_answer (T : Tx K mg) : mg "saved_answer" = some (.ref (He.ga K "saved_answer")) := T.glo 73 rfl
theorem g_saved_by_kinds (T : Tx K mg) : mg "saved_by_kinds" = some (.ref (He.ga K "saved_by_kinds")) := T.glo 74 rfl
theorem g_laid_answer (T : Tx K mg) : mg "laid_answer" = some (.ref (He.ga K "laid_answer")) := T.glo 75 rfl
theorem g_same_answer (T : Tx K mg) : mg "same_answer" = some (.ref (He.ga K "same_answer")) := T.glo 76 rfl
theorem g_tokens_answer (T : Tx K mg) : mg "tokens_answer" = some (.ref (He.ga K "tokens_answer")) := T.glo 77 rfl
theorem g_told_normal_tokens (T : Tx K mg) : mg "told_normal_tokens" = some (.ref (He.ga K "told_normal_tokens")) := T.glo 78 rfl
theorem g_begin_call (T : Tx K mg) : mg "begin_call" = some (.ref (He.ga K "begin_call")) := T.glo 79 rfl
theorem g_feed_call (T : Tx K mg) : mg "feed_call" = some (.ref (He.ga K "feed_call")) := T.glo 80 rfl
theorem g_end_call (T : Tx K mg) : mg "end_call" = some (.ref (He.ga K "end_call")) := T.glo 81 rfl
theorem g_minify_call (T : Tx K mg) : mg "minify_call" = some (.ref (He.ga K "minify_call")) := T.glo 82 rfl
theorem g_saved_call (T : Tx K mg) : mg "saved_call" = some (.ref (He.ga K "saved_call")) := T.glo 83 rfl
theorem g_laid_call (T : Tx K mg) : mg "laid_call" = some (.ref (He.ga K "laid_call")) := T.glo 84 rfl
theorem g_same_call (T : Tx K mg) : mg "same_call" = some (.ref (He.ga K "same_call")) := T.glo 85 rfl
theorem g_value_call (T : Tx K mg) : mg "value_call" = some (.ref (He.ga K "value_call")) := T.glo 86 rfl
theorem g_tokens_call (T : Tx K mg) : mg "tokens_call" = some (.ref (He.ga K "tokens_call")) := T.glo 87 rfl
theorem g_bytes_refusal (T : Tx K mg) : mg "bytes_refusal" = some (.ref (He.ga K "bytes_refusal")) := T.glo 88 rfl
theorem g_feed_refusal (T : Tx K mg) : mg "feed_refusal" = some (.ref (He.ga K "feed_refusal")) := T.glo 89 rfl
theorem g_width_refusal (T : Tx K mg) : mg "width_refusal" = some (.ref (He.ga K "width_refusal")) := T.glo 90 rfl
theorem g_tight_refusal (T : Tx K mg) : mg "tight_refusal" = some (.ref (He.ga K "tight_refusal")) := T.glo 91 rfl
theorem g_answers (T : Tx K mg) : mg "answers" = some (.ref (He.ga K "answers")) := T.glo 92 rfl
theorem g_Cursor (T : Tx K mg) : mg "Cursor" = some (.ref (He.ga K "Cursor")) := T.glo 93 rfl
theorem c_Cursor (T : Tx K mg) : Cls K (He.ga K "Cursor") := He.cls_ok (T.fact 94 rfl)
theorem k_Cursor (T : Tx K mg) : Mk K (He.ga K "Cursor") (He.fAd K ("Cursor", some "__init__")) := He.mkr_ok (T.fact 95 rfl)
theorem a_Cursor_numbers (T : Tx K mg) : NoAttr K (He.ga K "Cursor") "numbers" := He.noat_ok (T.fact 96 rfl)
theorem a_Cursor_place (T : Tx K mg) : NoAttr K (He.ga K "Cursor") "place" := He.noat_ok (T.fact 97 rfl)
theorem m_Cursor_is_through (T : Tx K mg) : Meth K (He.ga K "Cursor") "is_through" (He.fAd K ("Cursor", some "is_through")) := He.meth_ok (T.fact 98 rfl)
theorem m_Cursor_take_number (T : Tx K mg) : Meth K (He.ga K "Cursor") "take_number" (He.fAd K ("Cursor", some "take_number")) := He.meth_ok (T.fact 99 rfl)
theorem m_Cursor_take_row (T : Tx K mg) : Meth K (He.ga K "Cursor") "take_row" (He.fAd K ("Cursor", some "take_row")) := He.meth_ok (T.fact 100 rfl)
theorem g_Token (T : Tx K mg) : mg "Token" = some (.ref (He.ga K "Token")) := T.glo 101 rfl
theorem c_Token (T : Tx K mg) : Cls K (He.ga K "Token") := He.cls_ok (T.fact 102 rfl)
theorem k_Token (T : Tx K mg) : Mk K (He.ga K "Token") (He.fAd K ("Token", some "__init__")) := He.mkr_ok (T.fact 103 rfl)
theorem a_Token_kind (T : Tx K mg) : NoAttr K (He.ga K "Token") "kind" := He.noat_ok (T.fact 104 rfl)
theorem a_Token_place (T : Tx K mg) : NoAttr K (He.ga K "Token") "place" := He.noat_ok (T.fact 105 rfl)
theorem a_Token_stop (T : Tx K mg) : NoAttr K (He.ga K "Token") "stop" := He.noat_ok (T.fact 106 rfl)
theorem a_Token_name (T : Tx K mg) : NoAttr K (He.ga K "Token") "name" := He.noat_ok (T.fact 107 rfl)
theorem a_Token_attributes (T : Tx K mg) : NoAttr K (He.ga K "Token") "attributes" := He.noat_ok (T.fact 108 rfl)
theorem a_Token_ended (T : Tx K mg) : NoAttr K (He.ga K "Token") "ended" := He.noat_ok (T.fact 109 rfl)
theorem a_Token_signs (T : Tx K mg) : NoAttr K (He.ga K "Token") "signs" := He.noat_ok (T.fact 110 rfl)
theorem g_Joiner (T : Tx K mg) : mg "Joiner" = some (.ref (He.ga K "Joiner")) := T.glo 111 rfl
theorem c_Joiner (T : Tx K mg) : Cls K (He.ga K "Joiner") := He.cls_ok (T.fact 112 rfl)
theorem k_Joiner (T : Tx K mg) : Mk K (He.ga K "Joiner") (He.fAd K ("Joiner", some "__init__")) := He.mkr_ok (T.fact 113 rfl)
theorem a_Joiner_held (T : Tx K mg) : NoAttr K (He.ga K "Joiner") "held" := He.noat_ok (T.fact 114 rfl)
theorem m_Joiner_settle (T : Tx K mg) : Meth K (He.ga K "Joiner") "settle" (He.fAd K ("Joiner", some "settle")) := He.meth_ok (T.fact 115 rfl)
theorem m_Joiner_release (T : Tx K mg) : Meth K (He.ga K "Joiner") "release" (He.fAd K ("Joiner", some "release")) := He.meth_ok (T.fact 116 rfl)
theorem g_Reader (T : Tx K mg) : mg "Reader" = some (.ref (He.ga K "Reader")) := T.glo 117 rfl
theorem c_Reader (T : Tx K mg) : Cls K (He.ga K "Reader") := He.cls_ok (T.fact 118 rfl)
theorem k_Reader (T : Tx K mg) : Mk K (He.ga K "Reader") (He.fAd K ("Reader", some "__init__")) := He.mkr_ok (T.fact 119 rfl)
theorem a_Reader_mode (T : Tx K mg) : NoAttr K (He.ga K "Reader") "mode" := He.noat_ok (T.fact 120 rfl)
theorem a_Reader_count (T : Tx K mg) : NoAttr K (He.ga K "Reader") "count" := He.noat_ok (T.fact 121 rfl)
theorem a_Reader_tokens (T : Tx K mg) : NoAttr K (He.ga K "Reader") "tokens" := He.noat_ok (T.fact 122 rfl)
theorem a_Reader_tag_name (T : Tx K mg) : NoAttr K (He.ga K "Reader") "tag_name" := He.noat_ok (T.fact 123 rfl)
theorem a_Reader_attributes (T : Tx K mg) : NoAttr K (He.ga K "Reader") "attributes" := He.noat_ok (T.fact 124 rfl)
theorem a_Reader_attribute_name (T : Tx K mg) : NoAttr K (He.ga K "Reader") "attribute_name" := He.noat_ok (T.fact 125 rfl)
theorem a_Reader_body (T : Tx K mg) : NoAttr K (He.ga K "Reader") "body" := He.noat_ok (T.fact 126 rfl)
theorem a_Reader_run (T : Tx K mg) : NoAttr K (He.ga K "Reader") "run" := He.noat_ok (T.fact 127 rfl)
theorem a_Reader_begun (T : Tx K mg) : NoAttr K (He.ga K "Reader") "begun" := He.noat_ok (T.fact 128 rfl)
theorem a_Reader_fault_kind (T : Tx K mg) : NoAttr K (He.ga K "Reader") "fault_kind" := He.noat_ok (T.fact 129 rfl)
theorem m_Reader_fail (T : Tx K mg) : Meth K (He.ga K "Reader") "fail" (He.fAd K ("Reader", some "fail")) := He.meth_ok (T.fact 130 rfl)
theorem m_Reader_finish_run (T : Tx K mg) : Meth K (He.ga K "Reader") "finish_run" (He.fAd K ("Reader", some "finish_run")) := He.meth_ok (T.fact 131 rfl)
theorem m_Reader_finish_attribute (T : Tx K mg) : Meth K (He.ga K "Reader") "finish_attribute" (He.fAd K ("Reader", some "finish_attribute")) := He.meth_ok (T.fact 132 rfl)
theorem m_Reader_finish_open_tag (T : Tx K mg) : Meth K (He.ga K "Reader") "finish_open_tag" (He.fAd K ("Reader", some "finish_open_tag")) := He.meth_ok (T.fact 133 rfl)
theorem m_Reader_finish_close_tag (T : Tx K mg) : Meth K (He.ga K "Reader") "finish_close_tag" (He.fAd K ("Reader", some "finish_close_tag")) := He.meth_ok (T.fact 134 rfl)
theorem m_Reader_finish_raw (T : Tx K mg) : Meth K (He.ga K "Reader") "finish_raw" (He.fAd K ("Reader", some "finish_raw")) := He.meth_ok (T.fact 135 rfl)
theorem g_Session (T : Tx K mg) : mg "Session" = some (.ref (He.ga K "Session")) := T.glo 136 rfl
theorem c_Session (T : Tx K mg) : Cls K (He.ga K "Session") := He.cls_ok (T.fact 137 rfl)
theorem k_Session (T : Tx K mg) : Mk K (He.ga K "Session") (He.fAd K ("Session", some "__init__")) := He.mkr_ok (T.fact 138 rfl)
theorem a_Session_reader (T : Tx K mg) : NoAttr K (He.ga K "Session") "reader" := He.noat_ok (T.fact 139 rfl)
theorem a_Session_joiner (T : Tx K mg) : NoAttr K (He.ga K "Session") "joiner" := He.noat_ok (T.fact 140 rfl)
theorem a_Session_looked_at (T : Tx K mg) : NoAttr K (He.ga K "Session") "looked_at" := He.noat_ok (T.fact 141 rfl)
theorem m_Session_begin (T : Tx K mg) : Meth K (He.ga K "Session") "begin" (He.fAd K ("Session", some "begin")) := He.meth_ok (T.fact 142 rfl)
theorem m_Session_is_over (T : Tx K mg) : Meth K (He.ga K "Session") "is_over" (He.fAd K ("Session", some "is_over")) := He.meth_ok (T.fact 143 rfl)
theorem m_Session_has_room_for (T : Tx K mg) : Meth K (He.ga K "Session") "has_room_for" (He.fAd K ("Session", some "has_room_for")) := He.meth_ok (T.fact 144 rfl)
theorem m_Session_feed (T : Tx K mg) : Meth K (He.ga K "Session") "feed" (He.fAd K ("Session", some "feed")) := He.meth_ok (T.fact 145 rfl)
theorem m_Session_end (T : Tx K mg) : Meth K (He.ga K "Session") "end" (He.fAd K ("Session", some "end")) := He.meth_ok (T.fact 146 rfl)
theorem m_Session_new_normal_tokens (T : Tx K mg) : Meth K (He.ga K "Session") "new_normal_tokens" (He.fAd K ("Session", some "new_normal_tokens")) := He.meth_ok (T.fact 147 rfl)
theorem i_RUN_OF_TEXT (T : Tx K mg) : ∃ t, mg "RUN_OF_TEXT" = some (.int (0) t) := T.int 148 rfl
theorem i_OPEN_TAG (T : Tx K mg) : ∃ t, mg "OPEN_TAG" = some (.int (1) t) := T.int 149 rfl
theorem i_CLOSE_TAG (T : Tx K mg) : ∃ t, mg "CLOSE_TAG" = some (.int (2) t) := T.int 150 rfl
theorem i_COMMENT (T : Tx K mg) : ∃ t, mg "COMMENT" = some (.int (3) t) := T.int 151 rfl
theorem i_RAW_TEXT (T : Tx K mg) : ∃ t, mg "RAW_TEXT" = some (.int (4) t) := T.int 152 rfl
theorem i_LINE_FEED (T : Tx K mg) : ∃ t, mg "LINE_FEED" = some (.int (10) t) := T.int 153 rfl
theorem i_SPACE (T : Tx K mg) : ∃ t, mg "SPACE" = some (.int (32) t) := T.int 154 rfl
theorem i_EXCLAMATION (T : Tx K mg) : ∃ t, mg "EXCLAMATION" = some (.int (33) t) := T.int 155 rfl
theorem i_DOUBLE_QUOTE (T : Tx K mg) : ∃ t, mg "DOUBLE_QUOTE" = some (.int (34) t) := T.int 156 rfl
theorem i_NUMBER_SIGN (T : Tx K mg) : ∃ t, mg "NUMBER_SIGN" = some (.int (35) t) := T.int 157 rfl
theorem i_AMPERSAND (T : Tx K mg) : ∃ t, mg "AMPERSAND" = some (.int (38) t) := T.int 158 rfl
theorem i_SINGLE_QUOTE (T : Tx K mg) : ∃ t, mg "SINGLE_QUOTE" = some (.int (39) t) := T.int 159 rfl
theorem i_DASH (T : Tx K mg) : ∃ t, mg "DASH" = some (.int (45) t) := T.int 160 rfl
theorem i_SLASH (T : Tx K mg) : ∃ t, mg "SLASH" = some (.int (47) t) := T.int 161 rfl
theorem i_SEMICOLON (T : Tx K mg) : ∃ t, mg "SEMICOLON" = some (.int (59) t) := T.int 162 rfl
theorem i_LESS (T : Tx K mg) : ∃ t, mg "LESS" = some (.int (60) t) := T.int 163 rfl
theorem i_EQUALS (T : Tx K mg) : ∃ t, mg "EQUALS" = some (.int (61) t) := T.int 164 rfl
theorem i_GREATER (T : Tx K mg) : ∃ t, mg "GREATER" = some (.int (62) t) := T.int 165 rfl
theorem i_LARGEST_BYTE (T : Tx K mg) : ∃ t, mg "LARGEST_BYTE" = some (.int (255) t) := T.int 166 rfl
theorem i_TEXT (T : Tx K mg) : ∃ t, mg "TEXT" = some (.int (0) t) := T.int 167 rfl
theorem i_REFERENCE_IN_TEXT (T : Tx K mg) : ∃ t, mg "REFERENCE_IN_TEXT" = some (.int (1) t) := T.int 168 rfl
theorem i_REFERENCE_IN_DOUBLE (T : Tx K mg) : ∃ t, mg "REFERENCE_IN_DOUBLE" = some (.int (2) t) := T.int 169 rfl
theorem i_REFERENCE_IN_SINGLE (T : Tx K mg) : ∃ t, mg "REFERENCE_IN_SINGLE" = some (.int (3) t) := T.int 170 rfl
theorem i_REFERENCE_IN_BARE (T : Tx K mg) : ∃ t, mg "REFERENCE_IN_BARE" = some (.int (4) t) := T.int 171 rfl
theorem i_BEHIND_LESS (T : Tx K mg) : ∃ t, mg "BEHIND_LESS" = some (.int (5) t) := T.int 172 rfl
theorem i_OPEN_NAME (T : Tx K mg) : ∃ t, mg "OPEN_NAME" = some (.int (6) t) := T.int 173 rfl
theorem i_BEHIND_CLOSE (T : Tx K mg) : ∃ t, mg "BEHIND_CLOSE" = some (.int (7) t) := T.int 174 rfl
theorem i_CLOSE_NAME (T : Tx K mg) : ∃ t, mg "CLOSE_NAME" = some (.int (8) t) := T.int 175 rfl
theorem i_GAP (T : Tx K mg) : ∃ t, mg "GAP" = some (.int (9) t) := T.int 176 rfl
theorem i_ATTRIBUTE_NAME (T : Tx K mg) : ∃ t, mg "ATTRIBUTE_NAME" = some (.int (10) t) := T.int 177 rfl
theorem i_BEHIND_EQUALS (T : Tx K mg) : ∃ t, mg "BEHIND_EQUALS" = some (.int (11) t) := T.int 178 rfl
theorem i_DOUBLE_VALUE (T : Tx K mg) : ∃ t, mg "DOUBLE_VALUE" = some (.int (12) t) := T.int 179 rfl
theorem i_SINGLE_VALUE (T : Tx K mg) : ∃ t, mg "SINGLE_VALUE" = some (.int (13) t) := T.int 180 rfl
theorem i_BARE_VALUE (T : Tx K mg) : ∃ t, mg "BARE_VALUE" = some (.int (14) t) := T.int 181 rfl
theorem i_BEHIND_VALUE (T : Tx K mg) : ∃ t, mg "BEHIND_VALUE" = some (.int (15) t) := T.int 182 rfl
theorem i_BEHIND_SLASH (T : Tx K mg) : ∃ t, mg "BEHIND_SLASH" = some (.int (16) t) := T.int 183 rfl
theorem i_BEHIND_EXCLAMATION (T : Tx K mg) : ∃ t, mg "BEHIND_EXCLAMATION" = some (.int (17) t) := T.int 184 rfl
theorem i_BEHIND_DASH (T : Tx K mg) : ∃ t, mg "BEHIND_DASH" = some (.int (18) t) := T.int 185 rfl
theorem i_COMMENT_NO_DASH (T : Tx K mg) : ∃ t, mg "COMMENT_NO_DASH" = some (.int (19) t) := T.int 186 rfl
theorem i_COMMENT_ONE_DASH (T : Tx K mg) : ∃ t, mg "COMMENT_ONE_DASH" = some (.int (20) t) := T.int 187 rfl
theorem i_COMMENT_TWO_DASHES (T : Tx K mg) : ∃ t, mg "COMMENT_TWO_DASHES" = some (.int (21) t) := T.int 188 rfl
theorem i_RAW (T : Tx K mg) : ∃ t, mg "RAW" = some (.int (22) t) := T.int 189 rfl
theorem i_RAW_BEHIND_LESS (T : Tx K mg) : ∃ t, mg "RAW_BEHIND_LESS" = some (.int (23) t) := T.int 190 rfl
theorem i_RAW_BEHIND_CLOSE (T : Tx K mg) : ∃ t, mg "RAW_BEHIND_CLOSE" = some (.int (24) t) := T.int 191 rfl
theorem i_ENDED (T : Tx K mg) : ∃ t, mg "ENDED" = some (.int (25) t) := T.int 192 rfl
theorem i_FAULT (T : Tx K mg) : ∃ t, mg "FAULT" = some (.int (26) t) := T.int 193 rfl
theorem i_WRONG_SIGN (T : Tx K mg) : ∃ t, mg "WRONG_SIGN" = some (.int (1) t) := T.int 194 rfl
theorem i_LONG_NAME (T : Tx K mg) : ∃ t, mg "LONG_NAME" = some (.int (2) t) := T.int 195 rfl
theorem i_NAME_TWICE (T : Tx K mg) : ∃ t, mg "NAME_TWICE" = some (.int (3) t) := T.int 196 rfl
theorem i_WRONG_REFERENCE (T : Tx K mg) : ∃ t, mg "WRONG_REFERENCE" = some (.int (4) t) := T.int 197 rfl
theorem i_WRONG_RAW_CLOSE (T : Tx K mg) : ∃ t, mg "WRONG_RAW_CLOSE" = some (.int (6) t) := T.int 198 rfl
theorem i_UNFINISHED (T : Tx K mg) : ∃ t, mg "UNFINISHED" = some (.int (7) t) := T.int 199 rfl
theorem i_LONGEST_NAME (T : Tx K mg) : ∃ t, mg "LONGEST_NAME" = some (.int (32) t) := T.int 200 rfl
theorem i_LONGEST_BODY (T : Tx K mg) : ∃ t, mg "LONGEST_BODY" = some (.int (4) t) := T.int 201 rfl
theorem i_MOST_FED (T : Tx K mg) : ∃ t, mg "MOST_FED" = some (.int (16384) t) := T.int 202 rfl
theorem i_MOST_BYTES (T : Tx K mg) : ∃ t, mg "MOST_BYTES" = some (.int (8192) t) := T.int 203 rfl
theorem i_NO_BYTES (T : Tx K mg) : ∃ t, mg "NO_BYTES" = some (.int (-1) t) := T.int 204 rfl
theorem i_TOO_MANY_BYTES (T : Tx K mg) : ∃ t, mg "TOO_MANY_BYTES" = some (.int (-2) t) := T.int 205 rfl
theorem i_TOO_MUCH_FED (T : Tx K mg) : ∃ t, mg "TOO_MUCH_FED" = some (.int (-3) t) := T.int 206 rfl
theorem i_TEXT_IS_OVER (T : Tx K mg) : ∃ t, mg "TEXT_IS_OVER" = some (.int (-4) t) := T.int 207 rfl
theorem i_WRONG_SETTING (T : Tx K mg) : ∃ t, mg "WRONG_SETTING" = some (.int (-5) t) := T.int 208 rfl
theorem n_len (T : Tx K mg) : mg "len" = none := T.free 209 rfl
theorem n_ord (T : Tx K mg) : mg "ord" = none := T.free 210 rfl
theorem n_list (T : Tx K mg) : mg "list" = none := T.free 211 rfl
theorem n_tuple (T : Tx K mg) : mg "tuple" = none := T.free 212 rfl
theorem n_min (T : Tx K mg) : mg "min" = none := T.free 213 rfl
theorem n_all (T : Tx K mg) : mg "all" = none := T.free 214 rfl
theorem n_sum (T : Tx K mg) : mg "sum" = none := T.free 215 rfl
theorem n_enumerate (T : Tx K mg) : mg "enumerate" = none := T.free 216 rfl
theorem g_BLANKS (T : Tx K mg) : mg "BLANKS" = some (.ref (He.ga K "BLANKS")) := T.glo 217 rfl
theorem g_NOT_BARE (T : Tx K mg) : mg "NOT_BARE" = some (.ref (He.ga K "NOT_BARE")) := T.glo 218 rfl
theorem g_RAW_NAMES (T : Tx K mg) : mg "RAW_NAMES" = some (.ref (He.ga K "RAW_NAMES")) := T.glo 219 rfl
theorem g_NAMED (T : Tx K mg) : mg "NAMED" = some (.ref (He.ga K "NAMED")) := T.glo 220 rfl
theorem g_STEPS (T : Tx K mg) : mg "STEPS" = some (.ref (He.ga K "STEPS")) := T.glo 221 rfl
theorem g_CALLS (T : Tx K mg) : mg "CALLS" = some (.ref (He.ga K "CALLS")) := T.glo 222 rfl
theorem Tx.tup (T : Tx K mg) (i : Nat) {b : Bool} (h : (exs K)[i]? = some b) : b = true := List.all_eq_true.mp T.s.e b (List.mem_of_getElem? h)
theorem t_BLANKS (T : Tx K mg) (H : Hp) : SqT K H (He.ga K "BLANKS") [.int 9, .int 10, .int 13, .int 32] := tupAt_ok (T.tup 0 rfl) H
theorem t_NOT_BARE (T : Tx K mg) (H : Hp) : SqT K H (He.ga K "NOT_BARE") [.int 9, .int 10, .int 13, .int 32, .int 34, .int 38, .int 39, .int 60, .int 61, .int 62, .int 96] := tupAt_ok (T.tup 1 rfl) H
theorem t_RAW_NAMES (T : Tx K mg) (H : Hp) : SqT K H (He.ga K "RAW_NAMES") [.str "calc", .str "verb"] := tupAt_ok (T.tup 2 rfl) H
theorem t_NAMED (T : Tx K mg) (H : Hp) : SqT K H (He.ga K "NAMED") [.ref (itAt K (He.ga K "NAMED") 0), .ref (itAt K (He.ga K "NAMED") 1), .ref (itAt K (He.ga K "NAMED") 2), .ref (itAt K (He.ga K "NAMED") 3), .ref (itAt K (He.ga K "NAMED") 4)] := tupAt_ok (T.tup 3 rfl) H
theorem t_NAMED0 (T : Tx K mg) (H : Hp) : SqT K H (itAt K (He.ga K "NAMED") 0) [.str "amp", .int 38] := tupAt_ok (T.tup 4 rfl) H
theorem t_NAMED1 (T : Tx K mg) (H : Hp) : SqT K H (itAt K (He.ga K "NAMED") 1) [.str "lt", .int 60] := tupAt_ok (T.tup 5 rfl) H
theorem t_NAMED2 (T : Tx K mg) (H : Hp) : SqT K H (itAt K (He.ga K "NAMED") 2) [.str "gt", .int 62] := tupAt_ok (T.tup 6 rfl) H
theorem t_NAMED3 (T : Tx K mg) (H : Hp) : SqT K H (itAt K (He.ga K "NAMED") 3) [.str "quot", .int 34] := tupAt_ok (T.tup 7 rfl) H
theorem t_NAMED4 (T : Tx K mg) (H : Hp) : SqT K H (itAt K (He.ga K "NAMED") 4) [.str "apos", .int 39] := tupAt_ok (T.tup 8 rfl) H
theorem t_STEPS (T : Tx K mg) (H : Hp) : SqT K H (He.ga K "STEPS") [.ref (He.ga K "text_step"), .ref (He.ga K "text_reference_step"), .ref (He.ga K "double_reference_step"), .ref (He.ga K "single_reference_step"), .ref (He.ga K "bare_reference_step"), .ref (He.ga K "behind_less_step"), .ref (He.ga K "open_name_step"), .ref (He.ga K "behind_close_step"), .ref (He.ga K "close_name_step"), .ref (He.ga K "gap_step"), .ref (He.ga K "attribute_name_step"), .ref (He.ga K "behind_equals_step"), .ref (He.ga K "double_value_step"), .ref (He.ga K "single_value_step"), .ref (He.ga K "bare_value_step"), .ref (He.ga K "behind_value_step"), .ref (He.ga K "behind_slash_step"), .ref (He.ga K "behind_exclamation_step"), .ref (He.ga K "behind_dash_step"), .ref (He.ga K "comment_no_dash_step"), .ref (He.ga K "comment_one_dash_step"), .ref (He.ga K "comment_two_dashes_step"), .ref (He.ga K "raw_step"), .ref (He.ga K "raw_behind_less_step"), .ref (He.ga K "raw_behind_close_step")] := tupAt_ok (T.tup 9 rfl) H
theorem t_CALLS (T : Tx K mg) (H : Hp) : SqT K H (He.ga K "CALLS") [.ref (He.ga K "begin_call"), .ref (He.ga K "feed_call"), .ref (He.ga K "end_call"), .ref (He.ga K "minify_call"), .ref (He.ga K "saved_call"), .ref (He.ga K "laid_call"), .ref (He.ga K "same_call"), .ref (He.ga K "value_call"), .ref (He.ga K "tokens_call")] := tupAt_ok (T.tup 10 rfl) H
theorem F_Cursor___init__ (T : Tx K mg) : FnP K ("Cursor", some "__init__") "__init__" "Cursor.__init__" (inClass (sT 1) 0) := T.def_ 0 rfl rfl rfl
theorem B_Cursor___init__ (T : Tx K mg) : Binds K (fdA K ("Cursor", some "__init__")) ["self", "numbers"] [] := (F_Cursor___init__ T).bindsN fun _ _ _ _ _ _ us hl => match us, hl with | [_, _], _ => rfl
theorem sc_Cursor___init__ : FnScope ["self", "numbers"] ["self", "numbers"] (defScope (inClass (sT 1) 0)) := ⟨rfl, rfl, rfl, by decide +kernel, rfl, by decide +kernel, by decide +kernel⟩
theorem F_Cursor_is_through (T : Tx K mg) : FnP K ("Cursor", some "is_through") "is_through" "Cursor.is_through" (inClass (sT 1) 1) := T.def_ 1 rfl rfl rfl
theorem B_Cursor_is_through (T : Tx K mg) : Binds K (fdA K ("Cursor", some "is_through")) ["self"] [] := (F_Cursor_is_through T).bindsN fun _ _ _ _ _ _ us hl => match us, hl with | [_], _ => rfl
theorem sc_Cursor_is_through : FnScope ["self"] ["self"] (defScope (inClass (sT 1) 1)) := ⟨rfl, rfl, rfl, by decide +kernel, rfl, by decide +kernel, by decide +kernel⟩
theorem F_Cursor_take_number (T : Tx K mg) : FnP K ("Cursor", some "take_number") "take_number" "Cursor.take_number" (inClass (sT 1) 2) := T.def_ 2 rfl rfl rfl
theorem B_Cursor_take_number (T : Tx K mg) : Binds K (fdA K ("Cursor", some "take_number")) ["self"] [] := (F_Cursor_take_number T).bindsN fun _ _ _ _ _ _ us hl => match us, hl with | [_], _ => rfl
theorem sc_Cursor_take_number : FnScope ["self", "number"] ["self"] (defScope (inClass (sT 1) 2)) := ⟨rfl, rfl, rfl, by decide +kernel, rfl, by decide +kernel, by decide +kernel⟩
theorem F_Cursor_take_row (T : Tx K mg) : FnP K ("Cursor", some "take_row") "take_row" "Cursor.take_row" (inClass (sT 1) 3) := T.def_ 3 rfl rfl rfl
theorem B_Cursor_take_row (T : Tx K mg) : Binds K (fdA K ("Cursor", some "take_row")) ["self"] [] := (F_Cursor_take_row T).bindsN fun _ _ _ _ _ _ us hl => match us, hl with | [_], _ => rfl
theorem sc_Cursor_take_row : FnScope ["self", "length", "row"] ["self"] (defScope (inClass (sT 1) 3)) := ⟨rfl, rfl, rfl, by decide +kernel, rfl, by decide +kernel, by decide +kernel⟩
theorem F_Token___init__ (T : Tx K mg) : FnP K ("Token", some "__init__") "__init__" "Token.__init__" (inClass (sT 8) 0) := T.def_ 4 rfl rfl rfl
theorem B_Token___init__ (T : Tx K mg) : Binds K (fdA K ("Token", some "__init__")) ["self", "kind", "place", "stop"] [] := (F_Token___init__ T).bindsN fun _ _ _ _ _ _ us hl => match us, hl with | [_, _, _, _], _ => rfl
theorem sc_Token___init__ : FnScope ["self", "kind", "place", "stop"] ["self", "kind", "place", "stop"] (defScope (inClass (sT 8) 0)) := ⟨rfl, rfl, rfl, by decide +kernel, rfl, by decide +kernel, by decide +kernel⟩
theorem F_signs_token (T : Tx K mg) : FnP K ("signs_token", none) "signs_token" "signs_token" (sT 9) := T.def_ 5 rfl rfl rfl
theorem B_signs_token (T : Tx K mg) : Binds K (fdA K ("signs_token", none)) ["kind", "place", "stop", "signs"] [] := (F_signs_token T).bindsN fun _ _ _ _ _ _ us hl => match us, hl with | [_, _, _, _], _ => rfl
theorem sc_signs_token : FnScope ["kind", "place", "stop", "signs", "token"] ["kind", "place", "stop", "signs"] (defScope (sT 9)) := ⟨rfl, rfl, rfl, by decide +kernel, rfl, by decide +kernel, by decide +kernel⟩
theorem F_open_tag (T : Tx K mg) : FnP K ("open_tag", none) "open_tag" "open_tag" (sT 10) := T.def_ 6 rfl rfl rfl
theorem B_open_tag (T : Tx K mg) : Binds K (fdA K ("open_tag", none)) ["place", "stop", "name", "attributes", "ended"] [] := (F_open_tag T).bindsN fun _ _ _ _ _ _ us hl => match us, hl with | [_, _, _, _, _], _ => rfl
theorem sc_open_tag : FnScope ["place", "stop", "name", "attributes", "ended", "token"] ["place", "stop", "name", "attributes", "ended"] (defScope (sT 10)) := ⟨rfl, rfl, rfl, by decide +kernel, rfl, by decide +kernel, by decide +kernel⟩
theorem F_close_tag (T : Tx K mg) : FnP K ("close_tag", none) "close_tag" "close_tag" (sT 11) := T.def_ 7 rfl rfl rfl
theorem B_close_tag (T : Tx K mg) : Binds K (fdA K ("close_tag", none)) ["place", "stop", "name"] [] := (F_close_tag T).bindsN fun _ _ _ _ _ _ us hl => match us, hl with | [_, _, _], _ => rfl
theorem sc_close_tag : FnScope ["place", "stop", "name", "token"] ["place", "stop", "name"] (defScope (sT 11)) := ⟨rfl, rfl, rfl, by decide +kernel, rfl, by decide +kernel, by decide +kernel⟩
theorem F_Joiner___init__ (T : Tx K mg) : FnP K ("Joiner", some "__init__") "__init__" "Joiner.__init__" (inClass (sT 13) 0) := T.def_ 8 rfl rfl rfl
theorem B_Joiner___init__ (T : Tx K mg) : Binds K (fdA K ("Joiner", some "__init__")) ["self"] [] := (F_Joiner___init__ T).bindsN fun _ _ _ _ _ _ us hl => match us, hl with | [_], _ => rfl
theorem sc_Joiner___init__ : FnScope ["self"] ["self"] (defScope (inClass (sT 13) 0)) := ⟨rfl, rfl, rfl, by decide +kernel, rfl, by decide +kernel, by decide +kernel⟩
theorem F_Joiner_settle (T : Tx K mg) : FnP K ("Joiner", some "settle") "settle" "Joiner.settle" (inClass (sT 13) 1) := T.def_ 9 rfl rfl rfl
theorem B_Joiner_settle (T : Tx K mg) : Binds K (fdA K ("Joiner", some "settle")) ["self", "tokens"] [] := (F_Joiner_settle T).bindsN fun _ _ _ _ _ _ us hl => match us, hl with | [_, _], _ => rfl
theorem sc_Joiner_settle : FnScope ["self", "tokens", "settled", "token"] ["self", "tokens"] (defScope (inClass (sT 13) 1)) := ⟨rfl, rfl, rfl, by decide +kernel, rfl, by decide +kernel, by decide +kernel⟩
theorem F_Joiner_release (T : Tx K mg) : FnP K ("Joiner", some "release") "release" "Joiner.release" (inClass (sT 13) 2) := T.def_ 10 rfl rfl rfl
theorem B_Joiner_release (T : Tx K mg) : Binds K (fdA K ("Joiner", some "release")) ["self"] [] := (F_Joiner_release T).bindsN fun _ _ _ _ _ _ us hl => match us, hl with | [_], _ => rfl
theorem sc_Joiner_release : FnScope ["self", "released"] ["self"] (defScope (inClass (sT 13) 2)) := ⟨rfl, rfl, rfl, by decide +kernel, rfl, by decide +kernel, by decide +kernel⟩
theorem F_closes (T : Tx K mg) : FnP K ("closes", none) "closes" "closes" (sT 14) := T.def_ 11 rfl rfl rfl
theorem B_closes (T : Tx K mg) : Binds K (fdA K ("closes", none)) ["token", "tag"] [] := (F_closes T).bindsN fun _ _ _ _ _ _ us hl => match us, hl with | [_, _], _ => rfl
theorem sc_closes : FnScope ["token", "tag"] ["token", "tag"] (defScope (sT 14)) := ⟨rfl, rfl, rfl, by decide +kernel, rfl, by decide +kernel, by decide +kernel⟩
theorem F_joined (T : Tx K mg) : FnP K ("joined", none) "joined" "joined" (sT 15) := T.def_ 12 rfl rfl rfl
theorem B_joined (T : Tx K mg) : Binds K (fdA K ("joined", none)) ["tag", "closing"] [] := (F_joined T).bindsN fun _ _ _ _ _ _ us hl => match us, hl with | [_, _], _ => rfl
theorem sc_joined : FnScope ["tag", "closing"] ["tag", "closing"] (defScope (sT 15)) := ⟨rfl, rfl, rfl, by decide +kernel, rfl, by decide +kernel, by decide +kernel⟩
theorem F_normal_tokens (T : Tx K mg) : FnP K ("normal_tokens", none) "normal_tokens" "normal_tokens" (sT 16) := T.def_ 13 rfl rfl rfl
theorem B_normal_tokens (T : Tx K mg) : Binds K (fdA K ("normal_tokens", none)) ["tokens"] [] := (F_normal_tokens T).bindsN fun _ _ _ _ _ _ us hl => match us, hl with | [_], _ => rfl
theorem sc_normal_tokens : FnScope ["tokens", "joiner", "settled"] ["tokens"] (defScope (sT 16)) := ⟨rfl, rfl, rfl, by decide +kernel, rfl, by decide +kernel, by decide +kernel⟩
theorem F_signs_of (T : Tx K mg) : FnP K ("signs_of", none) "signs_of" "signs_of" (sT 34) := T.def_ 14 rfl rfl rfl
theorem B_signs_of (T : Tx K mg) : Binds K (fdA K ("signs_of", none)) ["words"] [] := (F_signs_of T).bindsN fun _ _ _ _ _ _ us hl => match us, hl with | [_], _ => rfl
theorem sc_signs_of : FnScope ["words", "letter"] ["words"] (defScope (sT 34)) := ⟨rfl, rfl, rfl, by decide +kernel, rfl, by decide +kernel, by decide +kernel⟩
theorem F_is_byte (T : Tx K mg) : FnP K ("is_byte", none) "is_byte" "is_byte" (sT 35) := T.def_ 15 rfl rfl rfl
theorem B_is_byte (T : Tx K mg) : Binds K (fdA K ("is_byte", none)) ["number"] [] := (F_is_byte T).bindsN fun _ _ _ _ _ _ us hl => match us, hl with | [_], _ => rfl
theorem sc_is_byte : FnScope ["number"] ["number"] (defScope (sT 35)) := ⟨rfl, rfl, rfl, by decide +kernel, rfl, by decide +kernel, by decide +kernel⟩
theorem F_is_blank (T : Tx K mg) : FnP K ("is_blank", none) "is_blank" "is_blank" (sT 36) := T.def_ 16 rfl rfl rfl
theorem B_is_blank (T : Tx K mg) : Binds K (fdA K ("is_blank", none)) ["sign"] [] := (F_is_blank T).bindsN fun _ _ _ _ _ _ us hl => match us, hl with | [_], _ => rfl
theorem sc_is_blank : FnScope ["sign"] ["sign"] (defScope (sT 36)) := ⟨rfl, rfl, rfl, by decide +kernel, rfl, by decide +kernel, by decide +kernel⟩
theorem F_is_small_letter (T : Tx K mg) : FnP K ("is_small_letter", none) "is_small_letter" "is_small_letter" (sT 37) := T.def_ 17 rfl rfl rfl
theorem B_is_small_letter (T : Tx K mg) : Binds K (fdA K ("is_small_letter", none)) ["sign"] [] := (F_is_small_letter T).bindsN fun _ _ _ _ _ _ us hl => match us, hl with | [_], _ => rfl
theorem sc_is_small_letter : FnScope ["sign"] ["sign"] (defScope (sT 37)) := ⟨rfl, rfl, rfl, by decide +kernel, rfl, by decide +kernel, by decide +kernel⟩
theorem F_is_large_letter (T : Tx K mg) : FnP K ("is_large_letter", none) "is_large_letter" "is_large_letter" (sT 38) := T.def_ 18 rfl rfl rfl
theorem B_is_large_letter (T : Tx K mg) : Binds K (fdA K ("is_large_letter", none)) ["sign"] [] := (F_is_large_letter T).bindsN fun _ _ _ _ _ _ us hl => match us, hl with | [_], _ => rfl
theorem sc_is_large_letter : FnScope ["sign"] ["sign"] (defScope (sT 38)) := ⟨rfl, rfl, rfl, by decide +kernel, rfl, by decide +kernel, by decide +kernel⟩
theorem F_is_digit (T : Tx K mg) : FnP K ("is_digit", none) "is_digit" "is_digit" (sT 39) := T.def_ 19 rfl rfl rfl
theorem B_is_digit (T : Tx K mg) : Binds K (fdA K ("is_digit", none)) ["sign"] [] := (F_is_digit T).bindsN fun _ _ _ _ _ _ us hl => match us, hl with | [_], _ => rfl
theorem sc_is_digit : FnScope ["sign"] ["sign"] (defScope (sT 39)) := ⟨rfl, rfl, rfl, by decide +kernel, rfl, by decide +kernel, by decide +kernel⟩
theorem F_is_name_sign (T : Tx K mg) : FnP K ("is_name_sign", none) "is_name_sign" "is_name_sign" (sT 40) := T.def_ 20 rfl rfl rfl
theorem B_is_name_sign (T : Tx K mg) : Binds K (fdA K ("is_name_sign", none)) ["sign"] [] := (F_is_name_sign T).bindsN fun _ _ _ _ _ _ us hl => match us, hl with | [_], _ => rfl
theorem sc_is_name_sign : FnScope ["sign"] ["sign"] (defScope (sT 40)) := ⟨rfl, rfl, rfl, by decide +kernel, rfl, by decide +kernel, by decide +kernel⟩
theorem F_is_body_sign (T : Tx K mg) : FnP K ("is_body_sign", none) "is_body_sign" "is_body_sign" (sT 41) := T.def_ 21 rfl rfl rfl
theorem B_is_body_sign (T : Tx K mg) : Binds K (fdA K ("is_body_sign", none)) ["sign"] [] := (F_is_body_sign T).bindsN fun _ _ _ _ _ _ us hl => match us, hl with | [_], _ => rfl
theorem sc_is_body_sign : FnScope ["sign"] ["sign"] (defScope (sT 41)) := ⟨rfl, rfl, rfl, by decide +kernel, rfl, by decide +kernel, by decide +kernel⟩
theorem F_is_bare (T : Tx K mg) : FnP K ("is_bare", none) "is_bare" "is_bare" (sT 42) := T.def_ 22 rfl rfl rfl
theorem B_is_bare (T : Tx K mg) : Binds K (fdA K ("is_bare", none)) ["sign"] [] := (F_is_bare T).bindsN fun _ _ _ _ _ _ us hl => match us, hl with | [_], _ => rfl
theorem sc_is_bare : FnScope ["sign"] ["sign"] (defScope (sT 42)) := ⟨rfl, rfl, rfl, by decide +kernel, rfl, by decide +kernel, by decide +kernel⟩
theorem F_Reader___init__ (T : Tx K mg) : FnP K ("Reader", some "__init__") "__init__" "Reader.__init__" (inClass (sT 78) 0) := T.def_ 23 rfl rfl rfl
theorem B_Reader___init__ (T : Tx K mg) : Binds K (fdA K ("Reader", some "__init__")) ["self"] [] := (F_Reader___init__ T).bindsN fun _ _ _ _ _ _ us hl => match us, hl with | [_], _ => rfl
theorem sc_Reader___init__ : FnScope ["self"] ["self"] (defScope (inClass (sT 78) 0)) := ⟨rfl, rfl, rfl, by decide +kernel, rfl, by decide +kernel, by decide +kernel⟩
theorem F_Reader_fail (T : Tx K mg) : FnP K ("Reader", some "fail") "fail" "Reader.fail" (inClass (sT 78) 1) := T.def_ 24 rfl rfl rfl
theorem B_Reader_fail (T : Tx K mg) : Binds K (fdA K ("Reader", some "fail")) ["self", "kind"] [] := (F_Reader_fail T).bindsN fun _ _ _ _ _ _ us hl => match us, hl with | [_, _], _ => rfl
theorem sc_Reader_fail : FnScope ["self", "kind"] ["self", "kind"] (defScope (inClass (sT 78) 1)) := ⟨rfl, rfl, rfl, by decide +kernel, rfl, by decide +kernel, by decide +kernel⟩
theorem F_Reader_finish_run (T : Tx K mg) : FnP K ("Reader", some "finish_run") "finish_run" "Reader.finish_run" (inClass (sT 78) 2) := T.def_ 25 rfl rfl rfl
theorem B_Reader_finish_run (T : Tx K mg) : Binds K (fdA K ("Reader", some "finish_run")) ["self", "kind", "stop"] [] := (F_Reader_finish_run T).bindsN fun _ _ _ _ _ _ us hl => match us, hl with | [_, _, _], _ => rfl
theorem sc_Reader_finish_run : FnScope ["self", "kind", "stop"] ["self", "kind", "stop"] (defScope (inClass (sT 78) 2)) := ⟨rfl, rfl, rfl, by decide +kernel, rfl, by decide +kernel, by decide +kernel⟩
theorem F_Reader_finish_attribute (T : Tx K mg) : FnP K ("Reader", some "finish_attribute") "finish_attribute" "Reader.finish_attribute" (inClass (sT 78) 3) := T.def_ 26 rfl rfl rfl
theorem B_Reader_finish_attribute (T : Tx K mg) : Binds K (fdA K ("Reader", some "finish_attribute")) ["self"] [] := (F_Reader_finish_attribute T).bindsN fun _ _ _ _ _ _ us hl => match us, hl with | [_], _ => rfl
theorem sc_Reader_finish_attribute : FnScope ["self"] ["self"] (defScope (inClass (sT 78) 3)) := ⟨rfl, rfl, rfl, by decide +kernel, rfl, by decide +kernel, by decide +kernel⟩
theorem F_Reader_finish_open_tag (T : Tx K mg) : FnP K ("Reader", some "finish_open_tag") "finish_open_tag" "Reader.finish_open_tag" (inClass (sT 78) 4) := T.def_ 27 rfl rfl rfl
theorem B_Reader_finish_open_tag (T : Tx K mg) : Binds K (fdA K ("Reader", some "finish_open_tag")) ["self", "ended"] [] := (F_Reader_finish_open_tag T).bindsN fun _ _ _ _ _ _ us hl => match us, hl with | [_, _], _ => rfl
theorem sc_Reader_finish_open_tag : FnScope ["self", "ended", "stop", "pairs", "name", "value"] ["self", "ended"] (defScope (inClass (sT 78) 4)) := ⟨rfl, rfl, rfl, by decide +kernel, rfl, by decide +kernel, by decide +kernel⟩
theorem F_Reader_finish_close_tag (T : Tx K mg) : FnP K ("Reader", some "finish_close_tag") "finish_close_tag" "Reader.finish_close_tag" (inClass (sT 78) 5) := T.def_ 28 rfl rfl rfl
theorem B_Reader_finish_close_tag (T : Tx K mg) : Binds K (fdA K ("Reader", some "finish_close_tag")) ["self"] [] := (F_Reader_finish_close_tag T).bindsN fun _ _ _ _ _ _ us hl => match us, hl with | [_], _ => rfl
theorem sc_Reader_finish_close_tag : FnScope ["self"] ["self"] (defScope (inClass (sT 78) 5)) := ⟨rfl, rfl, rfl, by decide +kernel, rfl, by decide +kernel, by decide +kernel⟩
theorem F_Reader_finish_raw (T : Tx K mg) : FnP K ("Reader", some "finish_raw") "finish_raw" "Reader.finish_raw" (inClass (sT 78) 6) := T.def_ 29 rfl rfl rfl
theorem B_Reader_finish_raw (T : Tx K mg) : Binds K (fdA K ("Reader", some "finish_raw")) ["self"] [] := (F_Reader_finish_raw T).bindsN fun _ _ _ _ _ _ us hl => match us, hl with | [_], _ => rfl
theorem sc_Reader_finish_raw : FnScope ["self", "place"] ["self"] (defScope (inClass (sT 78) 6)) := ⟨rfl, rfl, rfl, by decide +kernel, rfl, by decide +kernel, by decide +kernel⟩
theorem F_is_raw_name (T : Tx K mg) : FnP K ("is_raw_name", none) "is_raw_name" "is_raw_name" (sT 79) := T.def_ 30 rfl rfl rfl
theorem B_is_raw_name (T : Tx K mg) : Binds K (fdA K ("is_raw_name", none)) ["name"] [] := (F_is_raw_name T).bindsN fun _ _ _ _ _ _ us hl => match us, hl with | [_], _ => rfl
theorem sc_is_raw_name : FnScope ["name", "raw_name"] ["name"] (defScope (sT 79)) := ⟨rfl, rfl, rfl, by decide +kernel, rfl, by decide +kernel, by decide +kernel⟩
theorem F_byte_of (T : Tx K mg) : FnP K ("byte_of", none) "byte_of" "byte_of" (sT 82) := T.def_ 31 rfl rfl rfl
theorem B_byte_of (T : Tx K mg) : Binds K (fdA K ("byte_of", none)) ["body"] [] := (F_byte_of T).bindsN fun _ _ _ _ _ _ us hl => match us, hl with | [_], _ => rfl
theorem sc_byte_of : FnScope ["body", "name", "byte"] ["body"] (defScope (sT 82)) := ⟨rfl, rfl, rfl, by decide +kernel, rfl, by decide +kernel, by decide +kernel⟩
theorem F_byte_in_base (T : Tx K mg) : FnP K ("byte_in_base", none) "byte_in_base" "byte_in_base" (sT 83) := T.def_ 32 rfl rfl rfl
theorem B_byte_in_base (T : Tx K mg) : Binds K (fdA K ("byte_in_base", none)) ["digits", "base", "most"] [] := (F_byte_in_base T).bindsN fun _ _ _ _ _ _ us hl => match us, hl with | [_, _, _], _ => rfl
theorem sc_byte_in_base : FnScope ["digits", "base", "most", "number", "sign", "digit"] ["digits", "base", "most"] (defScope (sT 83)) := ⟨rfl, rfl, rfl, by decide +kernel, rfl, by decide +kernel, by decide +kernel⟩
theorem F_digit_value (T : Tx K mg) : FnP K ("digit_value", none) "digit_value" "digit_value" (sT 84) := T.def_ 33 rfl rfl rfl
theorem B_digit_value (T : Tx K mg) : Binds K (fdA K ("digit_value", none)) ["sign"] [] := (F_digit_value T).bindsN fun _ _ _ _ _ _ us hl => match us, hl with | [_], _ => rfl
theorem sc_digit_value : FnScope ["sign"] ["sign"] (defScope (sT 84)) := ⟨rfl, rfl, rfl, by decide +kernel, rfl, by decide +kernel, by decide +kernel⟩
theorem F_text_step (T : Tx K mg) : FnP K ("text_step", none) "text_step" "text_step" (sT 88) := T.def_ 34 rfl rfl rfl
theorem B_text_step (T : Tx K mg) : Binds K (fdA K ("text_step", none)) ["reader", "sign"] [] := (F_text_step T).bindsN fun _ _ _ _ _ _ us hl => match us, hl with | [_, _], _ => rfl
theorem sc_text_step : FnScope ["reader", "sign"] ["reader", "sign"] (defScope (sT 88)) := ⟨rfl, rfl, rfl, by decide +kernel, rfl, by decide +kernel, by decide +kernel⟩
theorem F_text_reference_step (T : Tx K mg) : FnP K ("text_reference_step", none) "text_reference_step" "text_reference_step" (sT 89) := T.def_ 35 rfl rfl rfl
theorem B_text_reference_step (T : Tx K mg) : Binds K (fdA K ("text_reference_step", none)) ["reader", "sign"] [] := (F_text_reference_step T).bindsN fun _ _ _ _ _ _ us hl => match us, hl with | [_, _], _ => rfl
theorem sc_text_reference_step : FnScope ["reader", "sign"] ["reader", "sign"] (defScope (sT 89)) := ⟨rfl, rfl, rfl, by decide +kernel, rfl, by decide +kernel, by decide +kernel⟩
theorem F_double_reference_step (T : Tx K mg) : FnP K ("double_reference_step", none) "double_reference_step" "double_reference_step" (sT 90) := T.def_ 36 rfl rfl rfl
theorem B_double_reference_step (T : Tx K mg) : Binds K (fdA K ("double_reference_step", none)) ["reader", "sign"] [] := (F_double_reference_step T).bindsN fun _ _ _ _ _ _ us hl => match us, hl with | [_, _], _ => rfl
theorem sc_double_reference_step : FnScope ["reader", "sign"] ["reader", "sign"] (defScope (sT 90)) := ⟨rfl, rfl, rfl, by decide +kernel, rfl, by decide +kernel, by decide +kernel⟩
theorem F_single_reference_step (T : Tx K mg) : FnP K ("single_reference_step", none) "single_reference_step" "single_reference_step" (sT 91) := T.def_ 37 rfl rfl rfl
theorem B_single_reference_step (T : Tx K mg) : Binds K (fdA K ("single_reference_step", none)) ["reader", "sign"] [] := (F_single_reference_step T).bindsN fun _ _ _ _ _ _ us hl => match us, hl with | [_, _], _ => rfl
theorem sc_single_reference_step : FnScope ["reader", "sign"] ["reader", "sign"] (defScope (sT 91)) := ⟨rfl, rfl, rfl, by decide +kernel, rfl, by decide +kernel, by decide +kernel⟩
theorem F_bare_reference_step (T : Tx K mg) : FnP K ("bare_reference_step", none) "bare_reference_step" "bare_reference_step" (sT 92) := T.def_ 38 rfl rfl rfl
theorem B_bare_reference_step (T : Tx K mg) : Binds K (fdA K ("bare_reference_step", none)) ["reader", "sign"] [] := (F_bare_reference_step T).bindsN fun _ _ _ _ _ _ us hl => match us, hl with | [_, _], _ => rfl
theorem sc_bare_reference_step : FnScope ["reader", "sign"] ["reader", "sign"] (defScope (sT 92)) := ⟨rfl, rfl, rfl, by decide +kernel, rfl, by decide +kernel, by decide +kernel⟩
theorem F_reference_step (T : Tx K mg) : FnP K ("reference_step", none) "reference_step" "reference_step" (sT 93) := T.def_ 39 rfl rfl rfl
theorem B_reference_step (T : Tx K mg) : Binds K (fdA K ("reference_step", none)) ["reader", "sign", "mode_behind"] [] := (F_reference_step T).bindsN fun _ _ _ _ _ _ us hl => match us, hl with | [_, _, _], _ => rfl
theorem sc_reference_step : FnScope ["reader", "sign", "mode_behind"] ["reader", "sign", "mode_behind"] (defScope (sT 93)) := ⟨rfl, rfl, rfl, by decide +kernel, rfl, by decide +kernel, by decide +kernel⟩
theorem F_finish_reference (T : Tx K mg) : FnP K ("finish_reference", none) "finish_reference" "finish_reference" (sT 94) := T.def_ 40 rfl rfl rfl
theorem B_finish_reference (T : Tx K mg) : Binds K (fdA K ("finish_reference", none)) ["reader", "mode_behind"] [] := (F_finish_reference T).bindsN fun _ _ _ _ _ _ us hl => match us, hl with | [_, _], _ => rfl
theorem sc_finish_reference : FnScope ["reader", "mode_behind", "byte"] ["reader", "mode_behind"] (defScope (sT 94)) := ⟨rfl, rfl, rfl, by decide +kernel, rfl, by decide +kernel, by decide +kernel⟩
theorem F_behind_less_step (T : Tx K mg) : FnP K ("behind_less_step", none) "behind_less_step" "behind_less_step" (sT 95) := T.def_ 41 rfl rfl rfl
theorem B_behind_less_step (T : Tx K mg) : Binds K (fdA K ("behind_less_step", none)) ["reader", "sign"] [] := (F_behind_less_step T).bindsN fun _ _ _ _ _ _ us hl => match us, hl with | [_, _], _ => rfl
theorem sc_behind_less_step : FnScope ["reader", "sign"] ["reader", "sign"] (defScope (sT 95)) := ⟨rfl, rfl, rfl, by decide +kernel, rfl, by decide +kernel, by decide +kernel⟩
theorem F_only_step (T : Tx K mg) : FnP K ("only_step", none) "only_step" "only_step" (sT 96) := T.def_ 42 rfl rfl rfl
theorem B_only_step (T : Tx K mg) : Binds K (fdA K ("only_step", none)) ["reader", "sign", "wanted", "mode_behind"] [] := (F_only_step T).bindsN fun _ _ _ _ _ _ us hl => match us, hl with | [_, _, _, _], _ => rfl
theorem sc_only_step : FnScope ["reader", "sign", "wanted", "mode_behind"] ["reader", "sign", "wanted", "mode_behind"] (defScope (sT 96)) := ⟨rfl, rfl, rfl, by decide +kernel, rfl, by decide +kernel, by decide +kernel⟩
theorem F_add_to_name (T : Tx K mg) : FnP K ("add_to_name", none) "add_to_name" "add_to_name" (sT 97) := T.def_ 43 rfl rfl rfl
theorem B_add_to_name (T : Tx K mg) : Binds K (fdA K ("add_to_name", none)) ["reader", "name", "sign"] [] := (F_add_to_name T).bindsN fun _ _ _ _ _ _ us hl => match us, hl with | [_, _, _], _ => rfl
theorem sc_add_to_name : FnScope ["reader", "name", "sign"] ["reader", "name", "sign"] (defScope (sT 97)) := ⟨rfl, rfl, rfl, by decide +kernel, rfl, by decide +kernel, by decide +kernel⟩
theorem F_open_name_step (T : Tx K mg) : FnP K ("open_name_step", none) "open_name_step" "open_name_step" (sT 98) := T.def_ 44 rfl rfl rfl
theorem B_open_name_step (T : Tx K mg) : Binds K (fdA K ("open_name_step", none)) ["reader", "sign"] [] := (F_open_name_step T).bindsN fun _ _ _ _ _ _ us hl => match us, hl with | [_, _], _ => rfl
theorem sc_open_name_step : FnScope ["reader", "sign"] ["reader", "sign"] (defScope (sT 98)) := ⟨rfl, rfl, rfl, by decide +kernel, rfl, by decide +kernel, by decide +kernel⟩
theorem F_behind_close_step (T : Tx K mg) : FnP K ("behind_close_step", none) "behind_close_step" "behind_close_step" (sT 99) := T.def_ 45 rfl rfl rfl
theorem B_behind_close_step (T : Tx K mg) : Binds K (fdA K ("behind_close_step", none)) ["reader", "sign"] [] := (F_behind_close_step T).bindsN fun _ _ _ _ _ _ us hl => match us, hl with | [_, _], _ => rfl
theorem sc_behind_close_step : FnScope ["reader", "sign"] ["reader", "sign"] (defScope (sT 99)) := ⟨rfl, rfl, rfl, by decide +kernel, rfl, by decide +kernel, by decide +kernel⟩
theorem F_close_name_step (T : Tx K mg) : FnP K ("close_name_step", none) "close_name_step" "close_name_step" (sT 100) := T.def_ 46 rfl rfl rfl
theorem B_close_name_step (T : Tx K mg) : Binds K (fdA K ("close_name_step", none)) ["reader", "sign"] [] := (F_close_name_step T).bindsN fun _ _ _ _ _ _ us hl => match us, hl with | [_, _], _ => rfl
theorem sc_close_name_step : FnScope ["reader", "sign"] ["reader", "sign"] (defScope (sT 100)) := ⟨rfl, rfl, rfl, by decide +kernel, rfl, by decide +kernel, by decide +kernel⟩
theorem F_gap_step (T : Tx K mg) : FnP K ("gap_step", none) "gap_step" "gap_step" (sT 101) := T.def_ 47 rfl rfl rfl
theorem B_gap_step (T : Tx K mg) : Binds K (fdA K ("gap_step", none)) ["reader", "sign"] [] := (F_gap_step T).bindsN fun _ _ _ _ _ _ us hl => match us, hl with | [_, _], _ => rfl
theorem sc_gap_step : FnScope ["reader", "sign"] ["reader", "sign"] (defScope (sT 101)) := ⟨rfl, rfl, rfl, by decide +kernel, rfl, by decide +kernel, by decide +kernel⟩
theorem F_attribute_name_step (T : Tx K mg) : FnP K ("attribute_name_step", none) "attribute_name_step" "attribute_name_step" (sT 102) := T.def_ 48 rfl rfl rfl
theorem B_attribute_name_step (T : Tx K mg) : Binds K (fdA K ("attribute_name_step", none)) ["reader", "sign"] [] := (F_attribute_name_step T).bindsN fun _ _ _ _ _ _ us hl => match us, hl with | [_, _], _ => rfl
theorem sc_attribute_name_step : FnScope ["reader", "sign"] ["reader", "sign"] (defScope (sT 102)) := ⟨rfl, rfl, rfl, by decide +kernel, rfl, by decide +kernel, by decide +kernel⟩
theorem F_behind_equals_step (T : Tx K mg) : FnP K ("behind_equals_step", none) "behind_equals_step" "behind_equals_step" (sT 103) := T.def_ 49 rfl rfl rfl
theorem B_behind_equals_step (T : Tx K mg) : Binds K (fdA K ("behind_equals_step", none)) ["reader", "sign"] [] := (F_behind_equals_step T).bindsN fun _ _ _ _ _ _ us hl => match us, hl with | [_, _], _ => rfl
theorem sc_behind_equals_step : FnScope ["reader", "sign"] ["reader", "sign"] (defScope (sT 103)) := ⟨rfl, rfl, rfl, by decide +kernel, rfl, by decide +kernel, by decide +kernel⟩
theorem F_double_value_step (T : Tx K mg) : FnP K ("double_value_step", none) "double_value_step" "double_value_step" (sT 104) := T.def_ 50 rfl rfl rfl
theorem B_double_value_step (T : Tx K mg) : Binds K (fdA K ("double_value_step", none)) ["reader", "sign"] [] := (F_double_value_step T).bindsN fun _ _ _ _ _ _ us hl => match us, hl with | [_, _], _ => rfl
theorem sc_double_value_step : FnScope ["reader", "sign"] ["reader", "sign"] (defScope (sT 104)) := ⟨rfl, rfl, rfl, by decide +kernel, rfl, by decide +kernel, by decide +kernel⟩
theorem F_single_value_step (T : Tx K mg) : FnP K ("single_value_step", none) "single_value_step" "single_value_step" (sT 105) := T.def_ 51 rfl rfl rfl
theorem B_single_value_step (T : Tx K mg) : Binds K (fdA K ("single_value_step", none)) ["reader", "sign"] [] := (F_single_value_step T).bindsN fun _ _ _ _ _ _ us hl => match us, hl with | [_, _], _ => rfl
theorem sc_single_value_step : FnScope ["reader", "sign"] ["reader", "sign"] (defScope (sT 105)) := ⟨rfl, rfl, rfl, by decide +kernel, rfl, by decide +kernel, by decide +kernel⟩
theorem F_quoted_value_step (T : Tx K mg) : FnP K ("quoted_value_step", none) "quoted_value_step" "quoted_value_step" (sT 106) := T.def_ 52 rfl rfl rfl
theorem B_quoted_value_step (T : Tx K mg) : Binds K (fdA K ("quoted_value_step", none)) ["reader", "sign", "quote", "reference_mode"] [] := (F_quoted_value_step T).bindsN fun _ _ _ _ _ _ us hl => match us, hl with | [_, _, _, _], _ => rfl
theorem sc_quoted_value_step : FnScope ["reader", "sign", "quote", "reference_mode"] ["reader", "sign", "quote", "reference_mode"] (defScope (sT 106)) := ⟨rfl, rfl, rfl, by decide +kernel, rfl, by decide +kernel, by decide +kernel⟩
theorem F_bare_value_step (T : Tx K mg) : FnP K ("bare_value_step", none) "bare_value_step" "bare_value_step" (sT 107) := T.def_ 53 rfl rfl rfl
theorem B_bare_value_step (T : Tx K mg) : Binds K (fdA K ("bare_value_step", none)) ["reader", "sign"] [] := (F_bare_value_step T).bindsN fun _ _ _ _ _ _ us hl => match us, hl with | [_, _], _ => rfl
theorem sc_bare_value_step : FnScope ["reader", "sign"] ["reader", "sign"] (defScope (sT 107)) := ⟨rfl, rfl, rfl, by decide +kernel, rfl, by decide +kernel, by decide +kernel⟩
theorem F_behind_value_step (T : Tx K mg) : FnP K ("behind_value_step", none) "behind_value_step" "behind_value_step" (sT 108) := T.def_ 54 rfl rfl rfl
theorem B_behind_value_step (T : Tx K mg) : Binds K (fdA K ("behind_value_step", none)) ["reader", "sign"] [] := (F_behind_value_step T).bindsN fun _ _ _ _ _ _ us hl => match us, hl with | [_, _], _ => rfl
theorem sc_behind_value_step : FnScope ["reader", "sign"] ["reader", "sign"] (defScope (sT 108)) := ⟨rfl, rfl, rfl, by decide +kernel, rfl, by decide +kernel, by decide +kernel⟩
theorem F_behind_slash_step (T : Tx K mg) : FnP K ("behind_slash_step", none) "behind_slash_step" "behind_slash_step" (sT 109) := T.def_ 55 rfl rfl rfl
theorem B_behind_slash_step (T : Tx K mg) : Binds K (fdA K ("behind_slash_step", none)) ["reader", "sign"] [] := (F_behind_slash_step T).bindsN fun _ _ _ _ _ _ us hl => match us, hl with | [_, _], _ => rfl
theorem sc_behind_slash_step : FnScope ["reader", "sign"] ["reader", "sign"] (defScope (sT 109)) := ⟨rfl, rfl, rfl, by decide +kernel, rfl, by decide +kernel, by decide +kernel⟩
theorem F_behind_exclamation_step (T : Tx K mg) : FnP K ("behind_exclamation_step", none) "behind_exclamation_step" "behind_exclamation_step" (sT 110) := T.def_ 56 rfl rfl rfl
theorem B_behind_exclamation_step (T : Tx K mg) : Binds K (fdA K ("behind_exclamation_step", none)) ["reader", "sign"] [] := (F_behind_exclamation_step T).bindsN fun _ _ _ _ _ _ us hl => match us, hl with | [_, _], _ => rfl
theorem sc_behind_exclamation_step : FnScope ["reader", "sign"] ["reader", "sign"] (defScope (sT 110)) := ⟨rfl, rfl, rfl, by decide +kernel, rfl, by decide +kernel, by decide +kernel⟩
theorem F_behind_dash_step (T : Tx K mg) : FnP K ("behind_dash_step", none) "behind_dash_step" "behind_dash_step" (sT 111) := T.def_ 57 rfl rfl rfl
theorem B_behind_dash_step (T : Tx K mg) : Binds K (fdA K ("behind_dash_step", none)) ["reader", "sign"] [] := (F_behind_dash_step T).bindsN fun _ _ _ _ _ _ us hl => match us, hl with | [_, _], _ => rfl
theorem sc_behind_dash_step : FnScope ["reader", "sign"] ["reader", "sign"] (defScope (sT 111)) := ⟨rfl, rfl, rfl, by decide +kernel, rfl, by decide +kernel, by decide +kernel⟩
theorem F_comment_no_dash_step (T : Tx K mg) : FnP K ("comment_no_dash_step", none) "comment_no_dash_step" "comment_no_dash_step" (sT 112) := T.def_ 58 rfl rfl rfl
theorem B_comment_no_dash_step (T : Tx K mg) : Binds K (fdA K ("comment_no_dash_step", none)) ["reader", "sign"] [] := (F_comment_no_dash_step T).bindsN fun _ _ _ _ _ _ us hl => match us, hl with | [_, _], _ => rfl
theorem sc_comment_no_dash_step : FnScope ["reader", "sign"] ["reader", "sign"] (defScope (sT 112)) := ⟨rfl, rfl, rfl, by decide +kernel, rfl, by decide +kernel, by decide +kernel⟩
theorem F_comment_one_dash_step (T : Tx K mg) : FnP K ("comment_one_dash_step", none) "comment_one_dash_step" "comment_one_dash_step" (sT 113) := T.def_ 59 rfl rfl rfl
theorem B_comment_one_dash_step (T : Tx K mg) : Binds K (fdA K ("comment_one_dash_step", none)) ["reader", "sign"] [] := (F_comment_one_dash_step T).bindsN fun _ _ _ _ _ _ us hl => match us, hl with | [_, _], _ => rfl
theorem sc_comment_one_dash_step : FnScope ["reader", "sign"] ["reader", "sign"] (defScope (sT 113)) := ⟨rfl, rfl, rfl, by decide +kernel, rfl, by decide +kernel, by decide +kernel⟩
theorem F_comment_two_dashes_step (T : Tx K mg) : FnP K ("comment_two_dashes_step", none) "comment_two_dashes_step" "comment_two_dashes_step" (sT 114) := T.def_ 60 rfl rfl rfl
theorem B_comment_two_dashes_step (T : Tx K mg) : Binds K (fdA K ("comment_two_dashes_step", none)) ["reader", "sign"] [] := (F_comment_two_dashes_step T).bindsN fun _ _ _ _ _ _ us hl => match us, hl with | [_, _], _ => rfl
theorem sc_comment_two_dashes_step : FnScope ["reader", "sign"] ["reader", "sign"] (defScope (sT 114)) := ⟨rfl, rfl, rfl, by decide +kernel, rfl, by decide +kernel, by decide +kernel⟩
theorem F_raw_step (T : Tx K mg) : FnP K ("raw_step", none) "raw_step" "raw_step" (sT 115) := T.def_ 61 rfl rfl rfl
theorem B_raw_step (T : Tx K mg) : Binds K (fdA K ("raw_step", none)) ["reader", "sign"] [] := (F_raw_step T).bindsN fun _ _ _ _ _ _ us hl => match us, hl with | [_, _], _ => rfl
theorem sc_raw_step : FnScope ["reader", "sign"] ["reader", "sign"] (defScope (sT 115)) := ⟨rfl, rfl, rfl, by decide +kernel, rfl, by decide +kernel, by decide +kernel⟩
theorem F_raw_behind_less_step (T : Tx K mg) : FnP K ("raw_behind_less_step", none) "raw_behind_less_step" "raw_behind_less_step" (sT 116) := T.def_ 62 rfl rfl rfl
theorem B_raw_behind_less_step (T : Tx K mg) : Binds K (fdA K ("raw_behind_less_step", none)) ["reader", "sign"] [] := (F_raw_behind_less_step T).bindsN fun _ _ _ _ _ _ us hl => match us, hl with | [_, _], _ => rfl
theorem sc_raw_behind_less_step : FnScope ["reader", "sign"] ["reader", "sign"] (defScope (sT 116)) := ⟨rfl, rfl, rfl, by decide +kernel, rfl, by decide +kernel, by decide +kernel⟩
theorem F_raw_behind_close_step (T : Tx K mg) : FnP K ("raw_behind_close_step", none) "raw_behind_close_step" "raw_behind_close_step" (sT 117) := T.def_ 63 rfl rfl rfl
theorem B_raw_behind_close_step (T : Tx K mg) : Binds K (fdA K ("raw_behind_close_step", none)) ["reader", "sign"] [] := (F_raw_behind_close_step T).bindsN fun _ _ _ _ _ _ us hl => match us, hl with | [_, _], _ => rfl
theorem sc_raw_behind_close_step : FnScope ["reader", "sign", "matched", "wanted"] ["reader", "sign"] (defScope (sT 117)) := ⟨rfl, rfl, rfl, by decide +kernel, rfl, by decide +kernel, by decide +kernel⟩
theorem F_take_sign (T : Tx K mg) : FnP K ("take_sign", none) "take_sign" "take_sign" (sT 119) := T.def_ 64 rfl rfl rfl
theorem B_take_sign (T : Tx K mg) : Binds K (fdA K ("take_sign", none)) ["reader", "sign"] [] := (F_take_sign T).bindsN fun _ _ _ _ _ _ us hl => match us, hl with | [_, _], _ => rfl
theorem sc_take_sign : FnScope ["reader", "sign", "step"] ["reader", "sign"] (defScope (sT 119)) := ⟨rfl, rfl, rfl, by decide +kernel, rfl, by decide +kernel, by decide +kernel⟩
theorem F_read_signs (T : Tx K mg) : FnP K ("read_signs", none) "read_signs" "read_signs" (sT 121) := T.def_ 65 rfl rfl rfl
theorem B_read_signs (T : Tx K mg) : Binds K (fdA K ("read_signs", none)) ["reader", "signs"] [] := (F_read_signs T).bindsN fun _ _ _ _ _ _ us hl => match us, hl with | [_, _], _ => rfl
theorem sc_read_signs : FnScope ["reader", "signs", "sign"] ["reader", "signs"] (defScope (sT 121)) := ⟨rfl, rfl, rfl, by decide +kernel, rfl, by decide +kernel, by decide +kernel⟩
theorem F_read_end (T : Tx K mg) : FnP K ("read_end", none) "read_end" "read_end" (sT 122) := T.def_ 66 rfl rfl rfl
theorem B_read_end (T : Tx K mg) : Binds K (fdA K ("read_end", none)) ["reader"] [] := (F_read_end T).bindsN fun _ _ _ _ _ _ us hl => match us, hl with | [_], _ => rfl
theorem sc_read_end : FnScope ["reader"] ["reader"] (defScope (sT 122)) := ⟨rfl, rfl, rfl, by decide +kernel, rfl, by decide +kernel, by decide +kernel⟩
theorem F_read_text (T : Tx K mg) : FnP K ("read_text", none) "read_text" "read_text" (sT 123) := T.def_ 67 rfl rfl rfl
theorem B_read_text (T : Tx K mg) : Binds K (fdA K ("read_text", none)) ["signs"] [] := (F_read_text T).bindsN fun _ _ _ _ _ _ us hl => match us, hl with | [_], _ => rfl
theorem sc_read_text : FnScope ["signs", "reader"] ["signs"] (defScope (sT 123)) := ⟨rfl, rfl, rfl, by decide +kernel, rfl, by decide +kernel, by decide +kernel⟩
theorem F_shortest_form (T : Tx K mg) : FnP K ("shortest_form", none) "shortest_form" "shortest_form" (sT 125) := T.def_ 68 rfl rfl rfl
theorem B_shortest_form (T : Tx K mg) : Binds K (fdA K ("shortest_form", none)) ["signs", "barred"] [] := (F_shortest_form T).bindsN fun _ _ _ _ _ _ us hl => match us, hl with | [_, _], _ => rfl
theorem sc_shortest_form : FnScope ["signs", "barred", "written", "sign"] ["signs", "barred"] (defScope (sT 125)) := ⟨rfl, rfl, rfl, by decide +kernel, rfl, by decide +kernel, by decide +kernel⟩
theorem F_reference_to (T : Tx K mg) : FnP K ("reference_to", none) "reference_to" "reference_to" (sT 126) := T.def_ 69 rfl rfl rfl
theorem B_reference_to (T : Tx K mg) : Binds K (fdA K ("reference_to", none)) ["sign"] [] := (F_reference_to T).bindsN fun _ _ _ _ _ _ us hl => match us, hl with | [_], _ => rfl
theorem sc_reference_to : FnScope ["sign"] ["sign"] (defScope (sT 126)) := ⟨rfl, rfl, rfl, by decide +kernel, rfl, by decide +kernel, by decide +kernel⟩
theorem F_quoted_form (T : Tx K mg) : FnP K ("quoted_form", none) "quoted_form" "quoted_form" (sT 127) := T.def_ 70 rfl rfl rfl
theorem B_quoted_form (T : Tx K mg) : Binds K (fdA K ("quoted_form", none)) ["value", "quote"] [] := (F_quoted_form T).bindsN fun _ _ _ _ _ _ us hl => match us, hl with | [_, _], _ => rfl
theorem sc_quoted_form : FnScope ["value", "quote"] ["value", "quote"] (defScope (sT 127)) := ⟨rfl, rfl, rfl, by decide +kernel, rfl, by decide +kernel, by decide +kernel⟩
theorem F_bare_form (T : Tx K mg) : FnP K ("bare_form", none) "bare_form" "bare_form" (sT 128) := T.def_ 71 rfl rfl rfl
theorem B_bare_form (T : Tx K mg) : Binds K (fdA K ("bare_form", none)) ["value", "tight"] [] := (F_bare_form T).bindsN fun _ _ _ _ _ _ us hl => match us, hl with | [_, _], _ => rfl
theorem sc_bare_form : FnScope ["value", "tight", "written"] ["value", "tight"] (defScope (sT 128)) := ⟨rfl, rfl, rfl, by decide +kernel, rfl, by decide +kernel, by decide +kernel⟩
theorem F_cheapest_form (T : Tx K mg) : FnP K ("cheapest_form", none) "cheapest_form" "cheapest_form" (sT 129) := T.def_ 72 rfl rfl rfl
theorem B_cheapest_form (T : Tx K mg) : Binds K (fdA K ("cheapest_form", none)) ["value", "tight"] [] := (F_cheapest_form T).bindsN fun _ _ _ _ _ _ us hl => match us, hl with | [_, _], _ => rfl
theorem sc_cheapest_form : FnScope ["value", "tight", "forms"] ["value", "tight"] (defScope (sT 129)) := ⟨rfl, rfl, rfl, by decide +kernel, rfl, by decide +kernel, by decide +kernel⟩
theorem F_short_open_tag (T : Tx K mg) : FnP K ("short_open_tag", none) "short_open_tag" "short_open_tag" (sT 130) := T.def_ 73 rfl rfl rfl
theorem B_short_open_tag (T : Tx K mg) : Binds K (fdA K ("short_open_tag", none)) ["token"] [] := (F_short_open_tag T).bindsN fun _ _ _ _ _ _ us hl => match us, hl with | [_], _ => rfl
theorem sc_short_open_tag : FnScope ["token", "written", "last", "index", "pair"] ["token"] (defScope (sT 130)) := ⟨rfl, rfl, rfl, by decide +kernel, rfl, by decide +kernel, by decide +kernel⟩
theorem F_tag_end (T : Tx K mg) : FnP K ("tag_end", none) "tag_end" "tag_end" (sT 131) := T.def_ 74 rfl rfl rfl
theorem B_tag_end (T : Tx K mg) : Binds K (fdA K ("tag_end", none)) ["token"] [] := (F_tag_end T).bindsN fun _ _ _ _ _ _ us hl => match us, hl with | [_], _ => rfl
theorem sc_tag_end : FnScope ["token"] ["token"] (defScope (sT 131)) := ⟨rfl, rfl, rfl, by decide +kernel, rfl, by decide +kernel, by decide +kernel⟩
theorem F_short_attribute (T : Tx K mg) : FnP K ("short_attribute", none) "short_attribute" "short_attribute" (sT 132) := T.def_ 75 rfl rfl rfl
theorem B_short_attribute (T : Tx K mg) : Binds K (fdA K ("short_attribute", none)) ["name", "value", "tight"] [] := (F_short_attribute T).bindsN fun _ _ _ _ _ _ us hl => match us, hl with | [_, _, _], _ => rfl
theorem sc_short_attribute : FnScope ["name", "value", "tight"] ["name", "value", "tight"] (defScope (sT 132)) := ⟨rfl, rfl, rfl, by decide +kernel, rfl, by decide +kernel, by decide +kernel⟩
theorem F_short_token (T : Tx K mg) : FnP K ("short_token", none) "short_token" "short_token" (sT 133) := T.def_ 76 rfl rfl rfl
theorem B_short_token (T : Tx K mg) : Binds K (fdA K ("short_token", none)) ["token"] [] := (F_short_token T).bindsN fun _ _ _ _ _ _ us hl => match us, hl with | [_], _ => rfl
theorem sc_short_token : FnScope ["token"] ["token"] (defScope (sT 133)) := ⟨rfl, rfl, rfl, by decide +kernel, rfl, by decide +kernel, by decide +kernel⟩
theorem F_short_tokens (T : Tx K mg) : FnP K ("short_tokens", none) "short_tokens" "short_tokens" (sT 134) := T.def_ 77 rfl rfl rfl
theorem B_short_tokens (T : Tx K mg) : Binds K (fdA K ("short_tokens", none)) ["tokens"] [] := (F_short_tokens T).bindsN fun _ _ _ _ _ _ us hl => match us, hl with | [_], _ => rfl
theorem sc_short_tokens : FnScope ["tokens", "written", "token"] ["tokens"] (defScope (sT 134)) := ⟨rfl, rfl, rfl, by decide +kernel, rfl, by decide +kernel, by decide +kernel⟩
theorem F_Session___init__ (T : Tx K mg) : FnP K ("Session", some "__init__") "__init__" "Session.__init__" (inClass (sT 137) 0) := T.def_ 78 rfl rfl rfl
theorem B_Session___init__ (T : Tx K mg) : Binds K (fdA K ("Session", some "__init__")) ["self"] [] := (F_Session___init__ T).bindsN fun _ _ _ _ _ _ us hl => match us, hl with | [_], _ => rfl
theorem sc_Session___init__ : FnScope ["self"] ["self"] (defScope (inClass (sT 137) 0)) := ⟨rfl, rfl, rfl, by decide +kernel, rfl, by decide +kernel, by decide +kernel⟩
theorem F_Session_begin (T : Tx K mg) : FnP K ("Session", some "begin") "begin" "Session.begin" (inClass (sT 137) 1) := T.def_ 79 rfl rfl rfl
theorem B_Session_begin (T : Tx K mg) : Binds K (fdA K ("Session", some "begin")) ["self"] [] := (F_Session_begin T).bindsN fun _ _ _ _ _ _ us hl => match us, hl with | [_], _ => rfl
theorem sc_Session_begin : FnScope ["self"] ["self"] (defScope (inClass (sT 137) 1)) := ⟨rfl, rfl, rfl, by decide +kernel, rfl, by decide +kernel, by decide +kernel⟩
theorem F_Session_is_over (T : Tx K mg) : FnP K ("Session", some "is_over") "is_over" "Session.is_over" (inClass (sT 137) 2) := T.def_ 80 rfl rfl rfl
theorem B_Session_is_over (T : Tx K mg) : Binds K (fdA K ("Session", some "is_over")) ["self"] [] := (F_Session_is_over T).bindsN fun _ _ _ _ _ _ us hl => match us, hl with | [_], _ => rfl
theorem sc_Session_is_over : FnScope ["self"] ["self"] (defScope (inClass (sT 137) 2)) := ⟨rfl, rfl, rfl, by decide +kernel, rfl, by decide +kernel, by decide +kernel⟩
theorem F_Session_has_room_for (T : Tx K mg) : FnP K ("Session", some "has_room_for") "has_room_for" "Session.has_room_for" (inClass (sT 137) 3) := T.def_ 81 rfl rfl rfl
theorem B_Session_has_room_for (T : Tx K mg) : Binds K (fdA K ("Session", some "has_room_for")) ["self", "signs"] [] := (F_Session_has_room_for T).bindsN fun _ _ _ _ _ _ us hl => match us, hl with | [_, _], _ => rfl
theorem sc_Session_has_room_for : FnScope ["self", "signs"] ["self", "signs"] (defScope (inClass (sT 137) 3)) := ⟨rfl, rfl, rfl, by decide +kernel, rfl, by decide +kernel, by decide +kernel⟩
theorem F_Session_feed (T : Tx K mg) : FnP K ("Session", some "feed") "feed" "Session.feed" (inClass (sT 137) 4) := T.def_ 82 rfl rfl rfl
theorem B_Session_feed (T : Tx K mg) : Binds K (fdA K ("Session", some "feed")) ["self", "signs"] [] := (F_Session_feed T).bindsN fun _ _ _ _ _ _ us hl => match us, hl with | [_, _], _ => rfl
theorem sc_Session_feed : FnScope ["self", "signs"] ["self", "signs"] (defScope (inClass (sT 137) 4)) := ⟨rfl, rfl, rfl, by decide +kernel, rfl, by decide +kernel, by decide +kernel⟩
theorem F_Session_end (T : Tx K mg) : FnP K ("Session", some "end") "end" "Session.end" (inClass (sT 137) 5) := T.def_ 83 rfl rfl rfl
theorem B_Session_end (T : Tx K mg) : Binds K (fdA K ("Session", some "end")) ["self"] [] := (F_Session_end T).bindsN fun _ _ _ _ _ _ us hl => match us, hl with | [_], _ => rfl
theorem sc_Session_end : FnScope ["self", "settled"] ["self"] (defScope (inClass (sT 137) 5)) := ⟨rfl, rfl, rfl, by decide +kernel, rfl, by decide +kernel, by decide +kernel⟩
theorem F_Session_new_normal_tokens (T : Tx K mg) : FnP K ("Session", some "new_normal_tokens") "new_normal_tokens" "Session.new_normal_tokens" (inClass (sT 137) 6) := T.def_ 84 rfl rfl rfl
theorem B_Session_new_normal_tokens (T : Tx K mg) : Binds K (fdA K ("Session", some "new_normal_tokens")) ["self"] [] := (F_Session_new_normal_tokens T).bindsN fun _ _ _ _ _ _ us hl => match us, hl with | [_], _ => rfl
theorem sc_Session_new_normal_tokens : FnScope ["self", "fresh"] ["self"] (defScope (inClass (sT 137) 6)) := ⟨rfl, rfl, rfl, by decide +kernel, rfl, by decide +kernel, by decide +kernel⟩
theorem F_counted (T : Tx K mg) : FnP K ("counted", none) "counted" "counted" (sT 139) := T.def_ 85 rfl rfl rfl
theorem B_counted (T : Tx K mg) : Binds K (fdA K ("counted", none)) ["row"] [] := (F_counted T).bindsN fun _ _ _ _ _ _ us hl => match us, hl with | [_], _ => rfl
theorem sc_counted : FnScope ["row"] ["row"] (defScope (sT 139)) := ⟨rfl, rfl, rfl, by decide +kernel, rfl, by decide +kernel, by decide +kernel⟩
theorem F_told_token (T : Tx K mg) : FnP K ("told_token", none) "told_token" "told_token" (sT 140) := T.def_ 86 rfl rfl rfl
theorem B_told_token (T : Tx K mg) : Binds K (fdA K ("told_token", none)) ["token"] [] := (F_told_token T).bindsN fun _ _ _ _ _ _ us hl => match us, hl with | [_], _ => rfl
theorem sc_told_token : FnScope ["token"] ["token"] (defScope (sT 140)) := ⟨rfl, rfl, rfl, by decide +kernel, rfl, by decide +kernel, by decide +kernel⟩
theorem F_told_attributes (T : Tx K mg) : FnP K ("told_attributes", none) "told_attributes" "told_attributes" (sT 141) := T.def_ 87 rfl rfl rfl
theorem B_told_attributes (T : Tx K mg) : Binds K (fdA K ("told_attributes", none)) ["attributes"] [] := (F_told_attributes T).bindsN fun _ _ _ _ _ _ us hl => match us, hl with | [_], _ => rfl
theorem sc_told_attributes : FnScope ["attributes", "told", "name", "value"] ["attributes"] (defScope (sT 141)) := ⟨rfl, rfl, rfl, by decide +kernel, rfl, by decide +kernel, by decide +kernel⟩
theorem F_laid_out (T : Tx K mg) : FnP K ("laid_out", none) "laid_out" "laid_out" (sT 143) := T.def_ 88 rfl rfl rfl
theorem B_laid_out (T : Tx K mg) : Binds K (fdA K ("laid_out", none)) ["tokens", "width"] [] := (F_laid_out T).bindsN fun _ _ _ _ _ _ us hl => match us, hl with | [_, _], _ => rfl
theorem sc_laid_out : FnScope ["tokens", "width", "written", "token"] ["tokens", "width"] (defScope (sT 143)) := ⟨rfl, rfl, rfl, by decide +kernel, rfl, by decide +kernel, by decide +kernel⟩
theorem F_laid_token (T : Tx K mg) : FnP K ("laid_token", none) "laid_token" "laid_token" (sT 144) := T.def_ 89 rfl rfl rfl
theorem B_laid_token (T : Tx K mg) : Binds K (fdA K ("laid_token", none)) ["token", "width"] [] := (F_laid_token T).bindsN fun _ _ _ _ _ _ us hl => match us, hl with | [_, _], _ => rfl
theorem sc_laid_token : FnScope ["token", "width", "on_one_line"] ["token", "width"] (defScope (sT 144)) := ⟨rfl, rfl, rfl, by decide +kernel, rfl, by decide +kernel, by decide +kernel⟩
theorem F_full_open_tag (T : Tx K mg) : FnP K ("full_open_tag", none) "full_open_tag" "full_open_tag" (sT 145) := T.def_ 90 rfl rfl rfl
theorem B_full_open_tag (T : Tx K mg) : Binds K (fdA K ("full_open_tag", none)) ["token", "gap"] [] := (F_full_open_tag T).bindsN fun _ _ _ _ _ _ us hl => match us, hl with | [_, _], _ => rfl
theorem sc_full_open_tag : FnScope ["token", "gap", "written", "name", "value"] ["token", "gap"] (defScope (sT 145)) := ⟨rfl, rfl, rfl, by decide +kernel, rfl, by decide +kernel, by decide +kernel⟩
theorem F_full_value (T : Tx K mg) : FnP K ("full_value", none) "full_value" "full_value" (sT 146) := T.def_ 91 rfl rfl rfl
theorem B_full_value (T : Tx K mg) : Binds K (fdA K ("full_value", none)) ["value"] [] := (F_full_value T).bindsN fun _ _ _ _ _ _ us hl => match us, hl with | [_], _ => rfl
theorem sc_full_value : FnScope ["value", "written", "sign"] ["value"] (defScope (sT 146)) := ⟨rfl, rfl, rfl, by decide +kernel, rfl, by decide +kernel, by decide +kernel⟩
theorem F_read_answer (T : Tx K mg) : FnP K ("read_answer", none) "read_answer" "read_answer" (sT 148) := T.def_ 92 rfl rfl rfl
theorem B_read_answer (T : Tx K mg) : Binds K (fdA K ("read_answer", none)) ["reader", "written"] [] := (F_read_answer T).bindsN fun _ _ _ _ _ _ us hl => match us, hl with | [_, _], _ => rfl
theorem sc_read_answer : FnScope ["reader", "written"] ["reader", "written"] (defScope (sT 148)) := ⟨rfl, rfl, rfl, by decide +kernel, rfl, by decide +kernel, by decide +kernel⟩
theorem F_fault_answer (T : Tx K mg) : FnP K ("fault_answer", none) "fault_answer" "fault_answer" (sT 149) := T.def_ 93 rfl rfl rfl
theorem B_fault_answer (T : Tx K mg) : Binds K (fdA K ("fault_answer", none)) ["reader"] [] := (F_fault_answer T).bindsN fun _ _ _ _ _ _ us hl => match us, hl with | [_], _ => rfl
theorem sc_fault_answer : FnScope ["reader"] ["reader"] (defScope (sT 149)) := ⟨rfl, rfl, rfl, by decide +kernel, rfl, by decide +kernel, by decide +kernel⟩
theorem F_minified_answer (T : Tx K mg) : FnP K ("minified_answer", none) "minified_answer" "minified_answer" (sT 150) := T.def_ 94 rfl rfl rfl
theorem B_minified_answer (T : Tx K mg) : Binds K (fdA K ("minified_answer", none)) ["signs"] [] := (F_minified_answer T).bindsN fun _ _ _ _ _ _ us hl => match us, hl with | [_], _ => rfl
theorem sc_minified_answer : FnScope ["signs", "reader"] ["signs"] (defScope (sT 150)) := ⟨rfl, rfl, rfl, by decide +kernel, rfl, by decide +kernel, by decide +kernel⟩
theorem F_saved_answer (T : Tx K mg) : FnP K ("saved_answer", none) "saved_answer" "saved_answer" (sT 151) := T.def_ 95 rfl rfl rfl
theorem B_saved_answer (T : Tx K mg) : Binds K (fdA K ("saved_answer", none)) ["signs"] [] := (F_saved_answer T).bindsN fun _ _ _ _ _ _ us hl => match us, hl with | [_], _ => rfl
theorem sc_saved_answer : FnScope ["signs", "reader", "tokens", "by_runs", "by_tags", "by_joining"] ["signs"] (defScope (sT 151)) := ⟨rfl, rfl, rfl, by decide +kernel, rfl, by decide +kernel, by decide +kernel⟩
theorem F_saved_by_kinds (T : Tx K mg) : FnP K ("saved_by_kinds", none) "saved_by_kinds" "saved_by_kinds" (sT 152) := T.def_ 96 rfl rfl rfl
theorem B_saved_by_kinds (T : Tx K mg) : Binds K (fdA K ("saved_by_kinds", none)) ["tokens", "kinds"] [] := (F_saved_by_kinds T).bindsN fun _ _ _ _ _ _ us hl => match us, hl with | [_, _], _ => rfl
theorem sc_saved_by_kinds : FnScope ["tokens", "kinds", "token"] ["tokens", "kinds"] (defScope (sT 152)) := ⟨rfl, rfl, rfl, by decide +kernel, rfl, by decide +kernel, by decide +kernel⟩
theorem F_laid_answer (T : Tx K mg) : FnP K ("laid_answer", none) "laid_answer" "laid_answer" (sT 153) := T.def_ 97 rfl rfl rfl
theorem B_laid_answer (T : Tx K mg) : Binds K (fdA K ("laid_answer", none)) ["width", "signs"] [] := (F_laid_answer T).bindsN fun _ _ _ _ _ _ us hl => match us, hl with | [_, _], _ => rfl
theorem sc_laid_answer : FnScope ["width", "signs", "reader"] ["width", "signs"] (defScope (sT 153)) := ⟨rfl, rfl, rfl, by decide +kernel, rfl, by decide +kernel, by decide +kernel⟩
theorem F_same_answer (T : Tx K mg) : FnP K ("same_answer", none) "same_answer" "same_answer" (sT 154) := T.def_ 98 rfl rfl rfl
theorem B_same_answer (T : Tx K mg) : Binds K (fdA K ("same_answer", none)) ["first_signs", "second_signs"] [] := (F_same_answer T).bindsN fun _ _ _ _ _ _ us hl => match us, hl with | [_, _], _ => rfl
theorem sc_same_answer : FnScope ["first_signs", "second_signs", "readers", "alike", "which", "reader"] ["first_signs", "second_signs"] (defScope (sT 154)) := ⟨rfl, rfl, rfl, by decide +kernel, rfl, by decide +kernel, by decide +kernel⟩
theorem F_tokens_answer (T : Tx K mg) : FnP K ("tokens_answer", none) "tokens_answer" "tokens_answer" (sT 155) := T.def_ 99 rfl rfl rfl
theorem B_tokens_answer (T : Tx K mg) : Binds K (fdA K ("tokens_answer", none)) ["signs"] [] := (F_tokens_answer T).bindsN fun _ _ _ _ _ _ us hl => match us, hl with | [_], _ => rfl
theorem sc_tokens_answer : FnScope ["signs", "reader", "told_tokens", "answer", "told"] ["signs"] (defScope (sT 155)) := ⟨rfl, rfl, rfl, by decide +kernel, rfl, by decide +kernel, by decide +kernel⟩
theorem F_told_normal_tokens (T : Tx K mg) : FnP K ("told_normal_tokens", none) "told_normal_tokens" "told_normal_tokens" (sT 156) := T.def_ 100 rfl rfl rfl
theorem B_told_normal_tokens (T : Tx K mg) : Binds K (fdA K ("told_normal_tokens", none)) ["reader"] [] := (F_told_normal_tokens T).bindsN fun _ _ _ _ _ _ us hl => match us, hl with | [_], _ => rfl
theorem sc_told_normal_tokens : FnScope ["reader", "token"] ["reader"] (defScope (sT 156)) := ⟨rfl, rfl, rfl, by decide +kernel, rfl, by decide +kernel, by decide +kernel⟩
theorem F_begin_call (T : Tx K mg) : FnP K ("begin_call", none) "begin_call" "begin_call" (sT 164) := T.def_ 101 rfl rfl rfl
theorem B_begin_call (T : Tx K mg) : Binds K (fdA K ("begin_call", none)) ["session", "cursor"] [] := (F_begin_call T).bindsN fun _ _ _ _ _ _ us hl => match us, hl with | [_, _], _ => rfl
theorem sc_begin_call : FnScope ["session", "cursor"] ["session", "cursor"] (defScope (sT 164)) := ⟨rfl, rfl, rfl, by decide +kernel, rfl, by decide +kernel, by decide +kernel⟩
theorem F_feed_call (T : Tx K mg) : FnP K ("feed_call", none) "feed_call" "feed_call" (sT 165) := T.def_ 102 rfl rfl rfl
theorem B_feed_call (T : Tx K mg) : Binds K (fdA K ("feed_call", none)) ["session", "cursor"] [] := (F_feed_call T).bindsN fun _ _ _ _ _ _ us hl => match us, hl with | [_, _], _ => rfl
theorem sc_feed_call : FnScope ["session", "cursor", "row", "refused", "written"] ["session", "cursor"] (defScope (sT 165)) := ⟨rfl, rfl, rfl, by decide +kernel, rfl, by decide +kernel, by decide +kernel⟩
theorem F_end_call (T : Tx K mg) : FnP K ("end_call", none) "end_call" "end_call" (sT 166) := T.def_ 103 rfl rfl rfl
theorem B_end_call (T : Tx K mg) : Binds K (fdA K ("end_call", none)) ["session", "cursor"] [] := (F_end_call T).bindsN fun _ _ _ _ _ _ us hl => match us, hl with | [_, _], _ => rfl
theorem sc_end_call : FnScope ["session", "cursor", "written"] ["session", "cursor"] (defScope (sT 166)) := ⟨rfl, rfl, rfl, by decide +kernel, rfl, by decide +kernel, by decide +kernel⟩
theorem F_minify_call (T : Tx K mg) : FnP K ("minify_call", none) "minify_call" "minify_call" (sT 167) := T.def_ 104 rfl rfl rfl
theorem B_minify_call (T : Tx K mg) : Binds K (fdA K ("minify_call", none)) ["session", "cursor"] [] := (F_minify_call T).bindsN fun _ _ _ _ _ _ us hl => match us, hl with | [_, _], _ => rfl
theorem sc_minify_call : FnScope ["session", "cursor", "row", "refused"] ["session", "cursor"] (defScope (sT 167)) := ⟨rfl, rfl, rfl, by decide +kernel, rfl, by decide +kernel, by decide +kernel⟩
theorem F_saved_call (T : Tx K mg) : FnP K ("saved_call", none) "saved_call" "saved_call" (sT 168) := T.def_ 105 rfl rfl rfl
theorem B_saved_call (T : Tx K mg) : Binds K (fdA K ("saved_call", none)) ["session", "cursor"] [] := (F_saved_call T).bindsN fun _ _ _ _ _ _ us hl => match us, hl with | [_, _], _ => rfl
theorem sc_saved_call : FnScope ["session", "cursor", "row", "refused"] ["session", "cursor"] (defScope (sT 168)) := ⟨rfl, rfl, rfl, by decide +kernel, rfl, by decide +kernel, by decide +kernel⟩
theorem F_laid_call (T : Tx K mg) : FnP K ("laid_call", none) "laid_call" "laid_call" (sT 169) := T.def_ 106 rfl rfl rfl
theorem B_laid_call (T : Tx K mg) : Binds K (fdA K ("laid_call", none)) ["session", "cursor"] [] := (F_laid_call T).bindsN fun _ _ _ _ _ _ us hl => match us, hl with | [_, _], _ => rfl
theorem sc_laid_call : FnScope ["session", "cursor", "width", "row", "refused"] ["session", "cursor"] (defScope (sT 169)) := ⟨rfl, rfl, rfl, by decide +kernel, rfl, by decide +kernel, by decide +kernel⟩
theorem F_same_call (T : Tx K mg) : FnP K ("same_call", none) "same_call" "same_call" (sT 170) := T.def_ 107 rfl rfl rfl
theorem B_same_call (T : Tx K mg) : Binds K (fdA K ("same_call", none)) ["session", "cursor"] [] := (F_same_call T).bindsN fun _ _ _ _ _ _ us hl => match us, hl with | [_, _], _ => rfl
theorem sc_same_call : FnScope ["session", "cursor", "first", "second", "refused"] ["session", "cursor"] (defScope (sT 170)) := ⟨rfl, rfl, rfl, by decide +kernel, rfl, by decide +kernel, by decide +kernel⟩
theorem F_value_call (T : Tx K mg) : FnP K ("value_call", none) "value_call" "value_call" (sT 171) := T.def_ 108 rfl rfl rfl
theorem B_value_call (T : Tx K mg) : Binds K (fdA K ("value_call", none)) ["session", "cursor"] [] := (F_value_call T).bindsN fun _ _ _ _ _ _ us hl => match us, hl with | [_, _], _ => rfl
theorem sc_value_call : FnScope ["session", "cursor", "tight", "row", "refused"] ["session", "cursor"] (defScope (sT 171)) := ⟨rfl, rfl, rfl, by decide +kernel, rfl, by decide +kernel, by decide +kernel⟩
theorem F_tokens_call (T : Tx K mg) : FnP K ("tokens_call", none) "tokens_call" "tokens_call" (sT 172) := T.def_ 109 rfl rfl rfl
theorem B_tokens_call (T : Tx K mg) : Binds K (fdA K ("tokens_call", none)) ["session", "cursor"] [] := (F_tokens_call T).bindsN fun _ _ _ _ _ _ us hl => match us, hl with | [_, _], _ => rfl
theorem sc_tokens_call : FnScope ["session", "cursor", "row", "refused"] ["session", "cursor"] (defScope (sT 172)) := ⟨rfl, rfl, rfl, by decide +kernel, rfl, by decide +kernel, by decide +kernel⟩
theorem F_bytes_refusal (T : Tx K mg) : FnP K ("bytes_refusal", none) "bytes_refusal" "bytes_refusal" (sT 174) := T.def_ 110 rfl rfl rfl
theorem B_bytes_refusal (T : Tx K mg) : Binds K (fdA K ("bytes_refusal", none)) ["row"] [] := (F_bytes_refusal T).bindsN fun _ _ _ _ _ _ us hl => match us, hl with | [_], _ => rfl
theorem sc_bytes_refusal : FnScope ["row", "number"] ["row"] (defScope (sT 174)) := ⟨rfl, rfl, rfl, by decide +kernel, rfl, by decide +kernel, by decide +kernel⟩
theorem F_feed_refusal (T : Tx K mg) : FnP K ("feed_refusal", none) "feed_refusal" "feed_refusal" (sT 175) := T.def_ 111 rfl rfl rfl
theorem B_feed_refusal (T : Tx K mg) : Binds K (fdA K ("feed_refusal", none)) ["session", "row"] [] := (F_feed_refusal T).bindsN fun _ _ _ _ _ _ us hl => match us, hl with | [_, _], _ => rfl
theorem sc_feed_refusal : FnScope ["session", "row"] ["session", "row"] (defScope (sT 175)) := ⟨rfl, rfl, rfl, by decide +kernel, rfl, by decide +kernel, by decide +kernel⟩
theorem F_width_refusal (T : Tx K mg) : FnP K ("width_refusal", none) "width_refusal" "width_refusal" (sT 176) := T.def_ 112 rfl rfl rfl
theorem B_width_refusal (T : Tx K mg) : Binds K (fdA K ("width_refusal", none)) ["width"] [] := (F_width_refusal T).bindsN fun _ _ _ _ _ _ us hl => match us, hl with | [_], _ => rfl
theorem sc_width_refusal : FnScope ["width"] ["width"] (defScope (sT 176)) := ⟨rfl, rfl, rfl, by decide +kernel, rfl, by decide +kernel, by decide +kernel⟩
theorem F_tight_refusal (T : Tx K mg) : FnP K ("tight_refusal", none) "tight_refusal" "tight_refusal" (sT 177) := T.def_ 113 rfl rfl rfl
theorem B_tight_refusal (T : Tx K mg) : Binds K (fdA K ("tight_refusal", none)) ["tight"] [] := (F_tight_refusal T).bindsN fun _ _ _ _ _ _ us hl => match us, hl with | [_], _ => rfl
theorem sc_tight_refusal : FnScope ["tight"] ["tight"] (defScope (sT 177)) := ⟨rfl, rfl, rfl, by decide +kernel, rfl, by decide +kernel, by decide +kernel⟩
theorem F_answers (T : Tx K mg) : FnP K ("answers", none) "answers" "answers" (sT 178) := T.def_ 114 rfl rfl rfl
theorem B_answers (T : Tx K mg) : Binds K (fdA K ("answers", none)) ["calls"] [] := (F_answers T).bindsN fun _ _ _ _ _ _ us hl => match us, hl with | [_], _ => rfl
theorem sc_answers : FnScope ["calls", "session", "cursor", "given", "call", "answer"] ["calls"] (defScope (sT 178)) := ⟨rfl, rfl, rfl, by decide +kernel, rfl, by decide +kernel, by decide +kernel⟩
end Sm

/-! The mirror: what the program keeps, as plain data, and what each of its defs makes of it. -/
namespace Sm
abbrev NL := List Nat
/-- a token of the program -/
structure Tk where
  kind : Nat
  place : Int
  stop : Int
  name : NL
  attrs : List (NL × NL)
  ended : Nat
  signs : NL
/-- the program's reader -/
structure M where
  mode : Nat
  count : Nat
  toks : List Tk
  tag : NL
  attrs : List (NL × NL)
  attr : NL
  body : NL
  run : NL
  begun : Int
  fk : Nat
def M.new : M := ⟨0, 0, [], [], [], [], [], [], 0, 0⟩
def M.go (m : M) (k : Nat) : M := { m with mode := k }
def M.fail (m : M) (k : Nat) : M := { m with mode := 26, fk := k }
def M.finRun (m : M) (k : Nat) (stop : Int) : M := { m with toks := m.toks ++ [⟨k, m.begun, stop, [], [], 0, m.run⟩], run := [] }
def M.finAttr (m : M) : M := { m with attrs := m.attrs ++ [(m.attr, m.run)], attr := [], run := [] }
def M.finOpen (m : M) (e : Nat) : M :=
  if e = 0 ∧ Vaesca.isRaw m.tag = true then { m with toks := m.toks ++ [⟨1, m.begun, m.count + 1, m.tag, m.attrs, e, []⟩], attrs := [], begun := m.count + 1, mode := 22 }
  else { m with toks := m.toks ++ [⟨1, m.begun, m.count + 1, m.tag, m.attrs, e, []⟩], attrs := [], tag := [], mode := 0 }
def M.finClose (m : M) : M := { m with toks := m.toks ++ [⟨2, m.begun, m.count + 1, m.tag, [], 0, []⟩], tag := [], mode := 0 }
def M.rawPlace (m : M) : Int := m.count - m.tag.length - 2
def M.finRaw (m : M) : M :=
  if m.run = [] then M.finClose { m with begun := m.rawPlace, body := [] }
  else M.finClose { m.finRun 4 m.rawPlace with begun := m.rawPlace, body := [] }
def M.add (m : M) (l : NL) : M := { m with run := m.run ++ l }
/-! the steps -/
def M.sText (m : M) (c : Nat) : M :=
  if c = 60 then (if m.run = [] then { m with begun := m.count, mode := 5 } else { m.finRun 0 m.count with begun := m.count, mode := 5 })
  else if m.run = [] then (if c = 38 then { m with begun := m.count, mode := 1 } else { m with begun := m.count, run := m.run ++ [c] })
  else if c = 38 then m.go 1 else m.add [c]
def M.finRef (m : M) (back : Nat) : M := match Vaesca.byteOf m.body with
  | none => m.fail 4
  | some b => { m with run := m.run ++ [b], body := [], mode := back }
def isBody (c : Nat) : Bool := Vaesca.isSmall c || Vaesca.isGreat c || Vaesca.isDigit c || c == 35
def M.sRef (back : Nat) (m : M) (c : Nat) : M :=
  if c = 59 then m.finRef back
  else if isBody c = true ∧ m.body.length < 4 then { m with body := m.body ++ [c] } else m.fail 4
def M.only (m : M) (c wanted mode : Nat) : M := if c = wanted then m.go mode else m.fail 1
def M.sLess (m : M) (c : Nat) : M :=
  if Vaesca.isSmall c = true then { m with tag := [c], mode := 6 } else if c = 47 then m.go 7 else m.only c 33 17
def M.addTag (m : M) (c : Nat) : M := if m.tag.length < 32 then { m with tag := m.tag ++ [c] } else m.fail 2
def M.addAttr (m : M) (c : Nat) : M := if m.attr.length < 32 then { m with attr := m.attr ++ [c] } else m.fail 2
def M.sBehind (m : M) (c : Nat) : M :=
  if Vaesca.isBlank c = true then m.go 9 else if c = 47 then m.go 16 else if c = 62 then m.finOpen 0 else m.fail 1
def M.sOpenName (m : M) (c : Nat) : M := if Vaesca.isNameSign c = true then m.addTag c else m.sBehind c
def M.sBehindClose (m : M) (c : Nat) : M := if Vaesca.isSmall c = true then { m with tag := [c], mode := 8 } else m.fail 1
def M.sCloseName (m : M) (c : Nat) : M := if Vaesca.isNameSign c = true then m.addTag c else if c = 62 then m.finClose else m.fail 1
def M.sGap (m : M) (c : Nat) : M := if Vaesca.isSmall c = true then { m with attr := [c], mode := 10 } else m.sBehind c
def M.twice (m : M) : Bool := m.attrs.any fun a => a.1 == m.attr
def M.sAttrName (m : M) (c : Nat) : M :=
  if Vaesca.isNameSign c = true then m.addAttr c
  else if ¬ (Vaesca.isBlank c = true ∨ c = 47 ∨ c = 62 ∨ c = 61) then m.fail 1
  else if m.twice = true then m.fail 3
  else if c = 61 then m.go 11
  else m.finAttr.sBehind c
def isBareB (c : Nat) : Bool := !([9, 10, 13, 32, 34, 38, 39, 60, 61, 62, 96].contains c)
def M.sEq (m : M) (c : Nat) : M :=
  if c = 34 then m.go 12 else if c = 39 then m.go 13 else if c = 38 then m.go 4
  else if isBareB c = true then { m with run := m.run ++ [c], mode := 14 } else m.fail 1
def M.sQuoted (quote ref : Nat) (m : M) (c : Nat) : M :=
  if c = quote then { m.finAttr with mode := 15 } else if c = 38 then m.go ref else m.add [c]
def M.sBare (m : M) (c : Nat) : M :=
  if isBareB c = true then m.add [c] else if c = 38 then m.go 4
  else if Vaesca.isBlank c = true ∨ c = 62 then m.finAttr.sBehind c else m.fail 1
def M.sSlash (m : M) (c : Nat) : M := if c = 62 then m.finOpen 1 else m.fail 1
def M.sBang (m : M) (c : Nat) : M := m.only c 45 18
def M.sDash (m : M) (c : Nat) : M := m.only c 45 19
def M.sCom0 (m : M) (c : Nat) : M := if c = 45 then m.go 20 else m.add [c]
def M.sCom1 (m : M) (c : Nat) : M := if c = 45 then m.go 21 else { m with run := m.run ++ [45, c], mode := 19 }
def M.sCom2 (m : M) (c : Nat) : M :=
  if c = 45 then m.add [45] else if c = 62 then { m.finRun 3 (m.count + 1) with mode := 0 } else { m with run := m.run ++ [45, 45, c], mode := 19 }
def M.sRaw (m : M) (c : Nat) : M := if c = 60 then m.go 23 else m.add [c]
def M.sRawLess (m : M) (c : Nat) : M :=
  if c = 47 then m.go 24 else if c = 60 then m.add [60] else { m with run := m.run ++ [60, c], mode := 22 }
def M.sRawClose (m : M) (c : Nat) : M :=
  if c ≠ (if m.body.length < m.tag.length then m.tag.getD m.body.length 0 else 62) then m.fail 6
  else if m.body.length < m.tag.length then { m with body := m.body ++ [c] } else m.finRaw
/-- each mode's step -/
def M.step (m : M) (c : Nat) : M := match m.mode with
  | 0 => m.sText c
  | 1 => m.sRef 0 c
  | 2 => m.sRef 12 c
  | 3 => m.sRef 13 c
  | 4 => m.sRef 14 c
  | 5 => m.sLess c
  | 6 => m.sOpenName c
  | 7 => m.sBehindClose c
  | 8 => m.sCloseName c
  | 9 => m.sGap c
  | 10 => m.sAttrName c
  | 11 => m.sEq c
  | 12 => m.sQuoted 34 2 c
  | 13 => m.sQuoted 39 3 c
  | 14 => m.sBare c
  | 15 => m.sBehind c
  | 16 => m.sSlash c
  | 17 => m.sBang c
  | 18 => m.sDash c
  | 19 => m.sCom0 c
  | 20 => m.sCom1 c
  | 21 => m.sCom2 c
  | 22 => m.sRaw c
  | 23 => m.sRawLess c
  | 24 => m.sRawClose c
  | _ => m
/-- what is read of signs, until one cannot be taken -/
def M.read : M → NL → M
  | m, [] => m
  | m, c :: r => if (m.step c).mode = 26 then m.step c else M.read { m.step c with count := (m.step c).count + 1 } r
def M.fin (m : M) : M :=
  if m.mode = 25 ∨ m.mode = 26 then m else if m.mode ≠ 0 then m.fail 7
  else if m.run = [] then m.go 25 else (m.finRun 0 m.count).go 25
end Sm

namespace Sm
open Vaesca (Token Reader Mode)
def modeOf : Nat → Mode
  | 0 => .text | 1 => .ref .text | 2 => .ref .double | 3 => .ref .single | 4 => .ref .bare
  | 5 => .lt | 6 => .openName | 7 => .ltSlash | 8 => .closeName | 9 => .gap | 10 => .attrName | 11 => .eq
  | 12 => .double | 13 => .single | 14 => .bare | 15 => .behind | 16 => .slash
  | 17 => .bang | 18 => .bangDash | 19 => .comment 0 | 20 => .comment 1 | 21 => .comment 2
  | 22 => .raw | 23 => .rawLt | 24 => .rawEnd | 25 => .ended | _ => .fault
def tok (t : Tk) : Token := match t.kind with
  | 0 => .text t.place.toNat t.signs
  | 1 => .opened t.place.toNat t.name t.attrs (t.ended == 1)
  | 2 => .closed t.place.toNat t.name
  | 3 => .comment t.place.toNat t.signs
  | _ => .raw t.place.toNat t.signs
def M.idle (m : M) : Prop := m.run = [] ∧ (m.mode = 0 ∨ 25 ≤ m.mode)
structure Rel (m : M) (r : Reader) : Prop where
  le : m.mode ≤ 26
  mode : r.mode = modeOf m.mode
  count : r.count = m.count
  toks : r.tokens = m.toks.map tok
  tag : r.tag = m.tag
  attrs : r.attrs = m.attrs
  attr : r.attr = m.attr
  body : r.body = m.body
  run : r.run = m.run
  frm : ¬ m.idle → (r.from_ : Int) = m.begun
  wrong : r.wrong = if m.mode = 26 then some (m.fk, m.count) else none
/-- one sign more -/
def M.eat (m : M) (c : Nat) : M := if (m.step c).mode = 26 then m.step c else { m.step c with count := (m.step c).count + 1 }
theorem Rel.new : Rel M.new Vaesca.fresh := ⟨by decide, rfl, rfl, rfl, rfl, rfl, rfl, rfl, rfl, fun h => (h ⟨rfl, .inl rfl⟩).elim, rfl⟩
theorem Rel.fail {m : M} {r : Reader} (h : Rel m r) (k : Nat) : Rel (m.fail k) (r.fail k) :=
  ⟨by show 26 ≤ 26; decide, rfl, h.count, h.toks, h.tag, h.attrs, h.attr, h.body, h.run, fun q => (h.frm fun z => q ⟨z.1, .inr (by show 25 ≤ 26; decide)⟩), by show some (k, r.count) = _; rw [h.count]; rfl⟩
theorem isBare_eq {c : Nat} (hc : c < 256) : Vaesca.isBare c = isBareB c := by
  unfold Vaesca.isBare isBareB Vaesca.isMark Vaesca.isBlank
  have : decide (256 ≤ c) = false := by simp; omega
  rw [this]
  simp only [List.contains, List.elem, Bool.not_false, Bool.true_and]
  cases h1 : c == 9 <;> cases h2 : c == 10 <;> cases h3 : c == 13 <;> cases h4 : c == 32 <;> simp
theorem code_ne {a b : Nat} (h : a ≠ b) (ha : a ≤ 26) (hb : b ≤ 26) : modeOf a ≠ modeOf b := by
  have key : ∀ a : Fin 27, ∀ b : Fin 27, modeOf a.1 = modeOf b.1 → a = b := by decide
  intro e
  exact h (congrArg Fin.val (key ⟨a, by omega⟩ ⟨b, by omega⟩ e))
end Sm

namespace Sm
open Vaesca (Token Reader Mode)
section
variable {m : M} {r : Reader} {c : Nat}
theorem bq {a b : Nat} (h : a = b) : (a == b) = true := by simp [h]
theorem bn {a b : Nat} (h : ¬ a = b) : ¬ ((a == b) = true) := by simp [h]
/-- same but the mode -/
theorem Rel.go (h : Rel m r) (k : Nat) (hk : k ≤ 24) (hm : m.mode ≠ 26) (hi : ¬ m.idle ∨ (k = 0 ∧ m.idle) ) : Rel (m.go k) (r.go (modeOf k)) := by
  refine ⟨by show k ≤ 26; omega, rfl, h.count, h.toks, h.tag, h.attrs, h.attr, h.body, h.run, fun q => ?_, ?_⟩
  · rcases hi with hi | ⟨rfl, hi⟩
    · exact h.frm hi
    · exact (q ⟨hi.1, .inl rfl⟩).elim
  · show r.wrong = if k = 26 then _ else _
    rw [h.wrong, if_neg hm, if_neg (by omega)]
theorem nidle (h : m.mode ≠ 0) (h2 : m.mode < 25) : ¬ m.idle := fun z => by
  rcases z.2 with z | z <;> omega
theorem rel_text (h : Rel m r) (hm : m.mode = 0) : Rel (m.sText c) (Vaesca.inText r c) := by
  obtain ⟨h0, h1, h2, h3, h4, h5, h6, h7, h8, h9, h10⟩ := h
  unfold M.sText Vaesca.inText Vaesca.endText Reader.go Reader.add M.go M.add M.finRun
  rw [h8]
  by_cases c1 : c = 60
  · subst c1
    by_cases e : m.run = []
    · simp only [if_true, beq_self_eq_true, e, List.isEmpty_nil]
      exact ⟨by show 5 ≤ 26; decide, rfl, h2, h3, h4, h5, h6, h7, h8.trans e ▸ rfl, fun _ => by show ((r.count : Nat) : Int) = (m.count : Int); rw [h2], by show r.wrong = _; rw [h10, hm]; rfl⟩
    · have e2 : m.run.isEmpty = false := by simp [e]
      simp only [if_true, beq_self_eq_true, e, e2, if_false, Bool.false_eq_true]
      refine ⟨by show 5 ≤ 26; decide, rfl, h2, ?_, h4, h5, h6, h7, rfl, fun _ => by show ((r.count : Nat) : Int) = (m.count : Int); rw [h2], by show r.wrong = _; rw [h10, hm]; rfl⟩
      have ni : ¬ m.idle := fun z => e z.1
      have q := h9 ni
      show r.tokens ++ [_] = List.map tok (m.toks ++ [_])
      rw [List.map_append, h3]
      have : m.begun.toNat = r.from_ := by omega
      simp [tok, this]
  · have c2 : (c == 60) = false := by simp [c1]
    simp only [c1, c2, if_false, Bool.false_eq_true]
    by_cases e : m.run = []
    · simp only [e, List.isEmpty_nil, if_true]
      by_cases c3 : c = 38
      · subst c3
        simp only [if_true, beq_self_eq_true]
        exact ⟨by show 1 ≤ 26; decide, rfl, h2, h3, h4, h5, h6, h7, h8.trans e ▸ rfl, fun _ => by show ((r.count : Nat) : Int) = (m.count : Int); rw [h2], by show r.wrong = _; rw [h10, hm]; rfl⟩
      · have c4 : (c == 38) = false := by simp [c3]
        simp only [c3, c4, if_false, Bool.false_eq_true]
        exact ⟨by show m.mode ≤ 26; omega, h1, h2, h3, h4, h5, h6, h7, rfl, fun _ => by show ((r.count : Nat) : Int) = (m.count : Int); rw [h2], by show r.wrong = _; rw [h10, hm]⟩
    · have e2 : m.run.isEmpty = false := by simp [e]
      have ni : ¬ m.idle := fun z => e z.1
      simp only [e, e2, if_false, Bool.false_eq_true]
      by_cases c3 : c = 38
      · subst c3
        simp only [if_true, beq_self_eq_true]
        exact ⟨by show 1 ≤ 26; decide, rfl, h2, h3, h4, h5, h6, h7, h8, fun _ => h9 ni, by show r.wrong = _; rw [h10, hm]; rfl⟩
      · have c4 : (c == 38) = false := by simp [c3]
        simp only [c3, c4, if_false, Bool.false_eq_true]
        exact ⟨by show m.mode ≤ 26; omega, h1, h2, h3, h4, h5, h6, h7, by show r.run ++ [c] = m.run ++ [c]; rw [h8], fun _ => h9 ni, by show r.wrong = _; rw [h10, hm]⟩
/-- mode, run and the like are told anew; tokens, count stand -/
theorem Rel.mk' {m' : M} {r' : Reader} (h : Rel m r) (hm : m.mode ≠ 0) (hm2 : m.mode < 25) (k : Nat) (hk : k ≤ 24) (e1 : m'.mode = k) (e2 : r'.mode = modeOf k) (ec : m'.count = m.count) (ec' : r'.count = r.count) (et : r'.tokens = m'.toks.map tok)
    (eg : r'.tag = m'.tag) (ea : r'.attrs = m'.attrs) (en : r'.attr = m'.attr) (eb : r'.body = m'.body) (er : r'.run = m'.run) (ef : m'.begun = m.begun) (ef' : r'.from_ = r.from_) (ew : r'.wrong = r.wrong) : Rel m' r' :=
  ⟨by omega, by rw [e1]; exact e2, by rw [ec, ec']; exact h.count, et, eg, ea, en, eb, er, fun _ => by rw [ef, ef']; exact h.frm (nidle hm hm2), by rw [ew, h.wrong, if_neg (by omega), if_neg (by omega)]⟩
theorem Rel.goM (h : Rel m r) (hm : m.mode ≠ 0) (hm2 : m.mode < 25) (k : Nat) (hk : k ≤ 24) : Rel (m.go k) (r.go (modeOf k)) :=
  h.mk' hm hm2 k hk rfl rfl rfl rfl h.toks h.tag h.attrs h.attr h.body h.run rfl rfl rfl
theorem rel_ref (h : Rel m r) (back : Nat) (ho : Vaesca.Home) (hb : ho.mode = modeOf back) (hbk : back ≤ 24) (hm : m.mode ≠ 0) (hm2 : m.mode < 25) : Rel (m.sRef back c) (Vaesca.inRef ho r c) := by
  unfold M.sRef Vaesca.inRef M.finRef isBody Vaesca.BODY
  rw [h.body]
  by_cases c1 : c = 59
  · subst c1
    simp only [if_true, beq_self_eq_true]
    cases e : Vaesca.byteOf m.body with
    | none => exact h.fail 4
    | some b => exact h.mk' hm hm2 back hbk rfl hb rfl rfl h.toks h.tag h.attrs h.attr rfl (by show r.run ++ [b] = m.run ++ [b]; rw [h.run]) rfl rfl rfl
  · have c2 : (c == 59) = false := by simp [c1]
    simp only [c1, c2, if_false, Bool.false_eq_true, Bool.and_eq_true, decide_eq_true_eq]
    split
    · exact h.mk' hm hm2 m.mode (by omega) rfl h.mode rfl rfl h.toks h.tag h.attrs h.attr rfl h.run rfl rfl rfl
    · exact h.fail 4
theorem rel_only (h : Rel m r) (hm : m.mode ≠ 0) (hm2 : m.mode < 25) (wanted k : Nat) (hk : k ≤ 24) : Rel (m.only c wanted k) (if c == wanted then r.go (modeOf k) else r.fail 1) := by
  unfold M.only
  by_cases c1 : c = wanted
  · rw [if_pos c1, if_pos (bq c1)]
    exact h.goM hm hm2 k hk
  · rw [if_neg c1, if_neg (bn c1)]
    exact h.fail 1
theorem rel_less (h : Rel m r) (hm : m.mode ≠ 0) (hm2 : m.mode < 25) : Rel (m.sLess c) (Vaesca.inLt r c) := by
  unfold M.sLess Vaesca.inLt
  split
  · exact h.mk' hm hm2 6 (by decide) rfl rfl rfl rfl h.toks rfl h.attrs h.attr h.body h.run rfl rfl rfl
  · by_cases c1 : c = 47
    · rw [if_pos c1, if_pos (bq c1)]
      exact h.goM hm hm2 7 (by decide)
    · rw [if_neg c1, if_neg (bn c1)]
      exact rel_only h hm hm2 33 17 (by decide)
theorem rel_addTag (h : Rel m r) (hm : m.mode ≠ 0) (hm2 : m.mode < 25) : Rel (m.addTag c) (if r.tag.length < Vaesca.NAME then { r with tag := r.tag ++ [c] } else r.fail 2) := by
  unfold M.addTag Vaesca.NAME
  rw [h.tag]
  split
  · exact h.mk' hm hm2 m.mode (by omega) rfl h.mode rfl rfl h.toks rfl h.attrs h.attr h.body h.run rfl rfl rfl
  · exact h.fail 2
theorem rel_addAttr (h : Rel m r) (hm : m.mode ≠ 0) (hm2 : m.mode < 25) : Rel (m.addAttr c) (if r.attr.length < Vaesca.NAME then { r with attr := r.attr ++ [c] } else r.fail 2) := by
  unfold M.addAttr Vaesca.NAME
  rw [h.attr]
  split
  · exact h.mk' hm hm2 m.mode (by omega) rfl h.mode rfl rfl h.toks h.tag h.attrs rfl h.body h.run rfl rfl rfl
  · exact h.fail 2
theorem begunNat (h : Rel m r) (hm : m.mode ≠ 0) (hm2 : m.mode < 25) : m.begun.toNat = r.from_ := by
  have := h.frm (nidle hm hm2)
  omega
theorem rel_finOpen0 (h : Rel m r) (hm : m.mode ≠ 0) (hm2 : m.mode < 25) (hr : m.run = []) : Rel (m.finOpen 0) (Vaesca.endTag r) := by
  have b := begunNat h hm hm2
  unfold M.finOpen Vaesca.endTag
  rw [h.tag]
  by_cases e : Vaesca.isRaw m.tag = true
  · rw [if_pos ⟨rfl, e⟩, if_pos e]
    refine ⟨by show 22 ≤ 26; decide, rfl, h.count, ?_, rfl, rfl, h.attr, h.body, h.run, fun _ => ?_, ?_⟩
    · show r.tokens ++ [_] = List.map tok (m.toks ++ [_])
      rw [List.map_append, h.toks]
      simp [tok, b, h.attrs]
    · show ((r.count + 1 : Nat) : Int) = m.count + 1
      rw [h.count]; omega
    · show r.wrong = _
      rw [h.wrong, if_neg (by omega)]; rfl
  · rw [if_neg (fun z => e z.2), if_neg e]
    refine ⟨by show 0 ≤ 26; decide, rfl, h.count, ?_, rfl, rfl, h.attr, h.body, h.run, fun q => (q ⟨hr, .inl rfl⟩).elim, ?_⟩
    · show r.tokens ++ [_] = List.map tok (m.toks ++ [_])
      rw [List.map_append, h.toks]
      simp [tok, b, h.attrs]
    · show r.wrong = _
      rw [h.wrong, if_neg (by omega)]; rfl
theorem rel_finOpen1 (h : Rel m r) (hm : m.mode ≠ 0) (hm2 : m.mode < 25) (hr : m.run = []) : Rel (m.finOpen 1) (Vaesca.endEnded r) := by
  have b := begunNat h hm hm2
  unfold M.finOpen Vaesca.endEnded
  rw [if_neg (fun z => by cases z.1)]
  refine ⟨by show 0 ≤ 26; decide, rfl, h.count, ?_, rfl, rfl, h.attr, h.body, h.run, fun q => (q ⟨hr, .inl rfl⟩).elim, ?_⟩
  · show r.tokens ++ [_] = List.map tok (m.toks ++ [_])
    rw [List.map_append, h.toks]
    simp [tok, b, h.attrs, h.tag]
  · show r.wrong = _
    rw [h.wrong, if_neg (by omega)]; rfl
theorem rel_finClose (h : Rel m r) (hm : m.mode ≠ 0) (hm2 : m.mode < 25) (hr : m.run = []) : Rel m.finClose (Vaesca.endClose r) := by
  have b := begunNat h hm hm2
  unfold M.finClose Vaesca.endClose
  refine ⟨by show 0 ≤ 26; decide, rfl, h.count, ?_, rfl, h.attrs, h.attr, h.body, h.run, fun q => (q ⟨hr, .inl rfl⟩).elim, ?_⟩
  · show r.tokens ++ [_] = List.map tok (m.toks ++ [_])
    rw [List.map_append, h.toks]
    simp [tok, b, h.tag]
  · show r.wrong = _
    rw [h.wrong, if_neg (by omega)]; rfl
theorem rel_behind (h : Rel m r) (hm : m.mode ≠ 0) (hm2 : m.mode < 25) (hr : m.run = []) : Rel (m.sBehind c) (if Vaesca.isBlank c then r.go .gap else Vaesca.tagEnds r c) := by
  unfold M.sBehind Vaesca.tagEnds
  split
  · exact h.goM hm hm2 9 (by decide)
  · by_cases c1 : c = 47
    · rw [if_pos c1, if_pos (bq c1)]
      exact h.goM hm hm2 16 (by decide)
    · rw [if_neg c1, if_neg (bn c1)]
      by_cases c2 : c = 62
      · rw [if_pos c2, if_pos (bq c2)]
        exact rel_finOpen0 h hm hm2 hr
      · rw [if_neg c2, if_neg (bn c2)]
        exact h.fail 1
theorem rel_openName (h : Rel m r) (hm : m.mode ≠ 0) (hm2 : m.mode < 25) (hr : m.run = []) : Rel (m.sOpenName c) (Vaesca.inOpenName r c) := by
  unfold M.sOpenName Vaesca.inOpenName
  split
  · exact rel_addTag h hm hm2
  · exact rel_behind h hm hm2 hr
theorem rel_behindClose (h : Rel m r) (hm : m.mode ≠ 0) (hm2 : m.mode < 25) : Rel (m.sBehindClose c) (Vaesca.inLtSlash r c) := by
  unfold M.sBehindClose Vaesca.inLtSlash
  split
  · exact h.mk' hm hm2 8 (by decide) rfl rfl rfl rfl h.toks rfl h.attrs h.attr h.body h.run rfl rfl rfl
  · exact h.fail 1
theorem rel_closeName (h : Rel m r) (hm : m.mode ≠ 0) (hm2 : m.mode < 25) (hr : m.run = []) : Rel (m.sCloseName c) (Vaesca.inCloseName r c) := by
  unfold M.sCloseName Vaesca.inCloseName
  split
  · exact rel_addTag h hm hm2
  · by_cases c2 : c = 62
    · rw [if_pos c2, if_pos (bq c2)]
      exact rel_finClose h hm hm2 hr
    · rw [if_neg c2, if_neg (bn c2)]
      exact h.fail 1
theorem small_blank (h : Vaesca.isSmall c = true) : Vaesca.isBlank c = false := by
  unfold Vaesca.isSmall at h
  unfold Vaesca.isBlank
  simp at h ⊢
  omega
theorem rel_gap (h : Rel m r) (hm : m.mode ≠ 0) (hm2 : m.mode < 25) (hr : m.run = []) : Rel (m.sGap c) (Vaesca.inGap r c) := by
  unfold M.sGap Vaesca.inGap
  by_cases e : Vaesca.isSmall c = true
  · rw [if_pos e, small_blank e, if_neg Bool.false_ne_true, if_pos e]
    exact h.mk' hm hm2 10 (by decide) rfl rfl rfl rfl h.toks h.tag h.attrs rfl h.body h.run rfl rfl rfl
  · rw [if_neg e, if_neg e]
    exact rel_behind h hm hm2 hr
theorem rel_finAttr (h : Rel m r) (hm : m.mode ≠ 0) (hm2 : m.mode < 25) : Rel m.finAttr (Vaesca.endAttr r) :=
  h.mk' hm hm2 m.mode (by omega) rfl h.mode rfl rfl h.toks h.tag (by show r.attrs ++ [(r.attr, r.run)] = m.attrs ++ [(m.attr, m.run)]; rw [h.attrs, h.attr, h.run]) rfl h.body rfl rfl rfl rfl
theorem small_name (h : Vaesca.isNameSign c ≠ true) : Vaesca.isSmall c ≠ true := fun z => h (by unfold Vaesca.isNameSign; rw [z]; rfl)
theorem inGap_eq {r : Reader} (h : Vaesca.isSmall c ≠ true) : Vaesca.inGap r c = if Vaesca.isBlank c then r.go .gap else Vaesca.tagEnds r c := by
  unfold Vaesca.inGap
  rw [if_neg h]
theorem rel_attrName (h : Rel m r) (hm : m.mode ≠ 0) (hm2 : m.mode < 25) : Rel (m.sAttrName c) (Vaesca.inAttrName r c) := by
  unfold M.sAttrName Vaesca.inAttrName
  have et : Vaesca.isTwice r = m.twice := by
    unfold Vaesca.isTwice M.twice
    rw [h.attrs, h.attr]
  rw [et]
  by_cases c0 : Vaesca.isNameSign c = true
  · rw [if_pos c0, if_pos c0]
    exact rel_addAttr h hm hm2
  rw [if_neg c0, if_neg c0]
  have e1 : ((!(Vaesca.isBlank c || c == 47 || c == 62 || c == 61)) = true) = ¬ (Vaesca.isBlank c = true ∨ c = 47 ∨ c = 62 ∨ c = 61) := by
    simp [and_assoc]
  rw [ite_congr e1 (fun _ => rfl) (fun _ => rfl)]
  by_cases c1 : ¬ (Vaesca.isBlank c = true ∨ c = 47 ∨ c = 62 ∨ c = 61)
  · rw [if_pos c1, if_pos c1]
    exact h.fail 1
  rw [if_neg c1, if_neg c1]
  by_cases c2 : m.twice = true
  · rw [if_pos c2, if_pos c2]
    exact h.fail 3
  rw [if_neg c2, if_neg c2]
  by_cases c3 : c = 61
  · rw [if_pos c3, if_pos (bq c3)]
    exact h.goM hm hm2 11 (by decide)
  rw [if_neg c3, if_neg (bn c3), inGap_eq (small_name c0)]
  exact rel_behind (rel_finAttr h hm hm2) hm hm2 rfl
theorem rel_eq (h : Rel m r) (hm : m.mode ≠ 0) (hm2 : m.mode < 25) (hr : m.run = []) (hc : c < 256) : Rel (m.sEq c) (Vaesca.inEq r c) := by
  unfold M.sEq Vaesca.inEq
  rw [isBare_eq hc]
  by_cases c1 : c = 34
  · rw [if_pos c1, if_pos (bq c1)]
    exact h.goM hm hm2 12 (by decide)
  rw [if_neg c1, if_neg (bn c1)]
  by_cases c2 : c = 39
  · rw [if_pos c2, if_pos (bq c2)]
    exact h.goM hm hm2 13 (by decide)
  rw [if_neg c2, if_neg (bn c2)]
  by_cases c3 : c = 38
  · rw [if_pos c3, if_pos (bq c3)]
    exact h.goM hm hm2 4 (by decide)
  rw [if_neg c3, if_neg (bn c3)]
  split
  · exact h.mk' hm hm2 14 (by decide) rfl rfl rfl rfl h.toks h.tag h.attrs h.attr h.body (by show [c] = m.run ++ [c]; rw [hr]; rfl) rfl rfl rfl
  · exact h.fail 1
theorem Rel.add (h : Rel m r) (hm : m.mode ≠ 0) (hm2 : m.mode < 25) (l : NL) : Rel (m.add l) (r.add l) :=
  h.mk' hm hm2 m.mode (by omega) rfl h.mode rfl rfl h.toks h.tag h.attrs h.attr h.body (by show r.run ++ l = m.run ++ l; rw [h.run]) rfl rfl rfl
theorem Rel.addGo (h : Rel m r) (hm : m.mode ≠ 0) (hm2 : m.mode < 25) (l : NL) (k : Nat) (hk : k ≤ 24) : Rel { m with run := m.run ++ l, mode := k } ((r.add l).go (modeOf k)) :=
  h.mk' hm hm2 k hk rfl rfl rfl rfl h.toks h.tag h.attrs h.attr h.body (by show r.run ++ l = m.run ++ l; rw [h.run]) rfl rfl rfl
theorem rel_quoted (h : Rel m r) (hm : m.mode ≠ 0) (hm2 : m.mode < 25) (quote k : Nat) (hk : k ≤ 24) (ho : Vaesca.Home) (hh : Mode.ref ho = modeOf k) : Rel (m.sQuoted quote k c) (Vaesca.inQuotes quote ho r c) := by
  unfold M.sQuoted Vaesca.inQuotes
  by_cases c1 : c = quote
  · rw [if_pos c1, if_pos (bq c1)]
    exact (rel_finAttr h hm hm2).goM hm hm2 15 (by decide)
  rw [if_neg c1, if_neg (bn c1)]
  by_cases c2 : c = 38
  · rw [if_pos c2, if_pos (bq c2), hh]
    exact h.goM hm hm2 k hk
  rw [if_neg c2, if_neg (bn c2)]
  exact h.add hm hm2 [c]
theorem blank62 : Vaesca.isBlank 62 = false := by decide
theorem rel_bare (h : Rel m r) (hm : m.mode ≠ 0) (hm2 : m.mode < 25) (hc : c < 256) : Rel (m.sBare c) (Vaesca.inBare r c) := by
  unfold M.sBare Vaesca.inBare
  rw [isBare_eq hc]
  by_cases c1 : isBareB c = true
  · rw [if_pos c1, if_pos c1]
    exact h.add hm hm2 [c]
  rw [if_neg c1, if_neg c1]
  by_cases c2 : c = 38
  · rw [if_pos c2, if_pos (bq c2)]
    exact h.goM hm hm2 4 (by decide)
  rw [if_neg c2, if_neg (bn c2)]
  have q := rel_finAttr h hm hm2
  by_cases c3 : Vaesca.isBlank c = true
  · rw [if_pos (.inl c3), if_pos c3]
    have q2 := q.goM hm hm2 9 (by decide)
    unfold M.sBehind
    rw [if_pos c3]
    exact q2
  · rw [if_neg c3]
    by_cases c4 : c = 62
    · rw [if_pos (.inr c4), if_pos (bq c4)]
      unfold M.sBehind
      rw [if_neg c3, if_neg (by omega), if_pos c4]
      exact rel_finOpen0 q hm hm2 rfl
    · rw [if_neg (fun z => z.elim c3 c4), if_neg (bn c4)]
      exact h.fail 1
theorem rel_slash (h : Rel m r) (hm : m.mode ≠ 0) (hm2 : m.mode < 25) (hr : m.run = []) : Rel (m.sSlash c) (Vaesca.inSlash r c) := by
  unfold M.sSlash Vaesca.inSlash
  by_cases c1 : c = 62
  · rw [if_pos c1, if_pos (bq c1)]
    exact rel_finOpen1 h hm hm2 hr
  · rw [if_neg c1, if_neg (bn c1)]
    exact h.fail 1
theorem rel_com0 (h : Rel m r) (hm : m.mode = 19) : Rel (m.sCom0 c) (Vaesca.inComment 0 r c) := by
  unfold M.sCom0 Vaesca.inComment
  by_cases c1 : c = 45
  · rw [if_pos c1, if_pos (bq c1)]
    exact h.goM (by omega) (by omega) 20 (by decide)
  · rw [if_neg c1, if_neg (bn c1), if_neg (by simp)]
    have := h.addGo (by omega) (by omega) [c] 19 (by decide)
    have e : m.add [c] = { m with run := m.run ++ [c], mode := 19 } := by unfold M.add; rw [← hm]
    rw [e]
    exact this
theorem rel_com1 (h : Rel m r) (hm : m.mode = 20) : Rel (m.sCom1 c) (Vaesca.inComment 1 r c) := by
  unfold M.sCom1 Vaesca.inComment
  by_cases c1 : c = 45
  · rw [if_pos c1, if_pos (bq c1)]
    exact h.goM (by omega) (by omega) 21 (by decide)
  · rw [if_neg c1, if_neg (bn c1), if_neg (by simp)]
    exact h.addGo (by omega) (by omega) [45, c] 19 (by decide)
theorem rel_com2 (h : Rel m r) (hm : m.mode = 21) : Rel (m.sCom2 c) (Vaesca.inComment 2 r c) := by
  have b := begunNat h (by omega) (by omega)
  unfold M.sCom2 Vaesca.inComment
  by_cases c1 : c = 45
  · rw [if_pos c1, if_pos (bq c1), if_neg (by decide)]
    exact h.add (by omega) (by omega) [45]
  · rw [if_neg c1, if_neg (bn c1)]
    by_cases c2 : c = 62
    · rw [if_pos c2, if_pos (by simp [c2])]
      unfold M.finRun Vaesca.endComment
      refine ⟨by show 0 ≤ 26; decide, rfl, h.count, ?_, h.tag, h.attrs, h.attr, h.body, rfl, fun q => (q ⟨rfl, .inl rfl⟩).elim, ?_⟩
      · show r.tokens ++ [_] = List.map tok (m.toks ++ [_])
        rw [List.map_append, h.toks]
        simp [tok, b, h.run]
      · show r.wrong = _
        rw [h.wrong, if_neg (by omega)]; rfl
    · rw [if_neg c2, if_neg (show ¬ ((c == 62 && 2 == 2) = true) by simp [c2])]
      exact h.addGo (by omega) (by omega) [45, 45, c] 19 (by decide)
theorem rel_raw (h : Rel m r) (hm : m.mode = 22) : Rel (m.sRaw c) (Vaesca.inRaw r c) := by
  unfold M.sRaw Vaesca.inRaw
  by_cases c1 : c = 60
  · rw [if_pos c1, if_pos (bq c1)]
    exact h.goM (by omega) (by omega) 23 (by decide)
  · rw [if_neg c1, if_neg (bn c1)]
    exact h.add (by omega) (by omega) [c]
theorem rel_rawLess (h : Rel m r) (hm : m.mode = 23) : Rel (m.sRawLess c) (Vaesca.inRawLt r c) := by
  unfold M.sRawLess Vaesca.inRawLt
  by_cases c1 : c = 47
  · rw [if_pos c1, if_pos (bq c1)]
    exact h.goM (by omega) (by omega) 24 (by decide)
  · rw [if_neg c1, if_neg (bn c1)]
    by_cases c2 : c = 60
    · rw [if_pos c2, if_pos (bq c2)]
      exact h.add (by omega) (by omega) [60]
    · rw [if_neg c2, if_neg (bn c2)]
      exact h.addGo (by omega) (by omega) [60, c] 22 (by decide)
theorem rel_finRaw (h : Rel m r) (hm : m.mode = 24) (hp : 0 ≤ m.rawPlace) : Rel m.finRaw (Vaesca.endRaw r) := by
  have b := begunNat h (by omega) (by omega)
  have pl : m.rawPlace.toNat = r.count - (r.tag.length + 2) := by
    unfold M.rawPlace at hp ⊢
    rw [h.count, h.tag]
    omega
  unfold M.finRaw Vaesca.endRaw M.finClose
  rw [h.run]
  by_cases e : m.run = []
  · rw [if_pos e]
    refine ⟨by show 0 ≤ 26; decide, rfl, h.count, ?_, rfl, h.attrs, h.attr, rfl, e.symm, fun q => (q ⟨e, .inl rfl⟩).elim, ?_⟩
    · show r.tokens ++ _ = List.map tok (m.toks ++ [_])
      rw [List.map_append, h.toks, e]
      simp [tok, pl, h.tag]
    · show r.wrong = _
      rw [h.wrong, if_neg (by omega)]; rfl
  · rw [if_neg e]
    have e2 : m.run.isEmpty = false := by simp [e]
    refine ⟨by show 0 ≤ 26; decide, rfl, h.count, ?_, rfl, h.attrs, h.attr, rfl, rfl, fun q => (q ⟨rfl, .inl rfl⟩).elim, ?_⟩
    · show r.tokens ++ _ = List.map tok ((m.toks ++ [_]) ++ [_])
      rw [List.map_append, List.map_append, h.toks, e2]
      simp [tok, pl, b, h.tag, M.finRun]
    · show r.wrong = _
      rw [h.wrong, if_neg (by omega)]; rfl
theorem rel_rawClose (h : Rel m r) (hm : m.mode = 24) (hp : m.body.length = m.tag.length → 0 ≤ m.rawPlace) (hb : m.body.length ≤ m.tag.length) : Rel (m.sRawClose c) (Vaesca.inRawEnd r c) := by
  unfold M.sRawClose Vaesca.inRawEnd
  rw [h.body, h.tag]
  by_cases e : m.body.length < m.tag.length
  · rw [if_pos e, if_pos e, if_pos e]
    have g : (m.tag[m.body.length]? == some c) = decide (m.tag.getD m.body.length 0 = c) := by
      rw [List.getElem?_eq_getElem e, List.getD_eq_getElem?_getD, List.getElem?_eq_getElem e]
      show (m.tag[m.body.length] == c) = decide (m.tag[m.body.length] = c)
      by_cases z : m.tag[m.body.length] = c <;> simp [z]
    rw [g]
    by_cases c1 : c = m.tag.getD m.body.length 0
    · rw [if_neg (by simp [c1]), if_pos (by simp [c1])]
      exact h.mk' (by omega) (by omega) 24 (by decide) hm (by rw [← hm]; exact h.mode) rfl rfl h.toks rfl h.attrs h.attr rfl h.run rfl rfl rfl
    · rw [if_pos c1, if_neg (by simp; exact fun z => c1 z.symm)]
      exact h.fail 6
  · rw [if_neg e, if_neg e, if_neg e]
    by_cases c1 : c = 62
    · rw [if_neg (by simp [c1]), if_pos (bq c1)]
      exact rel_finRaw h hm (hp (by omega))
    · rw [if_pos c1, if_neg (bn c1)]
      exact h.fail 6
end
end Sm

namespace Sm
open Vaesca (Token Reader Mode)
/-! ### lengths of short forms -/
def sl (k : Nat) (l : NL) : Nat := (l.flatMap (Vaescc.shortByte k)).length
theorem sl_nil (k : Nat) : sl k [] = 0 := rfl
theorem sl_app (k : Nat) (a b : NL) : sl k (a ++ b) = sl k a + sl k b := by
  unfold sl
  rw [List.flatMap_append, List.length_append]
theorem sl_one (k : Nat) (c : Nat) : sl k [c] = (Vaescc.shortByte k c).length := by
  unfold sl
  simp
theorem short_bnd : ∀ k : Fin 4, ∀ c : Fin 256, 1 ≤ (Vaescc.shortByte k.1 c.1).length ∧ (Vaescc.shortByte k.1 c.1).length ≤ (if c.1 < 10 then 4 else 5) := by decide +kernel
theorem short_le {k c : Nat} (hk : k < 4) (hc : c < 256) : (Vaescc.shortByte k c).length ≤ 5 := by
  have := (short_bnd ⟨k, hk⟩ ⟨c, hc⟩).2
  simp only at this
  split at this <;> omega
theorem short_pos {k c : Nat} : 1 ≤ (Vaescc.shortByte k c).length := by
  unfold Vaescc.shortByte Vaescc.LT Vaescc.GT Vaescc.AMP Vaescc.numbered
  repeat' split
  all_goals simp
theorem le_sl (k : Nat) : ∀ l : NL, l.length ≤ sl k l
  | [] => Nat.le_refl _
  | c :: r => by
    have ih := le_sl k r
    have h : sl k (c :: r) = sl k [c] + sl k r := sl_app k [c] r
    rw [h, sl_one]
    have := short_pos (k := k) (c := c)
    simp only [List.length_cons]
    omega
def vlen (t : Bool) (v : NL) : Nat := if v = [] then 2 else min (sl 3 v + (if t then 1 else 0)) (min (sl 1 v + 2) (sl 2 v + 2))
theorem ch3 (p q r : Nat × Vaescn.Text) (hp : p.2.length = p.1) (hq : q.2.length = q.1) (hr : r.2.length = r.1) : (Vaescn.cheapest [p, q, r]).length = min p.1 (min q.1 r.1) := by
  show List.length (if r.1 < (if q.1 < p.1 then q else p).1 then r else (if q.1 < p.1 then q else p)).2 = _
  by_cases h1 : q.1 < p.1
  · rw [if_pos h1]
    by_cases h2 : r.1 < q.1
    · rw [if_pos h2]; omega
    · rw [if_neg h2]; omega
  · rw [if_neg h1]
    by_cases h2 : r.1 < p.1
    · rw [if_pos h2]; omega
    · rw [if_neg h2]; omega
theorem shortValue_len (t : Bool) (v : NL) : (Vaescn.shortValue t v).length = vlen t v := by
  unfold Vaescn.shortValue Vaescn.forms Vaescc.shortest vlen
  cases v with
  | nil => cases t <;> decide
  | cons a r =>
    have e : (a :: r).isEmpty = false := rfl
    simp only [e, Bool.and_false, Bool.false_eq_true, if_false, reduceCtorEq]
    cases t
    · refine (ch3 _ _ _ ?_ ?_ ?_).trans ?_
      · rfl
      · simp only [List.length_cons, List.length_append, List.length_nil]; omega
      · simp only [List.length_cons, List.length_append, List.length_nil]; omega
      · rfl
    · refine (ch3 _ _ _ ?_ ?_ ?_).trans ?_
      · simp only [if_true, List.length_cons, List.length_append, List.length_nil]
      · simp only [List.length_cons, List.length_append, List.length_nil]; omega
      · simp only [List.length_cons, List.length_append, List.length_nil]; omega
      · rfl
def vcost (t : Bool) (v : NL) : Nat := if v = [] then 0 else 1 + vlen t v
theorem shortAttr_len (t : Bool) (a : NL × NL) : (Vaescn.shortAttr t a).length = 1 + a.1.length + vcost t a.2 := by
  unfold Vaescn.shortAttr vcost
  obtain ⟨n, v⟩ := a
  cases v with
  | nil => simp; omega
  | cons b r =>
    have := shortValue_len t (b :: r)
    simp only [List.isEmpty_cons, Bool.false_eq_true, if_false, List.length_append, List.length_cons, List.length_nil, reduceCtorEq]
    omega
def acost (as : List (NL × NL)) : Nat := (Vaescn.shortAttrs false as).length
def atcost (as : List (NL × NL)) : Nat := (Vaescn.shortAttrs true as).length
theorem acost_nil : acost [] = 0 := rfl
theorem atcost_nil : atcost [] = 0 := rfl
theorem attrs_snoc (e : Bool) (a : NL × NL) : ∀ as : List (NL × NL), (Vaescn.shortAttrs e (as ++ [a])).length = acost as + (Vaescn.shortAttr e a).length
  | [] => by unfold acost; simp [Vaescn.shortAttrs]
  | [b] => by
    unfold acost
    simp [Vaescn.shortAttrs]
  | b :: d :: r => by
    have ih := attrs_snoc e a (d :: r)
    show List.length (Vaescn.shortAttr false b ++ Vaescn.shortAttrs e (d :: (r ++ [a]))) = List.length (Vaescn.shortAttr false b ++ Vaescn.shortAttrs false (d :: r)) + _
    rw [List.length_append, List.length_append]
    have ih2 : (Vaescn.shortAttrs e (d :: (r ++ [a]))).length = (Vaescn.shortAttrs false (d :: r)).length + (Vaescn.shortAttr e a).length := ih
    omega
theorem acost_snoc (as : List (NL × NL)) (n v : NL) : acost (as ++ [(n, v)]) = acost as + 1 + n.length + vcost false v := by
  have := attrs_snoc false (n, v) as
  rw [shortAttr_len] at this
  unfold acost at this ⊢
  simp only at this
  omega
theorem atcost_snoc (as : List (NL × NL)) (n v : NL) : atcost (as ++ [(n, v)]) = acost as + 1 + n.length + vcost true v := by
  have := attrs_snoc true (n, v) as
  rw [shortAttr_len] at this
  unfold atcost
  simp only at this
  omega
theorem vcost_le (v : NL) : vcost false v ≤ vcost true v ∧ vcost true v ≤ vcost false v + 1 := by
  unfold vcost vlen
  split
  · exact ⟨Nat.le_refl _, by omega⟩
  · simp only [Bool.false_eq_true, if_false, if_true]
    omega
theorem snoc_cases {α : Type} (l : List α) : l = [] ∨ ∃ r a, l = r ++ [a] := by
  rcases List.eq_nil_or_concat l with h | ⟨r, a, h⟩
  · exact .inl h
  · exact .inr ⟨r, a, by rw [h]; simp⟩
theorem atcost_le (as : List (NL × NL)) : acost as ≤ atcost as ∧ atcost as ≤ acost as + 1 := by
  rcases snoc_cases as with h | ⟨r, ⟨n, v⟩, h⟩
  · subst h
    exact ⟨Nat.le_refl _, Nat.zero_le _⟩
  · subst h
    rw [acost_snoc, atcost_snoc]
    have := vcost_le v
    omega
theorem vcost_q1 (t : Bool) (v : NL) : vcost t v ≤ 1 + (sl 1 v + 2) := by
  unfold vcost vlen
  split
  · omega
  · omega
theorem vcost_q2 (t : Bool) (v : NL) : vcost t v ≤ 1 + (sl 2 v + 2) := by
  unfold vcost vlen
  split
  · omega
  · omega
theorem vcost_b (v : NL) : vcost false v ≤ 1 + sl 3 v := by
  unfold vcost vlen
  split
  · omega
  · simp only [Bool.false_eq_true, if_false]
    omega
/-! ### a reference is no shorter than what it stands for -/
theorem hexOf_lt {c x : Nat} (h : Vaesca.hexOf c = some x) : x < 16 := by
  unfold Vaesca.hexOf Vaesca.isDigit at h
  simp only [Bool.and_eq_true, decide_eq_true_eq] at h
  repeat' split at h
  all_goals first | (cases h; done) | (have e := Option.some.inj h; omega)
theorem byteOf_short {k : Nat} (hk : k < 4) {b : NL} {x : Nat} (h : Vaesca.byteOf b = some x) : x < 256 ∧ (Vaescc.shortByte k x).length ≤ b.length + 2 := by
  have fin : x < 256 → 3 ≤ b.length → x < 256 ∧ (Vaescc.shortByte k x).length ≤ b.length + 2 := fun h1 h2 => ⟨h1, by have := short_le hk h1; omega⟩
  unfold Vaesca.byteOf at h
  by_cases e1 : b = [97, 109, 112]
  · subst e1; cases h; exact fin (by decide) (by decide)
  rw [if_neg (by simp [e1])] at h
  have k4 : k = 0 ∨ k = 1 ∨ k = 2 ∨ k = 3 := by omega
  by_cases e2 : b = [108, 116]
  · subst e2; cases h
    refine ⟨by decide, ?_⟩
    rcases k4 with rfl | rfl | rfl | rfl <;> decide
  rw [if_neg (by simp [e2])] at h
  by_cases e3 : b = [103, 116]
  · subst e3; cases h
    refine ⟨by decide, ?_⟩
    rcases k4 with rfl | rfl | rfl | rfl <;> decide
  rw [if_neg (by simp [e3])] at h
  by_cases e4 : b = [113, 117, 111, 116]
  · subst e4; cases h; exact fin (by decide) (by decide)
  rw [if_neg (by simp [e4])] at h
  by_cases e5 : b = [97, 112, 111, 115]
  · subst e5; cases h; exact fin (by decide) (by decide)
  rw [if_neg (by simp [e5])] at h
  split at h
  · rename_i hh
    unfold Vaesca.byHex at h
    split at h
    · have := hexOf_lt h
      exact fin (by omega) (by simp)
    · rename_i a d
      cases ha : Vaesca.hexOf a with
      | none => rw [ha] at h; cases h
      | some p =>
        cases hd : Vaesca.hexOf d with
        | none => rw [ha, hd] at h; cases h
        | some q =>
          rw [ha, hd] at h
          have e : 16 * p + q = x := Option.some.inj h
          have h1 := hexOf_lt ha
          have h2 := hexOf_lt hd
          exact fin (by omega) (by simp)
    · cases h
  · rename_i d _
    unfold Vaesca.byDigits at h
    split at h
    · cases h
    · rename_i hn
      split at h
      · rename_i hl
        have e : Vaesca.decimal d = x := Option.some.inj h
        subst e
        simp only [Bool.or_eq_true, not_or, beq_iff_eq, decide_eq_true_eq, Bool.not_eq_true', Bool.not_eq_false] at hn
        obtain ⟨⟨h1, h2⟩, h3⟩ := hn
        match d, h1, h2, h3, hl with
        | [], h1, _, _, _ => exact (h1 rfl).elim
        | [a], _, _, h3, hl =>
          have ha : Vaesca.isDigit a = true := by simpa using h3
          unfold Vaesca.isDigit at ha
          simp only [Bool.and_eq_true, decide_eq_true_eq] at ha
          have ed : Vaesca.decimal [a] = a - 48 := by simp [Vaesca.decimal]
          have := (short_bnd ⟨k, hk⟩ ⟨Vaesca.decimal [a], hl⟩).2
          simp only at this
          rw [if_pos (by omega)] at this
          exact ⟨hl, by simpa using this⟩
        | a :: b :: r, _, _, _, hl => exact ⟨hl, by have := short_le hk hl; simp; omega⟩
      · cases h
  · cases h
end Sm

namespace Sm
open Vaesca (Token Reader Mode)
/-! ### the reader's invariant: tokens stand one behind the other, none is longer short than in the text -/
def Chain : Int → List Tk → Int → Prop
  | s, [], e => s = e
  | s, t :: r, e => t.place = s ∧ Chain t.stop r e
theorem chain_snoc {e : Int} {t : Tk} : ∀ {l : List Tk} {s : Int}, Chain s l t.place → t.stop = e → Chain s (l ++ [t]) e
  | [], _, h, h2 => ⟨h.symm, h2⟩
  | _ :: _, _, h, h2 => ⟨h.1, chain_snoc h.2 h2⟩
structure GT (t : Tk) : Prop where
  k : t.kind ≤ 4
  e : t.ended ≤ 1
  p : 0 ≤ t.place
  l : t.place < t.stop
  s : ((Vaescn.shortToken (tok t)).length : Int) ≤ t.stop - t.place
def V' (m : M) : Int := 1 + m.tag.length + acost m.attrs + 1 + m.attr.length + 1
def pnd (m : M) : Prop := match m.mode with
  | 0 => m.attrs = [] ∧ m.body = [] ∧ (m.run = [] ∨ m.begun + sl 0 m.run ≤ m.count)
  | 1 => m.attrs = [] ∧ m.begun + sl 0 m.run + 1 + m.body.length ≤ m.count
  | 2 => m.twice = false ∧ m.begun + V' m + 1 + sl 1 m.run + 1 + m.body.length ≤ m.count
  | 3 => m.twice = false ∧ m.begun + V' m + 1 + sl 2 m.run + 1 + m.body.length ≤ m.count
  | 4 => m.twice = false ∧ m.begun + V' m + sl 3 m.run + 1 + m.body.length ≤ m.count
  | 5 => m.run = [] ∧ m.attrs = [] ∧ m.body = [] ∧ m.begun + 1 ≤ m.count
  | 6 => m.run = [] ∧ m.attrs = [] ∧ m.body = [] ∧ m.begun + 1 + m.tag.length ≤ m.count
  | 7 => m.run = [] ∧ m.attrs = [] ∧ m.body = [] ∧ m.begun + 2 ≤ m.count
  | 8 => m.run = [] ∧ m.attrs = [] ∧ m.body = [] ∧ m.begun + 2 + m.tag.length ≤ m.count
  | 9 => m.run = [] ∧ m.body = [] ∧ m.begun + 1 + m.tag.length + acost m.attrs + 1 ≤ m.count
  | 10 => m.run = [] ∧ m.body = [] ∧ m.begun + 1 + m.tag.length + acost m.attrs + 1 + m.attr.length ≤ m.count
  | 11 => m.twice = false ∧ m.run = [] ∧ m.body = [] ∧ m.begun + V' m ≤ m.count
  | 12 => m.twice = false ∧ m.body = [] ∧ m.begun + V' m + 1 + sl 1 m.run ≤ m.count
  | 13 => m.twice = false ∧ m.body = [] ∧ m.begun + V' m + 1 + sl 2 m.run ≤ m.count
  | 14 => m.twice = false ∧ m.body = [] ∧ m.run ≠ [] ∧ m.begun + V' m + sl 3 m.run ≤ m.count
  | 15 => m.run = [] ∧ m.body = [] ∧ m.begun + 1 + m.tag.length + atcost m.attrs ≤ m.count
  | 16 => m.run = [] ∧ m.body = [] ∧ m.begun + 1 + m.tag.length + atcost m.attrs + 1 ≤ m.count
  | 17 => m.run = [] ∧ m.attrs = [] ∧ m.body = [] ∧ m.begun + 2 ≤ m.count
  | 18 => m.run = [] ∧ m.attrs = [] ∧ m.body = [] ∧ m.begun + 3 ≤ m.count
  | 19 => m.attrs = [] ∧ m.body = [] ∧ m.begun + 4 + m.run.length ≤ m.count
  | 20 => m.attrs = [] ∧ m.body = [] ∧ m.begun + 5 + m.run.length ≤ m.count
  | 21 => m.attrs = [] ∧ m.body = [] ∧ m.begun + 6 + m.run.length ≤ m.count
  | 22 => m.attrs = [] ∧ m.body = [] ∧ m.begun + m.run.length = m.count
  | 23 => m.attrs = [] ∧ m.body = [] ∧ m.begun + m.run.length + 1 = m.count
  | 24 => m.attrs = [] ∧ m.begun + m.run.length + 2 + m.body.length = m.count ∧ m.body.length ≤ m.tag.length
  | 25 => m.run = []
  | _ => False
instance (m : M) : Decidable m.idle := inferInstanceAs (Decidable (_ ∧ _))
def M.cur (m : M) : Int := if m.idle then m.count else m.begun
structure WF (m : M) : Prop where
  ch : Chain 0 m.toks m.cur
  gt : ∀ t ∈ m.toks, GT t
  p : pnd m
  tg : m.tag.length ≤ 32
  bg : 0 ≤ m.begun
theorem WF.new : WF M.new := { ch := rfl, gt := (fun _ h => nomatch h), p := ⟨rfl, rfl, .inl rfl⟩, tg := by decide, bg := by decide }
def inc (m : M) : M := { m with count := m.count + 1 }
/-- behind one sign -/
def W1 (m : M) : Prop := m.mode = 26 ∨ WF (inc m)
theorem W1.fail (m : M) (k : Nat) : W1 (m.fail k) := .inl rfl
theorem cur_busy {m : M} (h : ¬ m.idle) : m.cur = m.begun := if_neg h
theorem cur_idle {m : M} (h : m.idle) : m.cur = m.count := if_pos h
section
variable {m m' : M} {c : Nat}
/-- no new token -/
theorem W1.stay (h : WF m) (ni : ¬ m.idle) (e1 : m'.toks = m.toks) (e2 : m'.begun = m.begun) (ni' : ¬ m'.idle) (tg : m'.tag.length ≤ 32) (p : pnd (inc m')) : W1 m' :=
  .inr ⟨by
    have q := h.ch
    rw [cur_busy ni] at q
    rw [cur_busy (show ¬ (inc m').idle from ni')]
    show Chain 0 m'.toks m'.begun
    rw [e1, e2]; exact q, by rw [show (inc m').toks = m.toks from e1]; exact h.gt, p, tg, by rw [show (inc m').begun = m.begun from e2]; exact h.bg⟩
/-- a token more, that ends here -/
theorem W1.tok (h : WF m) (ni : ¬ m.idle) {t : Tk} (e1 : m'.toks = m.toks ++ [t]) (g : GT t) (e2 : t.place = m.begun) (e3 : t.stop = (inc m').cur) (tg : m'.tag.length ≤ 32) (p : pnd (inc m')) (bg : 0 ≤ m'.begun) : W1 m' :=
  .inr ⟨by
    have q := h.ch
    rw [cur_busy ni] at q
    show Chain 0 m'.toks _
    rw [e1]
    exact chain_snoc (by rw [e2]; exact q) e3, by
    show ∀ t ∈ m'.toks, GT t
    rw [e1]
    intro u hu
    rcases List.mem_append.mp hu with z | z
    · exact h.gt u z
    · have := List.mem_singleton.mp z
      subst this
      exact g, p, tg, bg⟩
theorem pnd_of {k : Nat} (e : m.mode = k) : pnd m → pnd { m with mode := k } := by subst e; exact id
theorem nid (h1 : m.mode ≠ 0) (h2 : m.mode < 25) : ¬ m.idle := nidle h1 h2
theorem inc_len (m : M) : ((inc m).count : Int) = m.count + 1 := by show ((m.count + 1 : Nat) : Int) = _; omega
theorem gtText {p s : Int} {l : NL} (hp : 0 ≤ p) (hs : p + sl 0 l ≤ s) (hl : l ≠ []) : GT ⟨0, p, s, [], [], 0, l⟩ := by
  have h1 : 1 ≤ l.length := by cases l with | nil => exact (hl rfl).elim | cons a r => simp
  have h2 := le_sl 0 l
  refine ⟨by show 0 ≤ 4; decide, by show 0 ≤ 1; decide, hp, by show p < s; omega, ?_⟩
  show ((sl 0 l : Nat) : Int) ≤ s - p
  omega
theorem gtCom {p s : Int} {l : NL} (hp : 0 ≤ p) (hs : p + l.length + 7 ≤ s) : GT ⟨3, p, s, [], [], 0, l⟩ := by
  refine ⟨by show 3 ≤ 4; decide, by show 0 ≤ 1; decide, hp, by show p < s; omega, ?_⟩
  show (([60, 33, 45, 45] ++ l ++ [45, 45, 62] : NL).length : Int) ≤ s - p
  simp only [List.length_append, List.length_cons, List.length_nil]
  omega
theorem gtRaw {p s : Int} {l : NL} (hp : 0 ≤ p) (hs : p + l.length ≤ s) (hl : l ≠ []) : GT ⟨4, p, s, [], [], 0, l⟩ := by
  have h1 : 1 ≤ l.length := by cases l with | nil => exact (hl rfl).elim | cons a r => simp
  refine ⟨by show 4 ≤ 4; decide, by show 0 ≤ 1; decide, hp, by show p < s; omega, ?_⟩
  show ((l.length : Nat) : Int) ≤ s - p
  omega
theorem gtClose {p s : Int} {n : NL} (hp : 0 ≤ p) (hs : p + n.length + 3 ≤ s) : GT ⟨2, p, s, n, [], 0, []⟩ := by
  refine ⟨by show 2 ≤ 4; decide, by show 0 ≤ 1; decide, hp, by show p < s; omega, ?_⟩
  show (([60, 47] ++ n ++ [62] : NL).length : Int) ≤ s - p
  simp only [List.length_append, List.length_cons, List.length_nil]
  omega
theorem gtOpen0 {p s : Int} {n : NL} {as : List (NL × NL)} (hp : 0 ≤ p) (hs : p + n.length + acost as + 2 ≤ s) : GT ⟨1, p, s, n, as, 0, []⟩ := by
  refine ⟨by show 1 ≤ 4; decide, by show 0 ≤ 1; decide, hp, by show p < s; omega, ?_⟩
  show (([60] ++ n ++ Vaescn.shortAttrs false as ++ [62] : NL).length : Int) ≤ s - p
  simp only [List.length_append, List.length_cons, List.length_nil]
  unfold acost at hs
  omega
theorem gtOpen1 {p s : Int} {n : NL} {as : List (NL × NL)} (hp : 0 ≤ p) (hs : p + n.length + atcost as + 3 ≤ s) : GT ⟨1, p, s, n, as, 1, []⟩ := by
  refine ⟨by show 1 ≤ 4; decide, by show 1 ≤ 1; decide, hp, by show p < s; omega, ?_⟩
  show (([60] ++ n ++ Vaescn.shortAttrs true as ++ [47, 62] : NL).length : Int) ≤ s - p
  simp only [List.length_append, List.length_cons, List.length_nil]
  unfold atcost at hs
  omega
theorem sl_bare {k c : Nat} (h : Vaescc.mayStand k c = true) : sl k [c] = 1 := by
  rw [sl_one]
  unfold Vaescc.shortByte
  rw [if_pos h]; rfl
theorem w_text (h : WF m) (hm : m.mode = 0) : W1 (m.sText c) := by
  have p := h.p
  unfold pnd at p
  rw [hm] at p
  obtain ⟨p1, p2, p3⟩ := p
  unfold M.sText
  by_cases e : m.run = []
  · have hi : m.idle := ⟨e, .inl hm⟩
    have q := h.ch
    rw [cur_idle hi] at q
    by_cases c1 : c = 60
    · rw [if_pos c1, if_pos e]
      refine .inr ⟨by
        rw [cur_busy (fun z => by rcases z.2 with z | z; cases z; exact absurd z (by show ¬ 25 ≤ 5; decide))]
        exact q, h.gt, ⟨e, p1, p2, ?_⟩, h.tg, by show 0 ≤ (m.count : Int); omega⟩
      show (m.count : Int) + 1 ≤ ((m.count + 1 : Nat) : Int)
      omega
    · rw [if_neg c1, if_pos e]
      by_cases c2 : c = 38
      · rw [if_pos c2]
        refine .inr ⟨by
          rw [cur_busy (fun z => by rcases z.2 with z | z; cases z; exact absurd z (by show ¬ 25 ≤ 1; decide))]
          exact q, h.gt, ⟨p1, ?_⟩, h.tg, by show 0 ≤ (m.count : Int); omega⟩
        show (m.count : Int) + sl 0 m.run + 1 + m.body.length ≤ ((m.count + 1 : Nat) : Int)
        rw [e, p2, sl_nil]
        simp
      · rw [if_neg c2]
        refine .inr ⟨by
          rw [cur_busy (fun z => by have := z.1; rw [show (inc _).run = m.run ++ [c] from rfl] at this; simp at this)]
          exact q, h.gt, ?_, h.tg, by show 0 ≤ (m.count : Int); omega⟩
        show pnd { m with begun := m.count, run := m.run ++ [c], count := m.count + 1 }
        unfold pnd
        rw [hm]
        refine ⟨p1, p2, .inr ?_⟩
        show (m.count : Int) + sl 0 (m.run ++ [c]) ≤ ((m.count + 1 : Nat) : Int)
        rw [e, List.nil_append, sl_bare]
        · omega
        · unfold Vaescc.mayStand; simp [c1, c2]
  · have ni : ¬ m.idle := fun z => e z.1
    have p4 := p3.resolve_left e
    by_cases c1 : c = 60
    · rw [if_pos c1, if_neg e]
      refine W1.tok h ni rfl (gtText h.bg p4 e) rfl ?_ h.tg ⟨rfl, p1, p2, ?_⟩ (by show 0 ≤ (m.count : Int); omega)
      · rw [cur_busy (fun z => by rcases z.2 with z | z; cases z; exact absurd z (by show ¬ 25 ≤ 5; decide))]; rfl
      · show (m.count : Int) + 1 ≤ ((m.count + 1 : Nat) : Int)
        omega
    · rw [if_neg c1, if_neg e]
      by_cases c2 : c = 38
      · rw [if_pos c2]
        refine W1.stay h ni rfl rfl (nid (by show 1 ≠ 0; decide) (by show 1 < 25; decide)) h.tg ⟨p1, ?_⟩
        show m.begun + sl 0 m.run + 1 + m.body.length ≤ ((m.count + 1 : Nat) : Int)
        rw [p2]; simp; omega
      · rw [if_neg c2]
        refine W1.stay h ni rfl rfl (fun z => by have := z.1; rw [show (m.add [c]).run = m.run ++ [c] from rfl] at this; simp at this) h.tg ?_
        show pnd { m with run := m.run ++ [c], count := m.count + 1 }
        unfold pnd
        rw [hm]
        refine ⟨p1, p2, .inr ?_⟩
        show m.begun + sl 0 (m.run ++ [c]) ≤ ((m.count + 1 : Nat) : Int)
        rw [sl_app, sl_bare]
        · omega
        · unfold Vaescc.mayStand; simp [c1, c2]
/-- the parts of pnd, by the mode -/
theorem pat {k : Nat} (h : WF m) (hm : m.mode = k) : pnd { m with mode := k } := pnd_of hm h.p
theorem ninc {k : Nat} (e : m'.mode = k) (h1 : k ≠ 0) (h2 : k < 25) : ¬ m'.idle := nid (by omega) (by omega)
theorem W1.st (h : WF m) (k : Nat) (hm : m.mode = k) (k1 : k ≠ 0) (k2 : k < 25) (k' : Nat) (e0 : m'.mode = k') (k3 : k' ≠ 0) (k4 : k' < 25) (e1 : m'.toks = m.toks) (e2 : m'.begun = m.begun) (tg : m'.tag.length ≤ 32) (p : pnd { inc m' with mode := k' }) : W1 m' :=
  W1.stay h (ninc hm k1 k2) e1 e2 (ninc e0 k3 k4) tg (by
    have e : (inc m').mode = k' := e0
    have q : inc m' = { inc m' with mode := k' } := by rw [← e]
    rw [q]; exact p)
theorem w_ref {back : Nat}
    (fin : ∀ b : Nat, Vaesca.byteOf m.body = some b → W1 { m with run := m.run ++ [b], body := [], mode := back }) (go : W1 { m with body := m.body ++ [c] }) : W1 (m.sRef back c) := by
  unfold M.sRef M.finRef
  by_cases c1 : c = 59
  · rw [if_pos c1]
    cases e : Vaesca.byteOf m.body with
    | none => exact .fail _ _
    | some b => exact fin b e
  · rw [if_neg c1]
    split
    · exact go
    · exact .fail _ _
theorem twice_of {m' : M} (h : m.twice = false) (e1 : m'.attrs = m.attrs) (e2 : m'.attr = m.attr) : m'.twice = false := by
  unfold M.twice at h ⊢
  rw [e1, e2]; exact h
theorem w_ref1 (h : WF m) (hm : m.mode = 1) : W1 (m.sRef 0 c) := by
  obtain ⟨p1, p2⟩ : m.attrs = [] ∧ m.begun + sl 0 m.run + 1 + m.body.length ≤ m.count := pat h hm
  refine w_ref (fun b hb => ?_) ?_
  · refine W1.stay h (ninc hm (by decide) (by decide)) rfl rfl (fun z => by have := z.1; simp at this) h.tg ⟨p1, rfl, .inr ?_⟩
    show m.begun + sl 0 (m.run ++ [b]) ≤ ((m.count + 1 : Nat) : Int)
    have := (byteOf_short (k := 0) (by decide) hb).2
    rw [sl_app, sl_one]; omega
  · refine W1.st h 1 hm (by decide) (by decide) 1 hm (by decide) (by decide) rfl rfl h.tg ⟨p1, ?_⟩
    show m.begun + sl 0 m.run + 1 + (m.body ++ [c]).length ≤ ((m.count + 1 : Nat) : Int)
    rw [List.length_append, List.length_singleton]; omega
end
end Sm

namespace Sm
open Vaesca (Token Reader Mode)
section
variable {m m' : M} {c : Nat}
theorem W1.tokI (h : WF m) {k : Nat} (hm : m.mode = k) (k1 : k ≠ 0) (k2 : k < 25) {t : Tk} (e1 : m'.toks = m.toks ++ [t]) (g : GT t) (e2 : t.place = m.begun) (e3 : t.stop = (m'.count : Int) + 1) (hr : m'.run = []) (h0 : m'.mode = 0) (tg : m'.tag.length ≤ 32) (p : pnd (inc m')) (bg : 0 ≤ m'.begun) : W1 m' :=
  W1.tok h (ninc hm k1 k2) e1 g e2 (by rw [cur_idle (show (inc m').idle from ⟨hr, .inl h0⟩), e3, inc_len]) tg p bg
/-- in references within a value -/
theorem w_ref23 (h : WF m) {k back kk q : Nat} (hm : m.mode = k) (k1 : k ≠ 0) (k2 : k < 25) (hk : kk < 4) (b1 : back ≠ 0) (b2 : back < 25) (tw : m.twice = false) (p : m.begun + V' m + q + sl kk m.run + 1 + m.body.length ≤ m.count)
    (pb : ∀ m' : M, m'.mode = back → m'.twice = false → m'.body = [] → m'.run ≠ [] → m'.begun + V' m' + q + sl kk m'.run ≤ m'.count → pnd m')
    (pk : ∀ m' : M, m'.mode = k → m'.twice = false → m'.begun + V' m' + q + sl kk m'.run + 1 + m'.body.length ≤ m'.count → pnd m') : W1 (m.sRef back c) := by
  refine w_ref (fun b hb => ?_) ?_
  · refine W1.stay h (ninc hm k1 k2) rfl rfl (nid b1 b2) h.tg (pb _ rfl (twice_of tw rfl rfl) rfl (by show m.run ++ [b] ≠ []; simp) ?_)
    show m.begun + V' m + q + sl kk (m.run ++ [b]) ≤ ((m.count + 1 : Nat) : Int)
    have := (byteOf_short hk hb).2
    rw [sl_app, sl_one]; omega
  · refine W1.stay h (ninc hm k1 k2) rfl rfl (ninc (show M.mode _ = k from hm) k1 k2) h.tg (pk _ hm (twice_of tw rfl rfl) ?_)
    show m.begun + V' m + q + sl kk m.run + 1 + (m.body ++ [c]).length ≤ ((m.count + 1 : Nat) : Int)
    rw [List.length_append, List.length_singleton]; omega
theorem w_ref2 (h : WF m) (hm : m.mode = 2) : W1 (m.sRef 12 c) := by
  obtain ⟨p1, p2⟩ : m.twice = false ∧ m.begun + V' m + 1 + sl 1 m.run + 1 + m.body.length ≤ m.count := pat h hm
  refine w_ref23 h (q := 1) (kk := 1) hm (by decide) (by decide) (by decide) (by decide) (by decide) p1 (by omega) (fun m' e1 e2 e3 _ e5 => ?_) (fun m' e1 e2 e3 => ?_)
  · unfold pnd; rw [e1]; exact ⟨e2, e3, by omega⟩
  · unfold pnd; rw [e1]; exact ⟨e2, by omega⟩
theorem w_ref3 (h : WF m) (hm : m.mode = 3) : W1 (m.sRef 13 c) := by
  obtain ⟨p1, p2⟩ : m.twice = false ∧ m.begun + V' m + 1 + sl 2 m.run + 1 + m.body.length ≤ m.count := pat h hm
  refine w_ref23 h (q := 1) (kk := 2) hm (by decide) (by decide) (by decide) (by decide) (by decide) p1 (by omega) (fun m' e1 e2 e3 _ e5 => ?_) (fun m' e1 e2 e3 => ?_)
  · unfold pnd; rw [e1]; exact ⟨e2, e3, by omega⟩
  · unfold pnd; rw [e1]; exact ⟨e2, by omega⟩
theorem w_ref4 (h : WF m) (hm : m.mode = 4) : W1 (m.sRef 14 c) := by
  obtain ⟨p1, p2⟩ : m.twice = false ∧ m.begun + V' m + sl 3 m.run + 1 + m.body.length ≤ m.count := pat h hm
  refine w_ref23 h (q := 0) (kk := 3) hm (by decide) (by decide) (by decide) (by decide) (by decide) p1 (by omega) (fun m' e1 e2 e3 e4 e5 => ?_) (fun m' e1 e2 e3 => ?_)
  · unfold pnd; rw [e1]; exact ⟨e2, e3, e4, by omega⟩
  · unfold pnd; rw [e1]; exact ⟨e2, by omega⟩
theorem w_less (h : WF m) (hm : m.mode = 5) : W1 (m.sLess c) := by
  obtain ⟨p1, p2, p3, p4⟩ : m.run = [] ∧ m.attrs = [] ∧ m.body = [] ∧ m.begun + 1 ≤ m.count := pat h hm
  unfold M.sLess M.only
  split
  · refine W1.st h 5 hm (by decide) (by decide) 6 rfl (by decide) (by decide) rfl rfl (by show 1 ≤ 32; decide) ⟨p1, p2, p3, ?_⟩
    show m.begun + 1 + ((1 : Nat) : Int) ≤ ((m.count + 1 : Nat) : Int)
    omega
  split
  · refine W1.st h 5 hm (by decide) (by decide) 7 rfl (by decide) (by decide) rfl rfl h.tg ⟨p1, p2, p3, ?_⟩
    show m.begun + 2 ≤ ((m.count + 1 : Nat) : Int)
    omega
  split
  · refine W1.st h 5 hm (by decide) (by decide) 17 rfl (by decide) (by decide) rfl rfl h.tg ⟨p1, p2, p3, ?_⟩
    show m.begun + 2 ≤ ((m.count + 1 : Nat) : Int)
    omega
  · exact .fail _ _
theorem w_finOpen0 (h : WF m) {k : Nat} (hm : m.mode = k) (k1 : k ≠ 0) (k2 : k < 25) (hr : m.run = []) (hb : m.body = []) (p : m.begun + m.tag.length + acost m.attrs + 1 ≤ m.count) : W1 (m.finOpen 0) := by
  unfold M.finOpen
  split
  · refine W1.tok h (ninc hm k1 k2) rfl (gtOpen0 h.bg (by omega)) rfl ?_ h.tg ⟨rfl, hb, ?_⟩ (by show 0 ≤ (m.count : Int) + 1; omega)
    · rw [cur_busy (ninc (show M.mode _ = 22 from rfl) (by decide) (by decide))]; rfl
    · show (m.count : Int) + 1 + m.run.length = ((m.count + 1 : Nat) : Int)
      rw [hr]; simp
  · exact W1.tokI h hm k1 k2 rfl (gtOpen0 h.bg (by omega)) rfl rfl hr rfl (by show 0 ≤ 32; decide) ⟨rfl, hb, .inl hr⟩ h.bg
theorem w_finOpen1 (h : WF m) {k : Nat} (hm : m.mode = k) (k1 : k ≠ 0) (k2 : k < 25) (hr : m.run = []) (hb : m.body = []) (p : m.begun + m.tag.length + atcost m.attrs + 2 ≤ m.count) : W1 (m.finOpen 1) := by
  unfold M.finOpen
  rw [if_neg (fun z => by cases z.1)]
  exact W1.tokI h hm k1 k2 rfl (gtOpen1 h.bg (by omega)) rfl rfl hr rfl (by show 0 ≤ 32; decide) ⟨rfl, hb, .inl hr⟩ h.bg
theorem w_finClose (h : WF m) {k : Nat} (hm : m.mode = k) (k1 : k ≠ 0) (k2 : k < 25) (ha : m.attrs = []) (hr : m.run = []) (hb : m.body = []) (p : m.begun + m.tag.length + 2 ≤ m.count) : W1 m.finClose := by
  unfold M.finClose
  exact W1.tokI h hm k1 k2 rfl (gtClose h.bg (by omega)) rfl rfl hr rfl (by show 0 ≤ 32; decide) ⟨ha, hb, .inl hr⟩ h.bg
/-- behind a name, a gap, a value -/
theorem w_behind (h : WF m) {k : Nat} (hm : m.mode = k) (k1 : k ≠ 0) (k2 : k < 25) (hr : m.run = []) (hb : m.body = []) (p : m.begun + 1 + m.tag.length + atcost m.attrs ≤ m.count) : W1 (m.sBehind c) := by
  have q := atcost_le m.attrs
  unfold M.sBehind
  split
  · refine W1.st h k hm k1 k2 9 rfl (by decide) (by decide) rfl rfl h.tg ⟨hr, hb, ?_⟩
    show m.begun + 1 + m.tag.length + acost m.attrs + 1 ≤ ((m.count + 1 : Nat) : Int)
    omega
  split
  · refine W1.st h k hm k1 k2 16 rfl (by decide) (by decide) rfl rfl h.tg ⟨hr, hb, ?_⟩
    show m.begun + 1 + m.tag.length + atcost m.attrs + 1 ≤ ((m.count + 1 : Nat) : Int)
    omega
  split
  · exact w_finOpen0 h hm k1 k2 hr hb (by omega)
  · exact .fail _ _
theorem w_openName (h : WF m) (hm : m.mode = 6) : W1 (m.sOpenName c) := by
  obtain ⟨p1, p2, p3, p4⟩ : m.run = [] ∧ m.attrs = [] ∧ m.body = [] ∧ m.begun + 1 + m.tag.length ≤ m.count := pat h hm
  unfold M.sOpenName M.addTag
  split
  · split
    · refine W1.st h 6 hm (by decide) (by decide) 6 hm (by decide) (by decide) rfl rfl ?_ ⟨p1, p2, p3, ?_⟩
      · show (m.tag ++ [c]).length ≤ 32
        rw [List.length_append, List.length_singleton]; omega
      · show m.begun + 1 + (m.tag ++ [c]).length ≤ ((m.count + 1 : Nat) : Int)
        rw [List.length_append, List.length_singleton]; omega
    · exact .fail _ _
  · exact w_behind h hm (by decide) (by decide) p1 p3 (by rw [p2, atcost_nil]; omega)
theorem w_behindClose (h : WF m) (hm : m.mode = 7) : W1 (m.sBehindClose c) := by
  obtain ⟨p1, p2, p3, p4⟩ : m.run = [] ∧ m.attrs = [] ∧ m.body = [] ∧ m.begun + 2 ≤ m.count := pat h hm
  unfold M.sBehindClose
  split
  · refine W1.st h 7 hm (by decide) (by decide) 8 rfl (by decide) (by decide) rfl rfl (by show 1 ≤ 32; decide) ⟨p1, p2, p3, ?_⟩
    show m.begun + 2 + ((1 : Nat) : Int) ≤ ((m.count + 1 : Nat) : Int)
    omega
  · exact .fail _ _
theorem w_closeName (h : WF m) (hm : m.mode = 8) : W1 (m.sCloseName c) := by
  obtain ⟨p1, p2, p3, p4⟩ : m.run = [] ∧ m.attrs = [] ∧ m.body = [] ∧ m.begun + 2 + m.tag.length ≤ m.count := pat h hm
  unfold M.sCloseName M.addTag
  split
  · split
    · refine W1.st h 8 hm (by decide) (by decide) 8 hm (by decide) (by decide) rfl rfl ?_ ⟨p1, p2, p3, ?_⟩
      · show (m.tag ++ [c]).length ≤ 32
        rw [List.length_append, List.length_singleton]; omega
      · show m.begun + 2 + (m.tag ++ [c]).length ≤ ((m.count + 1 : Nat) : Int)
        rw [List.length_append, List.length_singleton]; omega
    · exact .fail _ _
  split
  · exact w_finClose h hm (by decide) (by decide) p2 p1 p3 (by omega)
  · exact .fail _ _
theorem w_gap (h : WF m) (hm : m.mode = 9) : W1 (m.sGap c) := by
  obtain ⟨p1, p3, p4⟩ : m.run = [] ∧ m.body = [] ∧ m.begun + 1 + m.tag.length + acost m.attrs + 1 ≤ m.count := pat h hm
  have q := atcost_le m.attrs
  unfold M.sGap
  split
  · refine W1.st h 9 hm (by decide) (by decide) 10 rfl (by decide) (by decide) rfl rfl h.tg ⟨p1, p3, ?_⟩
    show m.begun + 1 + m.tag.length + acost m.attrs + 1 + ((1 : Nat) : Int) ≤ ((m.count + 1 : Nat) : Int)
    omega
  · exact w_behind h hm (by decide) (by decide) p1 p3 (by omega)
theorem w_attr_behind (h : WF m) {k : Nat} (hm : m.mode = k) (k1 : k ≠ 0) (k2 : k < 25) (hb : m.body = []) (p : m.begun + 1 + m.tag.length + atcost (m.attrs ++ [(m.attr, m.run)]) ≤ m.count) : W1 (m.finAttr.sBehind c) := by
  have q := atcost_le (m.attrs ++ [(m.attr, m.run)])
  unfold M.sBehind
  split
  · refine W1.st h k hm k1 k2 9 rfl (by decide) (by decide) rfl rfl h.tg ⟨rfl, hb, ?_⟩
    show m.begun + 1 + m.tag.length + acost (m.attrs ++ [(m.attr, m.run)]) + 1 ≤ ((m.count + 1 : Nat) : Int)
    omega
  split
  · refine W1.st h k hm k1 k2 16 rfl (by decide) (by decide) rfl rfl h.tg ⟨rfl, hb, ?_⟩
    show m.begun + 1 + m.tag.length + atcost (m.attrs ++ [(m.attr, m.run)]) + 1 ≤ ((m.count + 1 : Nat) : Int)
    omega
  split
  · unfold M.finOpen
    split
    · refine W1.tok h (ninc hm k1 k2) rfl (gtOpen0 (n := m.tag) (as := m.attrs ++ [(m.attr, m.run)]) h.bg (by show m.begun + m.tag.length + acost (m.attrs ++ [(m.attr, m.run)]) + 2 ≤ (m.count : Int) + 1; omega)) rfl ?_ h.tg ⟨rfl, hb, ?_⟩ (by show 0 ≤ (m.count : Int) + 1; omega)
      · rw [cur_busy (ninc (show M.mode _ = 22 from rfl) (by decide) (by decide))]; rfl
      · show (m.count : Int) + 1 + (([] : NL).length : Int) = ((m.count + 1 : Nat) : Int)
        simp
    · exact W1.tokI h hm k1 k2 rfl (gtOpen0 (n := m.tag) (as := m.attrs ++ [(m.attr, m.run)]) h.bg (by show m.begun + m.tag.length + acost (m.attrs ++ [(m.attr, m.run)]) + 2 ≤ (m.count : Int) + 1; omega)) rfl rfl rfl rfl (by show 0 ≤ 32; decide) ⟨rfl, hb, .inl rfl⟩ h.bg
  · exact .fail _ _
theorem w_attrName (h : WF m) (hm : m.mode = 10) : W1 (m.sAttrName c) := by
  obtain ⟨p1, p3, p4⟩ : m.run = [] ∧ m.body = [] ∧ m.begun + 1 + m.tag.length + acost m.attrs + 1 + m.attr.length ≤ m.count := pat h hm
  unfold M.sAttrName M.addAttr
  split
  · split
    · refine W1.st h 10 hm (by decide) (by decide) 10 hm (by decide) (by decide) rfl rfl h.tg ⟨p1, p3, ?_⟩
      show m.begun + 1 + m.tag.length + acost m.attrs + 1 + (m.attr ++ [c]).length ≤ ((m.count + 1 : Nat) : Int)
      rw [List.length_append, List.length_singleton]; omega
    · exact .fail _ _
  split
  · exact .fail _ _
  split
  · exact .fail _ _
  rename_i htw
  split
  · refine W1.st h 10 hm (by decide) (by decide) 11 rfl (by decide) (by decide) rfl rfl h.tg ⟨twice_of (m := m) (by simpa using htw) rfl rfl, p1, p3, ?_⟩
    show m.begun + (1 + m.tag.length + acost m.attrs + 1 + m.attr.length + 1) ≤ ((m.count + 1 : Nat) : Int)
    omega
  · refine w_attr_behind h hm (by decide) (by decide) p3 ?_
    rw [atcost_snoc, p1]
    show m.begun + 1 + m.tag.length + ((acost m.attrs + 1 + m.attr.length + 0 : Nat) : Int) ≤ _
    omega
theorem w_eq (h : WF m) (hm : m.mode = 11) (hc : c < 256) : W1 (m.sEq c) := by
  obtain ⟨p1, p2, p3, p4⟩ : m.twice = false ∧ m.run = [] ∧ m.body = [] ∧ m.begun + V' m ≤ m.count := pat h hm
  unfold M.sEq
  split
  · refine W1.st h 11 hm (by decide) (by decide) 12 rfl (by decide) (by decide) rfl rfl h.tg ⟨twice_of p1 rfl rfl, p3, ?_⟩
    show m.begun + V' m + 1 + sl 1 m.run ≤ ((m.count + 1 : Nat) : Int)
    rw [p2, sl_nil]; omega
  split
  · refine W1.st h 11 hm (by decide) (by decide) 13 rfl (by decide) (by decide) rfl rfl h.tg ⟨twice_of p1 rfl rfl, p3, ?_⟩
    show m.begun + V' m + 1 + sl 2 m.run ≤ ((m.count + 1 : Nat) : Int)
    rw [p2, sl_nil]; omega
  split
  · refine W1.st h 11 hm (by decide) (by decide) 4 rfl (by decide) (by decide) rfl rfl h.tg ⟨twice_of p1 rfl rfl, ?_⟩
    show m.begun + V' m + sl 3 m.run + 1 + m.body.length ≤ ((m.count + 1 : Nat) : Int)
    rw [p2, p3, sl_nil]; simp; omega
  split
  · rename_i hb
    refine W1.st h 11 hm (by decide) (by decide) 14 rfl (by decide) (by decide) rfl rfl h.tg ⟨twice_of p1 rfl rfl, p3, by show m.run ++ [c] ≠ []; simp, ?_⟩
    show m.begun + V' m + sl 3 (m.run ++ [c]) ≤ ((m.count + 1 : Nat) : Int)
    rw [p2, List.nil_append, sl_bare (show Vaescc.mayStand 3 c = true from (isBare_eq hc).trans hb)]; omega
  · exact .fail _ _
theorem w_quoted (h : WF m) {k quote ref kk : Nat} (hm : m.mode = k) (k1 : k ≠ 0) (k2 : k < 25) (tw : m.twice = false) (hb : m.body = []) (p : m.begun + V' m + 1 + sl kk m.run ≤ m.count)
    (r1 : ref ≠ 0) (r2 : ref < 25) (hv : vcost true m.run ≤ 1 + (sl kk m.run + 2)) (hst : c ≠ quote → c ≠ 38 → sl kk [c] = 1)
    (pb : ∀ m' : M, m'.mode = ref → m'.twice = false → m'.begun + V' m' + 1 + sl kk m'.run + 1 + m'.body.length ≤ m'.count → pnd m')
    (pk : ∀ m' : M, m'.mode = k → m'.twice = false → m'.body = [] → m'.begun + V' m' + 1 + sl kk m'.run ≤ m'.count → pnd m') : W1 (m.sQuoted quote ref c) := by
  unfold M.sQuoted
  split
  · refine W1.st h k hm k1 k2 15 rfl (by decide) (by decide) rfl rfl h.tg ⟨rfl, hb, ?_⟩
    show m.begun + 1 + m.tag.length + atcost (m.attrs ++ [(m.attr, m.run)]) ≤ ((m.count + 1 : Nat) : Int)
    rw [atcost_snoc]
    unfold V' at p
    omega
  split
  · refine W1.stay h (ninc hm k1 k2) rfl rfl (nid r1 r2) h.tg (pb _ rfl (twice_of tw rfl rfl) ?_)
    show m.begun + V' m + 1 + sl kk m.run + 1 + m.body.length ≤ ((m.count + 1 : Nat) : Int)
    rw [hb]; simp; omega
  · rename_i h1 h2
    refine W1.stay h (ninc hm k1 k2) rfl rfl (ninc (show M.mode _ = k from hm) k1 k2) h.tg (pk _ hm (twice_of tw rfl rfl) hb ?_)
    show m.begun + V' m + 1 + sl kk (m.run ++ [c]) ≤ ((m.count + 1 : Nat) : Int)
    rw [sl_app, hst h1 h2]; omega
theorem w_double (h : WF m) (hm : m.mode = 12) : W1 (m.sQuoted 34 2 c) := by
  obtain ⟨p1, p2, p3⟩ : m.twice = false ∧ m.body = [] ∧ m.begun + V' m + 1 + sl 1 m.run ≤ m.count := pat h hm
  refine w_quoted h (kk := 1) hm (by decide) (by decide) p1 p2 p3 (by decide) (by decide) (vcost_q1 _ _) (fun h1 h2 => sl_bare ?_) (fun m' e1 e2 e3 => ?_) (fun m' e1 e2 e3 e4 => ?_)
  · unfold Vaescc.mayStand; simp [h1, h2]
  · unfold pnd; rw [e1]; exact ⟨e2, e3⟩
  · unfold pnd; rw [e1]; exact ⟨e2, e3, e4⟩
theorem w_single (h : WF m) (hm : m.mode = 13) : W1 (m.sQuoted 39 3 c) := by
  obtain ⟨p1, p2, p3⟩ : m.twice = false ∧ m.body = [] ∧ m.begun + V' m + 1 + sl 2 m.run ≤ m.count := pat h hm
  refine w_quoted h (kk := 2) hm (by decide) (by decide) p1 p2 p3 (by decide) (by decide) (vcost_q2 _ _) (fun h1 h2 => sl_bare ?_) (fun m' e1 e2 e3 => ?_) (fun m' e1 e2 e3 e4 => ?_)
  · unfold Vaescc.mayStand; simp [h1, h2]
  · unfold pnd; rw [e1]; exact ⟨e2, e3⟩
  · unfold pnd; rw [e1]; exact ⟨e2, e3, e4⟩
theorem w_bare (h : WF m) (hm : m.mode = 14) (hc : c < 256) : W1 (m.sBare c) := by
  obtain ⟨p1, p2, p3, p4⟩ : m.twice = false ∧ m.body = [] ∧ m.run ≠ [] ∧ m.begun + V' m + sl 3 m.run ≤ m.count := pat h hm
  have vb := vcost_b m.run
  have vt := (vcost_le m.run)
  unfold M.sBare
  split
  · rename_i hb
    refine W1.st h 14 hm (by decide) (by decide) 14 hm (by decide) (by decide) rfl rfl h.tg ⟨twice_of p1 rfl rfl, p2, by show m.run ++ [c] ≠ []; simp, ?_⟩
    show m.begun + V' m + sl 3 (m.run ++ [c]) ≤ ((m.count + 1 : Nat) : Int)
    rw [sl_app, sl_bare (show Vaescc.mayStand 3 c = true from (isBare_eq hc).trans hb)]; omega
  split
  · refine W1.st h 14 hm (by decide) (by decide) 4 rfl (by decide) (by decide) rfl rfl h.tg ⟨twice_of p1 rfl rfl, ?_⟩
    show m.begun + V' m + sl 3 m.run + 1 + m.body.length ≤ ((m.count + 1 : Nat) : Int)
    rw [p2]; simp; omega
  split
  · rename_i h1 h2 h3
    unfold V' at p4
    unfold M.sBehind
    split
    · refine W1.st h 14 hm (by decide) (by decide) 9 rfl (by decide) (by decide) rfl rfl h.tg ⟨rfl, p2, ?_⟩
      show m.begun + 1 + m.tag.length + acost (m.attrs ++ [(m.attr, m.run)]) + 1 ≤ ((m.count + 1 : Nat) : Int)
      rw [acost_snoc]; omega
    rename_i nb
    have e62 : c = 62 := h3.resolve_left nb
    rw [if_neg (by omega), if_pos e62]
    have ac : m.begun + m.tag.length + acost (m.attrs ++ [(m.attr, m.run)]) + 2 ≤ (m.count : Int) + 1 := by rw [acost_snoc]; omega
    unfold M.finOpen
    split
    · refine W1.tok h (ninc hm (by decide) (by decide)) rfl (gtOpen0 (n := m.tag) (as := m.attrs ++ [(m.attr, m.run)]) h.bg ac) rfl ?_ h.tg ⟨rfl, p2, ?_⟩ (by show 0 ≤ (m.count : Int) + 1; omega)
      · rw [cur_busy (ninc (show M.mode _ = 22 from rfl) (by decide) (by decide))]; rfl
      · show (m.count : Int) + 1 + (([] : NL).length : Int) = ((m.count + 1 : Nat) : Int)
        simp
    · exact W1.tokI h hm (by decide) (by decide) rfl (gtOpen0 (n := m.tag) (as := m.attrs ++ [(m.attr, m.run)]) h.bg ac) rfl rfl rfl rfl (by show 0 ≤ 32; decide) ⟨rfl, p2, .inl rfl⟩ h.bg
  · exact .fail _ _
theorem w_slash (h : WF m) (hm : m.mode = 16) : W1 (m.sSlash c) := by
  obtain ⟨p1, p2, p3⟩ : m.run = [] ∧ m.body = [] ∧ m.begun + 1 + m.tag.length + atcost m.attrs + 1 ≤ m.count := pat h hm
  unfold M.sSlash
  split
  · exact w_finOpen1 h hm (by decide) (by decide) p1 p2 (by omega)
  · exact .fail _ _
theorem w_bang (h : WF m) (hm : m.mode = 17) : W1 (m.sBang c) := by
  obtain ⟨p1, p2, p3, p4⟩ : m.run = [] ∧ m.attrs = [] ∧ m.body = [] ∧ m.begun + 2 ≤ m.count := pat h hm
  unfold M.sBang M.only
  split
  · refine W1.st h 17 hm (by decide) (by decide) 18 rfl (by decide) (by decide) rfl rfl h.tg ⟨p1, p2, p3, ?_⟩
    show m.begun + 3 ≤ ((m.count + 1 : Nat) : Int)
    omega
  · exact .fail _ _
theorem w_dash (h : WF m) (hm : m.mode = 18) : W1 (m.sDash c) := by
  obtain ⟨p1, p2, p3, p4⟩ : m.run = [] ∧ m.attrs = [] ∧ m.body = [] ∧ m.begun + 3 ≤ m.count := pat h hm
  unfold M.sDash M.only
  split
  · refine W1.st h 18 hm (by decide) (by decide) 19 rfl (by decide) (by decide) rfl rfl h.tg ⟨p2, p3, ?_⟩
    show m.begun + 4 + m.run.length ≤ ((m.count + 1 : Nat) : Int)
    rw [p1]; simp; omega
  · exact .fail _ _
theorem w_com0 (h : WF m) (hm : m.mode = 19) : W1 (m.sCom0 c) := by
  obtain ⟨p2, p3, p4⟩ : m.attrs = [] ∧ m.body = [] ∧ m.begun + 4 + m.run.length ≤ m.count := pat h hm
  unfold M.sCom0
  split
  · refine W1.st h 19 hm (by decide) (by decide) 20 rfl (by decide) (by decide) rfl rfl h.tg ⟨p2, p3, ?_⟩
    show m.begun + 5 + m.run.length ≤ ((m.count + 1 : Nat) : Int)
    omega
  · refine W1.st h 19 hm (by decide) (by decide) 19 hm (by decide) (by decide) rfl rfl h.tg ⟨p2, p3, ?_⟩
    show m.begun + 4 + (m.run ++ [c]).length ≤ ((m.count + 1 : Nat) : Int)
    rw [List.length_append, List.length_singleton]; omega
theorem w_com1 (h : WF m) (hm : m.mode = 20) : W1 (m.sCom1 c) := by
  obtain ⟨p2, p3, p4⟩ : m.attrs = [] ∧ m.body = [] ∧ m.begun + 5 + m.run.length ≤ m.count := pat h hm
  unfold M.sCom1
  split
  · refine W1.st h 20 hm (by decide) (by decide) 21 rfl (by decide) (by decide) rfl rfl h.tg ⟨p2, p3, ?_⟩
    show m.begun + 6 + m.run.length ≤ ((m.count + 1 : Nat) : Int)
    omega
  · refine W1.st h 20 hm (by decide) (by decide) 19 rfl (by decide) (by decide) rfl rfl h.tg ⟨p2, p3, ?_⟩
    show m.begun + 4 + (m.run ++ [45, c]).length ≤ ((m.count + 1 : Nat) : Int)
    rw [List.length_append]; simp only [List.length_cons, List.length_nil]; omega
theorem w_com2 (h : WF m) (hm : m.mode = 21) : W1 (m.sCom2 c) := by
  obtain ⟨p2, p3, p4⟩ : m.attrs = [] ∧ m.body = [] ∧ m.begun + 6 + m.run.length ≤ m.count := pat h hm
  unfold M.sCom2
  split
  · refine W1.st h 21 hm (by decide) (by decide) 21 hm (by decide) (by decide) rfl rfl h.tg ⟨p2, p3, ?_⟩
    show m.begun + 6 + (m.run ++ [45]).length ≤ ((m.count + 1 : Nat) : Int)
    rw [List.length_append, List.length_singleton]; omega
  split
  · exact W1.tokI h hm (by decide) (by decide) rfl (gtCom h.bg (by omega)) rfl rfl rfl rfl h.tg ⟨p2, p3, .inl rfl⟩ h.bg
  · refine W1.st h 21 hm (by decide) (by decide) 19 rfl (by decide) (by decide) rfl rfl h.tg ⟨p2, p3, ?_⟩
    show m.begun + 4 + (m.run ++ [45, 45, c]).length ≤ ((m.count + 1 : Nat) : Int)
    rw [List.length_append]; simp only [List.length_cons, List.length_nil]; omega
theorem w_raw (h : WF m) (hm : m.mode = 22) : W1 (m.sRaw c) := by
  obtain ⟨p2, p3, p4⟩ : m.attrs = [] ∧ m.body = [] ∧ m.begun + m.run.length = m.count := pat h hm
  unfold M.sRaw
  split
  · refine W1.st h 22 hm (by decide) (by decide) 23 rfl (by decide) (by decide) rfl rfl h.tg ⟨p2, p3, ?_⟩
    show m.begun + m.run.length + 1 = ((m.count + 1 : Nat) : Int)
    omega
  · refine W1.st h 22 hm (by decide) (by decide) 22 hm (by decide) (by decide) rfl rfl h.tg ⟨p2, p3, ?_⟩
    show m.begun + (m.run ++ [c]).length = ((m.count + 1 : Nat) : Int)
    rw [List.length_append, List.length_singleton]; omega
theorem w_rawLess (h : WF m) (hm : m.mode = 23) : W1 (m.sRawLess c) := by
  obtain ⟨p2, p3, p4⟩ : m.attrs = [] ∧ m.body = [] ∧ m.begun + m.run.length + 1 = m.count := pat h hm
  unfold M.sRawLess
  split
  · refine W1.st h 23 hm (by decide) (by decide) 24 rfl (by decide) (by decide) rfl rfl h.tg ⟨p2, ?_, ?_⟩
    · show m.begun + m.run.length + 2 + m.body.length = ((m.count + 1 : Nat) : Int)
      rw [p3]; simp; omega
    · show m.body.length ≤ m.tag.length
      rw [p3]; simp
  split
  · refine W1.st h 23 hm (by decide) (by decide) 23 hm (by decide) (by decide) rfl rfl h.tg ⟨p2, p3, ?_⟩
    show m.begun + (m.run ++ [60]).length + 1 = ((m.count + 1 : Nat) : Int)
    rw [List.length_append, List.length_singleton]; omega
  · refine W1.st h 23 hm (by decide) (by decide) 22 rfl (by decide) (by decide) rfl rfl h.tg ⟨p2, p3, ?_⟩
    show m.begun + (m.run ++ [60, c]).length = ((m.count + 1 : Nat) : Int)
    rw [List.length_append]; simp only [List.length_cons, List.length_nil]; omega
theorem w_rawClose (h : WF m) (hm : m.mode = 24) : W1 (m.sRawClose c) := by
  obtain ⟨p2, p3, p4⟩ : m.attrs = [] ∧ m.begun + m.run.length + 2 + m.body.length = m.count ∧ m.body.length ≤ m.tag.length := pat h hm
  have bg := h.bg
  unfold M.sRawClose
  by_cases cc : c ≠ (if m.body.length < m.tag.length then m.tag.getD m.body.length 0 else 62)
  · rw [if_pos cc]
    exact .fail _ _
  rw [if_neg cc]
  split
  · refine W1.st h 24 hm (by decide) (by decide) 24 hm (by decide) (by decide) rfl rfl h.tg ⟨p2, ?_, ?_⟩
    · show m.begun + m.run.length + 2 + (m.body ++ [c]).length = ((m.count + 1 : Nat) : Int)
      rw [List.length_append, List.length_singleton]; omega
    · show (m.body ++ [c]).length ≤ m.tag.length
      rw [List.length_append, List.length_singleton]; omega
  · have q := h.ch
    rw [cur_busy (ninc hm (by decide) (by decide))] at q
    have rp : m.rawPlace = m.begun + m.run.length := by unfold M.rawPlace; omega
    unfold M.finRaw
    split
    · rename_i e
      have e3 : m.rawPlace = m.begun := by rw [rp, e]; simp
      rw [e3]
      exact W1.tokI h hm (by decide) (by decide) rfl (gtClose (n := m.tag) h.bg (by show m.begun + m.tag.length + 3 ≤ (m.count : Int) + 1; rw [e] at p3; simp only [List.length_nil] at p3; omega)) rfl rfl e rfl (by show 0 ≤ 32; decide) ⟨p2, rfl, .inl e⟩ h.bg
    · rename_i e
      refine .inr { ch := ?_, gt := ?_, p := ⟨p2, rfl, .inl rfl⟩, tg := by show 0 ≤ 32; decide, bg := by show 0 ≤ m.rawPlace; omega }
      · rw [cur_idle (show M.idle _ from ⟨rfl, .inl rfl⟩)]
        refine chain_snoc (chain_snoc q ?_) ?_
        · rfl
        · show (m.count : Int) + 1 = ((m.count + 1 : Nat) : Int)
          omega
      · intro t ht
        rcases List.mem_append.mp ht with ht | ht
        · rcases List.mem_append.mp ht with ht | ht
          · exact h.gt t ht
          · have := List.mem_singleton.mp ht
            subst this
            exact gtRaw h.bg (by omega) e
        · have := List.mem_singleton.mp ht
          subst this
          exact gtClose (by show 0 ≤ m.rawPlace; omega) (by show m.rawPlace + m.tag.length + 3 ≤ (m.count : Int) + 1; unfold M.rawPlace; omega)
end
end Sm

namespace Sm
open Vaesca (Token Reader Mode)
section
variable {m m' : M} {r : Reader} {c : Nat}
theorem modes {k : Nat} (h : k ≤ 24) : k = 0 ∨ k = 1 ∨ k = 2 ∨ k = 3 ∨ k = 4 ∨ k = 5 ∨ k = 6 ∨ k = 7 ∨ k = 8 ∨ k = 9 ∨ k = 10 ∨ k = 11 ∨ k = 12 ∨ k = 13 ∨ k = 14 ∨ k = 15 ∨ k = 16 ∨ k = 17 ∨ k = 18 ∨ k = 19 ∨ k = 20 ∨ k = 21 ∨ k = 22 ∨ k = 23 ∨ k = 24 := by omega
theorem step_0 (e : m.mode = 0) : m.step c = m.sText c := by
  unfold M.step
  rw [e] <;> rfl
theorem step_1 (e : m.mode = 1) : m.step c = m.sRef 0 c := by
  unfold M.step
  rw [e] <;> rfl
theorem step_2 (e : m.mode = 2) : m.step c = m.sRef 12 c := by
  unfold M.step
  rw [e] <;> rfl
theorem step_3 (e : m.mode = 3) : m.step c = m.sRef 13 c := by
  unfold M.step
  rw [e] <;> rfl
theorem step_4 (e : m.mode = 4) : m.step c = m.sRef 14 c := by
  unfold M.step
  rw [e] <;> rfl
theorem step_5 (e : m.mode = 5) : m.step c = m.sLess c := by
  unfold M.step
  rw [e] <;> rfl
theorem step_6 (e : m.mode = 6) : m.step c = m.sOpenName c := by
  unfold M.step
  rw [e] <;> rfl
theorem step_7 (e : m.mode = 7) : m.step c = m.sBehindClose c := by
  unfold M.step
  rw [e] <;> rfl
theorem step_8 (e : m.mode = 8) : m.step c = m.sCloseName c := by
  unfold M.step
  rw [e] <;> rfl
theorem step_9 (e : m.mode = 9) : m.step c = m.sGap c := by
  unfold M.step
  rw [e] <;> rfl
theorem step_10 (e : m.mode = 10) : m.step c = m.sAttrName c := by
  unfold M.step
  rw [e] <;> rfl
theorem step_11 (e : m.mode = 11) : m.step c = m.sEq c := by
  unfold M.step
  rw [e] <;> rfl
theorem step_12 (e : m.mode = 12) : m.step c = m.sQuoted 34 2 c := by
  unfold M.step
  rw [e] <;> rfl
theorem step_13 (e : m.mode = 13) : m.step c = m.sQuoted 39 3 c := by
  unfold M.step
  rw [e] <;> rfl
theorem step_14 (e : m.mode = 14) : m.step c = m.sBare c := by
  unfold M.step
  rw [e] <;> rfl
theorem step_15 (e : m.mode = 15) : m.step c = m.sBehind c := by
  unfold M.step
  rw [e] <;> rfl
theorem step_16 (e : m.mode = 16) : m.step c = m.sSlash c := by
  unfold M.step
  rw [e] <;> rfl
theorem step_17 (e : m.mode = 17) : m.step c = m.sBang c := by
  unfold M.step
  rw [e] <;> rfl
theorem step_18 (e : m.mode = 18) : m.step c = m.sDash c := by
  unfold M.step
  rw [e] <;> rfl
theorem step_19 (e : m.mode = 19) : m.step c = m.sCom0 c := by
  unfold M.step
  rw [e] <;> rfl
theorem step_20 (e : m.mode = 20) : m.step c = m.sCom1 c := by
  unfold M.step
  rw [e] <;> rfl
theorem step_21 (e : m.mode = 21) : m.step c = m.sCom2 c := by
  unfold M.step
  rw [e] <;> rfl
theorem step_22 (e : m.mode = 22) : m.step c = m.sRaw c := by
  unfold M.step
  rw [e] <;> rfl
theorem step_23 (e : m.mode = 23) : m.step c = m.sRawLess c := by
  unfold M.step
  rw [e] <;> rfl
theorem step_24 (e : m.mode = 24) : m.step c = m.sRawClose c := by
  unfold M.step
  rw [e] <;> rfl
theorem step_W1 (h : WF m) (hm : m.mode ≤ 24) (hc : c < 256) : W1 (m.step c) := by
  unfold M.step
  rcases modes hm with e | e | e | e | e | e | e | e | e | e | e | e | e | e | e | e | e | e | e | e | e | e | e | e | e <;> rw [e] <;> (try dsimp only)
  · exact w_text h e
  · exact w_ref1 h e
  · exact w_ref2 h e
  · exact w_ref3 h e
  · exact w_ref4 h e
  · exact w_less h e
  · exact w_openName h e
  · exact w_behindClose h e
  · exact w_closeName h e
  · exact w_gap h e
  · exact w_attrName h e
  · exact w_eq h e hc
  · exact w_double h e
  · exact w_single h e
  · exact w_bare h e hc
  · obtain ⟨p1, p2, p3⟩ : m.run = [] ∧ m.body = [] ∧ m.begun + 1 + m.tag.length + atcost m.attrs ≤ m.count := pat h e
    exact w_behind h e (by decide) (by decide) p1 p2 p3
  · exact w_slash h e
  · exact w_bang h e
  · exact w_dash h e
  · exact w_com0 h e
  · exact w_com1 h e
  · exact w_com2 h e
  · exact w_raw h e
  · exact w_rawLess h e
  · exact w_rawClose h e
theorem step_rel (R : Rel m r) (h : WF m) (hm : m.mode ≤ 24) (hc : c < 256) : Rel (m.step c) (Vaesca.byte r c) := by
  unfold M.step Vaesca.byte
  rw [R.mode]
  rcases modes hm with e | e | e | e | e | e | e | e | e | e | e | e | e | e | e | e | e | e | e | e | e | e | e | e | e <;> rw [e] <;> dsimp only [modeOf]
  · exact rel_text R e
  · exact rel_ref R 0 .text rfl (by decide) (by omega) (by omega)
  · exact rel_ref R 12 .double rfl (by decide) (by omega) (by omega)
  · exact rel_ref R 13 .single rfl (by decide) (by omega) (by omega)
  · exact rel_ref R 14 .bare rfl (by decide) (by omega) (by omega)
  · exact rel_less R (by omega) (by omega)
  · exact rel_openName R (by omega) (by omega) (show m.run = [] ∧ m.attrs = [] ∧ m.body = [] ∧ m.begun + 1 + m.tag.length ≤ m.count from pat h e).1
  · exact rel_behindClose R (by omega) (by omega)
  · exact rel_closeName R (by omega) (by omega) (show m.run = [] ∧ m.attrs = [] ∧ m.body = [] ∧ m.begun + 2 + m.tag.length ≤ m.count from pat h e).1
  · exact rel_gap R (by omega) (by omega) (show m.run = [] ∧ m.body = [] ∧ m.begun + 1 + m.tag.length + acost m.attrs + 1 ≤ m.count from pat h e).1
  · exact rel_attrName R (by omega) (by omega)
  · exact rel_eq R (by omega) (by omega) (show m.twice = false ∧ m.run = [] ∧ m.body = [] ∧ m.begun + V' m ≤ m.count from pat h e).2.1 hc
  · exact rel_quoted R (by omega) (by omega) 34 2 (by decide) .double rfl
  · exact rel_quoted R (by omega) (by omega) 39 3 (by decide) .single rfl
  · exact rel_bare R (by omega) (by omega) hc
  · exact rel_behind R (by omega) (by omega) (show m.run = [] ∧ m.body = [] ∧ m.begun + 1 + m.tag.length + atcost m.attrs ≤ m.count from pat h e).1
  · exact rel_slash R (by omega) (by omega) (show m.run = [] ∧ m.body = [] ∧ m.begun + 1 + m.tag.length + atcost m.attrs + 1 ≤ m.count from pat h e).1
  · exact rel_only R (by omega) (by omega) 45 18 (by decide)
  · exact rel_only R (by omega) (by omega) 45 19 (by decide)
  · exact rel_com0 R e
  · exact rel_com1 R e
  · exact rel_com2 R e
  · exact rel_raw R e
  · exact rel_rawLess R e
  · obtain ⟨p2, p3, p4⟩ : m.attrs = [] ∧ m.begun + m.run.length + 2 + m.body.length = m.count ∧ m.body.length ≤ m.tag.length := pat h e
    exact rel_rawClose R e (fun e2 => by have := h.bg; unfold M.rawPlace; omega) p4
theorem step_mode (hm : m.mode ≤ 24) : (m.step c).mode = 26 ∨ (m.step c).mode ≤ 24 := by
  have g : ∀ m' : M, ∀ k, m'.mode = k → k = 26 ∨ k ≤ 24 → m'.mode = 26 ∨ m'.mode ≤ 24 := fun m' k e h => by rw [e]; exact h
  have hb : ∀ m' : M, (m'.sBehind c).mode = 26 ∨ (m'.sBehind c).mode ≤ 24 := fun m' => by
    unfold M.sBehind M.finOpen
    (repeat' split) <;> first | exact .inl rfl | exact .inr (show 9 ≤ 24 by decide) | exact .inr (show 16 ≤ 24 by decide) | exact .inr (show 22 ≤ 24 by decide) | exact .inr (show 0 ≤ 24 by decide)
  have hr : ∀ back, back ≤ 24 → (m.sRef back c).mode = 26 ∨ (m.sRef back c).mode ≤ 24 := fun back hk => by
    unfold M.sRef M.finRef
    (repeat' split) <;> first | exact .inl rfl | exact .inr hk | exact .inr hm
  have hq : ∀ q ref, ref ≤ 24 → (m.sQuoted q ref c).mode = 26 ∨ (m.sQuoted q ref c).mode ≤ 24 := fun q ref hk => by
    unfold M.sQuoted
    (repeat' split) <;> first | exact .inl rfl | exact .inr (show 15 ≤ 24 by decide) | exact .inr hk | exact .inr hm
  rcases modes hm with e | e | e | e | e | e | e | e | e | e | e | e | e | e | e | e | e | e | e | e | e | e | e | e | e
  · rw [step_0 e]
    unfold M.sText; (repeat' split) <;> first | exact .inr (show 5 ≤ 24 by decide) | exact .inr (show 1 ≤ 24 by decide) | exact .inr hm
  · rw [step_1 e]
    exact hr 0 (by decide)
  · rw [step_2 e]
    exact hr 12 (by decide)
  · rw [step_3 e]
    exact hr 13 (by decide)
  · rw [step_4 e]
    exact hr 14 (by decide)
  · rw [step_5 e]
    unfold M.sLess M.only; (repeat' split) <;> first | exact .inl rfl | exact .inr (show 6 ≤ 24 by decide) | exact .inr (show 7 ≤ 24 by decide) | exact .inr (show 17 ≤ 24 by decide)
  · rw [step_6 e]
    unfold M.sOpenName M.addTag; split
    · split
      · exact .inr hm
      · exact .inl rfl
    · exact hb m
  · rw [step_7 e]
    unfold M.sBehindClose; split
    · exact .inr (show 8 ≤ 24 by decide)
    · exact .inl rfl
  · rw [step_8 e]
    unfold M.sCloseName M.addTag M.finClose; (repeat' split) <;> first | exact .inl rfl | exact .inr hm | exact .inr (show 0 ≤ 24 by decide)
  · rw [step_9 e]
    unfold M.sGap; split
    · exact .inr (show 10 ≤ 24 by decide)
    · exact hb m
  · rw [step_10 e]
    unfold M.sAttrName M.addAttr
    by_cases c0 : Vaesca.isNameSign c = true
    · rw [if_pos c0]; split
      · exact .inr hm
      · exact .inl rfl
    rw [if_neg c0]; split
    · exact .inl rfl
    split
    · exact .inl rfl
    split
    · exact .inr (show 11 ≤ 24 by decide)
    · exact hb _
  · rw [step_11 e]
    unfold M.sEq; (repeat' split) <;> first | exact .inl rfl | exact .inr (show 12 ≤ 24 by decide) | exact .inr (show 13 ≤ 24 by decide) | exact .inr (show 4 ≤ 24 by decide) | exact .inr (show 14 ≤ 24 by decide)
  · rw [step_12 e]
    exact hq 34 2 (by decide)
  · rw [step_13 e]
    exact hq 39 3 (by decide)
  · rw [step_14 e]
    unfold M.sBare; split
    · exact .inr hm
    split
    · exact .inr (show 4 ≤ 24 by decide)
    split
    · exact hb _
    · exact .inl rfl
  · rw [step_15 e]
    exact hb m
  · rw [step_16 e]
    unfold M.sSlash M.finOpen; (repeat' split) <;> first | exact .inl rfl | exact .inr (show 22 ≤ 24 by decide) | exact .inr (show 0 ≤ 24 by decide)
  · rw [step_17 e]
    unfold M.sBang M.only; split
    · exact .inr (show 18 ≤ 24 by decide)
    · exact .inl rfl
  · rw [step_18 e]
    unfold M.sDash M.only; split
    · exact .inr (show 19 ≤ 24 by decide)
    · exact .inl rfl
  · rw [step_19 e]
    unfold M.sCom0; split
    · exact .inr (show 20 ≤ 24 by decide)
    · exact .inr hm
  · rw [step_20 e]
    unfold M.sCom1; split
    · exact .inr (show 21 ≤ 24 by decide)
    · exact .inr (show 19 ≤ 24 by decide)
  · rw [step_21 e]
    unfold M.sCom2; (repeat' split) <;> first | exact .inr hm | exact .inr (show 0 ≤ 24 by decide) | exact .inr (show 19 ≤ 24 by decide)
  · rw [step_22 e]
    unfold M.sRaw; split
    · exact .inr (show 23 ≤ 24 by decide)
    · exact .inr hm
  · rw [step_23 e]
    unfold M.sRawLess; (repeat' split) <;> first | exact .inr (show 24 ≤ 24 by decide) | exact .inr hm | exact .inr (show 22 ≤ 24 by decide)
  · rw [step_24 e]
    unfold M.sRawClose
    generalize (if m.body.length < m.tag.length then m.tag.getD m.body.length 0 else 62) = wanted
    split
    · exact .inl rfl
    split
    · exact .inr hm
    · unfold M.finRaw M.finClose
      split
      · exact .inr (show 0 ≤ 24 by decide)
      · exact .inr (show 0 ≤ 24 by decide)

theorem step_count (m : M) (c : Nat) : (m.step c).count = m.count := by
  have hb : ∀ m' : M, (m'.sBehind c).count = m'.count := fun m' => by
    unfold M.sBehind M.finOpen
    (repeat' split) <;> rfl
  have hr : ∀ back, (m.sRef back c).count = m.count := fun back => by
    unfold M.sRef M.finRef
    (repeat' split) <;> rfl
  unfold M.step
  split
  · unfold M.sText; (repeat' split) <;> rfl
  · exact hr _
  · exact hr _
  · exact hr _
  · exact hr _
  · unfold M.sLess M.only; (repeat' split) <;> rfl
  · unfold M.sOpenName M.addTag; (repeat' split) <;> first | rfl | exact hb m
  · unfold M.sBehindClose; (repeat' split) <;> rfl
  · unfold M.sCloseName M.addTag; (repeat' split) <;> rfl
  · unfold M.sGap; (repeat' split) <;> first | rfl | exact hb m
  · unfold M.sAttrName M.addAttr
    (repeat' split) <;> first | rfl | exact hb _
  · unfold M.sEq; (repeat' split) <;> rfl
  · unfold M.sQuoted; (repeat' split) <;> rfl
  · unfold M.sQuoted; (repeat' split) <;> rfl
  · unfold M.sBare; (repeat' split) <;> first | rfl | exact hb _
  · exact hb m
  · unfold M.sSlash M.finOpen; (repeat' split) <;> rfl
  · unfold M.sBang M.only; (repeat' split) <;> rfl
  · unfold M.sDash M.only; (repeat' split) <;> rfl
  · unfold M.sCom0; (repeat' split) <;> rfl
  · unfold M.sCom1; (repeat' split) <;> rfl
  · unfold M.sCom2; (repeat' split) <;> rfl
  · unfold M.sRaw; (repeat' split) <;> rfl
  · unfold M.sRawLess; (repeat' split) <;> rfl
  · unfold M.sRawClose
    generalize (if m.body.length < m.tag.length then m.tag.getD m.body.length 0 else 62) = wanted
    split
    · rfl
    split
    · rfl
    · unfold M.finRaw
      split <;> rfl
  · rfl
theorem done_iff (R : Rel m r) : Vaesca.isDone r = decide (m.mode = 25 ∨ m.mode = 26) := by
  have key : ∀ k : Fin 27, ((modeOf k.1 == Mode.ended) || (modeOf k.1 == Mode.fault)) = decide (k.1 = 25 ∨ k.1 = 26) := by decide
  unfold Vaesca.isDone
  rw [R.mode]
  exact key ⟨m.mode, by have := R.le; omega⟩
theorem fault_iff (R : Rel m r) : (r.mode == Mode.fault) = decide (m.mode = 26) := by
  have key : ∀ k : Fin 27, ((modeOf k.1 == Mode.fault)) = decide (k.1 = 26) := by decide
  rw [R.mode]
  exact key ⟨m.mode, by have := R.le; omega⟩
theorem text_iff (R : Rel m r) : (r.mode == Mode.text) = decide (m.mode = 0) := by
  have key : ∀ k : Fin 27, ((modeOf k.1 == Mode.text)) = decide (k.1 = 0) := by decide
  rw [R.mode]
  exact key ⟨m.mode, by have := R.le; omega⟩
theorem Rel.inc (R : Rel m r) (h : m.mode ≠ 26) : Rel (inc m) { r with count := r.count + 1 } :=
  ⟨R.le, R.mode, by show r.count + 1 = m.count + 1; rw [R.count], R.toks, R.tag, R.attrs, R.attr, R.body, R.run, R.frm, by
    show r.wrong = _
    rw [R.wrong, if_neg h, if_neg (show ¬ (Sm.inc m).mode = 26 from h)]⟩
theorem eat_rel (R : Rel m r) (h : WF m) (hm : m.mode ≤ 24) (hc : c < 256) : Rel (m.eat c) (Vaesca.eat r c) := by
  have S := step_rel R h hm hc
  have nm : Vaesca.isMark c = false := by unfold Vaesca.isMark; simp; omega
  have eE : Vaesca.eat r c = if decide ((m.step c).mode = 26) = true then Vaesca.byte r c else { Vaesca.byte r c with count := r.count + 1 } := by
    unfold Vaesca.eat
    rw [done_iff R, if_neg (by simp; omega), nm, ← fault_iff S]
    rfl
  rw [eE]
  unfold M.eat
  by_cases e : (m.step c).mode = 26
  · rw [if_pos e, if_pos (by simp [e])]
    exact S
  · rw [if_neg e, if_neg (by simp [e])]
    have q := S.inc e
    have ec : (Vaesca.byte r c).count = r.count := by
      have h1 : (m.step c).count = m.count := step_count m c
      rw [S.count, h1, R.count]
    rw [ec] at q
    exact q
end
end Sm

namespace Sm
open Vaesca (Token Reader Mode)
/-! ### reading a text -/
section
variable {m : M} {r : Reader}
theorem eat_wf {c : Nat} (h : WF m) (hm : m.mode ≤ 24) (hc : c < 256) : (m.eat c).mode = 26 ∨ (WF (m.eat c) ∧ (m.eat c).mode ≤ 24 ∧ (m.eat c).count = m.count + 1) := by
  unfold M.eat
  by_cases e : (m.step c).mode = 26
  · rw [if_pos e]; exact .inl e
  · rw [if_neg e]
    refine .inr ⟨(step_W1 h hm hc).resolve_left e, (step_mode hm).resolve_left e, ?_⟩
    show (m.step c).count + 1 = _
    rw [step_count]
theorem run_fault (h : r.mode = Mode.fault) : ∀ l, Vaesca.run r l = r
  | [] => rfl
  | c :: s => by
    show Vaesca.run (Vaesca.eat r c) s = r
    have e : Vaesca.eat r c = r := by
      unfold Vaesca.eat
      rw [if_pos (by unfold Vaesca.isDone; rw [h]; rfl)]
    rw [e]; exact run_fault h s
theorem read_ok : ∀ (l : NL) (m : M) (r : Reader), Rel m r → WF m → m.mode ≤ 24 → (∀ c ∈ l, c < 256) →
    Rel (m.read l) (Vaesca.run r l) ∧ ((m.read l).mode = 26 ∨ (WF (m.read l) ∧ (m.read l).mode ≤ 24 ∧ (m.read l).count = m.count + l.length))
  | [], m, r, R, h, hm, _ => ⟨R, .inr ⟨h, hm, rfl⟩⟩
  | c :: s, m, r, R, h, hm, hc => by
    have R1 := eat_rel R h hm (hc c (List.mem_cons_self))
    have W := eat_wf h hm (hc c (List.mem_cons_self))
    show Rel (M.read m (c :: s)) (Vaesca.run (Vaesca.eat r c) s) ∧ _
    unfold M.read
    unfold M.eat at R1 W
    by_cases e : (m.step c).mode = 26
    · rw [if_pos e] at R1
      rw [if_pos e]
      have rf : (Vaesca.eat r c).mode = Mode.fault := by rw [R1.mode, e]; rfl
      rw [run_fault rf]
      exact ⟨R1, .inl e⟩
    · rw [if_neg e] at R1 W
      rw [if_neg e]
      obtain ⟨w1, w2, w3⟩ := W.resolve_left e
      obtain ⟨a, b⟩ := read_ok s _ _ R1 w1 w2 fun d hd => hc d (List.mem_cons_of_mem _ hd)
      refine ⟨a, b.imp id fun ⟨b1, b2, b3⟩ => ⟨b1, b2, ?_⟩⟩
      rw [b3, w3, List.length_cons]; omega
theorem fin_ok (R : Rel m r) (h : WF m) (hm : m.mode ≤ 24) : Rel m.fin (Vaesca.finish r) ∧ (m.fin.mode = 26 ∨ (WF m.fin ∧ m.fin.mode = 25 ∧ m.fin.count = m.count)) := by
  unfold M.fin Vaesca.finish
  rw [done_iff R, text_iff R]
  rw [if_neg (show ¬ (m.mode = 25 ∨ m.mode = 26) by omega), if_neg (show ¬ (decide (m.mode = 25 ∨ m.mode = 26) = true) by simp; omega)]
  by_cases e : m.mode = 0
  · rw [if_neg (fun z => z e), if_pos (show decide (m.mode = 0) = true by simp [e])]
    obtain ⟨p1, p2, p3⟩ : m.attrs = [] ∧ m.body = [] ∧ (m.run = [] ∨ m.begun + sl 0 m.run ≤ m.count) := pat h e
    unfold Vaesca.endText
    rw [R.run]
    by_cases e2 : m.run = []
    · have q := h.ch
      rw [cur_idle (show m.idle from ⟨e2, .inl e⟩)] at q
      rw [if_pos e2, if_pos (by simp [e2])]
      refine ⟨⟨by show 25 ≤ 26; decide, rfl, R.count, R.toks, R.tag, R.attrs, R.attr, R.body, R.run, fun z => (z ⟨e2, .inr (by show 25 ≤ 25; decide)⟩).elim, by show r.wrong = _; rw [R.wrong, if_neg (by omega)]; rfl⟩, .inr ⟨⟨?_, h.gt, e2, h.tg, h.bg⟩, rfl, rfl⟩⟩
      rw [cur_idle (show (m.go 25).idle from ⟨e2, .inr (by show 25 ≤ 25; decide)⟩)]
      exact q
    · have ni : ¬ m.idle := fun z => e2 z.1
      have q := h.ch
      rw [cur_busy ni] at q
      have fr := R.frm ni
      have fr2 : m.begun.toNat = r.from_ := by omega
      rw [if_neg e2, if_neg (by simp [e2])]
      refine ⟨⟨by show 25 ≤ 26; decide, rfl, R.count, ?_, R.tag, R.attrs, R.attr, R.body, rfl, fun z => (z ⟨rfl, .inr (by show 25 ≤ 25; decide)⟩).elim, by show r.wrong = _; rw [R.wrong, if_neg (by omega)]; rfl⟩, .inr ⟨⟨?_, ?_, rfl, h.tg, h.bg⟩, rfl, rfl⟩⟩
      · show r.tokens ++ [_] = List.map tok (m.toks ++ [_])
        rw [List.map_append, R.toks]
        simp [tok, fr2]
      · rw [cur_idle (show ((m.finRun 0 m.count).go 25).idle from ⟨rfl, .inr (by show 25 ≤ 25; decide)⟩)]
        exact chain_snoc q rfl
      · intro t ht
        rcases List.mem_append.mp ht with ht | ht
        · exact h.gt t ht
        · have := List.mem_singleton.mp ht
          subst this
          exact gtText h.bg (p3.resolve_left e2) e2
  · rw [if_pos e, if_neg (show ¬ (decide (m.mode = 0) = true) by simp [e])]
    exact ⟨R.fail 7, .inl rfl⟩
end
/-- a whole text -/
def rd (l : NL) : M := (M.new.read l).fin
theorem fin_fault {m : M} (h : m.mode = 26) : m.fin = m := by
  unfold M.fin
  rw [if_pos (.inr h)]
theorem finish_fault {r : Reader} (h : r.mode = Mode.fault) : Vaesca.finish r = r := by
  unfold Vaesca.finish
  rw [if_pos (by unfold Vaesca.isDone; rw [h]; rfl)]
theorem rd_ok (l : NL) (hl : ∀ c ∈ l, c < 256) : Rel (rd l) (Vaesca.read l) ∧ ((rd l).mode = 26 ∨ (WF (rd l) ∧ (rd l).mode = 25 ∧ (rd l).count = l.length)) := by
  obtain ⟨R, W⟩ := read_ok l M.new Vaesca.fresh Rel.new WF.new (by decide) hl
  unfold rd Vaesca.read
  rcases W with W | ⟨w1, w2, w3⟩
  · rw [fin_fault W, finish_fault (by rw [R.mode, W]; rfl)]
    exact ⟨R, .inl W⟩
  · obtain ⟨a, b⟩ := fin_ok R w1 w2
    refine ⟨a, b.imp id fun ⟨b1, b2, b3⟩ => ⟨b1, b2, ?_⟩⟩
    rw [b3, w3]
    show 0 + l.length = l.length
    omega
/-! ### sizes -/
theorem chain_le : ∀ {ts : List Tk} {s e : Int}, Chain s ts e → (∀ t ∈ ts, GT t) → s + ((ts.flatMap fun t => Vaescn.shortToken (tok t)).length : Int) ≤ e ∧ s + ts.length ≤ e
  | [], s, e, h, _ => by
    have : s = e := h
    simp; omega
  | t :: r, s, e, h, g => by
    obtain ⟨h1, h2⟩ := h
    obtain ⟨a, b⟩ := chain_le h2 fun u hu => g u (List.mem_cons_of_mem _ hu)
    have gt := g t List.mem_cons_self
    have := gt.s
    have := gt.l
    rw [List.flatMap_cons, List.length_append, List.length_cons]
    omega
theorem cur_le {m : M} (h : WF m) (hm : m.mode ≤ 25) : m.cur ≤ m.count := by
  by_cases hi : m.idle
  · rw [cur_idle hi]; omega
  · rw [cur_busy hi]
    have p := h.p
    unfold pnd at p
    rcases (show m.mode ≤ 24 ∨ m.mode = 25 by omega) with e | e
    · rcases modes e with e | e | e | e | e | e | e | e | e | e | e | e | e | e | e | e | e | e | e | e | e | e | e | e | e <;> rw [e] at p <;> simp only at p <;> unfold V' at * <;> first
        | omega
        | (obtain ⟨_, _, p⟩ := p; rcases p with p | p; exact (hi ⟨p, .inl e⟩).elim; omega)
    · rw [e] at p
      exact (hi ⟨p, .inr (by omega)⟩).elim
theorem le_acost : ∀ as : List (NL × NL), as.length ≤ acost as
  | as => by
    rcases snoc_cases as with h | ⟨r, ⟨n, v⟩, h⟩
    · subst h; exact Nat.le_refl _
    · subst h
      have ih := le_acost r
      rw [acost_snoc, List.length_append]
      simp only [List.length_singleton]
      omega
termination_by as => as.length
decreasing_by subst h; simp
theorem WF.sizes {m : M} (h : WF m) (hm : m.mode ≤ 24) : m.run.length ≤ m.count ∧ m.toks.length ≤ m.count ∧ m.attrs.length ≤ m.count := by
  have c1 := (chain_le h.ch h.gt).2
  have c2 := cur_le h (by omega)
  have bg := h.bg
  have l0 := le_sl 0 m.run
  have l1 := le_sl 1 m.run
  have l2 := le_sl 2 m.run
  have l3 := le_sl 3 m.run
  have la := le_acost m.attrs
  have lb := (atcost_le m.attrs).1
  have key : m.run.length ≤ m.count ∧ m.attrs.length ≤ m.count := by
    have p := h.p
    unfold pnd at p
    have z : ∀ l : NL, l = [] → l.length = 0 := fun l e => by rw [e]; rfl
    have z2 : ∀ l : List (NL × NL), l = [] → l.length = 0 := fun l e => by rw [e]; rfl
    rcases modes hm with e | e | e | e | e | e | e | e | e | e | e | e | e | e | e | e | e | e | e | e | e | e | e | e | e <;> rw [e] at p <;> simp only at p <;> unfold V' at *
    · obtain ⟨p1, _, p3⟩ := p
      have := z2 _ p1
      rcases p3 with p3 | p3
      · have := z _ p3; omega
      · omega
    · obtain ⟨p1, _⟩ := p
      have := z2 _ p1
      omega
    · omega
    · omega
    · omega
    · have := z _ p.1; have := z2 _ p.2.1; omega
    · have := z _ p.1; have := z2 _ p.2.1; omega
    · have := z _ p.1; have := z2 _ p.2.1; omega
    · have := z _ p.1; have := z2 _ p.2.1; omega
    · have := z _ p.1; omega
    · have := z _ p.1; omega
    · have := z _ p.2.1; omega
    · omega
    · omega
    · omega
    · have := z _ p.1; omega
    · have := z _ p.1; omega
    · have := z _ p.1; have := z2 _ p.2.1; omega
    · have := z _ p.1; have := z2 _ p.2.1; omega
    · have := z2 _ p.1; omega
    · have := z2 _ p.1; omega
    · have := z2 _ p.1; omega
    · have := z2 _ p.1; omega
    · have := z2 _ p.1; omega
    · have := z2 _ p.1; omega
  omega
/-- what the steps ask of sizes and of attribute names -/
structure SPre (m : M) : Prop where
  run : m.run.length ≤ 100000
  toks : m.toks.length ≤ 100000
  attrs : m.attrs.length ≤ 100000
  tag : m.tag.length ≤ 32
  fresh : m.mode = 12 ∨ m.mode = 13 ∨ m.mode = 14 → m.twice = false
theorem WF.spre {m : M} (h : WF m) (hm : m.mode ≤ 24) (hc : m.count ≤ 20000) : SPre m := by
  obtain ⟨a, b, c⟩ := h.sizes hm
  refine ⟨by omega, by omega, by omega, h.tg, fun e => ?_⟩
  have p := h.p
  unfold pnd at p
  rcases e with e | e | e <;> rw [e] at p <;> exact p.1
end Sm

namespace Sm
open Vaesca (Token Reader Mode)
/-! ### normal tokens, as they come -/
def closes (t o : Tk) : Bool := decide (t.kind = 2) && decide (t.name = o.name)
def joinTk (o t : Tk) : Tk := ⟨1, o.place, t.stop, o.name, o.attrs, 1, []⟩
def isOpen (t : Tk) : Bool := decide (t.kind = 1) && decide (t.ended = 0)
def oneList : Option Tk → List Tk
  | none => []
  | some o => [o]
/-- one token more: what is settled, what is held back -/
def settle1 (held : Option Tk) (t : Tk) : List Tk × Option Tk := match held with
  | some o => if closes t o = true then ([joinTk o t], none) else if isOpen t = true then ([o], some t) else ([o, t], none)
  | none => if isOpen t = true then ([], some t) else ([t], none)
def settle : Option Tk → List Tk → List Tk × Option Tk
  | h, [] => ([], h)
  | h, t :: r => ((settle1 h t).1 ++ (settle (settle1 h t).2 r).1, (settle (settle1 h t).2 r).2)
def normTk (ts : List Tk) : List Tk := (settle none ts).1 ++ oneList (settle none ts).2
theorem settle_snoc : ∀ (ts : List Tk) (h : Option Tk) (t : Tk), settle h (ts ++ [t]) = ((settle h ts).1 ++ (settle1 (settle h ts).2 t).1, (settle1 (settle h ts).2 t).2)
  | [], h, t => by simp [settle]
  | a :: r, h, t => by
    show ((settle1 h a).1 ++ (settle (settle1 h a).2 (r ++ [t])).1, (settle (settle1 h a).2 (r ++ [t])).2) = _
    rw [settle_snoc r]
    simp [settle]
/-- a token of the reader -/
structure KT (t : Tk) : Prop where
  k : t.kind ≤ 4
  e : t.ended ≤ 1
theorem GT.kt {t : Tk} (h : GT t) : KT t := ⟨h.k, h.e⟩
def HeldOk : Option Tk → Prop
  | none => True
  | some o => KT o ∧ isOpen o = true
theorem open_tok {o : Tk} (h : isOpen o = true) : tok o = .opened o.place.toNat o.name o.attrs false := by
  unfold isOpen at h
  simp only [Bool.and_eq_true, decide_eq_true_eq] at h
  unfold tok
  rw [h.1, h.2]
  rfl
theorem join_tok (o t : Tk) : tok (joinTk o t) = .opened o.place.toNat o.name o.attrs true := rfl
theorem tok_0 {t : Tk} (e : t.kind = 0) : tok t = .text t.place.toNat t.signs := by
  unfold tok
  rw [e] <;> rfl
theorem tok_1 {t : Tk} (e : t.kind = 1) : tok t = .opened t.place.toNat t.name t.attrs (t.ended == 1) := by
  unfold tok
  rw [e] <;> rfl
theorem tok_2 {t : Tk} (e : t.kind = 2) : tok t = .closed t.place.toNat t.name := by
  unfold tok
  rw [e] <;> rfl
theorem tok_3 {t : Tk} (e : t.kind = 3) : tok t = .comment t.place.toNat t.signs := by
  unfold tok
  rw [e] <;> rfl
theorem tok_4 {t : Tk} (e : t.kind = 4) : tok t = .raw t.place.toNat t.signs := by
  unfold tok
  rw [e] <;> rfl
theorem pair_tok {o t : Tk} (h : isOpen o = true) (ht : KT t) : Vaescn.pair (tok o) (tok t) = if closes t o = true then some (tok (joinTk o t)) else none := by
  rw [open_tok h, join_tok]
  unfold closes
  have hk := ht.k
  rcases (show t.kind = 0 ∨ t.kind = 1 ∨ t.kind = 2 ∨ t.kind = 3 ∨ t.kind = 4 by omega) with e | e | e | e | e
  · simp [tok, e, Vaescn.pair]
  · simp [tok, e, Vaescn.pair]
  · have et : tok t = .closed t.place.toNat t.name := tok_2 e
    rw [et, e]
    show (if (o.name == t.name) = true then some _ else none) = _
    by_cases en : t.name = o.name
    · simp [en]
    · have : ¬ o.name = t.name := fun z => en z.symm
      simp [en, this]
  · simp [tok, e, Vaescn.pair]
  · simp [tok, e, Vaescn.pair]
/-- not an open tag that may be ended: no pair begins with it -/
theorem pair_none {t : Tk} (ht : KT t) (h : isOpen t = false) (u : Token) : Vaescn.pair (tok t) u = none := by
  unfold isOpen at h
  have hk := ht.k
  have he := ht.e
  rcases (show t.kind = 0 ∨ t.kind = 1 ∨ t.kind = 2 ∨ t.kind = 3 ∨ t.kind = 4 by omega) with e | e | e | e | e
  · simp [tok, e, Vaescn.pair]
  · have e1 : t.ended = 1 := by
      simp [e] at h
      omega
    simp [tok, e, e1, Vaescn.pair]
  · simp [tok, e, Vaescn.pair]
  · simp [tok, e, Vaescn.pair]
  · simp [tok, e, Vaescn.pair]
theorem normal_one (t : Token) : Vaescn.normal [t] = [t] := by
  unfold Vaescn.normal; rfl
theorem normal_cons_none {t : Tk} (ht : KT t) (h : isOpen t = false) : ∀ l : List Token, Vaescn.normal (tok t :: l) = tok t :: Vaescn.normal l
  | [] => by rw [normal_one]; unfold Vaescn.normal; rfl
  | u :: r => by
    rw [Vaescn.normal, pair_none ht h u]
theorem normal_ok : ∀ (ts : List Tk) (h : Option Tk), HeldOk h → (∀ t ∈ ts, KT t) →
    (((settle h ts).1 ++ oneList (settle h ts).2).map tok) = Vaescn.normal ((oneList h ++ ts).map tok) ∧ HeldOk (settle h ts).2
  | [], none, _, _ => ⟨by simp [settle, oneList, Vaescn.normal], trivial⟩
  | [], some o, ho, _ => ⟨by simp [settle, oneList, normal_one], ho⟩
  | t :: r, none, _, ht => by
    have kt := ht t List.mem_cons_self
    have kr : ∀ u ∈ r, KT u := fun u hu => ht u (List.mem_cons_of_mem _ hu)
    unfold settle settle1
    by_cases e : isOpen t = true
    · rw [if_pos e]
      exact normal_ok r (some t) ⟨kt, e⟩ kr
    · have e' : isOpen t = false := by simpa using e
      rw [if_neg e]
      obtain ⟨a, b⟩ := normal_ok r none trivial kr
      refine ⟨?_, b⟩
      show List.map tok (([t] ++ (settle none r).1) ++ oneList (settle none r).2) = Vaescn.normal (tok t :: List.map tok r)
      rw [normal_cons_none kt e', List.append_assoc, List.map_append, a]
      rfl
  | t :: r, some o, ho, ht => by
    have kt := ht t List.mem_cons_self
    have kr : ∀ u ∈ r, KT u := fun u hu => ht u (List.mem_cons_of_mem _ hu)
    have pt := pair_tok ho.2 kt
    unfold settle settle1
    by_cases c : closes t o = true
    · simp only [if_pos c]
      rw [if_pos c] at pt
      obtain ⟨a, b⟩ := normal_ok r none trivial kr
      refine ⟨?_, b⟩
      show List.map tok (([joinTk o t] ++ (settle none r).1) ++ oneList (settle none r).2) = Vaescn.normal (tok o :: tok t :: List.map tok r)
      rw [Vaescn.normal, pt, List.append_assoc, List.map_append, a]
      rfl
    · simp only [if_neg c]
      rw [if_neg c] at pt
      by_cases e : isOpen t = true
      · simp only [if_pos e]
        obtain ⟨a, b⟩ := normal_ok r (some t) ⟨kt, e⟩ kr
        refine ⟨?_, b⟩
        show List.map tok (([o] ++ (settle (some t) r).1) ++ oneList (settle (some t) r).2) = Vaescn.normal (tok o :: tok t :: List.map tok r)
        rw [Vaescn.normal, pt, List.append_assoc, List.map_append, a]
        rfl
      · have e' : isOpen t = false := by simpa using e
        simp only [if_neg e]
        obtain ⟨a, b⟩ := normal_ok r none trivial kr
        refine ⟨?_, b⟩
        show List.map tok (([o, t] ++ (settle none r).1) ++ oneList (settle none r).2) = Vaescn.normal (tok o :: tok t :: List.map tok r)
        rw [Vaescn.normal, pt]
        show List.map tok ([o, t] ++ (settle none r).1 ++ oneList (settle none r).2) = tok o :: Vaescn.normal (tok t :: List.map tok r)
        rw [normal_cons_none kt e', List.append_assoc, List.map_append, a]
        rfl
theorem norm_ok {ts : List Tk} (h : ∀ t ∈ ts, KT t) : (normTk ts).map tok = Vaescn.normal (ts.map tok) := (normal_ok ts none trivial h).1
def sTok (t : Tk) : NL := Vaescn.shortToken (tok t)
theorem take_open {t : Tk} (e : isOpen t = true) : Vaescn.take none (tok t) = ([], some (tok t)) := by
  rw [open_tok e]; rfl
theorem take_else {t : Tk} (kt : KT t) (e : ¬ isOpen t = true) : Vaescn.take none (tok t) = (sTok t, none) := by
  have hk := kt.k
  have he := kt.e
  unfold isOpen at e
  unfold sTok
  rcases (show t.kind = 0 ∨ t.kind = 1 ∨ t.kind = 2 ∨ t.kind = 3 ∨ t.kind = 4 by omega) with q | q | q | q | q
  · rw [tok_0 q]; rfl
  · have e1 : t.ended = 1 := by
      simp [q] at e
      omega
    rw [tok_1 q, e1]; rfl
  · rw [tok_2 q]; rfl
  · rw [tok_3 q]; rfl
  · rw [tok_4 q]; rfl
theorem take_some (o t : Token) : Vaescn.take (some o) t = match Vaescn.pair o t with
    | some e => (Vaescn.shortToken e, none)
    | none => (Vaescn.shortToken o ++ (Vaescn.take none t).1, (Vaescn.take none t).2) := rfl
theorem take_ok : ∀ (ts : List Tk) (h : Option Tk), HeldOk h → (∀ t ∈ ts, KT t) →
    Vaescn.takeAll (h.map tok) (ts.map tok) = ((settle h ts).1.flatMap sTok, (settle h ts).2.map tok) ∧ HeldOk (settle h ts).2
  | [], h, ho, _ => ⟨rfl, ho⟩
  | t :: r, h, ho, ht => by
    have kt := ht t List.mem_cons_self
    have kr : ∀ u ∈ r, KT u := fun u hu => ht u (List.mem_cons_of_mem _ hu)
    have one : Vaescn.take (h.map tok) (tok t) = ((settle1 h t).1.flatMap sTok, (settle1 h t).2.map tok) ∧ HeldOk (settle1 h t).2 := by
      unfold settle1
      cases h with
      | none =>
        by_cases e : isOpen t = true
        · simp only [if_pos e, Option.map_none]
          exact ⟨take_open e, kt, e⟩
        · simp only [if_neg e, Option.map_none]
          exact ⟨by rw [take_else kt e]; simp, trivial⟩
      | some o =>
        rw [Option.map_some, take_some, pair_tok ho.2 kt]
        by_cases c : closes t o = true
        · simp only [if_pos c]
          exact ⟨by simp [sTok], trivial⟩
        · simp only [if_neg c]
          by_cases e : isOpen t = true
          · simp only [if_pos e, take_open e]
            exact ⟨by simp [sTok], kt, e⟩
          · simp only [if_neg e, take_else kt e]
            exact ⟨by simp [sTok], trivial⟩
    obtain ⟨o1, o2⟩ := one
    obtain ⟨a, b⟩ := take_ok r (settle1 h t).2 o2 kr
    refine ⟨?_, b⟩
    show (let a := Vaescn.take (h.map tok) (tok t); let b := Vaescn.takeAll a.2 (r.map tok); (a.1 ++ b.1, b.2)) = _
    rw [o1]
    simp only [a]
    show _ = (((settle1 h t).1 ++ (settle (settle1 h t).2 r).1).flatMap sTok, _)
    rw [List.flatMap_append]
    rfl
/-- nothing grows by being settled -/
theorem short_join {o t : Tk} (h : closes t o = true) (ho : isOpen o = true) (kt : KT t) : (sTok (joinTk o t)).length ≤ (sTok o).length + (sTok t).length := by
  unfold closes at h
  simp only [Bool.and_eq_true, decide_eq_true_eq] at h
  have et : tok t = .closed t.place.toNat t.name := tok_2 h.1
  unfold sTok
  rw [open_tok ho, join_tok, et]
  have q := (atcost_le o.attrs).2
  unfold acost atcost at q
  show (([60] ++ o.name ++ Vaescn.shortAttrs true o.attrs ++ [47, 62] : NL)).length ≤ (([60] ++ o.name ++ Vaescn.shortAttrs false o.attrs ++ [62] : NL)).length + (([60, 47] ++ t.name ++ [62] : NL)).length
  simp only [List.length_append, List.length_cons, List.length_nil]
  omega
theorem settle_len : ∀ (ts : List Tk) (h : Option Tk), HeldOk h → (∀ t ∈ ts, KT t) →
    (((settle h ts).1 ++ oneList (settle h ts).2).flatMap sTok).length ≤ ((oneList h ++ ts).flatMap sTok).length ∧
    ((settle h ts).1 ++ oneList (settle h ts).2).length ≤ (oneList h ++ ts).length
  | [], none, _, _ => ⟨Nat.le_refl _, Nat.le_refl _⟩
  | [], some o, _, _ => ⟨Nat.le_refl _, Nat.le_refl _⟩
  | t :: r, h, ho, ht => by
    have kt := ht t List.mem_cons_self
    have kr : ∀ u ∈ r, KT u := fun u hu => ht u (List.mem_cons_of_mem _ hu)
    have one : HeldOk (settle1 h t).2 ∧ (((settle1 h t).1 ++ oneList (settle1 h t).2).flatMap sTok).length ≤ ((oneList h ++ [t]).flatMap sTok).length ∧ ((settle1 h t).1 ++ oneList (settle1 h t).2).length ≤ (oneList h ++ [t]).length := by
      unfold settle1
      cases h with
      | none =>
        by_cases e : isOpen t = true
        · simp only [if_pos e]
          exact ⟨⟨kt, e⟩, by simp [oneList], by simp [oneList]⟩
        · simp only [if_neg e]
          exact ⟨trivial, by simp [oneList], by simp [oneList]⟩
      | some o =>
        by_cases c : closes t o = true
        · simp only [if_pos c]
          have := short_join c ho.2 kt
          exact ⟨trivial, by simp [oneList]; omega, by simp [oneList]⟩
        · simp only [if_neg c]
          by_cases e : isOpen t = true
          · simp only [if_pos e]
            exact ⟨⟨kt, e⟩, by simp [oneList], by simp [oneList]⟩
          · simp only [if_neg e]
            exact ⟨trivial, by simp [oneList], by simp [oneList]⟩
    obtain ⟨o1, o2, o3⟩ := one
    obtain ⟨a, b⟩ := settle_len r (settle1 h t).2 o1 kr
    unfold settle
    simp only [List.flatMap_append, List.length_append, List.flatMap_cons, List.length_cons, List.flatMap_nil, List.length_nil] at *
    omega
theorem norm_len {ts : List Tk} (h : ∀ t ∈ ts, KT t) : ((normTk ts).flatMap sTok).length ≤ (ts.flatMap sTok).length ∧ (normTk ts).length ≤ ts.length := settle_len ts none trivial h
end Sm

theorem Sm.tokBeq (a b : Vaesca.Token) : (a == b) = true ↔ a = b := by
  cases a <;> cases b <;>
    first
    | (constructor <;> (intro z; cases z); done)
    | (simp only [Vaesca.Token.text.injEq, Vaesca.Token.opened.injEq, Vaesca.Token.closed.injEq, Vaesca.Token.comment.injEq, Vaesca.Token.raw.injEq]
       first
       | (show ((_ == _) && (_ == _)) = true ↔ _; simp only [Bool.and_eq_true, beq_iff_eq]; done)
       | (show ((_ == _) && ((_ == _) && ((_ == _) && (_ == _)))) = true ↔ _; simp only [Bool.and_eq_true, beq_iff_eq]; done))
instance Sm.lawTok : LawfulBEq Vaesca.Token where
  rfl {a} := (Sm.tokBeq a a).mpr rfl
  eq_of_beq {a b} h := (Sm.tokBeq a b).mp h
namespace Sm
open Vaesca (Token Reader Mode)
/-! ### a fault keeps everything -/
section
variable {m m' : M} {r : Reader} {c : Nat}
def Flt (m m' : M) : Prop := m'.mode = 26 → ∃ k, m' = m.fail k
theorem Flt.fail (k : Nat) : Flt m (m.fail k) := fun _ => ⟨k, rfl⟩
theorem Flt.no {k : Nat} (h : m'.mode = k) (hk : k ≠ 26) : Flt m m' := fun e => (hk (h.symm.trans e)).elim
theorem Flt.nb (h : (m'.mode == 26) = false) : Flt m m' := fun e => by rw [e] at h; cases h
theorem Flt.nm (h : m'.mode = m.mode) (hm : m.mode ≠ 26) : Flt m m' := fun e => (hm (h.symm.trans e)).elim
theorem Flt.nk (k : Nat) (h : m'.mode = k) (hk : k ≤ 24) : Flt m m' := fun e => by omega
theorem flt_behind : Flt m (m.sBehind c) := by
  unfold M.sBehind M.finOpen
  (repeat' split) <;> first | exact .fail _ | exact .nb rfl
theorem flt_behind2 (h : Vaesca.isBlank c = true ∨ c = 47 ∨ c = 62) : Flt m (m'.sBehind c) := by
  unfold M.sBehind M.finOpen
  split
  · exact .nb rfl
  split
  · exact .nb rfl
  split
  · split
    · exact .nb rfl
    · exact .nb rfl
  · rename_i h1 h2 h3
    rcases h with h | h | h
    · exact (h1 h).elim
    · exact (h2 h).elim
    · exact (h3 h).elim
theorem flt_ref {back : Nat} (hm : m.mode ≤ 24) (hb : back ≤ 24) : Flt m (m.sRef back c) := by
  unfold M.sRef M.finRef
  (repeat' split) <;> first | exact .fail _ | exact .nk back rfl (by omega) | exact .nm rfl (show m.mode ≠ 26 by omega)
theorem flt_quoted {q ref : Nat} (hm : m.mode ≤ 24) (hb : ref ≤ 24) : Flt m (m.sQuoted q ref c) := by
  unfold M.sQuoted
  (repeat' split) <;> first | exact .fail _ | exact .nb rfl | exact .nk ref rfl (by omega) | exact .nm rfl (show m.mode ≠ 26 by omega)
theorem step_fault (hm : m.mode ≤ 24) : Flt m (m.step c) := by
  have nm : m.mode ≠ 26 := by omega
  rcases modes hm with e | e | e | e | e | e | e | e | e | e | e | e | e | e | e | e | e | e | e | e | e | e | e | e | e
  · rw [step_0 e]
    unfold M.sText; (repeat' split) <;> first | exact .nb rfl | exact .nm rfl nm
  · rw [step_1 e]; exact flt_ref hm (by decide)
  · rw [step_2 e]; exact flt_ref hm (by decide)
  · rw [step_3 e]; exact flt_ref hm (by decide)
  · rw [step_4 e]; exact flt_ref hm (by decide)
  · rw [step_5 e]
    unfold M.sLess M.only; (repeat' split) <;> first | exact .fail _ | exact .nb rfl
  · rw [step_6 e]
    unfold M.sOpenName M.addTag; (repeat' split) <;> first | exact .fail _ | exact .nm rfl nm | exact flt_behind
  · rw [step_7 e]
    unfold M.sBehindClose; (repeat' split) <;> first | exact .fail _ | exact .nb rfl
  · rw [step_8 e]
    unfold M.sCloseName M.addTag M.finClose; (repeat' split) <;> first | exact .fail _ | exact .nb rfl | exact .nm rfl nm
  · rw [step_9 e]
    unfold M.sGap; (repeat' split) <;> first | exact .nb rfl | exact flt_behind
  · rw [step_10 e]
    unfold M.sAttrName M.addAttr
    by_cases c0 : Vaesca.isNameSign c = true
    · rw [if_pos c0]; split
      · exact .nm rfl nm
      · exact .fail _
    rw [if_neg c0]; split
    · exact .fail _
    split
    · exact .fail _
    split
    · exact .nb rfl
    · rename_i h1 h2 h3
      refine flt_behind2 ?_
      rcases Decidable.not_not.mp h1 with z | z | z | z
      · exact .inl z
      · exact .inr (.inl z)
      · exact .inr (.inr z)
      · exact (h3 z).elim
  · rw [step_11 e]
    unfold M.sEq; (repeat' split) <;> first | exact .fail _ | exact .nb rfl
  · rw [step_12 e]; exact flt_quoted hm (by decide)
  · rw [step_13 e]; exact flt_quoted hm (by decide)
  · rw [step_14 e]
    unfold M.sBare; split
    · exact .nm rfl nm
    split
    · exact .nb rfl
    split
    · rename_i h
      exact flt_behind2 (h.imp id .inr)
    · exact .fail _
  · rw [step_15 e]; exact flt_behind
  · rw [step_16 e]
    unfold M.sSlash M.finOpen; (repeat' split) <;> first | exact .fail _ | exact .nb rfl
  · rw [step_17 e]
    unfold M.sBang M.only; (repeat' split) <;> first | exact .fail _ | exact .nb rfl
  · rw [step_18 e]
    unfold M.sDash M.only; (repeat' split) <;> first | exact .fail _ | exact .nb rfl
  · rw [step_19 e]
    unfold M.sCom0; (repeat' split) <;> first | exact .nb rfl | exact .nm rfl nm
  · rw [step_20 e]
    unfold M.sCom1; (repeat' split) <;> first | exact .nb rfl | exact .nm rfl nm
  · rw [step_21 e]
    unfold M.sCom2; (repeat' split) <;> first | exact .nb rfl | exact .nm rfl nm
  · rw [step_22 e]
    unfold M.sRaw; (repeat' split) <;> first | exact .nb rfl | exact .nm rfl nm
  · rw [step_23 e]
    unfold M.sRawLess; (repeat' split) <;> first | exact .nb rfl | exact .nm rfl nm
  · rw [step_24 e]
    unfold M.sRawClose
    generalize (if m.body.length < m.tag.length then m.tag.getD m.body.length 0 else 62) = wanted
    split
    · exact .fail _
    split
    · exact .nm rfl nm
    · unfold M.finRaw M.finClose
      split
      · exact .nb rfl
      · exact .nb rfl
/-- the tokens, whatever the mode -/
structure TB (m : M) : Prop where
  g : ∀ t ∈ m.toks, GT t
  s : (m.toks.flatMap sTok).length ≤ m.count
  n : m.toks.length ≤ m.count
theorem WF.tb (h : WF m) (hm : m.mode ≤ 25) : TB m := by
  have a := chain_le h.ch h.gt
  have b := cur_le h hm
  refine ⟨h.gt, ?_, by omega⟩
  show (m.toks.flatMap fun t => Vaescn.shortToken (tok t)).length ≤ _
  omega
theorem TB.fail (h : TB m) (k : Nat) : TB (m.fail k) := ⟨h.g, h.s, h.n⟩
theorem read_tb : ∀ (l : NL) (m : M), WF m → m.mode ≤ 24 → (∀ c ∈ l, c < 256) → TB (m.read l) ∧ (m.read l).count ≤ m.count + l.length
  | [], m, h, hm, _ => ⟨h.tb (by omega), Nat.le_refl _⟩
  | c :: s, m, h, hm, hc => by
    have W := eat_wf h hm (hc c (List.mem_cons_self))
    unfold M.read
    unfold M.eat at W
    by_cases e : (m.step c).mode = 26
    · rw [if_pos e]
      obtain ⟨k, q⟩ := step_fault hm e
      rw [q]
      exact ⟨(h.tb (by omega)).fail k, by show m.count ≤ _; omega⟩
    · rw [if_neg e] at W
      rw [if_neg e]
      obtain ⟨w1, w2, w3⟩ := W.resolve_left e
      obtain ⟨a, b⟩ := read_tb s _ w1 w2 fun d hd => hc d (List.mem_cons_of_mem _ hd)
      refine ⟨a, ?_⟩
      rw [w3] at b
      rw [List.length_cons]; omega
theorem fin_tb (h : TB m) (h2 : m.mode = 26 ∨ (WF m ∧ m.mode ≤ 24)) : TB m.fin ∧ m.fin.count = m.count := by
  rcases h2 with e | ⟨w, e⟩
  · rw [fin_fault e]; exact ⟨h, rfl⟩
  · unfold M.fin
    rw [if_neg (by omega)]
    split
    · exact ⟨h.fail 7, rfl⟩
    split
    · exact ⟨⟨h.g, h.s, h.n⟩, rfl⟩
    · rename_i e1 e2
      have e0 : m.mode = 0 := Decidable.not_not.mp e1
      obtain ⟨p1, p2, p3⟩ : m.attrs = [] ∧ m.body = [] ∧ (m.run = [] ∨ m.begun + sl 0 m.run ≤ m.count) := pat w e0
      have p4 := p3.resolve_left e2
      have q := w.ch
      have ni : ¬ m.idle := fun z => e2 z.1
      rw [cur_busy ni] at q
      have g1 := gtText w.bg p4 e2
      have q2 : Chain 0 (m.toks ++ [⟨0, m.begun, m.count, [], [], 0, m.run⟩]) m.count := chain_snoc q rfl
      have g2 : ∀ t ∈ m.toks ++ [⟨0, m.begun, m.count, [], [], 0, m.run⟩], GT t := fun t ht => by
        rcases List.mem_append.mp ht with ht | ht
        · exact w.gt t ht
        · rw [List.mem_singleton.mp ht]; exact g1
      obtain ⟨a, b⟩ := chain_le q2 g2
      exact ⟨⟨g2, by show List.length (List.flatMap (fun t => Vaescn.shortToken (tok t)) (m.toks ++ [⟨0, m.begun, m.count, [], [], 0, m.run⟩])) ≤ m.count; omega, by show List.length (m.toks ++ [_]) ≤ m.count; omega⟩, rfl⟩
theorem rd_tb (l : NL) (hl : ∀ c ∈ l, c < 256) : TB (rd l) ∧ (rd l).count ≤ l.length := by
  obtain ⟨a, b⟩ := read_tb l M.new WF.new (by decide) hl
  have w := (read_ok l M.new Vaesca.fresh Rel.new WF.new (by decide) hl).2
  obtain ⟨c, d⟩ := fin_tb a (w.imp id fun z => ⟨z.1, z.2.1⟩)
  refine ⟨c, ?_⟩
  show (M.new.read l).fin.count ≤ _
  rw [d]
  have : M.new.count = 0 := rfl
  omega
end
/-! ### answers -/
def faultA (m : M) : NL := [1, m.fk, m.count]
def readA (m : M) (w : NL) : NL := if m.mode = 26 then faultA m else 0 :: w.length :: w
def told (ts : List Tk) : List NL := ts.map fun t => Vaescc.shownToken (tok t)
def minA (l : NL) : NL := readA (rd l) ((normTk (rd l).toks).flatMap sTok)
def laidTk (w : Int) (t : Tk) : NL := if 0 ≤ w then Vaescn.laidToken w.toNat (tok t) else []
def laidA (w : Int) (l : NL) : NL := readA (rd l) ((rd l).toks.flatMap (laidTk w))
def savedK (ks : List Nat) (ts : List Tk) : Int := ((ts.filter fun t => ks.contains t.kind).map fun t => t.stop - t.place - ((sTok t).length : Int)).sum
def savedI (l : NL) : List Int := if (rd l).mode = 26 then (faultA (rd l)).map Int.ofNat else
  [0, savedK [0] (rd l).toks, savedK [1, 2] (rd l).toks, (((rd l).toks.flatMap sTok).length : Int) - (((normTk (rd l).toks).flatMap sTok).length : Int)]
def sameA (a b : NL) : NL := if (rd a).mode = 26 then [1, 0, (rd a).fk, (rd a).count] else if (rd b).mode = 26 then [1, 1, (rd b).fk, (rd b).count] else
  [0, if told (normTk (rd a).toks) = told (normTk (rd b).toks) then 1 else 0]
def toksA (l : NL) : NL := if (rd l).mode = 26 then faultA (rd l) else 0 :: (normTk (rd l).toks).length :: (told (normTk (rd l).toks)).flatten
section
variable {l : NL}
theorem rel_wrong {m : M} {r : Reader} (R : Rel m r) : r.wrong = if m.mode = 26 then some (m.fk, m.count) else none := R.wrong
theorem kts {m : M} (h : TB m) : ∀ t ∈ m.toks, KT t := fun t ht => (h.g t ht).kt
theorem minTokens_eq {m : M} {r : Reader} (R : Rel m r) (h : TB m) : Vaescn.minTokens r.tokens = (normTk m.toks).flatMap sTok := by
  unfold Vaescn.minTokens
  rw [R.toks, ← norm_ok (kts h), List.flatMap_map]
  rfl
theorem min_eq (hl : ∀ c ∈ l, c < 256) : (match (Vaesca.read l).wrong with | some (k, p) => [1, k, p] | none => 0 :: Vaescn.counted (Vaescn.minTokens (Vaesca.read l).tokens)) = minA l := by
  obtain ⟨R, _⟩ := rd_ok l hl
  have tb := (rd_tb l hl).1
  rw [R.wrong, minTokens_eq R tb]
  unfold minA readA
  by_cases e : (rd l).mode = 26
  · rw [if_pos e, if_pos e] <;> rfl
  · rw [if_neg e, if_neg e] <;> rfl
theorem laid_eq {w : Int} (hw : 0 ≤ w) (hl : ∀ c ∈ l, c < 256) : (match (Vaesca.read l).wrong with | some (k, p) => [1, k, p] | none => 0 :: Vaescn.counted (Vaescn.laid w.toNat (Vaesca.read l).tokens)) = laidA w l := by
  obtain ⟨R, _⟩ := rd_ok l hl
  have e : Vaescn.laid w.toNat (Vaesca.read l).tokens = (rd l).toks.flatMap (laidTk w) := by
    unfold Vaescn.laid laidTk
    rw [R.toks, List.flatMap_map]
    simp only [if_pos hw]
  rw [R.wrong, e]
  unfold laidA readA
  by_cases e : (rd l).mode = 26
  · rw [if_pos e, if_pos e] <;> rfl
  · rw [if_neg e, if_neg e] <;> rfl
theorem toks_eq (hl : ∀ c ∈ l, c < 256) : (match (Vaesca.read l).wrong with | some (k, p) => [1, k, p] | none => 0 :: Vaescn.shownTokens (Vaescn.normal (Vaesca.read l).tokens)) = toksA l := by
  obtain ⟨R, _⟩ := rd_ok l hl
  have tb := (rd_tb l hl).1
  rw [R.wrong, R.toks, ← norm_ok (kts tb)]
  unfold toksA
  by_cases e : (rd l).mode = 26
  · rw [if_pos e, if_pos e] <;> rfl
  · rw [if_neg e, if_neg e]
    show 0 :: Vaescc.shownTokens _ = _
    unfold Vaescc.shownTokens told
    rw [List.length_map, List.flatMap_map]
    rfl
/-! shown tokens tell tokens apart -/
theorem counted_inj : ∀ {a b x y : NL}, a.length :: a ++ x = b.length :: b ++ y → a = b ∧ x = y := fun {a b x y} h => by
  have h1 := List.cons.inj h
  exact List.append_inj h1.2 h1.1
theorem attrs_inj : ∀ {as bs : List (NL × NL)}, as.length = bs.length → (as.flatMap fun a => Vaescc.counted a.1 ++ Vaescc.counted a.2) = (bs.flatMap fun a => Vaescc.counted a.1 ++ Vaescc.counted a.2) → as = bs
  | [], [], _, _ => rfl
  | [], _ :: _, h, _ => by cases h
  | _ :: _, [], h, _ => by cases h
  | (n, v) :: as, (n', v') :: bs, h, e => by
    rw [List.flatMap_cons, List.flatMap_cons, List.append_assoc, List.append_assoc] at e
    obtain ⟨e1, e2⟩ := counted_inj (a := n) (b := n') e
    obtain ⟨e3, e4⟩ := counted_inj (a := v) (b := v') e2
    have ih := attrs_inj (as := as) (bs := bs) (by simpa using h) e4
    rw [e1, e3, ih]
theorem shown_plain {a b : Token} : Vaescc.shownToken a = Vaescc.shownToken b ↔ Vaescn.plain a = Vaescn.plain b := by
  constructor
  · intro h
    cases a <;> cases b <;> simp only [Vaescc.shownToken, List.cons.injEq] at h <;> first
      | (exfalso; omega)
      | (obtain ⟨_, h⟩ := h
         have := List.cons.inj h
         simp only [Vaescn.plain]
         rw [this.2])
      | skip
    obtain ⟨_, h1, h2⟩ := h
    obtain ⟨e1, e2⟩ := counted_inj h2
    have e3 := List.cons.inj e2
    have e4 := attrs_inj e3.1 e3.2
    simp only [Vaescn.plain]
    rw [e1, e4]
    have key : ∀ a b : Bool, (if a = true then 1 else 0) = (if b = true then (1 : Nat) else 0) → a = b := by decide
    rw [key _ _ h1]
  · intro h
    cases a <;> cases b <;> simp only [Vaescn.plain] at h <;> cases h <;> rfl
theorem told_plain : ∀ {as bs : List Tk}, told as = told bs ↔ (as.map tok).map Vaescn.plain = (bs.map tok).map Vaescn.plain
  | [], [] => by simp [told]
  | [], _ :: _ => by simp [told]
  | _ :: _, [] => by simp [told]
  | a :: as, b :: bs => by
    have ih := told_plain (as := as) (bs := bs)
    unfold told at ih ⊢
    simp only [List.map_cons, List.cons.injEq]
    rw [shown_plain, ih]
theorem same_eq {a b : NL} (ha : ∀ c ∈ a, c < 256) (hb : ∀ c ∈ b, c < 256) : (match (Vaesca.read a).wrong, (Vaesca.read b).wrong with
    | some (k, p), _ => [1, 0, k, p]
    | none, some (k, p) => [1, 1, k, p]
    | none, none => [0, if (Vaescn.normal (Vaesca.read a).tokens).map Vaescn.plain == (Vaescn.normal (Vaesca.read b).tokens).map Vaescn.plain then 1 else 0]) = sameA a b := by
  obtain ⟨R, _⟩ := rd_ok a ha
  obtain ⟨S, _⟩ := rd_ok b hb
  have ta := (rd_tb a ha).1
  have tb := (rd_tb b hb).1
  rw [R.wrong, S.wrong, R.toks, S.toks, ← norm_ok (kts ta), ← norm_ok (kts tb)]
  unfold sameA
  by_cases e1 : (rd a).mode = 26
  · rw [if_pos e1, if_pos e1]
  · rw [if_neg e1, if_neg e1]
    by_cases e2 : (rd b).mode = 26
    · rw [if_pos e2, if_pos e2]
    · rw [if_neg e2, if_neg e2]
      have q := told_plain (as := normTk (rd a).toks) (bs := normTk (rd b).toks)
      by_cases e3 : told (normTk (rd a).toks) = told (normTk (rd b).toks)
      · rw [if_pos e3, if_pos (by simpa using q.mp e3)]
      · rw [if_neg e3, if_neg (by simpa using fun z => e3 (q.mpr z))]
/-! what is saved -/
theorem place_tok {t : Tk} (h : KT t) : Vaescn.placeOf (tok t) = t.place.toNat := by
  have hk := h.k
  rcases (show t.kind = 0 ∨ t.kind = 1 ∨ t.kind = 2 ∨ t.kind = 3 ∨ t.kind = 4 by omega) with q | q | q | q | q
  · rw [tok_0 q]; rfl
  · rw [tok_1 q]; rfl
  · rw [tok_2 q]; rfl
  · rw [tok_3 q]; rfl
  · rw [tok_4 q]; rfl
theorem lengths_eq : ∀ {ts : List Tk} {s : Int} {n : Nat}, Chain s ts n → (∀ t ∈ ts, GT t) → Vaescn.lengths n (ts.map tok) = ts.map fun t => (t.stop - t.place).toNat
  | [], _, _, _, _ => rfl
  | [t], s, n, h, g => by
    have e : t.stop = (n : Int) := h.2
    have := (g t List.mem_cons_self).p
    show [n - Vaescn.placeOf (tok t)] = [(t.stop - t.place).toNat]
    rw [place_tok (g t List.mem_cons_self).kt, e]
    congr 1
    omega
  | t :: u :: r, s, n, h, g => by
    have ih := lengths_eq (ts := u :: r) h.2 fun v hv => g v (List.mem_cons_of_mem _ hv)
    have gt := g t List.mem_cons_self
    have gu := g u (List.mem_cons_of_mem _ List.mem_cons_self)
    have hp : u.place = t.stop := h.2.1
    show (Vaescn.placeOf (tok u) - Vaescn.placeOf (tok t)) :: Vaescn.lengths n ((u :: r).map tok) = _
    rw [ih, place_tok gt.kt, place_tok gu.kt]
    show _ = (t.stop - t.place).toNat :: _
    congr 1
    have := gt.p
    have := gu.p
    omega
theorem total_sum (l : NL) : Vaescn.total l = l.sum := by
  unfold Vaescn.total
  rw [List.sum_eq_foldl]
theorem part_eq (f : Token → Bool) (ks : List Nat) : ∀ {ts : List Tk}, (∀ t ∈ ts, GT t) → (∀ t ∈ ts, f (tok t) = ks.contains t.kind) →
    (((((ts.map tok).zip (ts.map fun t => (t.stop - t.place).toNat)).filter fun t => f t.1).map fun t => t.2 - (Vaescn.shortToken t.1).length).sum : Nat) = savedK ks ts
  | [], _, _ => rfl
  | t :: r, g, hf => by
    have ih := part_eq f ks (ts := r) (fun v hv => g v (List.mem_cons_of_mem _ hv)) fun v hv => hf v (List.mem_cons_of_mem _ hv)
    have gt := g t List.mem_cons_self
    have e := hf t List.mem_cons_self
    unfold savedK at ih ⊢
    simp only [List.map_cons, List.zip_cons_cons, List.filter_cons, e]
    by_cases c : ks.contains t.kind = true
    · simp only [if_pos c, List.map_cons, List.sum_cons]
      have := gt.s
      have := gt.l
      unfold sTok at ih ⊢
      omega
    · simp only [if_neg c]
      exact ih
theorem run_tok {t : Tk} (h : KT t) : Vaescn.isRun (tok t) = [0].contains t.kind := by
  have hk := h.k
  rcases (show t.kind = 0 ∨ t.kind = 1 ∨ t.kind = 2 ∨ t.kind = 3 ∨ t.kind = 4 by omega) with q | q | q | q | q
  · rw [tok_0 q, q]; rfl
  · rw [tok_1 q, q]; rfl
  · rw [tok_2 q, q]; rfl
  · rw [tok_3 q, q]; rfl
  · rw [tok_4 q, q]; rfl
theorem tag_tok {t : Tk} (h : KT t) : Vaescn.isTag (tok t) = [1, 2].contains t.kind := by
  have hk := h.k
  rcases (show t.kind = 0 ∨ t.kind = 1 ∨ t.kind = 2 ∨ t.kind = 3 ∨ t.kind = 4 by omega) with q | q | q | q | q
  · rw [tok_0 q, q]; rfl
  · rw [tok_1 q, q]; rfl
  · rw [tok_2 q, q]; rfl
  · rw [tok_3 q, q]; rfl
  · rw [tok_4 q, q]; rfl
theorem total_short (ts : List Tk) : Vaescn.total ((ts.map tok).map fun t => (Vaescn.shortToken t).length) = (ts.flatMap sTok).length := by
  rw [total_sum, List.length_flatMap, List.map_map]
  rfl
theorem saved_eq (hl : ∀ c ∈ l, c < 256) : ((match (Vaesca.read l).wrong with | some (k, p) => [1, k, p] | none => 0 :: Vaescn.saved l).map Int.ofNat) = savedI l := by
  obtain ⟨R, W⟩ := rd_ok l hl
  have tb := (rd_tb l hl).1
  rw [R.wrong]
  unfold savedI
  by_cases e : (rd l).mode = 26
  · rw [if_pos e, if_pos e]; rfl
  · rw [if_neg e, if_neg e]
    obtain ⟨w, w1, w2⟩ := W.resolve_left e
    have q := w.ch
    have pr : (rd l).run = [] := by
      have p := w.p
      unfold pnd at p
      rw [w1] at p
      exact p
    rw [cur_idle ⟨pr, .inr (by omega)⟩, w2] at q
    have ln := lengths_eq q w.gt
    have es : Vaescn.saved l = [Vaescn.total ((((Vaesca.read l).tokens.zip (Vaescn.lengths l.length (Vaesca.read l).tokens)).filter fun t => Vaescn.isRun t.1).map fun t => t.2 - (Vaescn.shortToken t.1).length),
      Vaescn.total ((((Vaesca.read l).tokens.zip (Vaescn.lengths l.length (Vaesca.read l).tokens)).filter fun t => Vaescn.isTag t.1).map fun t => t.2 - (Vaescn.shortToken t.1).length),
      Vaescn.total ((Vaesca.read l).tokens.map fun t => (Vaescn.shortToken t).length) - (Vaescn.minTokens (Vaesca.read l).tokens).length] := rfl
    show List.map Int.ofNat (0 :: Vaescn.saved l) = _
    rw [es, R.toks, ln]
    have p1 := part_eq Vaescn.isRun [0] w.gt fun t ht => run_tok (w.gt t ht).kt
    have p2 := part_eq Vaescn.isTag [1, 2] w.gt fun t ht => tag_tok (w.gt t ht).kt
    have p3 : Vaescn.minTokens ((rd l).toks.map tok) = (normTk (rd l).toks).flatMap sTok := by
      unfold Vaescn.minTokens
      rw [← norm_ok (kts tb), List.flatMap_map]
      rfl
    have p4 := (norm_len (kts tb)).1
    rw [← p1, ← p2, p3, total_short, total_sum, total_sum]
    rw [← Int.ofNat_sub p4]
    rfl
end
end Sm

set_option linter.all false
namespace Sm
/-! ### bytes stay bytes -/
structure BY (m : M) : Prop where
  r : ∀ c ∈ m.run, c < 256
  a : ∀ a ∈ m.attrs, ∀ c ∈ a.2, c < 256
  t : ∀ t ∈ m.toks, ∀ a ∈ t.attrs, ∀ c ∈ a.2, c < 256
section
variable {m : M} {c : Nat}
theorem app_lt {l s : NL} (h : ∀ c ∈ l, c < 256) (hs : ∀ c ∈ s, c < 256) : ∀ c ∈ l ++ s, c < 256 := fun c hc => (List.mem_append.mp hc).elim (h c) (hs c)
theorem one_lt (hc : c < 256) : ∀ d ∈ [c], d < 256 := fun d hd => by rw [List.mem_singleton.mp hd]; exact hc
theorem nil_lt : ∀ d ∈ ([] : NL), d < 256 := fun d hd => nomatch hd
theorem two_lt {b : Nat} (hb : b < 256) (hc : c < 256) : ∀ d ∈ [b, c], d < 256 := app_lt (l := [b]) (one_lt hb) (one_lt hc)
theorem three_lt {a b : Nat} (ha : a < 256) (hb : b < 256) (hc : c < 256) : ∀ d ∈ [a, b, c], d < 256 := app_lt (l := [a]) (one_lt ha) (two_lt hb hc)
theorem tok_by {ts : List Tk} {y : Tk} (h : ∀ t ∈ ts, ∀ a ∈ t.attrs, ∀ c ∈ a.2, c < 256) (ht : ∀ a ∈ y.attrs, ∀ c ∈ a.2, c < 256) : ∀ t ∈ ts ++ [y], ∀ a ∈ t.attrs, ∀ c ∈ a.2, c < 256 := fun u hu => by
  rcases List.mem_append.mp hu with q | q
  · exact h u q
  · rw [List.mem_singleton.mp q]; exact ht
theorem noattr : ∀ a ∈ ([] : List (NL × NL)), ∀ c ∈ a.2, c < 256 := fun _ h => nomatch h
theorem BY.finRun (h : BY m) (k : Nat) (s : Int) : BY (m.finRun k s) := ⟨nil_lt, h.a, tok_by h.t noattr⟩
theorem BY.finAttr (h : BY m) : BY m.finAttr := ⟨nil_lt, fun a ha => by
  rcases List.mem_append.mp ha with q | q
  · exact h.a a q
  · rw [List.mem_singleton.mp q]; exact h.r, h.t⟩
theorem BY.finOpen (h : BY m) (e : Nat) : BY (m.finOpen e) := by
  unfold M.finOpen
  split
  · exact ⟨h.r, noattr, tok_by h.t h.a⟩
  · exact ⟨h.r, noattr, tok_by h.t h.a⟩
theorem BY.finClose (h : BY m) : BY m.finClose := ⟨h.r, h.a, tok_by h.t noattr⟩
theorem BY.finRaw (h : BY m) : BY m.finRaw := by
  unfold M.finRaw
  split
  · exact BY.finClose (m := { m with begun := m.rawPlace, body := [] }) ⟨h.r, h.a, h.t⟩
  · exact BY.finClose (m := { m.finRun 4 m.rawPlace with begun := m.rawPlace, body := [] }) ⟨nil_lt, h.a, tok_by h.t noattr⟩
theorem BY.fail (h : BY m) (k : Nat) : BY (m.fail k) := ⟨h.r, h.a, h.t⟩
theorem BY.go (h : BY m) (k : Nat) : BY (m.go k) := ⟨h.r, h.a, h.t⟩
theorem BY.add (h : BY m) {l : NL} (hl : ∀ c ∈ l, c < 256) : BY (m.add l) := ⟨app_lt h.r hl, h.a, h.t⟩
theorem BY.behind (h : BY m) : BY (m.sBehind c) := by
  unfold M.sBehind
  split
  · exact h.go _
  split
  · exact h.go _
  split
  · exact h.finOpen _
  · exact h.fail _
theorem BY.only (h : BY m) (a b : Nat) : BY (m.only c a b) := by
  unfold M.only
  split
  · exact h.go _
  · exact h.fail _
theorem BY.ref (h : BY m) (b : Nat) : BY (m.sRef b c) := by
  unfold M.sRef M.finRef
  split
  · cases e : Vaesca.byteOf m.body with
    | none => exact h.fail _
    | some x => exact ⟨app_lt h.r (one_lt (byteOf_short (k := 0) (by decide) e).1), h.a, h.t⟩
  split
  · exact ⟨h.r, h.a, h.t⟩
  · exact h.fail _
theorem BY.quoted (h : BY m) (hc : c < 256) (a b : Nat) : BY (m.sQuoted a b c) := by
  unfold M.sQuoted
  split
  · exact ⟨h.finAttr.r, h.finAttr.a, h.finAttr.t⟩
  split
  · exact h.go _
  · exact h.add (one_lt hc)
theorem BY.step (h : BY m) (hc : c < 256) : BY (m.step c) := by
  unfold M.step
  split
  · unfold M.sText
    split
    · split
      · exact ⟨h.r, h.a, h.t⟩
      · exact ⟨nil_lt, h.a, tok_by h.t noattr⟩
    split
    · split
      · exact ⟨h.r, h.a, h.t⟩
      · exact ⟨app_lt h.r (one_lt hc), h.a, h.t⟩
    split
    · exact h.go _
    · exact h.add (one_lt hc)
  · exact h.ref _
  · exact h.ref _
  · exact h.ref _
  · exact h.ref _
  · unfold M.sLess
    split
    · exact ⟨h.r, h.a, h.t⟩
    split
    · exact h.go _
    · exact h.only _ _
  · unfold M.sOpenName
    split
    · unfold M.addTag; split
      · exact ⟨h.r, h.a, h.t⟩
      · exact h.fail _
    · exact h.behind
  · unfold M.sBehindClose
    split
    · exact ⟨h.r, h.a, h.t⟩
    · exact h.fail _
  · unfold M.sCloseName
    split
    · unfold M.addTag; split
      · exact ⟨h.r, h.a, h.t⟩
      · exact h.fail _
    split
    · exact h.finClose
    · exact h.fail _
  · unfold M.sGap
    split
    · exact ⟨h.r, h.a, h.t⟩
    · exact h.behind
  · unfold M.sAttrName
    split
    · unfold M.addAttr; split
      · exact ⟨h.r, h.a, h.t⟩
      · exact h.fail _
    split
    · exact h.fail _
    split
    · exact h.fail _
    split
    · exact h.go _
    · exact h.finAttr.behind
  · unfold M.sEq
    split
    · exact h.go _
    split
    · exact h.go _
    split
    · exact h.go _
    split
    · exact ⟨app_lt h.r (one_lt hc), h.a, h.t⟩
    · exact h.fail _
  · exact h.quoted hc _ _
  · exact h.quoted hc _ _
  · unfold M.sBare
    split
    · exact h.add (one_lt hc)
    split
    · exact h.go _
    split
    · exact h.finAttr.behind
    · exact h.fail _
  · exact h.behind
  · unfold M.sSlash
    split
    · exact h.finOpen _
    · exact h.fail _
  · exact h.only _ _
  · exact h.only _ _
  · unfold M.sCom0
    split
    · exact h.go _
    · exact h.add (one_lt hc)
  · unfold M.sCom1
    split
    · exact h.go _
    · exact ⟨app_lt h.r (two_lt (by decide) hc), h.a, h.t⟩
  · unfold M.sCom2
    split
    · exact h.add (one_lt (by decide))
    split
    · exact ⟨nil_lt, h.a, tok_by h.t noattr⟩
    · exact ⟨app_lt h.r (three_lt (by decide) (by decide) hc), h.a, h.t⟩
  · unfold M.sRaw
    split
    · exact h.go _
    · exact h.add (one_lt hc)
  · unfold M.sRawLess
    split
    · exact h.go _
    split
    · exact h.add (one_lt (by decide))
    · exact ⟨app_lt h.r (two_lt (by decide) hc), h.a, h.t⟩
  · unfold M.sRawClose
    (repeat' split) <;> first | exact h.fail _ | exact h.finRaw | exact ⟨h.r, h.a, h.t⟩
  · exact h
end
theorem BY.new : BY M.new := ⟨nil_lt, noattr, (fun _ h => nomatch h)⟩
theorem BY.read : ∀ {l : NL} {m : M}, BY m → (∀ c ∈ l, c < 256) → BY (m.read l)
  | [], m, h, _ => h
  | c :: r, m, h, hl => by
    have h1 := h.step (hl c List.mem_cons_self)
    unfold M.read
    split
    · exact h1
    · exact BY.read (m := { m.step c with count := (m.step c).count + 1 }) ⟨h1.r, h1.a, h1.t⟩ fun d hd => hl d (List.mem_cons_of_mem _ hd)
theorem BY.fin {m : M} (h : BY m) : BY m.fin := by
  unfold M.fin
  split
  · exact h
  split
  · exact h.fail _
  split
  · exact h.go _
  · exact (h.finRun _ _).go _
theorem rd_by {l : NL} (hl : ∀ c ∈ l, c < 256) : BY (rd l) := (BY.new.read hl).fin
/-! ### tokens that are written -/
structure SK (t : Tk) : Prop where
  k : KT t
  n : (sTok t).length ≤ 16384
  b : ∀ a ∈ t.attrs, ∀ c ∈ a.2, c < 256
theorem mem_flat {α : Type} {f : α → NL} {x : α} : ∀ {l : List α}, x ∈ l → (f x).length ≤ (l.flatMap f).length
  | a :: r, h => by
    rw [List.flatMap_cons, List.length_append]
    rcases List.mem_cons.mp h with q | q
    · subst q; omega
    · have := mem_flat (f := f) q; omega
theorem TB.sk {m : M} (h : TB m) (b : BY m) (n : m.count ≤ 16384) : ∀ t ∈ m.toks, SK t := fun t ht =>
  ⟨(h.g t ht).kt, by have := h.s; have := mem_flat (f := sTok) ht; omega, b.t t ht⟩
theorem settle1_by {h : Option Tk} {t : Tk} {P : Tk → Prop} (hp : ∀ o ∈ oneList h, P o) (ht : P t) (hj : ∀ o, P o → P (joinTk o t)) : (∀ u ∈ (settle1 h t).1, P u) ∧ ∀ o ∈ oneList (settle1 h t).2, P o := by
  unfold settle1
  cases h with
  | none =>
    dsimp only
    split
    · exact ⟨(fun _ h => nomatch h), fun o ho => by rw [List.mem_singleton.mp ho]; exact ht⟩
    · exact ⟨fun o ho => by rw [List.mem_singleton.mp ho]; exact ht, (fun _ h => nomatch h)⟩
  | some o =>
    have po := hp o (List.mem_singleton.mpr rfl)
    dsimp only
    split
    · exact ⟨fun u hu => by rw [List.mem_singleton.mp hu]; exact hj o po, (fun _ h => nomatch h)⟩
    split
    · exact ⟨fun u hu => by rw [List.mem_singleton.mp hu]; exact po, fun u hu => by rw [List.mem_singleton.mp hu]; exact ht⟩
    · refine ⟨fun u hu => ?_, (fun _ h => nomatch h)⟩
      rcases List.mem_cons.mp hu with q | q
      · rw [q]; exact po
      · rw [List.mem_singleton.mp q]; exact ht
theorem settle_by {P : Tk → Prop} (hj : ∀ o t, P o → P (joinTk o t)) : ∀ {ts : List Tk} {h : Option Tk}, (∀ o ∈ oneList h, P o) → (∀ t ∈ ts, P t) → (∀ u ∈ (settle h ts).1, P u) ∧ ∀ o ∈ oneList (settle h ts).2, P o
  | [], h, hp, _ => ⟨(fun _ h => nomatch h), hp⟩
  | t :: r, h, hp, ht => by
    obtain ⟨a, b⟩ := settle1_by hp (ht t List.mem_cons_self) (fun o => hj o t)
    obtain ⟨c, d⟩ := settle_by (P := P) hj b fun u hu => ht u (List.mem_cons_of_mem _ hu)
    refine ⟨fun u hu => ?_, d⟩
    rcases List.mem_append.mp (show u ∈ (settle1 h t).1 ++ (settle (settle1 h t).2 r).1 from hu) with q | q
    · exact a u q
    · exact c u q
theorem norm_sk {m : M} (h : TB m) (b : BY m) (n : m.count ≤ 16384) : ∀ t ∈ normTk m.toks, SK t := fun t ht => by
  have sk := h.sk b n
  have key := settle_by (P := fun t => KT t ∧ ∀ a ∈ t.attrs, ∀ c ∈ a.2, c < 256) (fun o t ho => ⟨⟨by show 1 ≤ 4; decide, by show 1 ≤ 1; decide⟩, ho.2⟩) (ts := m.toks) (h := none) (fun _ h => (nomatch h)) fun u hu => ⟨(sk u hu).k, (sk u hu).b⟩
  have p : KT t ∧ ∀ a ∈ t.attrs, ∀ c ∈ a.2, c < 256 := by
    rcases List.mem_append.mp (show t ∈ (settle none m.toks).1 ++ oneList (settle none m.toks).2 from ht) with q | q
    · exact key.1 t q
    · exact key.2 t q
  have l := (norm_len (ts := m.toks) fun u hu => (sk u hu).k).1
  have s := h.s
  have e := mem_flat (f := sTok) ht
  exact ⟨p.1, by omega, p.2⟩
end Sm

set_option linter.all false
namespace Sm
/-! ### forms of values -/
def qF (k q : Nat) (l : NL) : NL := [q] ++ l.flatMap (Vaescc.shortByte k) ++ [q]
def bareF (tb : Bool) (l : NL) : NL := l.flatMap (Vaescc.shortByte 3) ++ (if tb = true then [32] else [])
def vForms (tb : Bool) (l : NL) : List NL := if l = [] then [qF 1 34 l, qF 2 39 l] else [bareF tb l, qF 1 34 l, qF 2 39 l]
theorem qF_len (k q : Nat) (l : NL) : (qF k q l).length = (l.flatMap (Vaescc.shortByte k)).length + 2 := by
  unfold qF
  rw [List.length_append, List.length_append]; simp; omega
/-- the first of the shortest -/
def FirstMin (ls : List NL) (i : Nat) (l : NL) : Prop := ls[i]? = some l ∧ ∀ (j : Nat) (l' : NL), ls[j]? = some l' → l.length ≤ l'.length ∧ (j < i → l.length < l'.length)
theorem min2 {a b l : NL} {i : Nat} (h : FirstMin [a, b] i l) : l = if b.length < a.length then b else a := by
  obtain ⟨h1, h2⟩ := h
  match i, h1 with
  | 0, h1 =>
    have e : a = l := Option.some.inj h1
    subst e
    have := (h2 1 b rfl).1
    rw [if_neg (by omega)]
  | 1, h1 =>
    have e : b = l := Option.some.inj h1
    subst e
    have := (h2 0 a rfl).2 (by decide)
    rw [if_pos this]
  | n + 2, h1 => simp at h1
theorem min3 {a b c l : NL} {i : Nat} (h : FirstMin [a, b, c] i l) : l = if c.length < (if b.length < a.length then b else a).length then c else (if b.length < a.length then b else a) := by
  obtain ⟨h1, h2⟩ := h
  match i, h1 with
  | 0, h1 =>
    have e : a = l := Option.some.inj h1
    subst e
    have k1 := (h2 1 b rfl).1
    have k2 := (h2 2 c rfl).1
    rw [if_neg (show ¬ b.length < a.length by omega), if_neg (by omega)]
  | 1, h1 =>
    have e : b = l := Option.some.inj h1
    subst e
    have k1 := (h2 0 a rfl).2 (by decide)
    have k2 := (h2 2 c rfl).1
    rw [if_pos k1, if_neg (by omega)]
  | 2, h1 =>
    have e : c = l := Option.some.inj h1
    subst e
    have k1 := (h2 0 a rfl).2 (by decide)
    have k2 := (h2 1 b rfl).2 (by decide)
    rw [if_pos]
    split <;> omega
  | n + 3, h1 => simp at h1
theorem forms_nil (tb : Bool) : Vaescn.forms tb [] = [(2, qF 1 34 []), (2, qF 2 39 [])] := rfl
theorem forms_cons (tb : Bool) (c : Nat) (r : NL) : Vaescn.forms tb (c :: r) = [((bareF tb (c :: r)).length, bareF tb (c :: r)), ((qF 1 34 (c :: r)).length, qF 1 34 (c :: r)), ((qF 2 39 (c :: r)).length, qF 2 39 (c :: r))] := by
  rw [qF_len, qF_len]
  unfold Vaescn.forms Vaescc.shortest bareF
  cases tb with
  | true => simp [qF, Nat.add_assoc]
  | false => simp [qF]
theorem first_min {tb : Bool} {v l : NL} {i : Nat} (h : FirstMin (vForms tb v) i l) : l = Vaescn.shortValue tb v := by
  unfold Vaescn.shortValue
  cases v with
  | nil =>
    rw [forms_nil]
    have := min2 h
    rw [this]
    rfl
  | cons c r =>
    rw [forms_cons]
    have := min3 (a := bareF tb (c :: r)) (b := qF 1 34 (c :: r)) (c := qF 2 39 (c :: r)) h
    rw [this]
    show _ = (if (qF 2 39 (c :: r)).length < (if (qF 1 34 (c :: r)).length < (bareF tb (c :: r)).length then ((qF 1 34 (c :: r)).length, qF 1 34 (c :: r)) else ((bareF tb (c :: r)).length, bareF tb (c :: r))).1 then ((qF 2 39 (c :: r)).length, qF 2 39 (c :: r)) else (if (qF 1 34 (c :: r)).length < (bareF tb (c :: r)).length then ((qF 1 34 (c :: r)).length, qF 1 34 (c :: r)) else ((bareF tb (c :: r)).length, bareF tb (c :: r)))).2
    (repeat' split) <;> simp_all
theorem sl_le {k : Nat} (hk : k < 4) : ∀ {l : NL}, (∀ c ∈ l, c < 256) → sl k l ≤ 5 * l.length
  | [], _ => by rw [sl_nil]; omega
  | c :: r, h => by
    have e : sl k (c :: r) = sl k [c] + sl k r := by rw [← sl_app]; rfl
    have h1 := short_le hk (h c List.mem_cons_self)
    have h2 := sl_le hk (l := r) fun d hd => h d (List.mem_cons_of_mem _ hd)
    rw [e, sl_one, List.length_cons]
    omega
theorem bars0 (c : Nat) : ([38, 60] : NL).contains c = !Vaescc.mayStand 0 c := by
  unfold Vaescc.mayStand
  simp only [List.contains, List.elem]
  cases h1 : c == 38 <;> cases h2 : c == 60 <;> simp_all
theorem bars1 (c : Nat) : ([38, 34] : NL).contains c = !Vaescc.mayStand 1 c := by
  unfold Vaescc.mayStand
  simp only [List.contains, List.elem]
  cases h1 : c == 38 <;> cases h2 : c == 34 <;> simp_all
theorem bars2 (c : Nat) : ([38, 39] : NL).contains c = !Vaescc.mayStand 2 c := by
  unfold Vaescc.mayStand
  simp only [List.contains, List.elem]
  cases h1 : c == 38 <;> cases h2 : c == 39 <;> simp_all
theorem bars3 {c : Nat} (hc : c < 256) : ([9, 10, 13, 32, 34, 38, 39, 60, 61, 62, 96] : NL).contains c = !Vaescc.mayStand 3 c := by
  have e : Vaescc.mayStand 3 c = isBareB c := isBare_eq hc
  rw [e]
  unfold isBareB
  rw [Bool.not_not]
/-! ### attributes -/
theorem shortAttrs_cons (e : Bool) (a : NL × NL) (r : List (NL × NL)) : Vaescn.shortAttrs e (a :: r) = Vaescn.shortAttr (e && r.isEmpty) a ++ Vaescn.shortAttrs e r := by
  cases r with
  | nil => simp [Vaescn.shortAttrs]
  | cons b s => simp [Vaescn.shortAttrs]
theorem le_vlen (t : Bool) (v : NL) : v.length ≤ vlen t v := by
  unfold vlen
  have h1 := le_sl 1 v
  have h2 := le_sl 2 v
  have h3 := le_sl 3 v
  split
  · rename_i h; rw [h]; decide
  · split <;> omega
theorem le_attrs (e : Bool) : ∀ {as : List (NL × NL)} {a : NL × NL}, a ∈ as → a.1.length + a.2.length ≤ (Vaescn.shortAttrs e as).length
  | b :: r, a, h => by
    rw [shortAttrs_cons, List.length_append]
    rcases List.mem_cons.mp h with q | q
    · rw [← q, shortAttr_len]
      unfold vcost
      have := le_vlen (e && r.isEmpty) a.2
      split
      · rename_i h; rw [h, List.length_nil]; omega
      · omega
    · have := le_attrs e q
      omega
theorem opened_len {t : Tk} (h : t.kind = 1) : sTok t = [60] ++ t.name ++ Vaescn.shortAttrs (t.ended == 1) t.attrs ++ (if (t.ended == 1) = true then [47, 62] else [62]) := by
  unfold sTok
  rw [tok_1 h]
  rfl
theorem SK.val {t : Tk} (s : SK t) (h : t.kind = 1) {a : NL × NL} (ha : a ∈ t.attrs) : a.1.length + a.2.length ≤ 16384 := by
  have := s.n
  rw [opened_len h, List.length_append, List.length_append] at this
  have := le_attrs (t.ended == 1) ha
  omega
end Sm

set_option linter.all false
namespace Sm
/-! ### told and laid out -/
def fullV (v : NL) : NL := [34] ++ v.flatMap Vaesca.writeValueSign ++ [34]
def fullA (g : Nat) (a : NL × NL) : NL := [g] ++ a.1 ++ [61] ++ fullV a.2
def fullT (g : Nat) (t : Tk) : NL := [60] ++ t.name ++ t.attrs.flatMap (fullA g) ++ (if (t.ended == 1) = true then [47, 62] else [62])
def laidM (w : Int) (t : Tk) : NL := if t.kind ≠ 1 then sTok t else if ((fullT 32 t).length : Int) ≤ w then fullT 32 t else fullT 10 t
theorem writeAttr_full (a : NL × NL) : Vaesca.writeAttr a = fullA 32 a := by
  unfold Vaesca.writeAttr fullA fullV Vaesca.writeValue
  simp
theorem full32 {t : Tk} (h : t.kind = 1) : Vaesca.writeToken (tok t) = fullT 32 t := by
  rw [tok_1 h]
  unfold Vaesca.writeToken fullT
  rw [show Vaesca.writeAttr = fullA 32 from funext writeAttr_full]
theorem write_short {t : Tk} (k : KT t) (h : t.kind ≠ 1) : Vaesca.writeToken (tok t) = sTok t := by
  have := k.k
  unfold sTok
  rcases (show t.kind = 0 ∨ t.kind = 2 ∨ t.kind = 3 ∨ t.kind = 4 by omega) with e | e | e | e
  · rw [tok_0 e]
    unfold Vaesca.writeToken Vaescn.shortToken Vaesca.writeText Vaescc.shortest
    show t.signs.flatMap Vaesca.writeTextSign = t.signs.flatMap (Vaescc.shortByte 0)
    congr 1
    funext c
    unfold Vaesca.writeTextSign Vaescc.shortByte Vaescc.mayStand Vaescc.AMP Vaescc.LT
    cases h1 : c == 38 <;> cases h2 : c == 60 <;> simp_all
  · rw [tok_2 e] <;> rfl
  · rw [tok_3 e] <;> rfl
  · rw [tok_4 e] <;> rfl
theorem laid_mirror {t : Tk} {w : Int} (k : KT t) (hw : 0 ≤ w) : laidTk w t = laidM w t := by
  unfold laidTk laidM
  rw [if_pos hw]
  by_cases h : t.kind = 1
  · rw [if_neg (fun z => z h)]
    rw [tok_1 h]
    have e := full32 h
    rw [tok_1 h] at e
    unfold Vaescn.laidToken
    dsimp only
    rw [e]
    by_cases c : ((fullT 32 t).length : Int) ≤ w
    · rw [if_pos c, if_neg (by omega)]
    · rw [if_neg c, if_pos (by omega)]
      unfold fullT
      congr 2
      congr 1
      funext a
      rw [writeAttr_full]
      unfold fullA
      simp
  · rw [if_pos h]
    have e : Vaescn.laidToken w.toNat (tok t) = Vaesca.writeToken (tok t) := by
      have := k.k
      rcases (show t.kind = 0 ∨ t.kind = 2 ∨ t.kind = 3 ∨ t.kind = 4 by omega) with e | e | e | e
      · rw [tok_0 e] <;> rfl
      · rw [tok_2 e] <;> rfl
      · rw [tok_3 e] <;> rfl
      · rw [tok_4 e] <;> rfl
    rw [e, write_short k h]
theorem wv_len : ∀ v : NL, (v.flatMap Vaesca.writeValueSign).length ≤ 6 * v.length
  | [] => Nat.le_refl _
  | c :: r => by
    rw [List.flatMap_cons, List.length_append, List.length_cons]
    have := wv_len r
    have : (Vaesca.writeValueSign c).length ≤ 6 := by
      unfold Vaesca.writeValueSign
      (repeat' split) <;> simp
    omega
theorem fullV_len (v : NL) : (fullV v).length ≤ 2 + 6 * v.length := by
  unfold fullV
  rw [List.length_append, List.length_append]
  have := wv_len v
  simp only [List.length_singleton]
  omega
theorem fullA_len (g : Nat) (e : Bool) (a : NL × NL) : (fullA g a).length ≤ 6 * (Vaescn.shortAttr e a).length := by
  unfold fullA
  rw [shortAttr_len]
  simp only [List.length_append, List.length_singleton]
  have h1 := fullV_len a.2
  have h2 := le_vlen e a.2
  unfold vcost
  split
  · rename_i h; rw [h] at h1 ⊢; simp at h1; omega
  · omega
theorem fullAs_len (g : Nat) (e : Bool) : ∀ as : List (NL × NL), (as.flatMap (fullA g)).length ≤ 6 * (Vaescn.shortAttrs e as).length
  | [] => Nat.le_refl _
  | a :: r => by
    rw [List.flatMap_cons, shortAttrs_cons, List.length_append, List.length_append]
    have := fullAs_len g e r
    have := fullA_len g (e && r.isEmpty) a
    omega
theorem fullT_len (g : Nat) {t : Tk} (h : t.kind = 1) : (fullT g t).length ≤ 6 * (sTok t).length := by
  rw [opened_len h]
  unfold fullT
  simp only [List.length_append, List.length_singleton]
  have := fullAs_len g (t.ended == 1) t.attrs
  split <;> simp only [List.length_cons, List.length_nil] <;> omega
theorem laidM_len (w : Int) (t : Tk) : (laidM w t).length ≤ 6 * (sTok t).length := by
  unfold laidM
  split
  · omega
  · rename_i h
    have h1 : t.kind = 1 := by
      by_cases z : t.kind = 1
      · exact z
      · exact absurd z h
    split
    · exact fullT_len _ h1
    · exact fullT_len _ h1
theorem laids_len (w : Int) : ∀ ts : List Tk, (ts.flatMap (laidM w)).length ≤ 6 * (ts.flatMap sTok).length
  | [] => Nat.le_refl _
  | t :: r => by
    rw [List.flatMap_cons, List.flatMap_cons, List.length_append, List.length_append]
    have := laids_len w r
    have := laidM_len w t
    omega
/-! told -/
def toldA (a : NL × NL) : NL := (a.1.length :: a.1) ++ (a.2.length :: a.2)
def toldT (t : Tk) : NL := if t.kind = 1 then [t.kind, t.ended] ++ (t.name.length :: t.name) ++ (t.attrs.length :: t.attrs.flatMap toldA) else if t.kind = 2 then [t.kind] ++ (t.name.length :: t.name) else [t.kind] ++ (t.signs.length :: t.signs)
theorem told_mirror {t : Tk} (k : KT t) : Vaescc.shownToken (tok t) = toldT t := by
  have h1 := k.k
  have h2 := k.e
  unfold toldT
  rcases (show t.kind = 0 ∨ t.kind = 1 ∨ t.kind = 2 ∨ t.kind = 3 ∨ t.kind = 4 by omega) with e | e | e | e | e
  · rw [tok_0 e, e] <;> rfl
  · rw [tok_1 e, e, if_pos rfl]
    have : (if (t.ended == 1) = true then 1 else 0) = t.ended := by
      rcases (show t.ended = 0 ∨ t.ended = 1 by omega) with z | z <;> rw [z] <;> rfl
    show 1 :: (if (t.ended == 1) = true then 1 else 0) :: _ = _
    rw [this]
    rfl
  · rw [tok_2 e, e] <;> rfl
  · rw [tok_3 e, e] <;> rfl
  · rw [tok_4 e, e] <;> rfl
theorem toldA_len (e : Bool) (a : NL × NL) : (toldA a).length ≤ 2 * (Vaescn.shortAttr e a).length := by
  unfold toldA
  rw [shortAttr_len]
  simp only [List.length_append, List.length_cons]
  have h2 := le_vlen e a.2
  unfold vcost
  split
  · rename_i h; rw [h]; simp; omega
  · omega
theorem toldAs_len (e : Bool) : ∀ as : List (NL × NL), (as.flatMap toldA).length ≤ 2 * (Vaescn.shortAttrs e as).length
  | [] => Nat.le_refl _
  | a :: r => by
    rw [List.flatMap_cons, shortAttrs_cons, List.length_append, List.length_append]
    have := toldAs_len e r
    have := toldA_len (e && r.isEmpty) a
    omega
theorem signs_len {t : Tk} (k : KT t) (h1 : t.kind ≠ 1) (h2 : t.kind ≠ 2) : t.signs.length ≤ (sTok t).length := by
  have := k.k
  unfold sTok
  rcases (show t.kind = 0 ∨ t.kind = 3 ∨ t.kind = 4 by omega) with e | e | e
  · rw [tok_0 e]
    exact le_sl 0 t.signs
  · rw [tok_3 e]
    show _ ≤ ([60, 33, 45, 45] ++ t.signs ++ [45, 45, 62] : NL).length
    simp only [List.length_append]; omega
  · rw [tok_4 e]
    exact Nat.le_refl _
theorem name_len {t : Tk} (h : t.kind = 1 ∨ t.kind = 2) : t.name.length ≤ (sTok t).length := by
  unfold sTok
  rcases h with e | e
  · rw [tok_1 e]
    show _ ≤ ([60] ++ t.name ++ _ ++ _ : NL).length
    simp only [List.length_append]; omega
  · rw [tok_2 e]
    show _ ≤ ([60, 47] ++ t.name ++ [62] : NL).length
    simp only [List.length_append]; omega
theorem as_len {t : Tk} (h : t.kind = 1) : (t.attrs.flatMap toldA).length ≤ 2 * (sTok t).length := by
  rw [opened_len h]
  have := toldAs_len (t.ended == 1) t.attrs
  simp only [List.length_append]; omega
theorem attrs_count (e : Bool) : ∀ as : List (NL × NL), as.length ≤ (Vaescn.shortAttrs e as).length
  | [] => Nat.le_refl _
  | a :: r => by
    rw [shortAttrs_cons, List.length_append, List.length_cons, shortAttr_len]
    have := attrs_count e r
    omega
theorem SK.attrs {t : Tk} (s : SK t) (h : t.kind = 1) : t.attrs.length ≤ 16384 := by
  have h1 := s.n
  rw [opened_len h, List.length_append, List.length_append] at h1
  have := attrs_count (t.ended == 1) t.attrs
  omega
theorem toldT_len {t : Tk} (s : SK t) : (toldT t).length ≤ 4 + 3 * (sTok t).length := by
  unfold toldT
  split
  · rename_i h
    have h1 := as_len h
    have h2 := name_len (.inl h)
    simp only [List.length_append, List.length_cons, List.length_nil]; omega
  split
  · rename_i h
    have h2 := name_len (.inr h)
    simp only [List.length_append, List.length_cons, List.length_nil]; omega
  · rename_i h1 h2
    have h3 := signs_len s.k h1 h2
    simp only [List.length_append, List.length_cons, List.length_nil]; omega
end Sm

set_option linter.all false
namespace Sm
/-! ### tokens are only put behind -/
section
variable {m : M} {c : Nat} {p : List Tk}
def PX (p : List Tk) (m : M) : Prop := ∃ ts, m.toks = p ++ ts
theorem PX.one (h : PX p m) {m' : M} {t : Tk} (e : m'.toks = m.toks ++ [t]) : PX p m' := by
  obtain ⟨ts, q⟩ := h
  exact ⟨ts ++ [t], by rw [e, q, List.append_assoc]⟩
theorem PX.same (h : PX p m) {m' : M} (e : m'.toks = m.toks) : PX p m' := by
  obtain ⟨ts, q⟩ := h
  exact ⟨ts, e.trans q⟩
theorem PX.finOpen (h : PX p m) (e : Nat) : PX p (m.finOpen e) := by
  unfold M.finOpen
  split <;> exact h.one rfl
theorem PX.finClose (h : PX p m) : PX p m.finClose := h.one rfl
theorem PX.finRaw (h : PX p m) : PX p m.finRaw := by
  unfold M.finRaw
  split
  · exact h.one rfl
  · exact (h.one (m' := m.finRun 4 m.rawPlace) rfl).one rfl
theorem PX.behind (h : PX p m) : PX p (m.sBehind c) := by
  unfold M.sBehind
  (repeat' split) <;> first | exact h.finOpen _ | exact h.same rfl
theorem PX.ref (h : PX p m) (b : Nat) : PX p (m.sRef b c) := by
  unfold M.sRef M.finRef
  split
  · cases e : Vaesca.byteOf m.body <;> exact h.same rfl
  split <;> exact h.same rfl
theorem PX.quoted (h : PX p m) (a b : Nat) : PX p (m.sQuoted a b c) := by
  unfold M.sQuoted
  (repeat' split) <;> exact h.same rfl
theorem PX.step (h : PX p m) : PX p (m.step c) := by
  unfold M.step
  split
  · unfold M.sText
    (repeat' split) <;> first | exact h.same rfl | exact h.one rfl
  · exact h.ref _
  · exact h.ref _
  · exact h.ref _
  · exact h.ref _
  · unfold M.sLess M.only
    (repeat' split) <;> exact h.same rfl
  · unfold M.sOpenName M.addTag
    (repeat' split) <;> first | exact h.behind | exact h.same rfl
  · unfold M.sBehindClose
    (repeat' split) <;> exact h.same rfl
  · unfold M.sCloseName M.addTag
    (repeat' split) <;> first | exact h.finClose | exact h.same rfl
  · unfold M.sGap
    (repeat' split) <;> first | exact h.behind | exact h.same rfl
  · unfold M.sAttrName M.addAttr
    (repeat' split) <;> first | exact (h.same (m' := m.finAttr) rfl).behind | exact h.same rfl
  · unfold M.sEq
    (repeat' split) <;> exact h.same rfl
  · exact h.quoted _ _
  · exact h.quoted _ _
  · unfold M.sBare
    (repeat' split) <;> first | exact (h.same (m' := m.finAttr) rfl).behind | exact h.same rfl
  · exact h.behind
  · unfold M.sSlash
    (repeat' split) <;> first | exact h.finOpen _ | exact h.same rfl
  · unfold M.sBang M.only
    (repeat' split) <;> exact h.same rfl
  · unfold M.sDash M.only
    (repeat' split) <;> exact h.same rfl
  · unfold M.sCom0
    (repeat' split) <;> exact h.same rfl
  · unfold M.sCom1
    (repeat' split) <;> exact h.same rfl
  · unfold M.sCom2
    (repeat' split) <;> first | exact h.same rfl | exact h.one rfl
  · unfold M.sRaw
    (repeat' split) <;> exact h.same rfl
  · unfold M.sRawLess
    (repeat' split) <;> exact h.same rfl
  · unfold M.sRawClose
    (repeat' split) <;> first | exact h.finRaw | exact h.same rfl
  · exact h
end
theorem PX.read {p : List Tk} : ∀ {l : NL} {m : M}, PX p m → PX p (m.read l)
  | [], m, h => h
  | c :: r, m, h => by
    have h1 := h.step (c := c)
    unfold M.read
    split
    · exact h1
    · exact PX.read (m := { m.step c with count := (m.step c).count + 1 }) (h1.same rfl)
theorem PX.fin {p : List Tk} {m : M} (h : PX p m) : PX p m.fin := by
  unfold M.fin
  (repeat' split) <;> first | exact h | exact h.same rfl | exact h.one rfl
theorem PX.self (m : M) : PX m.toks m := ⟨[], (List.append_nil _).symm⟩
/-! ### tokens settled in pieces -/
theorem settle_append : ∀ (a b : List Tk) (h : Option Tk), settle h (a ++ b) = ((settle h a).1 ++ (settle (settle h a).2 b).1, (settle (settle h a).2 b).2)
  | [], b, h => rfl
  | t :: r, b, h => by
    show ((settle1 h t).1 ++ (settle (settle1 h t).2 (r ++ b)).1, (settle (settle1 h t).2 (r ++ b)).2) = _
    rw [settle_append r b]
    simp only [settle, List.append_assoc]
/-- the held tag, all tokens looked at -/
def heldOf (m : M) : Option Tk := (settle none m.toks).2
/-- what the tokens behind p settle -/
theorem fresh_ok {p ts : List Tk} {m : M} (e : m.toks = p ++ ts) : m.toks.drop p.length = ts ∧ (settle (settle none p).2 ts).2 = heldOf m ∧ (settle none m.toks).1 = (settle none p).1 ++ (settle (settle none p).2 ts).1 := by
  refine ⟨by rw [e]; exact List.drop_left' rfl, ?_, ?_⟩
  · unfold heldOf
    rw [e, settle_append]
  · rw [e, settle_append]
theorem fresh_sk {p ts : List Tk} {m : M} (e : m.toks = p ++ ts) (tb : TB m) (b : BY m) (n : m.count ≤ 16384) :
    (∀ t ∈ (settle (settle none p).2 ts).1 ++ oneList (settle (settle none p).2 ts).2, SK t) ∧ (((settle (settle none p).2 ts).1 ++ oneList (settle (settle none p).2 ts).2).flatMap sTok).length ≤ 16384 := by
  obtain ⟨_, e2, e3⟩ := fresh_ok e
  have en : normTk m.toks = (settle none p).1 ++ ((settle (settle none p).2 ts).1 ++ oneList (settle (settle none p).2 ts).2) := by
    unfold normTk
    rw [e3, e2, List.append_assoc]
    rfl
  have sk := norm_sk tb b n
  have nl := norm_len (kts tb)
  have s := tb.s
  rw [en] at sk nl
  refine ⟨fun t ht => sk t (List.mem_append_right _ ht), ?_⟩
  have := nl.1
  rw [List.flatMap_append, List.length_append] at this
  omega
end Sm

set_option linter.all false
namespace Sm
/-! ### the calls' answers -/
def bytesR (l : List Int) : Int := if l.all Vaescn.isByte = true then (if 8192 < l.length then -2 else 0) else -1
abbrev natsI (l : List Int) : NL := Vaescn.nats l
def enc (l : NL) : List Int := l.map Int.ofNat
theorem bytes_fine {l : List Int} (h : bytesR l = 0) : (∀ r, Vaescn.badBytes (l :: r) = Vaescn.badBytes r) ∧ l = enc (natsI l) ∧ (∀ c ∈ natsI l, c < 256) ∧ (natsI l).length ≤ 8192 ∧ (natsI l).length = l.length := by
  unfold bytesR at h
  by_cases e : l.all Vaescn.isByte = true
  · rw [if_pos e] at h
    by_cases e2 : 8192 < l.length
    · rw [if_pos e2] at h; cases h
    · have hb : ∀ x ∈ l, 0 ≤ x ∧ x ≤ 255 := fun x hx => by
        have := List.all_eq_true.mp e x hx
        unfold Vaescn.isByte at this
        simpa using this
      refine ⟨fun r => ?_, ?_, ?_, ?_, ?_⟩
      · show (if (!(l.all Vaescn.isByte)) = true then some 1 else if 8192 < l.length then some 2 else Vaescn.badBytes r) = _
        rw [e, if_neg (by decide), if_neg e2]
      · unfold enc natsI Vaescn.nats
        rw [List.map_map]
        have : ∀ m : List Int, (∀ x ∈ m, 0 ≤ x ∧ x ≤ 255) → m = m.map (Int.ofNat ∘ Int.toNat) := fun m => by
          induction m with
          | nil => intro _; rfl
          | cons a r ih =>
            intro h
            rw [List.map_cons, ← ih fun x hx => h x (List.mem_cons_of_mem _ hx)]
            have := h a List.mem_cons_self
            congr 1
            show a = ((a.toNat : Nat) : Int)
            omega
        exact this l hb
      · intro c hc
        unfold natsI Vaescn.nats at hc
        obtain ⟨x, hx, rfl⟩ := List.mem_map.mp hc
        have := hb x hx
        omega
      · unfold natsI Vaescn.nats
        rw [List.length_map]; omega
      · unfold natsI Vaescn.nats
        rw [List.length_map]
  · rw [if_neg e] at h; cases h
theorem bytes_bad {l : List Int} (h : bytesR l ≠ 0) : ∃ n : Nat, (∀ r, Vaescn.badBytes (l :: r) = some n) ∧ bytesR l = -(n : Int) := by
  unfold bytesR at h ⊢
  by_cases e : l.all Vaescn.isByte = true
  · rw [if_pos e] at h ⊢
    by_cases e2 : 8192 < l.length
    · refine ⟨2, fun r => ?_, by rw [if_pos e2]; rfl⟩
      show (if (!(l.all Vaescn.isByte)) = true then some 1 else if 8192 < l.length then some 2 else Vaescn.badBytes r) = _
      rw [e, if_neg (by decide), if_pos e2]
    · rw [if_neg e2] at h; exact absurd rfl h
  · refine ⟨1, fun r => ?_, by rw [if_neg e]; rfl⟩
    show (if (!(l.all Vaescn.isByte)) = true then some 1 else if 8192 < l.length then some 2 else Vaescn.badBytes r) = _
    rw [if_pos (by simpa using e)]
section
variable {S : Vaescn.State} {l : List Int}
theorem onRead_bad (h : bytesR l ≠ 0) (f : Vaescn.Text → List Vaescn.Token → List Nat) : VaescnNeutral.encode (Vaescn.onRead l f) = [bytesR l] := by
  obtain ⟨n, h1, h2⟩ := bytes_bad h
  unfold Vaescn.onRead
  rw [h1 []]
  show [-(n : Int)] = _
  rw [h2]
theorem onRead_fine (h : bytesR l = 0) (f : Vaescn.Text → List Vaescn.Token → List Nat) : VaescnNeutral.encode (Vaescn.onRead l f) = enc (match (Vaesca.read (natsI l)).wrong with
    | some (k, p) => [1, k, p]
    | none => 0 :: f (natsI l) (Vaesca.read (natsI l)).tokens) := by
  unfold Vaescn.onRead
  rw [(bytes_fine h).1 []]
  show VaescnNeutral.encode (match (Vaesca.read (natsI l)).wrong with
    | some (k, p) => .told [1, k, p]
    | none => .told (0 :: f (natsI l) (Vaesca.read (natsI l)).tokens)) = _
  cases (Vaesca.read (natsI l)).wrong with
  | none => rfl
  | some q => obtain ⟨k, p⟩ := q; rfl
def minI (l : List Int) : List Int := if bytesR l ≠ 0 then [bytesR l] else enc (minA (natsI l))
theorem step_min : VaescnNeutral.step S [[3], l] = (S, minI l) := by
  show (S, VaescnNeutral.encode (Vaescn.onRead l fun _ ts => Vaescn.counted (Vaescn.minTokens ts))) = _
  unfold minI
  by_cases h : bytesR l = 0
  · rw [if_neg (fun z => z h), onRead_fine h, ← min_eq (bytes_fine h).2.2.1] <;> rfl
  · rw [if_pos h, onRead_bad h]
def savI (l : List Int) : List Int := if bytesR l ≠ 0 then [bytesR l] else savedI (natsI l)
theorem step_saved : VaescnNeutral.step S [[4], l] = (S, savI l) := by
  show (S, VaescnNeutral.encode (Vaescn.onRead l fun x _ => Vaescn.saved x)) = _
  unfold savI
  by_cases h : bytesR l = 0
  · rw [if_neg (fun z => z h), onRead_fine h, ← saved_eq (bytes_fine h).2.2.1]
    rfl
  · rw [if_pos h, onRead_bad h]
def layI (w : Int) (l : List Int) : List Int := if w < 0 then [-5] else if bytesR l ≠ 0 then [bytesR l] else enc (laidA w (natsI l))
theorem step_laid {w : Int} : VaescnNeutral.step S [[5, w], l] = (S, layI w l) := by
  show (S, VaescnNeutral.encode (if w < 0 then .refused 5 else Vaescn.onRead l fun _ ts => Vaescn.counted (Vaescn.laid w.toNat ts))) = _
  unfold layI
  by_cases hw : w < 0
  · rw [if_pos hw, if_pos hw] <;> rfl
  · rw [if_neg hw, if_neg hw]
    by_cases h : bytesR l = 0
    · rw [if_neg (fun z => z h), onRead_fine h, ← laid_eq (by omega) (bytes_fine h).2.2.1] <;> rfl
    · rw [if_pos h, onRead_bad h]
def samI (a b : List Int) : List Int := if bytesR a ≠ 0 then [bytesR a] else if bytesR b ≠ 0 then [bytesR b] else enc (sameA (natsI a) (natsI b))
theorem step_same {a b : List Int} : VaescnNeutral.step S [[6], a, b] = (S, samI a b) := by
  show (S, VaescnNeutral.encode (Vaescn.doSame a b)) = _
  unfold samI Vaescn.doSame
  by_cases h : bytesR a = 0
  · rw [if_neg (show ¬ bytesR a ≠ 0 from fun z => z h), (bytes_fine h).1]
    by_cases h2 : bytesR b = 0
    · rw [if_neg (show ¬ bytesR b ≠ 0 from fun z => z h2), (bytes_fine h2).1, ← same_eq (bytes_fine h).2.2.1 (bytes_fine h2).2.2.1]
      show (S, VaescnNeutral.encode (match (Vaesca.read (natsI a)).wrong, (Vaesca.read (natsI b)).wrong with
        | some (k, p), _ => .told [1, 0, k, p]
        | none, some (k, p) => .told [1, 1, k, p]
        | none, none => .told [0, if (Vaescn.normal (Vaesca.read (natsI a)).tokens).map Vaescn.plain == (Vaescn.normal (Vaesca.read (natsI b)).tokens).map Vaescn.plain then 1 else 0])) = _
      cases (Vaesca.read (natsI a)).wrong with
      | some q => obtain ⟨k, p⟩ := q; rfl
      | none =>
        cases (Vaesca.read (natsI b)).wrong with
        | some q => obtain ⟨k, p⟩ := q; rfl
        | none => rfl
    · obtain ⟨n, h3, h4⟩ := bytes_bad h2
      rw [if_pos (show bytesR b ≠ 0 from h2), h3, h4]
      rfl
  · obtain ⟨n, h3, h4⟩ := bytes_bad h
    rw [if_pos (show bytesR a ≠ 0 from h), h3, h4]
    rfl
def valI (t : Int) (l : List Int) : List Int := if t < 0 ∨ 1 < t then [-5] else if bytesR l ≠ 0 then [bytesR l] else enc ((Vaescn.shortValue (t == 1) (natsI l)).length :: Vaescn.shortValue (t == 1) (natsI l))
theorem step_value {t : Int} : VaescnNeutral.step S [[7, t], l] = (S, valI t l) := by
  show (S, VaescnNeutral.encode (if t < 0 ∨ 1 < t then .refused 5 else match Vaescn.badBytes [l] with
    | some n => .refused n
    | none => .told (Vaescn.counted (Vaescn.shortValue (t == 1) (Vaescn.nats l))))) = _
  unfold valI
  by_cases hw : t < 0 ∨ 1 < t
  · rw [if_pos hw, if_pos hw] <;> rfl
  · rw [if_neg hw, if_neg hw]
    by_cases h : bytesR l = 0
    · rw [if_neg (fun z => z h), (bytes_fine h).1]
      rfl
    · obtain ⟨n, h3, h4⟩ := bytes_bad h
      rw [if_pos h, h3, h4]
      rfl
def tokI (l : List Int) : List Int := if bytesR l ≠ 0 then [bytesR l] else enc (toksA (natsI l))
theorem step_tokens : VaescnNeutral.step S [[8], l] = (S, tokI l) := by
  show (S, VaescnNeutral.encode (Vaescn.onRead l fun _ ts => Vaescn.shownTokens (Vaescn.normal ts))) = _
  unfold tokI
  by_cases h : bytesR l = 0
  · rw [if_neg (fun z => z h), onRead_fine h, ← toks_eq (bytes_fine h).2.2.1] <;> rfl
  · rw [if_pos h, onRead_bad h]
end
end Sm

set_option linter.all false
namespace Sm
def newTk (m m' : M) : List Tk := (settle (heldOf m) (m'.toks.drop m.toks.length)).1
def endTk (m : M) : List Tk := newTk m m.fin ++ oneList (heldOf m.fin)
/-! ### the stream -/
structure SL (m : M) (S : Vaescn.State) : Prop where
  R : Rel m S.stream.reader
  md : m.mode ≤ 24
  seen : S.stream.seen = m.toks.length
  held : S.stream.held = (heldOf m).map tok
def Over (S : Vaescn.State) : Prop := Vaesca.isDone S.stream.reader = true
theorem SL.live {m : M} {S : Vaescn.State} (h : SL m S) : Vaesca.isDone S.stream.reader = false := by
  rw [done_iff h.R]
  have := h.md
  simp; omega
theorem SL.new : SL M.new Vaescn.start := ⟨Rel.new, by decide, rfl, rfl⟩
theorem step_begin {S : Vaescn.State} : VaescnNeutral.step S [[0]] = (Vaescn.start, [0]) := rfl
theorem flow_ok {m m' : M} {S : Vaescn.State} {r : Vaesca.Reader} (h : SL m S) (tb0 : TB m) (R : Rel m' r) (tb : TB m') (px : PX m.toks m') :
    Vaescn.flow S.stream r = ((newTk m m').flatMap sTok, { reader := r, seen := m'.toks.length, held := (heldOf m').map tok }) := by
  obtain ⟨ts, e⟩ := px
  obtain ⟨f1, f2, f3⟩ := fresh_ok e
  have ho := (take_ok m.toks none trivial (kts tb0)).2
  have kt : ∀ t ∈ m'.toks.drop m.toks.length, KT t := fun t ht => kts tb t (List.mem_of_mem_drop ht)
  have tk := (take_ok (m'.toks.drop m.toks.length) (heldOf m) ho kt).1
  unfold Vaescn.flow
  rw [h.held, h.seen, R.toks, ← List.map_drop, tk, List.length_map]
  have e2 : (settle (heldOf m) (m'.toks.drop m.toks.length)).2 = heldOf m' := by rw [f1]; exact f2
  rw [e2]
  rfl
section
variable {S : Vaescn.State} {m : M} {l : List Int}
theorem feed_bad (h : bytesR l ≠ 0) : VaescnNeutral.step S [[1], l] = (S, [bytesR l]) := by
  obtain ⟨n, h3, h4⟩ := bytes_bad h
  show ((Vaescn.doFeed S l).1, VaescnNeutral.encode (Vaescn.doFeed S l).2) = _
  unfold Vaescn.doFeed
  rw [h3, h4]
  rfl
theorem feed_over (h : bytesR l = 0) (o : Over S) : VaescnNeutral.step S [[1], l] = (S, [-4]) := by
  show ((Vaescn.doFeed S l).1, VaescnNeutral.encode (Vaescn.doFeed S l).2) = _
  unfold Vaescn.doFeed
  rw [(bytes_fine h).1]
  show ((if Vaesca.isDone S.stream.reader = true then (S, Vaescn.Answer.refused 4) else _).1, VaescnNeutral.encode (if Vaesca.isDone S.stream.reader = true then (S, Vaescn.Answer.refused 4) else _).2) = _
  rw [if_pos (show Vaesca.isDone S.stream.reader = true from o)]
  rfl
theorem feed_full (h : bytesR l = 0) (sl : SL m S) (hf : 16384 < m.count + l.length) : VaescnNeutral.step S [[1], l] = (S, [-3]) := by
  show ((Vaescn.doFeed S l).1, VaescnNeutral.encode (Vaescn.doFeed S l).2) = _
  unfold Vaescn.doFeed
  rw [(bytes_fine h).1]
  show ((if Vaesca.isDone S.stream.reader = true then (S, Vaescn.Answer.refused 4) else if Vaescn.FED < S.stream.reader.count + l.length then (S, Vaescn.Answer.refused 3) else _).1, VaescnNeutral.encode (if Vaesca.isDone S.stream.reader = true then (S, Vaescn.Answer.refused 4) else if Vaescn.FED < S.stream.reader.count + l.length then (S, Vaescn.Answer.refused 3) else _).2) = _
  rw [sl.live, if_neg Bool.false_ne_true, sl.R.count, if_pos (show Vaescn.FED < m.count + l.length from hf)]
  rfl
theorem feed_live (h : bytesR l = 0) (sl : SL m S) (wf : WF m) (hf : m.count + l.length ≤ 16384) :
    (VaescnNeutral.step S [[1], l]).2 = enc (readA (m.read (natsI l)) ((newTk m (m.read (natsI l))).flatMap sTok)) ∧ ((m.read (natsI l)).mode = 26 → Over (VaescnNeutral.step S [[1], l]).1) ∧ ((m.read (natsI l)).mode ≠ 26 → SL (m.read (natsI l)) (VaescnNeutral.step S [[1], l]).1) := by
  obtain ⟨b1, b2, b3, b4, b5⟩ := bytes_fine h
  obtain ⟨R, w⟩ := read_ok (natsI l) m S.stream.reader sl.R wf sl.md b3
  have tb0 := wf.tb (Nat.le_succ_of_le sl.md)
  have tb := (read_tb (natsI l) m wf sl.md b3).1
  have px := (PX.self m).read (l := natsI l)
  have fl := flow_ok sl tb0 R tb px
  have e : Vaescn.doFeed S l = (match (Vaesca.run S.stream.reader (natsI l)).wrong with
      | some (k, p) => ({ stream := { S.stream with reader := Vaesca.run S.stream.reader (natsI l) } }, .told [1, k, p])
      | none => ({ stream := (Vaescn.flow S.stream (Vaesca.run S.stream.reader (natsI l))).2 }, .told (0 :: Vaescn.counted (Vaescn.flow S.stream (Vaesca.run S.stream.reader (natsI l))).1))) := by
    unfold Vaescn.doFeed
    rw [b1]
    show (if Vaesca.isDone S.stream.reader = true then (S, Vaescn.Answer.refused 4) else if Vaescn.FED < S.stream.reader.count + l.length then (S, Vaescn.Answer.refused 3) else _) = _
    rw [sl.live, if_neg Bool.false_ne_true, sl.R.count, if_neg (show ¬ Vaescn.FED < m.count + l.length by show ¬ 16384 < _; omega)]
    rfl
  have e0 : VaescnNeutral.step S [[1], l] = ((Vaescn.doFeed S l).1, VaescnNeutral.encode (Vaescn.doFeed S l).2) := rfl
  rw [e0, e, R.wrong, fl]
  unfold readA
  by_cases c : (m.read (natsI l)).mode = 26
  · rw [if_pos c, if_pos c]
    refine ⟨rfl, fun _ => ?_, fun z => absurd c z⟩
    show Vaesca.isDone (Vaesca.run S.stream.reader (natsI l)) = true
    rw [done_iff R, c]; rfl
  · rw [if_neg c, if_neg c]
    exact ⟨rfl, fun z => absurd z c, fun _ => ⟨R, (w.resolve_left c).2.1, rfl, rfl⟩⟩
theorem end_over (o : Over S) : VaescnNeutral.step S [[2]] = (S, [-4]) := by
  show ((Vaescn.doEnd S).1, VaescnNeutral.encode (Vaescn.doEnd S).2) = _
  unfold Vaescn.doEnd
  rw [if_pos (show Vaesca.isDone S.stream.reader = true from o)]
  rfl
theorem end_live (sl : SL m S) (wf : WF m) : (VaescnNeutral.step S [[2]]).2 = enc (readA m.fin ((endTk m).flatMap sTok)) ∧ Over (VaescnNeutral.step S [[2]]).1 := by
  obtain ⟨R, w⟩ := fin_ok sl.R wf sl.md
  have tb0 := wf.tb (Nat.le_succ_of_le sl.md)
  have tb := (fin_tb tb0 (.inr ⟨wf, sl.md⟩)).1
  have fl := flow_ok sl tb0 R tb (PX.self m).fin
  have e0 : VaescnNeutral.step S [[2]] = ((Vaescn.doEnd S).1, VaescnNeutral.encode (Vaescn.doEnd S).2) := rfl
  have e : Vaescn.doEnd S = (match (Vaesca.finish S.stream.reader).wrong with
      | some (k, p) => ({ stream := { S.stream with reader := Vaesca.finish S.stream.reader } }, .told [1, k, p])
      | none => ({ stream := { (Vaescn.flow S.stream (Vaesca.finish S.stream.reader)).2 with held := none } }, .told (0 :: Vaescn.counted ((Vaescn.flow S.stream (Vaesca.finish S.stream.reader)).1 ++ match (Vaescn.flow S.stream (Vaesca.finish S.stream.reader)).2.held with
        | some t => Vaescn.shortToken t
        | none => [])))) := by
    unfold Vaescn.doEnd
    rw [sl.live, if_neg Bool.false_ne_true]
    rfl
  have hm : m.fin.mode = 25 ∨ m.fin.mode = 26 := by
    rcases w with w | w
    · exact .inr w
    · exact .inl w.2.1
  rw [e0, e, R.wrong, fl]
  unfold readA
  by_cases c : m.fin.mode = 26
  · rw [if_pos c, if_pos c]
    refine ⟨rfl, ?_⟩
    show Vaesca.isDone (Vaesca.finish S.stream.reader) = true
    rw [done_iff R, c]; rfl
  · rw [if_neg c, if_neg c]
    have e25 := hm.resolve_right c
    refine ⟨?_, ?_⟩
    · unfold endTk
      rw [List.flatMap_append]
      cases eh : heldOf m.fin with
      | none => rfl
      | some o =>
        have k : (oneList (some o)).flatMap sTok = sTok o := by simp [oneList]
        rw [k]
        rfl
    · show Vaesca.isDone (Vaesca.finish S.stream.reader) = true
      rw [done_iff R, e25]; rfl
end
end Sm

set_option linter.all false
namespace Sm
/-! ### the list of calls, read -/
def rowOf (r : List Int) : List Int := (r.length : Int) :: r
def flatA : List (List Int) → List Int
  | [] => []
  | c :: rs => c.drop 1 ++ rs.flatMap rowOf
theorem row_ok {r x s : List Int} (h : PyFlat.row r = some (x, s)) : r = rowOf x ++ s := by
  unfold PyFlat.row at h
  cases r with
  | nil => cases h
  | cons n r =>
    dsimp only at h
    by_cases c : 0 ≤ n ∧ n.toNat ≤ r.length
    · rw [if_pos c] at h
      cases h
      unfold rowOf
      have : ((r.take n.toNat).length : Int) = n := by
        rw [List.length_take]
        omega
      rw [this]
      show n :: r = n :: (r.take n.toNat ++ r.drop n.toNat)
      rw [List.take_append_drop]
    · rw [if_neg c] at h; cases h
theorem rows_ok : ∀ {k : Nat} {r : List Int} {xs : List (List Int)} {t : List Int}, PyFlat.rows k r = some (xs, t) → r = xs.flatMap rowOf ++ t
  | 0, r, xs, t, h => by
    cases h
    rfl
  | k + 1, r, xs, t, h => by
    unfold PyFlat.rows at h
    cases e : PyFlat.row r with
    | none => rw [e] at h; cases h
    | some q =>
      obtain ⟨x, s⟩ := q
      rw [e] at h
      dsimp only at h
      cases e2 : PyFlat.rows k s with
      | none => rw [e2] at h; cases h
      | some q2 =>
        obtain ⟨ys, u⟩ := q2
        rw [e2] at h
        cases h
        rw [row_ok e, rows_ok e2, List.flatMap_cons, List.append_assoc]
theorem call_ok {p : Int} {r : List Int} {c : List (List Int)} {t : List Int} (h : PyFlat.call PyVaescn.shape (p :: r) = some (c, t)) : r = flatA c ++ t ∧ ∃ ws rs, c = (p :: ws) :: rs := by
  unfold PyFlat.call at h
  dsimp only at h
  cases e : PyVaescn.shape p with
  | none => rw [e] at h; cases h
  | some q =>
    obtain ⟨n, k⟩ := q
    rw [e] at h
    dsimp only at h
    by_cases c1 : r.length < n
    · rw [if_pos c1] at h; cases h
    rw [if_neg c1] at h
    cases e2 : PyFlat.rows k (r.drop n) with
    | none => rw [e2] at h; cases h
    | some q2 =>
      obtain ⟨xs, u⟩ := q2
      rw [e2] at h
      cases h
      refine ⟨?_, _, _, rfl⟩
      show r = r.take n ++ xs.flatMap rowOf ++ t
      rw [List.append_assoc, ← rows_ok e2, List.take_append_drop]
/-- one call ahead, or none -/
theorem calls_ok {f : Nat} {l : List Int} {cs : List (List (List Int))} (h : PyFlat.calls PyVaescn.shape f l = some cs) : (l = [] ∧ cs = []) ∨ ∃ (p : Int) (r : List Int) (c : List (List Int)) (t : List Int) (f' : Nat) (cs' : List (List (List Int))), l = p :: r ∧ cs = c :: cs' ∧ r = flatA c ++ t ∧ (∃ ws rs, c = (p :: ws) :: rs) ∧ PyFlat.calls PyVaescn.shape f' t = some cs' := by
  cases l with
  | nil =>
    left
    cases f with
    | zero => cases h; exact ⟨rfl, rfl⟩
    | succ f => cases h; exact ⟨rfl, rfl⟩
  | cons p r =>
    right
    cases f with
    | zero => cases h
    | succ f =>
      unfold PyFlat.calls at h
      cases e : PyFlat.call PyVaescn.shape (p :: r) with
      | none => rw [e] at h; cases h
      | some q =>
        obtain ⟨c, t⟩ := q
        rw [e] at h
        dsimp only at h
        cases e2 : PyFlat.calls PyVaescn.shape f t with
        | none => rw [e2] at h; cases h
        | some cs' =>
          rw [e2] at h
          cases h
          obtain ⟨h1, h2⟩ := call_ok e
          exact ⟨p, r, c, t, f, cs', rfl, rfl, h1, h2, e2⟩
theorem whole_id (c : List (List Int)) : PyVaescn.whole c = c := by
  unfold PyVaescn.whole
  split <;> rfl
inductive Asked : Nat → List (List Int) → Prop where
  | a0 : Asked 0 [[0]]
  | a1 {l : List Int} (h : l.length ≤ 10000) : Asked 1 [[1], l]
  | a2 : Asked 2 [[2]]
  | a3 {l : List Int} (h : l.length ≤ 10000) : Asked 3 [[3], l]
  | a4 {l : List Int} (h : l.length ≤ 10000) : Asked 4 [[4], l]
  | a5 {w : Int} {l : List Int} (h : l.length ≤ 10000) : Asked 5 [[5, w], l]
  | a6 {l l2 : List Int} (h : l.length ≤ 10000) (h2 : l2.length ≤ 10000) : Asked 6 [[6], l, l2]
  | a7 {w : Int} {l : List Int} (h : l.length ≤ 10000) : Asked 7 [[7, w], l]
  | a8 {l : List Int} (h : l.length ≤ 10000) : Asked 8 [[8], l]
theorem asked_ok {c : List (List Int)} (h : VaescnNeutral.asked1 c = true) : ∃ i, Asked i c := by
  unfold VaescnNeutral.asked1 at h
  split at h
  · exact ⟨_, .a0⟩
  · simp only [Bool.and_eq_true, decide_eq_true_eq] at h; exact ⟨_, .a1 h.2⟩
  · exact ⟨_, .a2⟩
  · simp only [Bool.and_eq_true, decide_eq_true_eq] at h; exact ⟨_, .a3 h.2⟩
  · simp only [Bool.and_eq_true, decide_eq_true_eq] at h; exact ⟨_, .a4 h.2⟩
  · simp only [Bool.and_eq_true, decide_eq_true_eq] at h; exact ⟨_, .a5 h.2.2⟩
  · simp only [Bool.and_eq_true, decide_eq_true_eq] at h; exact ⟨_, .a6 h.1.2 h.2.2⟩
  · simp only [Bool.and_eq_true, decide_eq_true_eq] at h; exact ⟨_, .a7 h.2.2⟩
  · simp only [Bool.and_eq_true, decide_eq_true_eq] at h; exact ⟨_, .a8 h.2⟩
  · cases h
theorem Asked.first {i : Nat} {c : List (List Int)} (h : Asked i c) : ∀ {p : Int} {ws : List Int} {rs : List (List Int)}, c = (p :: ws) :: rs → p = (i : Int) ∧ i < 9 := by
  intro p ws rs e
  cases h <;> cases e <;> exact ⟨rfl, by decide⟩
/-- what is answered, with the answers' lengths -/
def told' (S : Vaescn.State) (cs : List (List (List Int))) : List Int := PyFlat.told (PyFlat.played VaescnNeutral.step S cs)
theorem told_nil (S : Vaescn.State) : told' S [] = [] := rfl
theorem told_cons (S : Vaescn.State) (c : List (List Int)) (cs : List (List (List Int))) : told' S (c :: cs) = ((VaescnNeutral.step S c).2.length : Int) :: ((VaescnNeutral.step S c).2 ++ told' (VaescnNeutral.step S c).1 cs) := by
  unfold told' PyFlat.told
  rw [PyFlat.played, List.flatMap_cons]
  rfl
/-- what the statement asks, for the program -/
theorem asked_all {l : List Int} (h : PyVaescn.answers_asked l = true) : ∃ cs, PyFlat.calls PyVaescn.shape l.length l = some cs ∧ (∀ c ∈ cs, VaescnNeutral.asked1 c = true) ∧ PyVaescn.answers l = told' Vaescn.start cs ∧ (told' Vaescn.start cs).length ≤ 10000000 := by
  unfold PyVaescn.answers_asked at h
  cases e : PyFlat.calls PyVaescn.shape l.length l with
  | none => rw [e] at h; cases h
  | some cs =>
    rw [e] at h
    dsimp only at h
    simp only [Bool.and_eq_true] at h
    have em : cs.map PyVaescn.whole = cs := by
      have : PyVaescn.whole = id := funext whole_id
      rw [this, List.map_id]
    have ea : PyVaescn.answers l = told' Vaescn.start cs := by
      unfold PyVaescn.answers PyVaescn.calls
      rw [e]
      dsimp only
      rw [em]
      rfl
    refine ⟨cs, rfl, fun c hc => ?_, ea, ?_⟩
    · have h1 := h.1.2
      rw [em] at h1
      unfold VaescnNeutral.asked at h1
      rw [Bool.and_eq_true] at h1
      exact List.all_eq_true.mp h1.1 c hc
    · have h2 := h.2
      unfold PyFlat.short at h2
      rw [ea] at h2
      exact of_decide_eq_true h2
end Sm

set_option Elab.async false
set_option linter.all false
set_option maxRecDepth 100000
set_option maxHeartbeats 0
namespace Sm
open PySem PySem.Spec PyProof.Rows L2
variable {P : Program} {w : World} {K : PySem.W.Frag} {mg : Str → Option Value} {base : Heap}
/-! promises by their number of arguments -/
def Sp1 (B : V → Hp → VK → Prop) : Sp := fun vs H Q _ => ∃ a, vs = [a] ∧ B a H Q
def Sp2 (B : V → V → Hp → VK → Prop) : Sp := fun vs H Q _ => ∃ a b, vs = [a, b] ∧ B a b H Q
def Sp3 (B : V → V → V → Hp → VK → Prop) : Sp := fun vs H Q _ => ∃ a b c, vs = [a, b, c] ∧ B a b c H Q
def Sp4 (B : V → V → V → V → Hp → VK → Prop) : Sp := fun vs H Q _ => ∃ a b c d, vs = [a, b, c, d] ∧ B a b c d H Q
def Sp5 (B : V → V → V → V → V → Hp → VK → Prop) : Sp := fun vs H Q _ => ∃ a b c d e, vs = [a, b, c, d, e] ∧ B a b c d e H Q
theorem Sp1.len {B : V → Hp → VK → Prop} {vs : List V} {H : Hp} {Q : VK} {E : XK} {x : Str} (h : Sp1 B vs H Q E) : vs.length = [x].length := by
  obtain ⟨a, rfl, _⟩ := h
  rfl
theorem Sp2.len {B : V → V → Hp → VK → Prop} {vs : List V} {H : Hp} {Q : VK} {E : XK} {x y : Str} (h : Sp2 B vs H Q E) : vs.length = [x, y].length := by
  obtain ⟨a, b, rfl, _⟩ := h
  rfl
theorem Sp3.len {B : V → V → V → Hp → VK → Prop} {vs : List V} {H : Hp} {Q : VK} {E : XK} {x y z : Str} (h : Sp3 B vs H Q E) : vs.length = [x, y, z].length := by
  obtain ⟨a, b, c, rfl, _⟩ := h
  rfl
theorem Sp4.len {B : V → V → V → V → Hp → VK → Prop} {vs : List V} {H : Hp} {Q : VK} {E : XK} {x y z u : Str} (h : Sp4 B vs H Q E) : vs.length = [x, y, z, u].length := by
  obtain ⟨a, b, c, d, rfl, _⟩ := h
  rfl
theorem Sp5.len {B : V → V → V → V → V → Hp → VK → Prop} {vs : List V} {H : Hp} {Q : VK} {E : XK} {x y z u t : Str} (h : Sp5 B vs H Q E) : vs.length = [x, y, z, u, t].length := by
  obtain ⟨a, b, c, d, e, rfl, _⟩ := h
  rfl
/-! numbers -/
def vn (n : Nat) : V := .int (n : Int)
def nts (l : NL) : List V := l.map vn
theorem nts_app (a b : NL) : nts (a ++ b) = nts a ++ nts b := List.map_append ..
theorem nts_cons (a : Nat) (b : NL) : nts (a :: b) = V.int (a : Int) :: nts b := rfl
theorem nts_nil : nts [] = [] := rfl
theorem nts_len (a : NL) : (nts a).length = a.length := List.length_map ..
theorem nts_at {l : NL} {i : Nat} {x : V} (h : (nts l)[i]? = some x) : ∃ c, l[i]? = some c ∧ x = V.int (c : Int) := by
  unfold nts at h
  rw [List.getElem?_map] at h
  obtain ⟨c, h1, h2⟩ := Option.map_eq_some_iff.mp h
  exact ⟨c, h1, h2.symm⟩
theorem size_small {n : Nat} (h : n ≤ 16000000) : n ≤ sizeLine := Nat.le_trans h (by decide)
theorem size_lt {n : Nat} (h : n ≤ 16000000) : n < sizeLine := Nat.lt_of_le_of_lt h (by decide)
theorem take_more {α : Type} : ∀ {l : List α} {i : Nat} {x : α}, l[i]? = some x → l.take (i + 1) = l.take i ++ [x]
  | [], i, x, h => by simp at h
  | a :: l, 0, x, h => by
    have e : a = x := Option.some.inj h
    subst e
    rfl
  | a :: l, i + 1, x, h => by
    have ih := take_more (l := l) (i := i) (x := x) h
    show a :: l.take (i + 1) = a :: l.take i ++ [x]
    rw [ih]
    rfl
theorem drop_more {α : Type} {l : List α} {i : Nat} {x : α} (h : l[i]? = some x) : l.drop i = x :: l.drop (i + 1) := by
  obtain ⟨hlt, e⟩ := List.getElem?_eq_some_iff.mp h
  rw [← e]; exact List.drop_eq_getElem_cons hlt
/-! heaps -/
theorem Same.new {H : Hp} {p : Addr} {o : HO} (h : H p = none) : Same H (upd H p o) := fun b u e => by rw [upd_ne (ne_of_none e h)]; exact e
/-- what was not known may change -/
theorem Same.mut {H H' : Hp} {p : Addr} {o : HO} (e : Same H H') (h : H p = none) : Same H (upd H' p o) := fun b u q => by rw [upd_ne (ne_of_none q h)]; exact e b u q
/-- a list of these, at whatever place, the heap grown -/
def RetL (H : Hp) (Q : VK) (xs : List V) : Prop := ∀ (H' : Hp) (p : Addr), Same H H' → H' p = some (.lst xs) → Q (.ref p) H'
/-- .. at a new place -/
def NewL (H : Hp) (Q : VK) (xs : List V) : Prop := ∀ (H' : Hp) (p : Addr), Same H H' → H p = none → H' p = some (.lst xs) → Q (.ref p) H'
theorem RetL.new {H : Hp} {Q : VK} {xs : List V} (h : RetL H Q xs) : NewL H Q xs := fun H' p s _ e => h H' p s e
theorem NewL.here {H H1 : Hp} {Q : VK} {xs : List V} (k : NewL H Q xs) {p : Addr} (s : Same H H1) (h : H1 p = none) : Q (.ref p) (upd H1 p (.lst xs)) :=
  k _ p (s.trans (Same.new h)) (by cases q : H p with
    | none => rfl
    | some o => rw [s p o q] at h; cases h) upd_same
theorem RetL.here {H H1 : Hp} {Q : VK} {xs : List V} (k : RetL H Q xs) {p : Addr} (s : Same H H1) (h : H1 p = none) : Q (.ref p) (upd H1 p (.lst xs)) := k.new.here s h
theorem Same.none {H H' : Hp} {p : Addr} (s : Same H H') (h : H' p = none) : H p = none := by
  cases q : H p with
  | none => rfl
  | some o => rw [s p o q] at h; cases h
/-! truth of lists -/
theorem tru_list {H : Hp} {p : Addr} {xs : List V} (h : H p = some (.lst xs)) : TruV K (.ref p) H (!xs.isEmpty) := .inl ⟨xs, SqL.of h, rfl⟩
theorem nts_isEmpty (l : NL) : (nts l).isEmpty = l.isEmpty := by cases l <;> rfl
/-! numbers in conditions -/
theorem natlit (c k : Nat) : ((c : Int) = no_index (@OfNat.ofNat Int k instOfNat)) = (c = @OfNat.ofNat Nat k (instOfNatNat k)) := by
  apply propext
  constructor
  · intro h; exact Int.ofNat.inj h
  · intro h; rw [h]; rfl
theorem natlt (c k : Nat) : ((c : Int) < no_index (@OfNat.ofNat Int k instOfNat)) = (c < @OfNat.ofNat Nat k (instOfNatNat k)) := by
  apply propext
  exact Int.ofNat_lt (n := c) (m := k)
theorem natle (c k : Nat) : ((c : Int) ≤ no_index (@OfNat.ofNat Int k instOfNat)) = (c ≤ @OfNat.ofNat Nat k (instOfNatNat k)) := by
  apply propext
  exact Int.ofNat_le (m := c) (n := k)
theorem litlt (c k : Nat) : (no_index (@OfNat.ofNat Int k instOfNat) < (c : Int)) = (@OfNat.ofNat Nat k (instOfNatNat k) < c) := by
  apply propext
  exact Int.ofNat_lt (n := k) (m := c)
theorem litle (c k : Nat) : (no_index (@OfNat.ofNat Int k instOfNat) ≤ (c : Int)) = (@OfNat.ofNat Nat k (instOfNatNat k) ≤ c) := by
  apply propext
  exact Int.ofNat_le (m := k) (n := c)
/-! slices -/
theorem cut_take (l : NL) (k : Nat) : cutV (nts l) none (some (k : Int)) = nts (l.take k) := by
  unfold cutV nts
  rw [HT.sIx_none, HT.sIx_nat, List.drop_zero, Nat.sub_zero, ← List.map_take]
  congr 1
  rw [List.length_map]
  by_cases h : k ≤ l.length
  · rw [Nat.min_eq_left h]
  · rw [Nat.min_eq_right (by omega), List.take_of_length_le (by omega), List.take_of_length_le (by omega)]
theorem cut_drop {α : Type} (f : α → V) (l : List α) (k : Nat) : cutV (l.map f) (some (k : Int)) none = (l.drop k).map f := by
  unfold cutV
  rw [HT.sIx_none, HT.sIx_nat, ← List.map_drop, ← List.map_take]
  congr 1
  rw [List.length_map]
  by_cases h : k ≤ l.length
  · rw [Nat.min_eq_left h, List.take_of_length_le (by rw [List.length_drop]; omega)]
  · rw [Nat.min_eq_right (by omega), List.drop_of_length_le (by omega), List.drop_of_length_le (by omega)]; simp
theorem cxK {CX : CXT} {N : List Str} {qual : Str} {scope : Scope} {f : Addr} {cd : Value} {A : Around} {outer : List Env} {s : Shared} {H : Hp} {E : XK} : (cxOf CX P w K mg base N qual scope f cd A outer s H E).nox.K = K := rfl
theorem cxK2 {CX : CXT} {N : List Str} {qual : Str} {scope : Scope} {f : Addr} {cd : Value} {A : Around} {outer : List Env} {s : Shared} {H : Hp} {E : XK} : (cxOf CX P w K mg base N qual scope f cd A outer s H E).K = K := rfl
/-! numbers as data -/
def dN (l : NL) : PyData := .list (l.map fun n : Nat => .int (n : Int))
def dNN (l : List NL) : PyData := .list (l.map dN)
theorem dpAllN {H : Hp} : ∀ l : NL, DpAll K H (nts l) (l.map fun n : Nat => .int (n : Int))
  | [] => .nil
  | _ :: r => .cons (.int _) (dpAllN r)
theorem dpN {H : Hp} {a : Addr} {l : NL} (h : H a = some (.lst (nts l))) : Dp K H (.ref a) (dN l) := .lst (SqL.of h) (dpAllN l)
theorem canN : ∀ l : NL, PyData.canLayAll0 (l.map fun n : Nat => .int (n : Int)) = true ∧ PyData.depthAll (l.map fun n : Nat => .int (n : Int)) = 0
  | [] => ⟨rfl, rfl⟩
  | a :: r => by
    obtain ⟨h1, h2⟩ := canN r
    refine ⟨?_, ?_⟩
    · show (PyData.canLay0 (.int (a : Int)) && PyData.canLayAll0 (r.map fun n : Nat => .int (n : Int))) = true
      rw [h1]; rfl
    · show max (PyData.depth (.int (a : Int))) (PyData.depthAll (r.map fun n : Nat => .int (n : Int))) = 0
      rw [h2]; rfl
theorem shN (l : NL) : SeqAt.shaped (dN l) = true := by
  obtain ⟨h1, h2⟩ := canN l
  unfold SeqAt.shaped dN
  rw [Bool.and_eq_true, decide_eq_true_eq]
  refine ⟨?_, ?_⟩
  · show PyData.canLayAll0 _ = true
    exact h1
  · show PyData.depthAll _ + 1 ≤ 64
    rw [h2]; decide
theorem eqvN : ∀ a b : NL, PyData.eqvAll (a.map fun n : Nat => .int (n : Int)) (b.map fun n : Nat => .int (n : Int)) = decide (a = b)
  | [], [] => rfl
  | [], _ :: _ => rfl
  | _ :: _, [] => rfl
  | x :: a, y :: b => by
    show (PyData.eqv (.int (x : Int)) (.int (y : Int)) && PyData.eqvAll (a.map fun n : Nat => .int (n : Int)) (b.map fun n : Nat => .int (n : Int))) = _
    rw [eqvN a b]
    show (((x : Int) == (y : Int)) && decide (a = b)) = _
    rw [Bool.eq_iff_iff]
    simp
    omega
theorem eqN (a b : NL) : PyData.eqv (dN a) (dN b) = decide (a = b) := by
  show PyData.eqvAll _ _ = _
  exact eqvN a b
theorem eqL {H : Hp} {Q : VK} {p q : Addr} {x y : NL} (hp : H p = some (.lst (nts x))) (hq : H q = some (.lst (nts y))) (k : Q (.bl (decide (x = y))) H) : rEqD K (.ref p) (.ref q) H Q :=
  ⟨_, _, dpN hp, dpN hq, shN _, shN _, by rw [eqN]; exact k⟩
/-- lists of lists of numbers -/
def LLAt (H : Hp) : List V → List NL → Prop
  | [], [] => True
  | v :: vs, l :: ls => (∃ a, v = .ref a ∧ H a = some (.lst (nts l))) ∧ LLAt H vs ls
  | _, _ => False
theorem dpAllNN {H : Hp} : ∀ {vs : List V} {ls : List NL}, LLAt H vs ls → DpAll K H vs (ls.map dN)
  | [], [], _ => .nil
  | _ :: _, _ :: _, ⟨⟨_, e, h⟩, r⟩ => by subst e; exact .cons (dpN h) (dpAllNN r)
  | [], _ :: _, h => h.elim
  | _ :: _, [], h => h.elim
theorem canNN : ∀ l : List NL, PyData.canLayAll0 (l.map dN) = true ∧ PyData.depthAll (l.map dN) ≤ 1
  | [] => ⟨rfl, by decide⟩
  | a :: r => by
    obtain ⟨h1, h2⟩ := canNN r
    obtain ⟨h3, h4⟩ := canN a
    refine ⟨?_, ?_⟩
    · show (PyData.canLay0 (dN a) && PyData.canLayAll0 (r.map dN)) = true
      rw [h1, show PyData.canLay0 (dN a) = true from h3]; rfl
    · show max (PyData.depth (dN a)) (PyData.depthAll (r.map dN)) ≤ 1
      have : PyData.depth (dN a) = 1 := by
        show PyData.depthAll _ + 1 = 1
        rw [h4]
      omega
theorem shNN (l : List NL) : SeqAt.shaped (dNN l) = true := by
  obtain ⟨h1, h2⟩ := canNN l
  unfold SeqAt.shaped dNN
  rw [Bool.and_eq_true, decide_eq_true_eq]
  refine ⟨?_, ?_⟩
  · show PyData.canLayAll0 _ = true
    exact h1
  · show PyData.depthAll _ + 1 ≤ 64
    omega
theorem eqvNN : ∀ a b : List NL, PyData.eqvAll (a.map dN) (b.map dN) = decide (a = b)
  | [], [] => rfl
  | [], _ :: _ => rfl
  | _ :: _, [] => rfl
  | x :: a, y :: b => by
    show (PyData.eqv (dN x) (dN y) && PyData.eqvAll (a.map dN) (b.map dN)) = _
    rw [eqvNN a b, eqN, Bool.eq_iff_iff]
    simp
theorem eqLL {H : Hp} {Q : VK} {p q : Addr} {vs us : List V} {x y : List NL} (hp : H p = some (.lst vs)) (hx : LLAt H vs x) (hq : H q = some (.lst us)) (hy : LLAt H us y) (k : Q (.bl (decide (x = y))) H) : rEqD K (.ref p) (.ref q) H Q :=
  ⟨dNN x, dNN y, .lst (SqL.of hp) (dpAllNN hx), .lst (SqL.of hq) (dpAllNN hy), shNN _, shNN _, by
    have e : PyData.eqv (dNN x) (dNN y) = decide (x = y) := eqvNN x y
    rw [e]; exact k⟩
/-! ### signs -/
def spNB (f : Nat → Bool) : Sp := Sp1 fun a H Q => ∃ n : Nat, a = .int (n : Int) ∧ Q (.bl (f n)) H
theorem chain2 {x lo hi : Int} {Q : VK} {H : Hp} (k : Q (.bl (decide (lo ≤ x) && decide (x ≤ hi))) H) :
    if decide (lo ≤ x) = true then ∃ i j, V.int x = .int i ∧ V.int hi = .int j ∧ Q (.bl (decide (i ≤ j))) H else Q (.bl false) H := by
  cases e : decide (lo ≤ x) with
  | true => rw [if_pos rfl]; rw [e] at k; exact ⟨_, _, rfl, rfl, k⟩
  | false => rw [if_neg Bool.false_ne_true]; rw [e] at k; exact k
theorem or_end {b c : Bool} {Q : VK} {H : Hp} {A : Prop} (k : Q (.bl (b || c)) H) (f : Q (.bl c) H → A) : if b = true then Q (.bl true) H else A := by
  cases b with
  | true => exact iteT k
  | false => exact iteF (f k)
theorem rng_nat (lo hi n : Nat) : (decide ((lo : Int) ≤ (n : Int)) && decide ((n : Int) ≤ (hi : Int))) = (decide (lo ≤ n) && decide (n ≤ hi)) := by
  have e1 : decide ((lo : Int) ≤ (n : Int)) = decide (lo ≤ n) := by simp
  have e2 : decide ((n : Int) ≤ (hi : Int)) = decide (n ≤ hi) := by simp
  rw [e1, e2]
theorem any_nats (n : Nat) : ∀ l : NL, inV (.int (n : Int)) (nts l) = l.contains n
  | [] => rfl
  | a :: r => by
    have ih := any_nats n r
    unfold inV at ih ⊢
    rw [nts_cons, List.any_cons, ih, List.contains_cons]
    show (((a : Int) == (n : Int)) || _) = (n == a || _)
    have : ((a : Int) == (n : Int)) = (n == a) := by
      rw [Bool.eq_iff_iff]
      simp
      omega
    rw [this]
theorem flat_nats : ∀ l : NL, (nts l).all flatV = true
  | [] => rfl
  | a :: r => by
    rw [nts_cons, List.all_cons, flat_nats r]; rfl
def spIB (f : Int → Bool) : Sp := Sp1 fun a H Q => ∃ n : Int, a = .int n ∧ Q (.bl (f n)) H
theorem ok_is_byte (T : Tx K mg) : FnOk P w K mg base CX0 1 (He.fAd K ("is_byte", none)) (fdA K ("is_byte", none)) ["number"] (spIB Vaescn.isByte) := by
  refine (F_is_byte T).ok sc_is_byte (fun vs H Q E h => Sp1.len h) (fun cdv A outer s H vs Q E hr h => ⟨_, PSs.nox (pss_one (ps_ret (pe_chain op_le op_le pe_int (pv 0) (pe_gi rfl (i_LARGEST_BYTE T))))), ?_⟩)
  show _
  try simp only [cxK, cxK2]
  obtain ⟨a, rfl, n, rfl, k⟩ := h
  exact ⟨_, rfl, _, _, rfl, rfl, _, rfl, chain2 k⟩
theorem ok_is_small_letter (T : Tx K mg) : FnOk P w K mg base CX0 1 (He.fAd K ("is_small_letter", none)) (fdA K ("is_small_letter", none)) ["sign"] (spNB Vaesca.isSmall) := by
  refine (F_is_small_letter T).ok sc_is_small_letter (fun vs H Q E h => Sp1.len h) (fun cdv A outer s H vs Q E hr h => ⟨_, PSs.nox (pss_one (ps_ret (pe_chain op_le op_le pe_int (pv 0) pe_int))), ?_⟩)
  show _
  try simp only [cxK, cxK2]
  obtain ⟨a, rfl, n, rfl, k⟩ := h
  exact ⟨_, rfl, _, _, rfl, rfl, _, rfl, chain2 (by rw [show (97 : Int) = ((97 : Nat) : Int) from rfl, show (122 : Int) = ((122 : Nat) : Int) from rfl, rng_nat]; exact k)⟩
theorem ok_is_large_letter (T : Tx K mg) : FnOk P w K mg base CX0 1 (He.fAd K ("is_large_letter", none)) (fdA K ("is_large_letter", none)) ["sign"] (spNB Vaesca.isGreat) := by
  refine (F_is_large_letter T).ok sc_is_large_letter (fun vs H Q E h => Sp1.len h) (fun cdv A outer s H vs Q E hr h => ⟨_, PSs.nox (pss_one (ps_ret (pe_chain op_le op_le pe_int (pv 0) pe_int))), ?_⟩)
  show _
  try simp only [cxK, cxK2]
  obtain ⟨a, rfl, n, rfl, k⟩ := h
  exact ⟨_, rfl, _, _, rfl, rfl, _, rfl, chain2 (by rw [show (65 : Int) = ((65 : Nat) : Int) from rfl, show (90 : Int) = ((90 : Nat) : Int) from rfl, rng_nat]; exact k)⟩
theorem ok_is_digit (T : Tx K mg) : FnOk P w K mg base CX0 1 (He.fAd K ("is_digit", none)) (fdA K ("is_digit", none)) ["sign"] (spNB Vaesca.isDigit) := by
  refine (F_is_digit T).ok sc_is_digit (fun vs H Q E h => Sp1.len h) (fun cdv A outer s H vs Q E hr h => ⟨_, PSs.nox (pss_one (ps_ret (pe_chain op_le op_le pe_int (pv 0) pe_int))), ?_⟩)
  show _
  try simp only [cxK, cxK2]
  obtain ⟨a, rfl, n, rfl, k⟩ := h
  exact ⟨_, rfl, _, _, rfl, rfl, _, rfl, chain2 (by rw [show (48 : Int) = ((48 : Nat) : Int) from rfl, show (57 : Int) = ((57 : Nat) : Int) from rfl, rng_nat]; exact k)⟩
theorem dec_lit (n k : Nat) : decide (V.int (n : Int) = V.int (k : Int)) = (n == k) := by
  rw [dec_int, Bool.eq_iff_iff]
  simp
  omega
theorem or3 (a b c : Bool) : (a || (b || c)) = (a || b || c) := by cases a <;> cases b <;> cases c <;> rfl
theorem or4 (a b c d : Bool) : (a || (b || (c || d))) = (a || b || c || d) := by cases a <;> cases b <;> cases c <;> cases d <;> rfl
theorem ok_is_name_sign (T : Tx K mg) : FnOk P w K mg base CX0 2 (He.fAd K ("is_name_sign", none)) (fdA K ("is_name_sign", none)) ["sign"] (spNB Vaesca.isNameSign) := by
  refine (F_is_name_sign T).ok sc_is_name_sign (fun vs H Q E h => Sp1.len h) (fun cdv A outer s H vs Q E hr h => ⟨_, PSs.nox (pss_one (ps_ret (pe_or (pe_call (ok_is_small_letter T) (hr.mono (by decide)) rfl (g_is_small_letter T) (F_is_small_letter T).kp (B_is_small_letter T) .nil pass0 (pa_cons (pv 0) pa_nil)) (pe_or (pe_call (ok_is_digit T) (hr.mono (by decide)) rfl (g_is_digit T) (F_is_digit T).kp (B_is_digit T) .nil pass0 (pa_cons (pv 0) pa_nil)) (pe_one (pe_cmpR op_eq (pv 0) (pe_gi rfl (i_DASH T)) (nomark _))))))), ?_⟩)
  show _
  try simp only [cxK, cxK2]
  obtain ⟨a, rfl, n, rfl, k⟩ := h
  have k2 : Q (.bl (Vaesca.isSmall n || (Vaesca.isDigit n || n == 45))) H := by rw [or3]; exact k
  exact ⟨_, rfl, _, rfl, n, rfl, _, rfl, or_end k2 fun k => ⟨_, rfl, _, rfl, n, rfl, _, rfl, or_end k fun k => ⟨_, rfl, rfl, by rw [show (45 : Int) = ((45 : Nat) : Int) from rfl, dec_lit]; exact k⟩⟩⟩
theorem ok_is_body_sign (T : Tx K mg) : FnOk P w K mg base CX0 2 (He.fAd K ("is_body_sign", none)) (fdA K ("is_body_sign", none)) ["sign"] (spNB isBody) := by
  refine (F_is_body_sign T).ok sc_is_body_sign (fun vs H Q E h => Sp1.len h) (fun cdv A outer s H vs Q E hr h => ⟨_, PSs.nox (pss_one (ps_ret (pe_or (pe_call (ok_is_small_letter T) (hr.mono (by decide)) rfl (g_is_small_letter T) (F_is_small_letter T).kp (B_is_small_letter T) .nil pass0 (pa_cons (pv 0) pa_nil)) (pe_or (pe_call (ok_is_large_letter T) (hr.mono (by decide)) rfl (g_is_large_letter T) (F_is_large_letter T).kp (B_is_large_letter T) .nil pass0 (pa_cons (pv 0) pa_nil)) (pe_or (pe_call (ok_is_digit T) (hr.mono (by decide)) rfl (g_is_digit T) (F_is_digit T).kp (B_is_digit T) .nil pass0 (pa_cons (pv 0) pa_nil)) (pe_one (pe_cmpR op_eq (pv 0) (pe_gi rfl (i_NUMBER_SIGN T)) (nomark _)))))))), ?_⟩)
  show _
  try simp only [cxK, cxK2]
  obtain ⟨a, rfl, n, rfl, k⟩ := h
  have k2 : Q (.bl (Vaesca.isSmall n || (Vaesca.isGreat n || (Vaesca.isDigit n || n == 35)))) H := by rw [or4]; exact k
  exact ⟨_, rfl, _, rfl, n, rfl, _, rfl, or_end k2 fun k => ⟨_, rfl, _, rfl, n, rfl, _, rfl, or_end k fun k => ⟨_, rfl, _, rfl, n, rfl, _, rfl, or_end k fun k => ⟨_, rfl, rfl, by rw [show (35 : Int) = ((35 : Nat) : Int) from rfl, dec_lit]; exact k⟩⟩⟩⟩
theorem blank_eq (n : Nat) : Vaesca.isBlank n = [9, 10, 13, 32].contains n := by
  unfold Vaesca.isBlank
  simp only [List.contains, List.elem]
  cases h1 : n == 9 <;> cases h2 : n == 10 <;> cases h3 : n == 13 <;> cases h4 : n == 32 <;> simp
theorem ok_is_blank (T : Tx K mg) : FnOk P w K mg base CX0 1 (He.fAd K ("is_blank", none)) (fdA K ("is_blank", none)) ["sign"] (spNB Vaesca.isBlank) := by
  refine (F_is_blank T).ok sc_is_blank (fun vs H Q E h => Sp1.len h) (fun cdv A outer s H vs Q E hr h => ⟨_, PSs.nox (pss_one (ps_ret (pe_cmpR op_in_seq (pv 0) (pe_glob (v := .ref (He.ga K "BLANKS")) rfl (g_BLANKS T) rfl) (by rfl)))), ?_⟩)
  show _
  try simp only [cxK, cxK2]
  obtain ⟨a, rfl, n, rfl, k⟩ := h
  exact ⟨_, rfl, _, _, rfl, .inr (t_BLANKS T _), rfl, rfl, by
    have e : inV (.int (n : Int)) [.int 9, .int 10, .int 13, .int 32] = [9, 10, 13, 32].contains n := any_nats n [9, 10, 13, 32]
    rw [e, ← blank_eq]; exact k⟩
theorem ok_is_bare (T : Tx K mg) : FnOk P w K mg base CX0 1 (He.fAd K ("is_bare", none)) (fdA K ("is_bare", none)) ["sign"] (spNB isBareB) := by
  refine (F_is_bare T).ok sc_is_bare (fun vs H Q E h => Sp1.len h) (fun cdv A outer s H vs Q E hr h => ⟨_, PSs.nox (pss_one (ps_ret (pe_cmpR op_notIn_seq (pv 0) (pe_glob (v := .ref (He.ga K "NOT_BARE")) rfl (g_NOT_BARE T) rfl) (by rfl)))), ?_⟩)
  show _
  try simp only [cxK, cxK2]
  obtain ⟨a, rfl, n, rfl, k⟩ := h
  exact ⟨_, rfl, _, _, rfl, .inr (t_NOT_BARE T _), rfl, rfl, by
    have e : inV (.int (n : Int)) [.int 9, .int 10, .int 13, .int 32, .int 34, .int 38, .int 39, .int 60, .int 61, .int 62, .int 96] = [9, 10, 13, 32, 34, 38, 39, 60, 61, 62, 96].contains n := any_nats n [9, 10, 13, 32, 34, 38, 39, 60, 61, 62, 96]
    rw [e]
    exact k⟩

end Sm

set_option Elab.async false
set_option linter.all false
set_option maxRecDepth 100000
set_option maxHeartbeats 0
namespace Sm
open PySem PySem.Spec PyProof.Rows L2
variable {P : Program} {w : World} {K : PySem.W.Frag} {mg : Str → Option Value} {base : Heap}
/-! ### the signs of a text -/
def cpsL (z : Str) : NL := z.cps.toList
def spSigns : Sp := Sp1 fun a H Q => ∃ z : Str, a = .str z ∧ (cpsL z).length ≤ 1000 ∧ NewL H Q (nts (cpsL z))
theorem ok_signs_of (T : Tx K mg) : FnOk P w K mg base CX0 1 (He.fAd K ("signs_of", none)) (fdA K ("signs_of", none)) ["words"] spSigns := by
  refine (F_signs_of T).ok sc_signs_of (fun vs H Q E h => Sp1.len h) (fun cdv A outer s H vs Q E hr h => ⟨_, PSs.nox (pss_one (ps_ret (pe_lc (own := [("letter", 1)]) (by rfl) sc_signs_of.nd (pi_str (pv 0)) (blkOk_by (own := [("letter", 1)]) (N := ["words", "letter"]) (sc := defScope (sT 34)) (by decide +kernel)) (fun _ _ _ _ _ => (pg_name (i := 1) sc_signs_of.nd rfl (Or.inl rfl))) (fun _ _ _ _ _ => pts_nil) (fun _ _ _ _ _ => (pe_callB call_ord (by rfl) (n_ord T) (by decide +kernel) (pa_cons (pv 1) pa_nil)))))), ?_⟩)
  show _
  try simp only [cxK, cxK2]
  obtain ⟨a, rfl, z, rfl, hl, k⟩ := h
  refine ⟨_, rfl, z, rfl, fun D hD => lc_it walk_str (fun i H' => Same H H' ∧ H' D = some (.lst (nts ((cpsL z).take i)))) ⟨Same.new hD, upd_same⟩ (fun _ _ _ _ => trivial) (fun i x H1 H2 hi p y => ?_) (fun H1 p => ?_)⟩
  · obtain ⟨rfl, c, hc, rfl⟩ := y
    obtain ⟨s1, e1⟩ := p
    have hc2 : (cpsL z)[i]? = some c := by
      unfold cpsL
      rw [Array.getElem?_toList]
      exact hc
    refine ⟨rfl, ?_⟩
    simp only [tSeq, tIfS, tTest, tB, tOp, tUn, tVar, tC, rEq, rNe, rI0, rI, tAsg, gName, tRet, tRetN, tDrop, tNext, tCont, tCall, tCons, tNil, tCB, tAnd, tOr, tNot, tAndV, tOrV, tNotV, tIf, tIsN, tNotN, L2.start, tChain, cxK, cxK2, tSl, rSlL, tNoPart, tPart, Sp1, Sp2, Sp3, Sp4, Sp5, scal, natlit, natlt, natle, litlt, litle, Int.natCast_inj, Int.ofNat_lt, Int.ofNat_le, Int.cast_ofNat_Int, List.map, List.length, List.replicate, Nat.reduceAdd, Nat.reduceSub, Nat.sub_self, List.cons_append, List.nil_append, List.append_nil, List.getElem?_cons_succ, List.getElem?_cons_zero, List.set_cons_succ, List.set_cons_zero, Option.some.injEq, V.int.injEq, V.bl.injEq, V.ref.injEq, V.str.injEq, List.cons.injEq, and_assoc, exists_eq_left', exists_eq_left, exists_and_left, exists_eq', decide_eq_true_eq, true_and, and_true, Bool.not_eq_true', decide_eq_false_iff_not, Bool.false_eq_true, if_true, if_false, tYes, wipe, List.foldl]
    refine ⟨rfl, _, e1, ?_, Same.mut s1 hD, ?_⟩
    · rw [nts_len]
      exact size_lt (by have := List.length_take_le' i (cpsL z); omega)
    · rw [upd_same, take_more hc2, nts_app]
      rfl
  · obtain ⟨s1, e1⟩ := p
    have e : (cpsL z).take z.cps.size = cpsL z := List.take_of_length_le (by unfold cpsL; simp)
    rw [e] at e1
    exact k _ D s1 hD e1
/-! ### references -/
def optV : Option Nat → V
  | none => .non
  | some n => .int (n : Int)
theorem ordS : ((Str.ofString "a").cps.getD 0 0 = 97 ∧ (Str.ofString "f").cps.getD 0 0 = 102 ∧ (Str.ofString "A").cps.getD 0 0 = 65 ∧ (Str.ofString "F").cps.getD 0 0 = 70 ∧ (Str.ofString "0").cps.getD 0 0 = 48) ∧
    ((Str.ofString "a").length = 1 ∧ (Str.ofString "f").length = 1 ∧ (Str.ofString "A").length = 1 ∧ (Str.ofString "F").length = 1 ∧ (Str.ofString "0").length = 1) := by decide +kernel
def digitV (n : Int) : V := if 48 ≤ n ∧ n ≤ 57 then .int (n - 48) else if 97 ≤ n then (if n ≤ 102 then .int (n - 97 + 10) else .non) else if 65 ≤ n then (if n ≤ 70 then .int (n - 65 + 10) else .non) else .non
theorem digit_eq (n : Nat) : digitV (n : Int) = optV (Vaesca.hexOf n) := by
  unfold digitV Vaesca.hexOf Vaesca.isDigit
  simp only [Bool.and_eq_true, decide_eq_true_eq]
  (repeat' split) <;> first | (exfalso; omega) | rfl | (show V.int _ = V.int _; congr 1; omega)
def spDigit : Sp := Sp1 fun a H Q => ∃ n : Nat, a = .int (n : Int) ∧ Q (optV (Vaesca.hexOf n)) H
theorem ok_digit_value (T : Tx K mg) : FnOk P w K mg base CX0 2 (He.fAd K ("digit_value", none)) (fdA K ("digit_value", none)) ["sign"] spDigit := by
  refine (F_digit_value T).ok sc_digit_value (fun vs H Q E h => Sp1.len h) (fun cdv A outer s H vs Q E hr h => ⟨_, PSs.nox (pss_cons (ps_if (pt_val (pe_call (ok_is_digit T) (hr.mono (by decide)) rfl (g_is_digit T) (F_is_digit T).kp (B_is_digit T) .nil pass0 (pa_cons (pv 0) pa_nil))) (pss_one (ps_ret (pe_op op_sub (pv 0) (pe_callB call_ord (by rfl) (n_ord T) (by decide +kernel) (pa_cons pe_str pa_nil))))) pss_nil) (pss_cons (ps_if (pt_chain op_le op_le (pe_callB call_ord (by rfl) (n_ord T) (by decide +kernel) (pa_cons pe_str pa_nil)) (pv 0) (pe_callB call_ord (by rfl) (n_ord T) (by decide +kernel) (pa_cons pe_str pa_nil))) (pss_one (ps_ret (pe_op op_add (pe_op op_sub (pv 0) (pe_callB call_ord (by rfl) (n_ord T) (by decide +kernel) (pa_cons pe_str pa_nil))) pe_int))) pss_nil) (pss_cons (ps_if (pt_chain op_le op_le (pe_callB call_ord (by rfl) (n_ord T) (by decide +kernel) (pa_cons pe_str pa_nil)) (pv 0) (pe_callB call_ord (by rfl) (n_ord T) (by decide +kernel) (pa_cons pe_str pa_nil))) (pss_one (ps_ret (pe_op op_add (pe_op op_sub (pv 0) (pe_callB call_ord (by rfl) (n_ord T) (by decide +kernel) (pa_cons pe_str pa_nil))) pe_int))) pss_nil) (pss_one (ps_ret pe_non))))), ?_⟩)
  show _
  try simp only [cxK, cxK2]
  obtain ⟨a, rfl, n, rfl, k⟩ := h
  rw [← digit_eq] at k
  unfold digitV at k
  simp only [tSeq, tIfS, tTest, tB, tOp, tUn, tVar, tC, rEq, rNe, rI0, rI, tAsg, gName, tRet, tRetN, tDrop, tNext, tCont, tCall, tCons, tNil, tCB, tAnd, tOr, tNot, tAndV, tOrV, tNotV, tIf, tIsN, tNotN, L2.start, tChain, cxK, cxK2, tSl, rSlL, tNoPart, tPart, Sp1, Sp2, Sp3, Sp4, Sp5, scal, natlit, natlt, natle, litlt, litle, Int.natCast_inj, Int.ofNat_lt, Int.ofNat_le, Int.cast_ofNat_Int, List.map, List.length, List.replicate, Nat.reduceAdd, Nat.reduceSub, Nat.sub_self, List.cons_append, List.nil_append, List.append_nil, List.getElem?_cons_succ, List.getElem?_cons_zero, List.set_cons_succ, List.set_cons_zero, Option.some.injEq, V.int.injEq, V.bl.injEq, V.ref.injEq, V.str.injEq, List.cons.injEq, and_assoc, exists_eq_left', exists_eq_left, exists_and_left, exists_eq', decide_eq_true_eq, true_and, and_true, Bool.not_eq_true', decide_eq_false_iff_not, Bool.false_eq_true, if_true, if_false, spNB, Sp1, ordS, Vaesca.isDigit, Int.natCast_inj]
  have e1 : ((decide (48 ≤ n) && decide (n ≤ 57)) = true) = (48 ≤ (n : Int) ∧ (n : Int) ≤ 57) := by
    simp only [Bool.and_eq_true, decide_eq_true_eq]
    apply propext; omega
  rw [ite_congr e1 (fun _ => rfl) (fun _ => rfl)]
  (repeat' split) <;> (repeat' split at k) <;> first | exact k | (exfalso; omega)

end Sm

set_option Elab.async false
set_option linter.all false
set_option maxRecDepth 100000
set_option maxHeartbeats 0
namespace Sm
open PySem PySem.Spec PyProof.Rows L2
variable {P : Program} {w : World} {K : PySem.W.Frag} {mg : Str → Option Value} {base : Heap}
/-! ### a reference's byte -/
def foldD (b : Nat) : NL → Nat → Option Nat
  | [], acc => some acc
  | c :: r, acc => match Vaesca.hexOf c with
    | none => none
    | some d => if b ≤ d then none else foldD b r (acc * b + d)
def baseO (b most : Nat) (ds : NL) : Option Nat := if 1 ≤ ds.length ∧ ds.length ≤ most then (match foldD b ds 0 with
    | none => none
    | some n => if 255 < n then none else some n) else none
def spBase : Sp := Sp3 fun a b c H Q => ∃ (p : Addr) (ds : NL) (bs most : Nat), a = .ref p ∧ b = .int (bs : Int) ∧ c = .int (most : Int) ∧ H p = some (.lst (nts ds)) ∧ (0 < bs ∧ bs < 1000) ∧ Q (optV (baseO bs most ds)) H
theorem if_and_goal {a b : Prop} [Decidable a] [Decidable b] {A B : Prop} (h : if a ∧ b then A else B) : if a then (if b then A else B) else B := by
  by_cases ha : a
  · rw [if_pos ha]
    by_cases hb : b
    · rw [if_pos hb]; rw [if_pos ⟨ha, hb⟩] at h; exact h
    · rw [if_neg hb]; rw [if_neg (fun z => hb z.2)] at h; exact h
  · rw [if_neg ha]; rw [if_neg (fun z => ha z.1)] at h; exact h
theorem ok_byte_in_base (T : Tx K mg) : FnOk P w K mg base CX0 3 (He.fAd K ("byte_in_base", none)) (fdA K ("byte_in_base", none)) ["digits", "base", "most"] spBase := by
  refine (F_byte_in_base T).ok sc_byte_in_base (fun vs H Q E h => Sp3.len h) (fun cdv A outer s H vs Q E hr h => ⟨_, PSs.nox (pss_cons (ps_if (pt_not (pt_chain op_le op_le pe_int (pe_callB call_len_seq (by rfl) (n_len T) (by decide +kernel) (pa_cons (pv 0) pa_nil)) (pv 2))) (pss_one (ps_ret pe_non)) pss_nil) (pss_cons (ps_set (i := 3) sc_byte_in_base.nd rfl (Or.inl rfl) pe_int) (pss_cons (ps_for PassesOwn.never rfl (pi_list (pv 0)) (pg_name (i := 4) sc_byte_in_base.nd rfl (Or.inl rfl)) (pss_cons (ps_set (i := 5) sc_byte_in_base.nd rfl (Or.inl rfl) (pe_call (ok_digit_value T) (hr.mono (by decide)) rfl (g_digit_value T) (F_digit_value T).kp (B_digit_value T) .nil pass0 (pa_cons (pv 4) pa_nil))) (pss_cons (ps_if (PW.pt (pw_or (pt_cmpR op_isN (pv 5) pe_non (nomark _)) (pw_or1 (pt_cmpR op_ge (pv 5) (pv 1) (nomark _))))) (pss_one (ps_ret pe_non)) pss_nil) (pss_one (ps_set (i := 3) sc_byte_in_base.nd rfl (Or.inl rfl) (pe_op op_add (pe_op op_mul (pv 3) (pv 1)) (pv 5))))))) (pss_cons (ps_if (pt_cmpR op_gt (pv 3) (pe_gi rfl (i_LARGEST_BYTE T)) (nomark _)) (pss_one (ps_ret pe_non)) pss_nil) (pss_one (ps_ret (pv 3))))))), ?_⟩)
  show _
  try simp only [cxK, cxK2]
  obtain ⟨a, b, c, rfl, p, ds, bs, most, rfl, rfl, rfl, hp, hb, k⟩ := h
  unfold baseO at k
  simp only [tSeq, tIfS, tTest, tB, tOp, tUn, tVar, tC, rEq, rNe, rI0, rI, tAsg, gName, tRet, tRetN, tDrop, tNext, tCont, tCall, tCons, tNil, tCB, tAnd, tOr, tNot, tAndV, tOrV, tNotV, tIf, tIsN, tNotN, L2.start, tChain, cxK, cxK2, tSl, rSlL, tNoPart, tPart, Sp1, Sp2, Sp3, Sp4, Sp5, scal, natlit, natlt, natle, litlt, litle, Int.natCast_inj, Int.ofNat_lt, Int.ofNat_le, Int.cast_ofNat_Int, List.map, List.length, List.replicate, Nat.reduceAdd, Nat.reduceSub, Nat.sub_self, List.cons_append, List.nil_append, List.append_nil, List.getElem?_cons_succ, List.getElem?_cons_zero, List.set_cons_succ, List.set_cons_zero, Option.some.injEq, V.int.injEq, V.bl.injEq, V.ref.injEq, V.str.injEq, List.cons.injEq, and_assoc, exists_eq_left', exists_eq_left, exists_and_left, exists_eq', decide_eq_true_eq, true_and, and_true, Bool.not_eq_true', decide_eq_false_iff_not, Bool.false_eq_true, if_true, if_false]
  refine ⟨nts ds, .inl (SqL.of hp), ?_⟩
  rw [nts_len]
  by_cases c1 : 1 ≤ ds.length
  case neg =>
    rw [if_neg (fun z => c1 z.1)] at k
    rw [if_neg (by omega)]
    exact k
  by_cases c2 : ds.length ≤ most
  case neg =>
    rw [if_neg (fun z => c2 z.2)] at k
    rw [if_pos (by omega), if_pos c2]
    exact k
  rw [if_pos ⟨c1, c2⟩] at k
  rw [if_pos (show 1 ≤ ds.length by omega), if_neg (fun z => z c2)]
  refine ⟨_, rfl, p, rfl, ⟨_, SqL.of hp⟩, for_it (walk_list (xs := nts ds)) (fun i σ H' => H' = H ∧ ∃ (acc : Nat) (v w : Option V), σ = [some (V.ref p), some (V.int bs), some (V.int most), some (V.int acc), v, w] ∧ foldD bs ds 0 = foldD bs (ds.drop i) acc) ⟨rfl, 0, _, _, rfl, rfl⟩ (fun i σ H' _ h => by obtain ⟨rfl, _⟩ := h; exact SqL.of hp) (fun i x σ H1 H2 hi pv y => ?_) (fun σ H' h => ?_)⟩
  · obtain ⟨rfl, y⟩ := y
    obtain ⟨rfl, acc, v, w, rfl, hf⟩ := pv
    obtain ⟨c, hc, rfl⟩ := nts_at y
    rw [drop_more hc, foldD] at hf
    simp only [tSeq, tIfS, tTest, tB, tOp, tUn, tVar, tC, rEq, rNe, rI0, rI, tAsg, gName, tRet, tRetN, tDrop, tNext, tCont, tCall, tCons, tNil, tCB, tAnd, tOr, tNot, tAndV, tOrV, tNotV, tIf, tIsN, tNotN, L2.start, tChain, cxK, cxK2, tSl, rSlL, tNoPart, tPart, Sp1, Sp2, Sp3, Sp4, Sp5, scal, natlit, natlt, natle, litlt, litle, Int.natCast_inj, Int.ofNat_lt, Int.ofNat_le, Int.cast_ofNat_Int, List.map, List.length, List.replicate, Nat.reduceAdd, Nat.reduceSub, Nat.sub_self, List.cons_append, List.nil_append, List.append_nil, List.getElem?_cons_succ, List.getElem?_cons_zero, List.set_cons_succ, List.set_cons_zero, Option.some.injEq, V.int.injEq, V.bl.injEq, V.ref.injEq, V.str.injEq, List.cons.injEq, and_assoc, exists_eq_left', exists_eq_left, exists_and_left, exists_eq', decide_eq_true_eq, true_and, and_true, Bool.not_eq_true', decide_eq_false_iff_not, Bool.false_eq_true, if_true, if_false, spDigit, Sp1]
    cases e : Vaesca.hexOf c with
    | none =>
      rw [e] at hf
      rw [show foldD bs ds 0 = none from hf] at k
      simp only [tSeq, tIfS, tTest, tB, tOp, tUn, tVar, tC, rEq, rNe, rI0, rI, tAsg, gName, tRet, tRetN, tDrop, tNext, tCont, tCall, tCons, tNil, tCB, tAnd, tOr, tNot, tAndV, tOrV, tNotV, tIf, tIsN, tNotN, L2.start, tChain, cxK, cxK2, tSl, rSlL, tNoPart, tPart, Sp1, Sp2, Sp3, Sp4, Sp5, scal, natlit, natlt, natle, litlt, litle, Int.natCast_inj, Int.ofNat_lt, Int.ofNat_le, Int.cast_ofNat_Int, List.map, List.length, List.replicate, Nat.reduceAdd, Nat.reduceSub, Nat.sub_self, List.cons_append, List.nil_append, List.append_nil, List.getElem?_cons_succ, List.getElem?_cons_zero, List.set_cons_succ, List.set_cons_zero, Option.some.injEq, V.int.injEq, V.bl.injEq, V.ref.injEq, V.str.injEq, List.cons.injEq, and_assoc, exists_eq_left', exists_eq_left, exists_and_left, exists_eq', decide_eq_true_eq, true_and, and_true, Bool.not_eq_true', decide_eq_false_iff_not, Bool.false_eq_true, if_true, if_false, optV]
      exact k
    | some d =>
      rw [e] at hf
      simp only [tSeq, tIfS, tTest, tB, tOp, tUn, tVar, tC, rEq, rNe, rI0, rI, tAsg, gName, tRet, tRetN, tDrop, tNext, tCont, tCall, tCons, tNil, tCB, tAnd, tOr, tNot, tAndV, tOrV, tNotV, tIf, tIsN, tNotN, L2.start, tChain, cxK, cxK2, tSl, rSlL, tNoPart, tPart, Sp1, Sp2, Sp3, Sp4, Sp5, scal, natlit, natlt, natle, litlt, litle, Int.natCast_inj, Int.ofNat_lt, Int.ofNat_le, Int.cast_ofNat_Int, List.map, List.length, List.replicate, Nat.reduceAdd, Nat.reduceSub, Nat.sub_self, List.cons_append, List.nil_append, List.append_nil, List.getElem?_cons_succ, List.getElem?_cons_zero, List.set_cons_succ, List.set_cons_zero, Option.some.injEq, V.int.injEq, V.bl.injEq, V.ref.injEq, V.str.injEq, List.cons.injEq, and_assoc, exists_eq_left', exists_eq_left, exists_and_left, exists_eq', decide_eq_true_eq, true_and, and_true, Bool.not_eq_true', decide_eq_false_iff_not, Bool.false_eq_true, if_true, if_false, optV, rI0, reduceCtorEq]
      by_cases c3 : bs ≤ d
      · rw [if_pos c3]
        rw [show foldD bs ds 0 = none from hf.trans (if_pos c3)] at k
        exact k
      · rw [if_neg c3]
        refine ⟨.inr ⟨by omega, by omega⟩, acc * bs + d, ?_, hf.trans (if_neg c3)⟩
        simp only [Int.natCast_add, Int.natCast_mul]
  · obtain ⟨rfl, acc, v, w, rfl, hf⟩ := h
    rw [nts_len, List.drop_length] at hf
    have hf2 : foldD bs ds 0 = some acc := hf
    rw [hf2] at k
    have k2 : Q (optV (if 255 < acc then none else some acc)) H' := k
    simp only [tSeq, tIfS, tTest, tB, tOp, tUn, tVar, tC, rEq, rNe, rI0, rI, tAsg, gName, tRet, tRetN, tDrop, tNext, tCont, tCall, tCons, tNil, tCB, tAnd, tOr, tNot, tAndV, tOrV, tNotV, tIf, tIsN, tNotN, L2.start, tChain, cxK, cxK2, tSl, rSlL, tNoPart, tPart, Sp1, Sp2, Sp3, Sp4, Sp5, scal, natlit, natlt, natle, litlt, litle, Int.natCast_inj, Int.ofNat_lt, Int.ofNat_le, Int.cast_ofNat_Int, List.map, List.length, List.replicate, Nat.reduceAdd, Nat.reduceSub, Nat.sub_self, List.cons_append, List.nil_append, List.append_nil, List.getElem?_cons_succ, List.getElem?_cons_zero, List.set_cons_succ, List.set_cons_zero, Option.some.injEq, V.int.injEq, V.bl.injEq, V.ref.injEq, V.str.injEq, List.cons.injEq, and_assoc, exists_eq_left', exists_eq_left, exists_and_left, exists_eq', decide_eq_true_eq, true_and, and_true, Bool.not_eq_true', decide_eq_false_iff_not, Bool.false_eq_true, if_true, if_false]
    by_cases c1 : 255 < acc
    · rw [if_pos c1] at k2 ⊢
      exact k2
    · rw [if_neg c1] at k2 ⊢
      exact k2

/-! byte_of -/
def tbl : List (Str × Nat) := [("amp", 38), ("lt", 60), ("gt", 62), ("quot", 34), ("apos", 39)]
theorem tbl_len : tbl.length = 5 := rfl
def namedV (K : PySem.W.Frag) : List V := [.ref (itAt K (He.ga K "NAMED") 0), .ref (itAt K (He.ga K "NAMED") 1), .ref (itAt K (He.ga K "NAMED") 2), .ref (itAt K (He.ga K "NAMED") 3), .ref (itAt K (He.ga K "NAMED") 4)]
theorem named_at (T : Tx K mg) (H : Hp) {i : Nat} {x : V} (h : (namedV K)[i]? = some x) : ∃ a z n, x = .ref a ∧ tbl[i]? = some (z, n) ∧ SqT K H a [.str z, .int (n : Int)] := by
  match i, h with
  | 0, h => cases h; exact ⟨_, _, _, rfl, rfl, t_NAMED0 T H⟩
  | 1, h => cases h; exact ⟨_, _, _, rfl, rfl, t_NAMED1 T H⟩
  | 2, h => cases h; exact ⟨_, _, _, rfl, rfl, t_NAMED2 T H⟩
  | 3, h => cases h; exact ⟨_, _, _, rfl, rfl, t_NAMED3 T H⟩
  | 4, h => cases h; exact ⟨_, _, _, rfl, rfl, t_NAMED4 T H⟩
theorem cps_tbl : (tbl.map fun p => cpsL p.1) = [[97, 109, 112], [108, 116], [103, 116], [113, 117, 111, 116], [97, 112, 111, 115]] := by decide +kernel
theorem cps_small {i : Nat} {z : Str} {n : Nat} (h : tbl[i]? = some (z, n)) : (cpsL z).length ≤ 1000 := by
  have e : (tbl.map fun p => cpsL p.1)[i]? = some (cpsL z) := by rw [List.getElem?_map, h]; rfl
  rw [cps_tbl] at e
  match i, e with
  | 0, e => rw [← Option.some.inj e]; decide
  | 1, e => rw [← Option.some.inj e]; decide
  | 2, e => rw [← Option.some.inj e]; decide
  | 3, e => rw [← Option.some.inj e]; decide
  | 4, e => rw [← Option.some.inj e]; decide
def tailO (b : NL) : Option Nat := if b.take 2 = [35, 120] then baseO 16 2 (b.drop 2) else if b.take 1 = [35] then baseO 10 3 (b.drop 1) else none
theorem hex_base (h : NL) : Vaesca.byHex h = baseO 16 2 h := by
  unfold Vaesca.byHex baseO
  match h with
  | [] => rfl
  | [a] =>
    simp only [List.length_cons, List.length_nil, foldD]
    cases e : Vaesca.hexOf a with
    | none => rfl
    | some d =>
      have := hexOf_lt e
      have n1 : ¬ 16 ≤ d := by omega
      simp only [if_neg n1]
      rw [if_pos (by omega)]
      show some d = if 255 < 0 * 16 + d then none else some (0 * 16 + d)
      rw [if_neg (by omega)]
      congr 1; omega
  | [a, b] =>
    simp only [List.length_cons, List.length_nil, foldD]
    cases e : Vaesca.hexOf a with
    | none => rfl
    | some d =>
      have h1 := hexOf_lt e
      have n1 : ¬ 16 ≤ d := by omega
      cases e2 : Vaesca.hexOf b with
      | none => simp only [if_neg n1]; rfl
      | some f =>
        have h2 := hexOf_lt e2
        have n2 : ¬ 16 ≤ f := by omega
        simp only [if_neg n1, if_neg n2]
        rw [if_pos (by omega)]
        show some (16 * d + f) = if 255 < (0 * 16 + d) * 16 + f then none else some ((0 * 16 + d) * 16 + f)
        rw [if_neg (by omega)]
        congr 1; omega
  | a :: b :: c :: r => rw [if_neg (by simp)]
theorem fold10 : ∀ (l : NL) (acc : Nat), foldD 10 l acc = if l.all Vaesca.isDigit = true then some (l.foldl (fun n c => 10 * n + (c - 48)) acc) else none
  | [], acc => rfl
  | c :: r, acc => by
    unfold foldD
    rw [List.all_cons, List.foldl_cons]
    by_cases h : Vaesca.isDigit c = true
    · have e : Vaesca.hexOf c = some (c - 48) := by unfold Vaesca.hexOf; rw [if_pos h]
      have b : ¬ 10 ≤ c - 48 := by unfold Vaesca.isDigit at h; simp at h; omega
      simp only [e, if_neg b]
      rw [fold10 r, h, Bool.true_and, show acc * 10 + (c - 48) = 10 * acc + (c - 48) by omega]
    · have hf : Vaesca.isDigit c = false := by simpa using h
      rw [hf, Bool.false_and, if_neg Bool.false_ne_true]
      unfold Vaesca.hexOf
      rw [if_neg h]
      unfold Vaesca.isDigit at h
      simp only [Bool.and_eq_true, decide_eq_true_eq] at h
      by_cases h1 : 97 ≤ c ∧ c ≤ 102
      · rw [if_pos h1]
        show (if 10 ≤ c - 87 then none else _) = none
        rw [if_pos (by omega)]
      · rw [if_neg h1]
        by_cases h2 : 65 ≤ c ∧ c ≤ 70
        · rw [if_pos h2]
          show (if 10 ≤ c - 55 then none else _) = none
          rw [if_pos (by omega)]
        · rw [if_neg h2]
theorem dig_base (d : NL) : Vaesca.byDigits d = baseO 10 3 d := by
  unfold Vaesca.byDigits baseO
  rw [fold10]
  by_cases h1 : 1 ≤ d.length ∧ d.length ≤ 3
  · rw [if_pos h1]
    by_cases h2 : d.all Vaesca.isDigit = true
    · rw [if_neg (by rw [h2]; simp only [Bool.not_true, Bool.or_false, Bool.or_eq_true, beq_iff_eq, decide_eq_true_eq]; omega), if_pos h2]
      unfold Vaesca.decimal
      show _ = if 255 < _ then none else some _
      by_cases h3 : d.foldl (fun n c => 10 * n + (c - 48)) 0 < 256
      · rw [if_pos h3, if_neg (by omega)]
      · rw [if_neg h3, if_pos (by omega)]
    · rw [if_pos (by simp [h2]), if_neg h2]
  · rw [if_neg h1, if_pos (by simp only [Bool.or_eq_true, beq_iff_eq, decide_eq_true_eq]; omega)]
theorem byteOf_eq (b : NL) : Vaesca.byteOf b = if b = [97, 109, 112] then some 38 else if b = [108, 116] then some 60 else if b = [103, 116] then some 62 else if b = [113, 117, 111, 116] then some 34 else if b = [97, 112, 111, 115] then some 39 else tailO b := by
  have t : (match b with | 35 :: 120 :: h => Vaesca.byHex h | 35 :: d => Vaesca.byDigits d | _ => none) = tailO b := by
    unfold tailO
    split
    · rw [hex_base]; rfl
    · rename_i d hd
      rw [dig_base]
      rw [if_neg (by
        intro e
        cases d with
        | nil => cases e
        | cons x r =>
          have e2 := (List.cons.inj (List.cons.inj e).2).1
          subst e2
          exact hd r rfl)]
      rfl
    · rename_i h1 h2
      match b, h1, h2 with
      | [], _, _ => rfl
      | x :: r, h1, h2 =>
        have : ¬ x = 35 := fun e => h2 r (by rw [e])
        rw [if_neg (by simp [this]), if_neg (by simp [this])]
  unfold Vaesca.byteOf
  simp only [beq_iff_eq]
  rw [← t]
  rfl
theorem byte_hit {i : Nat} {z : Str} {n : Nat} {b : NL} (h : tbl[i]? = some (z, n)) (e : b = cpsL z) : Vaesca.byteOf b = some n := by
  have q : (tbl.map fun p => (cpsL p.1, p.2))[i]? = some (b, n) := by rw [List.getElem?_map, h, e]; rfl
  have q2 : (tbl.map fun p => (cpsL p.1, p.2)) = [([97, 109, 112], 38), ([108, 116], 60), ([103, 116], 62), ([113, 117, 111, 116], 34), ([97, 112, 111, 115], 39)] := by decide +kernel
  rw [q2] at q
  match i, q with
  | 0, q => cases q; rfl
  | 1, q => cases q; rfl
  | 2, q => cases q; rfl
  | 3, q => cases q; rfl
  | 4, q => cases q; rfl
theorem byte_miss {b : NL} (h : ∀ i z n, i < 5 → tbl[i]? = some (z, n) → b ≠ cpsL z) : Vaesca.byteOf b = tailO b := by
  have c : ∀ i (l : NL), [[97, 109, 112], [108, 116], [103, 116], [113, 117, 111, 116], [97, 112, 111, 115]][i]? = some l → b ≠ l := fun i l e => by
    rw [← cps_tbl, List.getElem?_map] at e
    obtain ⟨⟨z, n⟩, h1, h2⟩ := Option.map_eq_some_iff.mp e
    have hi : i < 5 := by
      have := (List.getElem?_eq_some_iff.mp h1).1
      exact this
    rw [← h2]
    exact h i z n hi h1
  rw [byteOf_eq, if_neg (c 0 _ rfl), if_neg (c 1 _ rfl), if_neg (c 2 _ rfl), if_neg (c 3 _ rfl), if_neg (c 4 _ rfl)]
theorem cps_two : cpsL (Str.ofString "#x") = [35, 120] ∧ cpsL (Str.ofString "#") = [35] := by decide +kernel
def spByte : Sp := Sp1 fun a H Q => ∃ (p : Addr) (b : NL), a = .ref p ∧ H p = some (.lst (nts b)) ∧ ∀ H', Same H H' → Q (optV (Vaesca.byteOf b)) H'
theorem ok_byte_of (T : Tx K mg) : FnOk P w K mg base CX0 4 (He.fAd K ("byte_of", none)) (fdA K ("byte_of", none)) ["body"] spByte := by
  refine (F_byte_of T).ok sc_byte_of (fun vs H Q E h => Sp1.len h) (fun cdv A outer s H vs Q E hr h => ⟨_, PSs.nox (pss_cons (ps_for PassesOwn.never rfl (pi_tup (pe_glob (v := .ref (He.ga K "NAMED")) rfl (g_NAMED T) rfl)) (pg_tup rfl (pgs_cons (pg_name (i := 1) sc_byte_of.nd rfl (Or.inl rfl)) (pgs_cons (pg_name (i := 2) sc_byte_of.nd rfl (Or.inl rfl)) pgs_nil))) (pss_one (ps_if (pt_cmpR (op_eqD hr.units) (pv 0) (pe_call (ok_signs_of T) (hr.mono (by decide)) rfl (g_signs_of T) (F_signs_of T).kp (B_signs_of T) .nil pass0 (pa_cons (pv 1) pa_nil)) (nomark _)) (pss_one (ps_ret (pv 2))) pss_nil))) (pss_cons (ps_if (pt_cmpR (op_eqD hr.units) (pe_slice sl_list (pv 0) po_none (po_some pe_int)) (pe_call (ok_signs_of T) (hr.mono (by decide)) rfl (g_signs_of T) (F_signs_of T).kp (B_signs_of T) .nil pass0 (pa_cons pe_str pa_nil)) (nomark _)) (pss_one (ps_ret (pe_call (ok_byte_in_base T) (hr.mono (by decide)) rfl (g_byte_in_base T) (F_byte_in_base T).kp (B_byte_in_base T) .nil pass0 (pa_cons (pe_slice sl_list (pv 0) (po_some pe_int) po_none) (pa_cons pe_int (pa_cons pe_int pa_nil)))))) pss_nil) (pss_cons (ps_if (pt_cmpR (op_eqD hr.units) (pe_slice sl_list (pv 0) po_none (po_some pe_int)) (pe_call (ok_signs_of T) (hr.mono (by decide)) rfl (g_signs_of T) (F_signs_of T).kp (B_signs_of T) .nil pass0 (pa_cons pe_str pa_nil)) (nomark _)) (pss_one (ps_ret (pe_call (ok_byte_in_base T) (hr.mono (by decide)) rfl (g_byte_in_base T) (F_byte_in_base T).kp (B_byte_in_base T) .nil pass0 (pa_cons (pe_slice sl_list (pv 0) (po_some pe_int) po_none) (pa_cons pe_int (pa_cons pe_int pa_nil)))))) pss_nil) (pss_one (ps_ret pe_non))))), ?_⟩)
  show _
  try simp only [cxK, cxK2]
  obtain ⟨a, rfl, p, b, rfl, hp, k⟩ := h
  refine ⟨_, rfl, ⟨_, t_NAMED T _⟩, for_it (walk_tup (xs := namedV K)) (fun i σ H' => Same H H' ∧ (∃ v w, σ = [some (V.ref p), v, w]) ∧ ∀ j z n, j < i → tbl[j]? = some (z, n) → b ≠ cpsL z) ⟨fun _ _ e => e, ⟨_, _, rfl⟩, fun _ _ _ h => absurd h (Nat.not_lt_zero _)⟩ (fun i σ H' _ _ => t_NAMED T H') (fun i x σ H1 H2 hi pv y => ?_) (fun σ H' h => ?_)⟩
  · obtain ⟨rfl, y⟩ := y
    obtain ⟨s1, ⟨v, w, rfl⟩, hj⟩ := pv
    obtain ⟨q, z, n, rfl, hz, hq⟩ := named_at T H2 y
    refine ⟨q, _, rfl, hq, rfl, _, _, rfl, _, _, rfl, rfl, ?_⟩
    simp only [tSeq, tIfS, tTest, tB, tOp, tUn, tVar, tC, rEq, rNe, rI0, rI, tAsg, gName, tRet, tRetN, tDrop, tNext, tCont, tCall, tCons, tNil, tCB, tAnd, tOr, tNot, tAndV, tOrV, tNotV, tIf, tIsN, tNotN, L2.start, tChain, cxK, cxK2, tSl, rSlL, tNoPart, tPart, Sp1, Sp2, Sp3, Sp4, Sp5, scal, natlit, natlt, natle, litlt, litle, Int.natCast_inj, Int.ofNat_lt, Int.ofNat_le, Int.cast_ofNat_Int, List.map, List.length, List.replicate, Nat.reduceAdd, Nat.reduceSub, Nat.sub_self, List.cons_append, List.nil_append, List.append_nil, List.getElem?_cons_succ, List.getElem?_cons_zero, List.set_cons_succ, List.set_cons_zero, Option.some.injEq, V.int.injEq, V.bl.injEq, V.ref.injEq, V.str.injEq, List.cons.injEq, and_assoc, exists_eq_left', exists_eq_left, exists_and_left, exists_eq', decide_eq_true_eq, true_and, and_true, Bool.not_eq_true', decide_eq_false_iff_not, Bool.false_eq_true, if_true, if_false, spSigns]
    refine ⟨cps_small hz, fun H3 p3 s3 n3 e3 => ?_⟩
    refine eqL (s3 _ _ (s1 _ _ hp)) e3 ?_
    simp only [tSeq, tIfS, tTest, tB, tOp, tUn, tVar, tC, rEq, rNe, rI0, rI, tAsg, gName, tRet, tRetN, tDrop, tNext, tCont, tCall, tCons, tNil, tCB, tAnd, tOr, tNot, tAndV, tOrV, tNotV, tIf, tIsN, tNotN, L2.start, tChain, cxK, cxK2, tSl, rSlL, tNoPart, tPart, Sp1, Sp2, Sp3, Sp4, Sp5, scal, natlit, natlt, natle, litlt, litle, Int.natCast_inj, Int.ofNat_lt, Int.ofNat_le, Int.cast_ofNat_Int, List.map, List.length, List.replicate, Nat.reduceAdd, Nat.reduceSub, Nat.sub_self, List.cons_append, List.nil_append, List.append_nil, List.getElem?_cons_succ, List.getElem?_cons_zero, List.set_cons_succ, List.set_cons_zero, Option.some.injEq, V.int.injEq, V.bl.injEq, V.ref.injEq, V.str.injEq, List.cons.injEq, and_assoc, exists_eq_left', exists_eq_left, exists_and_left, exists_eq', decide_eq_true_eq, true_and, and_true, Bool.not_eq_true', decide_eq_false_iff_not, Bool.false_eq_true, if_true, if_false]
    by_cases e : b = cpsL z
    · rw [if_pos e]
      have := k H3 (s1.trans s3)
      rw [byte_hit hz e] at this
      exact this
    · rw [if_neg e]
      refine ⟨s1.trans s3, fun j z' n' hj' ht => ?_⟩
      rcases Nat.lt_succ_iff_lt_or_eq.mp hj' with hlt | heq
      · exact hj j z' n' hlt ht
      · subst heq
        rw [hz] at ht
        cases ht
        exact e
  · obtain ⟨s1, ⟨v, w, rfl⟩, hj⟩ := h
    have bm : Vaesca.byteOf b = tailO b := byte_miss fun i z n hi => hj i z n hi
    rw [bm] at k
    unfold tailO at k
    simp only [tSeq, tIfS, tTest, tB, tOp, tUn, tVar, tC, rEq, rNe, rI0, rI, tAsg, gName, tRet, tRetN, tDrop, tNext, tCont, tCall, tCons, tNil, tCB, tAnd, tOr, tNot, tAndV, tOrV, tNotV, tIf, tIsN, tNotN, L2.start, tChain, cxK, cxK2, tSl, rSlL, tNoPart, tPart, Sp1, Sp2, Sp3, Sp4, Sp5, scal, natlit, natlt, natle, litlt, litle, Int.natCast_inj, Int.ofNat_lt, Int.ofNat_le, Int.cast_ofNat_Int, List.map, List.length, List.replicate, Nat.reduceAdd, Nat.reduceSub, Nat.sub_self, List.cons_append, List.nil_append, List.append_nil, List.getElem?_cons_succ, List.getElem?_cons_zero, List.set_cons_succ, List.set_cons_zero, Option.some.injEq, V.int.injEq, V.bl.injEq, V.ref.injEq, V.str.injEq, List.cons.injEq, and_assoc, exists_eq_left', exists_eq_left, exists_and_left, exists_eq', decide_eq_true_eq, true_and, and_true, Bool.not_eq_true', decide_eq_false_iff_not, Bool.false_eq_true, if_true, if_false, spSigns, spBase]
    refine ⟨_, SqL.of (s1 _ _ hp), fun p1 n1 => ⟨by decide +kernel, fun H2 p2 s2 n2 e2 => ?_⟩⟩
    have h1 : H2 p1 = some (.lst (nts (b.take 2))) := s2 _ _ (by rw [upd_same]; exact congrArg (fun z => some (HO.lst z)) (cut_take b 2))
    have s12 : Same H H2 := (s1.trans (Same.new n1)).trans s2
    refine eqL h1 e2 ?_
    rw [cps_two.1]
    simp only [tSeq, tIfS, tTest, tB, tOp, tUn, tVar, tC, rEq, rNe, rI0, rI, tAsg, gName, tRet, tRetN, tDrop, tNext, tCont, tCall, tCons, tNil, tCB, tAnd, tOr, tNot, tAndV, tOrV, tNotV, tIf, tIsN, tNotN, L2.start, tChain, cxK, cxK2, tSl, rSlL, tNoPart, tPart, Sp1, Sp2, Sp3, Sp4, Sp5, scal, natlit, natlt, natle, litlt, litle, Int.natCast_inj, Int.ofNat_lt, Int.ofNat_le, Int.cast_ofNat_Int, List.map, List.length, List.replicate, Nat.reduceAdd, Nat.reduceSub, Nat.sub_self, List.cons_append, List.nil_append, List.append_nil, List.getElem?_cons_succ, List.getElem?_cons_zero, List.set_cons_succ, List.set_cons_zero, Option.some.injEq, V.int.injEq, V.bl.injEq, V.ref.injEq, V.str.injEq, List.cons.injEq, and_assoc, exists_eq_left', exists_eq_left, exists_and_left, exists_eq', decide_eq_true_eq, true_and, and_true, Bool.not_eq_true', decide_eq_false_iff_not, Bool.false_eq_true, if_true, if_false]
    have cT : ∀ k : Nat, cutV (nts b) (some (k : Int)) none = nts (b.drop k) := fun k => cut_drop vn b k
    by_cases c1 : b.take 2 = [35, 120]
    · rw [if_pos c1] at k ⊢
      refine ⟨_, SqL.of (s12 _ _ hp), fun p3 n3 => ⟨b.drop 2, 16, rfl, 2, rfl, ?_, by decide, by decide, k _ (s12.trans (Same.new n3))⟩⟩
      rw [upd_same]; exact congrArg (fun z => some (HO.lst z)) (cT 2)
    · rw [if_neg c1] at k ⊢
      refine ⟨_, SqL.of (s12 _ _ hp), fun p3 n3 => ⟨by decide +kernel, fun H4 p4 s4 n4 e4 => ?_⟩⟩
      have h3 : H4 p3 = some (.lst (nts (b.take 1))) := s4 _ _ (by rw [upd_same]; exact congrArg (fun z => some (HO.lst z)) (cut_take b 1))
      have s14 : Same H H4 := (s12.trans (Same.new n3)).trans s4
      refine eqL h3 e4 ?_
      rw [cps_two.2]
      simp only [tSeq, tIfS, tTest, tB, tOp, tUn, tVar, tC, rEq, rNe, rI0, rI, tAsg, gName, tRet, tRetN, tDrop, tNext, tCont, tCall, tCons, tNil, tCB, tAnd, tOr, tNot, tAndV, tOrV, tNotV, tIf, tIsN, tNotN, L2.start, tChain, cxK, cxK2, tSl, rSlL, tNoPart, tPart, Sp1, Sp2, Sp3, Sp4, Sp5, scal, natlit, natlt, natle, litlt, litle, Int.natCast_inj, Int.ofNat_lt, Int.ofNat_le, Int.cast_ofNat_Int, List.map, List.length, List.replicate, Nat.reduceAdd, Nat.reduceSub, Nat.sub_self, List.cons_append, List.nil_append, List.append_nil, List.getElem?_cons_succ, List.getElem?_cons_zero, List.set_cons_succ, List.set_cons_zero, Option.some.injEq, V.int.injEq, V.bl.injEq, V.ref.injEq, V.str.injEq, List.cons.injEq, and_assoc, exists_eq_left', exists_eq_left, exists_and_left, exists_eq', decide_eq_true_eq, true_and, and_true, Bool.not_eq_true', decide_eq_false_iff_not, Bool.false_eq_true, if_true, if_false]
      by_cases c2 : b.take 1 = [35]
      · rw [if_pos c2] at k ⊢
        refine ⟨_, SqL.of (s14 _ _ hp), fun p5 n5 => ⟨b.drop 1, 10, rfl, 3, rfl, ?_, by decide, by decide, k _ (s14.trans (Same.new n5))⟩⟩
        rw [upd_same]; exact congrArg (fun z => some (HO.lst z)) (cT 1)
      · rw [if_neg c2] at k ⊢
        exact k _ s14

end Sm

set_option Elab.async false
set_option linter.all false
set_option maxRecDepth 100000
set_option maxHeartbeats 0
namespace Sm
open PySem PySem.Spec PyProof.Rows L2
variable {P : Program} {w : World} {K : PySem.W.Frag} {mg : Str → Option Value} {base : Heap}
/-! ### heaps by owners -/
abbrev CHp := Addr → Option (Nat × HO)
def cu (C : CHp) (a : Addr) (k : Nat) (o : HO) : CHp := fun b => if b = a then some (k, o) else C b
theorem cu_same {C : CHp} {a : Addr} {k : Nat} {o : HO} : cu C a k o a = some (k, o) := if_pos rfl
theorem cu_ne {C : CHp} {a b : Addr} {k : Nat} {o : HO} (h : b ≠ a) : cu C a k o b = C b := if_neg h
theorem cu_cu {C : CHp} {a : Addr} {j k : Nat} {o u : HO} : cu (cu C a j o) a k u = cu C a k u := by
  funext b; unfold cu; split <;> rfl
def Sub (C : CHp) (H : Hp) : Prop := ∀ a k o, C a = some (k, o) → H a = some o
def fz (C : CHp) : Hp := fun a => match C a with
  | some (0, o) => some o
  | _ => none
theorem fz_of {C : CHp} {a : Addr} {o : HO} (h : C a = some (0, o)) : fz C a = some o := by
  unfold fz
  rw [h] <;> rfl
theorem of_fz {C : CHp} {a : Addr} {o : HO} (h : fz C a = some o) : C a = some (0, o) := by
  unfold fz at h
  cases e : C a with
  | none => rw [e] at h; cases h
  | some q =>
    obtain ⟨k, u⟩ := q
    rw [e] at h
    cases k with
    | zero =>
      have h2 : some u = some o := h
      rw [Option.some.inj h2]
    | succ k => cases h
theorem Sub.fz {C : CHp} {H : Hp} (h : Sub C H) : Same (fz C) H := fun a o e => h a 0 o (of_fz e)
theorem Sub.upd {C : CHp} {H : Hp} {a : Addr} {k : Nat} {o : HO} (h : Sub C H) : Sub (cu C a k o) (upd H a o) := fun b j u e => by
  by_cases hb : b = a
  · subst hb
    rw [cu_same] at e
    cases e
    exact upd_same
  · rw [cu_ne hb] at e
    rw [upd_ne hb]
    exact h b j u e
theorem Sub.rec {C : CHp} {H : Hp} {a : Addr} {k : Nat} {o : HO} (h : Sub C H) (q : H a = some o) : Sub (cu C a k o) H := fun b j u e => by
  by_cases hb : b = a
  · subst hb
    rw [cu_same] at e
    cases e
    exact q
  · rw [cu_ne hb] at e
    exact h b j u e
theorem Sub.same {C : CHp} {H H' : Hp} (h : Sub C H) (s : Same H H') : Sub C H' := fun a k o e => s a o (h a k o e)
theorem Sub.none {C : CHp} {H : Hp} {p : Addr} (h : Sub C H) (e : H p = none) : C p = none := by
  cases q : C p with
  | none => rfl
  | some x =>
    have := h p x.1 x.2 q
    rw [e] at this; cases this
theorem c_ne {C : CHp} {a b : Addr} {i j : Nat} {o u : HO} (h : C a = some (i, o)) (h' : C b = some (j, u)) (d : i ≠ j) : a ≠ b := by
  intro e; subst e; rw [h] at h'; cases h'; exact d rfl
theorem c_new {C : CHp} {a b : Addr} {x : Nat × HO} (h : C a = some x) (h' : C b = none) : a ≠ b := by
  intro e; subst e; rw [h] at h'; cases h'
/-- another owner's stands -/
theorem cu_other {C : CHp} {a b : Addr} {i j k : Nat} {o u x : HO} (h : C a = some (i, o)) (h' : C b = some (j, u)) (d : i ≠ j) : cu C b k x a = some (i, o) := by rw [cu_ne (c_ne h h' d)]; exact h
theorem cu_new {C : CHp} {a b : Addr} {k : Nat} {q : Nat × HO} {x : HO} (h : C a = some q) (h' : C b = none) : cu C b k x a = some q := by rw [cu_ne (c_new h h')]; exact h
/-- what the owners of P have stands as it was -/
def Kp (P : Nat → Prop) (C C' : CHp) : Prop := ∀ a k o, C a = some (k, o) → P k → C' a = some (k, o)
def allK : Nat → Prop := fun _ => True
def rdK : Nat → Prop := fun k => k = 0 ∨ (8 ≤ k ∧ k ≠ 30)
def noK (j : Nat) : Nat → Prop := fun k => k ≠ j
theorem ok0 {j : Nat} (h : j ≠ 0 := by decide) : noK j 0 := fun e => h e.symm
theorem noK_self {j : Nat} : ¬ noK j j := fun h => h rfl
theorem Kp.refl {P : Nat → Prop} (C : CHp) : Kp P C C := fun _ _ _ e _ => e
theorem Kp.trans {P : Nat → Prop} {C C1 C2 : CHp} (a : Kp P C C1) (b : Kp P C1 C2) : Kp P C C2 := fun p k o e h => b p k o (a p k o e h) h
theorem Kp.mono {P P' : Nat → Prop} {C C1 : CHp} (a : Kp P C C1) (h : ∀ k, P' k → P k) : Kp P' C C1 := fun p k o e q => a p k o e (h k q)
theorem Kp.all {P : Nat → Prop} {C C1 : CHp} (a : Kp allK C C1) : Kp P C C1 := a.mono fun _ _ => trivial
theorem Kp.new {P : Nat → Prop} {C : CHp} {p : Addr} {k : Nat} {o : HO} (h : C p = none) : Kp P C (cu C p k o) := fun a j u e _ => cu_new e h
theorem Kp.mut {P : Nat → Prop} {C : CHp} {p : Addr} {j k : Nat} {o u : HO} (h : C p = some (j, u)) (hn : ¬ P j) : Kp P C (cu C p k o) := fun a i v e q => by
  have hne : a ≠ p := by
    intro z; subst z; rw [h] at e; cases e; exact hn q
  rw [cu_ne hne]; exact e
theorem Kp.fz {P : Nat → Prop} {C C' : CHp} (h : Kp P C C') (h0 : P 0) : Same (fz C) (fz C') := fun a o e => fz_of (h a 0 o (of_fz e) h0)
def Few (n : Nat) (fs : List (Str × V)) : Prop := fs.length ≤ n
theorem few_put {f : Str} {v : V} : ∀ {fs : List (Str × V)} {n : Nat}, Few n fs → Few (n + 1) (putF f v fs)
  | [], n, _ => Nat.succ_le_succ (Nat.zero_le n)
  | (g, x) :: r, n, h => by
    unfold putF
    split
    · exact Nat.le_succ_of_le h
    · cases n with
      | zero => exact absurd h (by intro z; exact Nat.not_succ_le_zero _ z)
      | succ n => exact Nat.succ_le_succ (few_put (n := n) (Nat.le_of_succ_le_succ h))
theorem few_nil {n : Nat} : Few n [] := Nat.zero_le _
theorem Few.up {m n : Nat} {fs : List (Str × V)} (h : Few m fs) (l : m ≤ n := by decide) : Few n fs := Nat.le_trans h l
/-! ### what is evaluated and changes nothing -/
def Val (te : TE) (σ : L2.St) (H : Hp) (y : V) : Prop := ∀ Q : VK, Q y H → te σ H Q
def ValT (tt : TT) (σ : L2.St) (H : Hp) (b : Bool) : Prop := ∀ Q : Bool → Hp → Prop, Q b H → tt σ H Q
def ValA (ta : TA) (σ : L2.St) (H : Hp) (vs : List V) : Prop := ∀ Q : List V → Hp → Prop, Q vs H → ta σ H Q
section
variable {σ : L2.St} {H : Hp} {ta tb te : TE} {x y v : V} {tt tu : TT}
theorem val_c : Val (tC v) σ H v := fun _ q => q
theorem val_var {i : Nat} (h : σ[i]? = some (some v)) : Val (tVar i) σ H v := fun _ q => ⟨v, h, q⟩
theorem val_fld {C a dx : Addr} {fs : List (Str × V)} {f : Str} (ha : Val ta σ H (.ref a)) (h : H a = some (.ins C dx fs)) (c : Cls K C) (n : NoAttr K C f) (l : fs.lookup f = some v) : Val (tFld K ta f) σ H v :=
  fun _ q => ha _ ⟨a, C, dx, fs, v, rfl, h, c, n, l, q⟩
theorem val_i2 {g : Int → Int → V} {i j : Int} (ha : Val ta σ H (.int i)) (hb : Val tb σ H (.int j)) : Val (tOp (rI0 g) ta tb) σ H (g i j) := fun _ q => ha _ (hb _ ⟨i, j, rfl, rfl, q⟩)
theorem val_eq (ha : Val ta σ H x) (hb : Val tb σ H y) (h : scal x y = true) : Val (tOp rEq ta tb) σ H (.bl (decide (x = y))) := fun _ q => ha _ (hb _ ⟨h, q⟩)
theorem val_ne (ha : Val ta σ H x) (hb : Val tb σ H y) (h : scal x y = true) : Val (tOp rNe ta tb) σ H (.bl (!decide (x = y))) := fun _ q => ha _ (hb _ ⟨h, q⟩)
theorem vt_test {b : Bool} (h : Val te σ H (.bl b)) : ValT (tTest te) σ H b := fun _ q => h _ ⟨b, rfl, q⟩
theorem vt_b {b : Bool} (h : Val te σ H (.bl b)) : ValT (tB te) σ H b := fun _ q => h _ ⟨b, rfl, q⟩
theorem vt_not {b : Bool} (h : ValT tt σ H b) : ValT (tNot tt) σ H (!b) := fun _ q => h _ q
theorem vt_and {a b : Bool} (h1 : ValT tt σ H a) (h2 : a = true → ValT tu σ H b) : ValT (tAnd tt tu) σ H (a && b) := fun Q q => h1 _ (by
  cases a with
  | true => exact h2 rfl _ q
  | false => exact q)
theorem vt_or {a b : Bool} (h1 : ValT tt σ H a) (h2 : a = false → ValT tu σ H b) : ValT (tOr tt tu) σ H (a || b) := fun Q q => h1 _ (by
  cases a with
  | false => exact h2 rfl _ q
  | true => exact q)
theorem va_nil : ValA tNil σ H [] := fun _ q => q
theorem va_cons {tr : TA} {vs : List V} (h1 : Val te σ H v) (h2 : ValA tr σ H vs) : ValA (tCons te tr) σ H (v :: vs) := fun _ q => h1 _ (h2 _ q)
theorem val_len {p : Addr} {xs : List V} (ha : Val ta σ H (.ref p)) (h : SqL K H p xs) : Val (tCB (fun ys H Q => ∃ p zs, ys = [.ref p] ∧ (SqL K H p zs ∨ SqT K H p zs) ∧ Q (.int (zs.length : Int)) H) (tCons ta tNil)) σ H (.int (xs.length : Int)) :=
  fun _ q => ha _ ⟨p, xs, rfl, .inl h, q⟩
/-- calls of a promise that changes nothing -/
theorem val_call {sp : Sp} {t : TA} {vs : List V} {E : XK} (ha : ValA t σ H vs) (h : ∀ Q : VK, Q v H → sp vs H Q E) : Val (tCall sp [] E t) σ H v := fun Q q => ha _ (by rw [List.append_nil]; exact h Q q)
theorem val_lenS {z : Str} {n : Nat} (ha : Val ta σ H (.str z)) (h : z.length ≤ sizeLine) (hn : z.length = n) : Val (tCB (fun xs H Q => ∃ z : Str, xs = [.str z] ∧ z.length ≤ sizeLine ∧ Q (.int (z.length : Int)) H) (tCons ta tNil)) σ H (.int (n : Int)) :=
  fun _ q => ha _ ⟨z, rfl, h, by rw [hn]; exact q⟩
/-! statements -/
variable {D : Ends} {A B : TS}
theorem s_seq (h : A { D with nx := B D } σ H) : tSeq A B D σ H := h
theorem s_asg {g : TG} (h : te σ H fun x H1 => g x σ H1 D.nx) : tAsg te g D σ H := h
theorem s_set {i : Nat} (h : te σ H fun x H1 => D.nx (σ.set i (some x)) H1) : tAsg te (gName i) D σ H := h
theorem s_setV {i : Nat} (hv : Val te σ H x) (h : D.nx (σ.set i (some x)) H) : tAsg te (gName i) D σ H := hv _ h
theorem s_ret (h : te σ H D.rt) : tRet te D σ H := h
theorem s_retV (hv : Val te σ H x) (h : D.rt x H) : tRet te D σ H := hv _ h
theorem s_drop (h : te σ H fun _ H1 => D.nx σ H1) : tDrop te D σ H := h
theorem t_call {sp : Sp} {E : XK} {t : TA} {vs : List V} {Q : VK} (ha : ValA t σ H vs) (h : sp vs H Q E) : tCall sp [] E t σ H Q := ha _ (by rw [List.append_nil]; exact h)
theorem t_meth {sp : Sp} {E : XK} {t : TA} {vs : List V} {Q : VK} {C a dx : Addr} {fs : List (Str × V)} {m : Str} (ho : Val ta σ H (.ref a)) (h : H a = some (.ins C dx fs)) (hl : fs.lookup m = none) (ha : ValA t σ H vs) (hq : sp (.ref a :: vs) H Q E) : tMeth C m sp [] E ta t σ H Q :=
  ho _ ⟨a, dx, fs, rfl, h, hl, ha _ (by rw [List.append_nil]; exact hq)⟩
theorem s_if {b : Bool} (h : ValT tt σ H b) (h1 : b = true → A D σ H) (h2 : b = false → B D σ H) : tIfS tt A B D σ H := h _ (by
  cases b with
  | true => exact h1 rfl
  | false => exact h2 rfl)
theorem s_fld {C : CHp} {k : Nat} {c a dx : Addr} {fs : List (Str × V)} {f : Str} (hS : Sub C H) (ha : Val ta σ H (.ref a)) (hv : Val te σ H y) (h : C a = some (k, .ins c dx fs)) (hc : Cls K c) (hn : NoAttr K c f) (hl : Few 900 fs)
    (nx : ∀ H', Sub (cu C a k (.ins c dx (putF f y fs))) H' → D.nx σ H') : sFld K ta te f D σ H :=
  hv _ (ha _ ⟨a, c, dx, fs, rfl, hS _ _ _ h, hc, hn, Nat.lt_of_le_of_lt hl (by decide), nx _ hS.upd⟩)
/-- .. a new list -/
theorem s_fldL {C : CHp} {k : Nat} (kp : Nat) {c a dx : Addr} {fs : List (Str × V)} {f : Str} {t : TA} {xs : List V} (hS : Sub C H) (hσ : ∀ H, Val ta σ H (.ref a)) (hv : ValA t σ H xs) (hx : xs.length ≤ sizeLine) (h : C a = some (k, .ins c dx fs)) (hc : Cls K c) (hn : NoAttr K c f) (hl : Few 900 fs)
    (nx : ∀ p H', C p = none → p ≠ a → Sub (cu (cu C p kp (.lst xs)) a k (.ins c dx (putF f (.ref p) fs))) H' → D.nx σ H') : sFld K ta (tLst t) f D σ H :=
  hv _ ⟨hx, fun p hp => hσ _ _ ⟨a, c, dx, fs, rfl, by
    rw [upd_ne (c_new h (hS.none hp))]; exact hS _ _ _ h, hc, hn, Nat.lt_of_le_of_lt hl (by decide), nx p _ (hS.none hp) (Ne.symm (c_new h (hS.none hp))) (Sub.upd (Sub.upd hS))⟩⟩
/-- l.append(e) -/
theorem s_app {C : CHp} {k : Nat} {a : Addr} {xs : List V} (hS : Sub C H) (ho : Val ta σ H (.ref a)) (hv : Val te σ H y) (h : C a = some (k, .lst xs)) (hl : xs.length < sizeLine)
    (nx : ∀ H', Sub (cu C a k (.lst (xs ++ [y]))) H' → D.nx σ H') : tDrop (tBM K "list" rAppend ta (tCons te tNil)) D σ H :=
  ho _ ⟨.inl ⟨rfl, xs, SqL.of (hS _ _ _ h)⟩, hv _ ⟨a, xs, y, rfl, rfl, hS _ _ _ h, hl, nx _ hS.upd⟩⟩
/-- l.extend([..]) -/
theorem s_extL {C : CHp} {k : Nat} {a : Addr} {xs zs : List V} {t : TA} (hS : Sub C H) (ho : Val ta σ H (.ref a)) (hv : ValA t σ H zs) (hz : zs.length ≤ sizeLine) (h : C a = some (k, .lst xs)) (hl : xs.length + zs.length ≤ sizeLine)
    (nx : ∀ H', Sub (cu C a k (.lst (xs ++ zs))) H' → D.nx σ H') : tDrop (tBM K "list" rExtend ta (tCons (tLst t) tNil)) D σ H :=
  ho _ ⟨.inl ⟨rfl, xs, SqL.of (hS _ _ _ h)⟩, hv _ ⟨hz, fun p hp => ⟨a, p, xs, zs, rfl, rfl, by
    rw [upd_ne (c_new h (hS.none hp))]; exact hS _ _ _ h, upd_same, hl, nx _ (Sub.upd (hS.same (Same.new hp)))⟩⟩⟩
/-- l.extend(m), m at hand -/
theorem s_ext {C : CHp} {k : Nat} {a b : Addr} {xs zs : List V} (hS : Sub C H) (ho : Val ta σ H (.ref a)) (hv : Val te σ H (.ref b)) (h : C a = some (k, .lst xs)) (hb : H b = some (.lst zs)) (hl : xs.length + zs.length ≤ sizeLine)
    (nx : ∀ H', Sub (cu C a k (.lst (xs ++ zs))) H' → D.nx σ H') : tDrop (tBM K "list" rExtend ta (tCons te tNil)) D σ H :=
  ho _ ⟨.inl ⟨rfl, xs, SqL.of (hS _ _ _ h)⟩, hv _ ⟨a, b, xs, zs, rfl, rfl, hS _ _ _ h, hb, hl, nx _ hS.upd⟩⟩
/-! .. ahead of more -/
theorem q_asg {U : TS} {g : TG} (h : te σ H fun x H1 => g x σ H1 (U D)) : tSeq (tAsg te g) U D σ H := s_asg (D := { D with nx := U D }) h
theorem q_set {U : TS} {i : Nat} (h : te σ H fun x H1 => U D (σ.set i (some x)) H1) : tSeq (tAsg te (gName i)) U D σ H := s_set (D := { D with nx := U D }) h
theorem q_setV {U : TS} {i : Nat} (hv : Val te σ H x) (h : U D (σ.set i (some x)) H) : tSeq (tAsg te (gName i)) U D σ H := s_setV (D := { D with nx := U D }) hv h
theorem q_drop {U : TS} (h : te σ H fun _ H1 => U D σ H1) : tSeq (tDrop te) U D σ H := s_drop (D := { D with nx := U D }) h
theorem q_if {U : TS} {b : Bool} (h : ValT tt σ H b) (h1 : b = true → A { D with nx := U D } σ H) (h2 : b = false → B { D with nx := U D } σ H) : tSeq (tIfS tt A B) U D σ H := s_if (D := { D with nx := U D }) h h1 h2
theorem q_fld {U : TS} {C : CHp} {k : Nat} {c a dx : Addr} {fs : List (Str × V)} {f : Str} (hS : Sub C H) (ha : Val ta σ H (.ref a)) (hv : Val te σ H y) (h : C a = some (k, .ins c dx fs)) (hc : Cls K c) (hn : NoAttr K c f) (hl : Few 900 fs)
    (nx : ∀ H', Sub (cu C a k (.ins c dx (putF f y fs))) H' → U D σ H') : tSeq (sFld K ta te f) U D σ H := s_fld (D := { D with nx := U D }) hS ha hv h hc hn hl nx
theorem q_fldL {U : TS} {C : CHp} {k : Nat} (kp : Nat) {c a dx : Addr} {fs : List (Str × V)} {f : Str} {t : TA} {xs : List V} (hS : Sub C H) (hσ : ∀ H, Val ta σ H (.ref a)) (hv : ValA t σ H xs) (hx : xs.length ≤ sizeLine) (h : C a = some (k, .ins c dx fs)) (hc : Cls K c) (hn : NoAttr K c f) (hl : Few 900 fs)
    (nx : ∀ p H', C p = none → p ≠ a → Sub (cu (cu C p kp (.lst xs)) a k (.ins c dx (putF f (.ref p) fs))) H' → U D σ H') : tSeq (sFld K ta (tLst t) f) U D σ H := s_fldL (D := { D with nx := U D }) kp hS hσ hv hx h hc hn hl nx
theorem q_app {U : TS} {C : CHp} {k : Nat} {a : Addr} {xs : List V} (hS : Sub C H) (ho : Val ta σ H (.ref a)) (hv : Val te σ H y) (h : C a = some (k, .lst xs)) (hl : xs.length < sizeLine)
    (nx : ∀ H', Sub (cu C a k (.lst (xs ++ [y]))) H' → U D σ H') : tSeq (tDrop (tBM K "list" rAppend ta (tCons te tNil))) U D σ H := s_app (D := { D with nx := U D }) hS ho hv h hl nx
theorem q_extL {U : TS} {C : CHp} {k : Nat} {a : Addr} {xs zs : List V} {t : TA} (hS : Sub C H) (ho : Val ta σ H (.ref a)) (hv : ValA t σ H zs) (hz : zs.length ≤ sizeLine) (h : C a = some (k, .lst xs)) (hl : xs.length + zs.length ≤ sizeLine)
    (nx : ∀ H', Sub (cu C a k (.lst (xs ++ zs))) H' → U D σ H') : tSeq (tDrop (tBM K "list" rExtend ta (tCons (tLst t) tNil))) U D σ H := s_extL (D := { D with nx := U D }) hS ho hv hz h hl nx
theorem q_ext {U : TS} {C : CHp} {k : Nat} {a b : Addr} {xs zs : List V} (hS : Sub C H) (ho : Val ta σ H (.ref a)) (hv : Val te σ H (.ref b)) (h : C a = some (k, .lst xs)) (hb : H b = some (.lst zs)) (hl : xs.length + zs.length ≤ sizeLine)
    (nx : ∀ H', Sub (cu C a k (.lst (xs ++ zs))) H' → U D σ H') : tSeq (tDrop (tBM K "list" rExtend ta (tCons te tNil))) U D σ H := s_ext (D := { D with nx := U D }) hS ho hv h hb hl nx
end
/-! ### tokens -/
def tkF (t : Tk) (n a s : Addr) : List (Str × V) := [("kind", vn t.kind), ("place", .int t.place), ("stop", .int t.stop), ("name", .ref n), ("attributes", .ref a), ("ended", vn t.ended), ("signs", .ref s)]
/-- attributes: pairs of lists -/
def AttrsAt (F : Hp) : List V → List (NL × NL) → Prop
  | [], [] => True
  | v :: vs, a :: as => (∃ t n x, v = .ref t ∧ F t = some (.tup [.ref n, .ref x]) ∧ F n = some (.lst (nts a.1)) ∧ F x = some (.lst (nts a.2))) ∧ AttrsAt F vs as
  | _, _ => False
def TokAt (K : PySem.W.Frag) (F : Hp) (p : Addr) (t : Tk) : Prop := ∃ dx n a s vs, F p = some (.ins (He.ga K "Token") dx (tkF t n a s)) ∧ F n = some (.lst (nts t.name)) ∧ F a = some (.lst vs) ∧ AttrsAt F vs t.attrs ∧ F s = some (.lst (nts t.signs))
def Toks (K : PySem.W.Frag) (F : Hp) : List V → List Tk → Prop
  | [], [] => True
  | v :: vs, t :: ts => (∃ p, v = .ref p ∧ TokAt K F p t) ∧ Toks K F vs ts
  | _, _ => False
theorem AttrsAt.mono {F F' : Hp} (s : Same F F') : ∀ {vs : List V} {as : List (NL × NL)}, AttrsAt F vs as → AttrsAt F' vs as
  | [], [], _ => trivial
  | _ :: _, _ :: _, ⟨⟨t, n, x, e, h1, h2, h3⟩, r⟩ => ⟨⟨t, n, x, e, s _ _ h1, s _ _ h2, s _ _ h3⟩, r.mono s⟩
  | [], _ :: _, h => h.elim
  | _ :: _, [], h => h.elim
theorem TokAt.mono {F F' : Hp} (s : Same F F') {p : Addr} {t : Tk} : TokAt K F p t → TokAt K F' p t :=
  fun ⟨dx, n, a, g, vs, h1, h2, h3, h4, h5⟩ => ⟨dx, n, a, g, vs, s _ _ h1, s _ _ h2, s _ _ h3, h4.mono s, s _ _ h5⟩
theorem Toks.mono {F F' : Hp} (s : Same F F') : ∀ {vs : List V} {ts : List Tk}, Toks K F vs ts → Toks K F' vs ts
  | [], [], _ => trivial
  | _ :: _, _ :: _, ⟨⟨p, e, h⟩, r⟩ => ⟨⟨p, e, h.mono s⟩, r.mono s⟩
  | [], _ :: _, h => h.elim
  | _ :: _, [], h => h.elim
theorem Toks.app {F : Hp} : ∀ {vs us : List V} {ts rs : List Tk}, Toks K F vs ts → Toks K F us rs → Toks K F (vs ++ us) (ts ++ rs)
  | [], _, [], _, _, h => h
  | _ :: _, _, _ :: _, _, ⟨a, r⟩, h => ⟨a, r.app h⟩
  | [], _, _ :: _, _, h, _ => h.elim
  | _ :: _, _, [], _, h, _ => h.elim
theorem Toks.len {F : Hp} : ∀ {vs : List V} {ts : List Tk}, Toks K F vs ts → vs.length = ts.length
  | [], [], _ => rfl
  | _ :: _, _ :: _, ⟨_, r⟩ => by rw [List.length_cons, List.length_cons, r.len]
  | [], _ :: _, h => h.elim
  | _ :: _, [], h => h.elim
theorem Toks.get {F : Hp} : ∀ {vs : List V} {ts : List Tk} {i : Nat} {v : V}, Toks K F vs ts → vs[i]? = some v → ∃ t p, ts[i]? = some t ∧ v = .ref p ∧ TokAt K F p t
  | _ :: _, _ :: _, 0, _, ⟨⟨p, e, h⟩, _⟩, q => ⟨_, p, rfl, (Option.some.inj q).symm.trans e, h⟩
  | _ :: _, _ :: _, i + 1, _, ⟨_, r⟩, q => r.get (i := i) q
  | [], [], _, _, _, q => by simp at q
  | [], _ :: _, _, _, h, _ => h.elim
  | _ :: _, [], _, _, h, _ => h.elim
theorem AttrsAt.len {F : Hp} : ∀ {vs : List V} {ts : List (NL × NL)}, AttrsAt F vs ts → vs.length = ts.length
  | [], [], _ => rfl
  | _ :: _, _ :: _, ⟨_, r⟩ => by rw [List.length_cons, List.length_cons, r.len]
  | [], _ :: _, h => h.elim
  | _ :: _, [], h => h.elim
theorem AttrsAt.get {F : Hp} : ∀ {vs : List V} {as : List (NL × NL)} {i : Nat} {v : V}, AttrsAt F vs as → vs[i]? = some v → ∃ a t n x, as[i]? = some a ∧ v = .ref t ∧ F t = some (.tup [.ref n, .ref x]) ∧ F n = some (.lst (nts a.1)) ∧ F x = some (.lst (nts a.2))
  | _ :: _, _ :: _, 0, _, ⟨⟨t, n, x, e, h1, h2, h3⟩, _⟩, q => ⟨_, t, n, x, rfl, (Option.some.inj q).symm.trans e, h1, h2, h3⟩
  | _ :: _, _ :: _, i + 1, _, ⟨_, r⟩, q => r.get (i := i) q
  | [], [], _, _, _, q => by simp at q
  | [], _ :: _, _, _, h, _ => h.elim
  | _ :: _, [], _, _, h, _ => h.elim
theorem Toks.drop {F : Hp} : ∀ {vs : List V} {ts : List Tk} (n : Nat), Toks K F vs ts → Toks K F (vs.drop n) (ts.drop n)
  | _, _, 0, h => h
  | [], [], _ + 1, _ => trivial
  | _ :: _, _ :: _, n + 1, ⟨_, r⟩ => r.drop n
  | [], _ :: _, _ + 1, h => h.elim
  | _ :: _, [], _ + 1, h => h.elim
section
variable {t : Tk} {n a s : Addr}
theorem few_tk : Few 7 (tkF t n a s) := Nat.le_refl 7
theorem tk_kind : (tkF t n a s).lookup ("kind" : Str) = some (vn t.kind) := by kernel_rfl
theorem tk_place : (tkF t n a s).lookup ("place" : Str) = some (.int t.place) := by kernel_rfl
theorem tk_stop : (tkF t n a s).lookup ("stop" : Str) = some (.int t.stop) := by kernel_rfl
theorem tk_name : (tkF t n a s).lookup ("name" : Str) = some (.ref n) := by kernel_rfl
theorem tk_attrs : (tkF t n a s).lookup ("attributes" : Str) = some (.ref a) := by kernel_rfl
theorem tk_ended : (tkF t n a s).lookup ("ended" : Str) = some (vn t.ended) := by kernel_rfl
theorem tk_signs : (tkF t n a s).lookup ("signs" : Str) = some (.ref s) := by kernel_rfl
theorem tk_new (k p e : V) (z : V) : putF "signs" (.ref s) (putF "ended" z (putF "attributes" (.ref a) (putF "name" (.ref n) (putF "stop" e (putF "place" p (putF "kind" k [])))))) =
    ([("kind", k), ("place", p), ("stop", e), ("name", .ref n), ("attributes", .ref a), ("ended", z), ("signs", .ref s)] : List (Str × V)) := by kernel_rfl
theorem tk_psigns (x : Addr) : putF "signs" (.ref x) (tkF t n a s) = tkF t n a x := by kernel_rfl
theorem tk_pname (x : Addr) : putF "name" (.ref x) (tkF t n a s) = tkF t x a s := by kernel_rfl
theorem tk_pattrs (x : Addr) : putF "attributes" (.ref x) (tkF t n a s) = tkF t n x s := by kernel_rfl
theorem tk_pended (e : Nat) : putF "ended" (vn e) (tkF t n a s) = tkF { t with ended := e } n a s := by kernel_rfl
end

end Sm

set_option Elab.async false
set_option linter.all false
set_option maxRecDepth 100000
set_option maxHeartbeats 0
namespace Sm
open PySem PySem.Spec PyProof.Rows L2
variable {P : Program} {w : World} {K : PySem.W.Frag} {mg : Str → Option Value} {base : Heap}
/-! ### tokens are made -/
abbrev cT (K : PySem.W.Frag) : Addr := He.ga K "Token"
def spTok0 (K : PySem.W.Frag) : Sp := Sp4 fun a b c d H Q => ∃ (C : CHp) (x dx : Addr) (kd : Nat) (pl st : Int), a = .ref x ∧ b = vn kd ∧ c = .int pl ∧ d = .int st ∧ Sub C H ∧ C x = some (30, .ins (cT K) dx []) ∧
  ∀ (C' : CHp) (H' : Hp) (n g s : Addr), Sub C' H' → Kp (noK 30) C C' → C' x = some (30, .ins (cT K) dx (tkF ⟨kd, pl, st, [], [], 0, []⟩ n g s)) → C' n = some (0, .lst []) → C' g = some (0, .lst []) → C' s = some (0, .lst []) → Q .non H'
theorem n30 : ¬ noK 30 30 := noK_self
theorem ok_Token___init__ (T : Tx K mg) : FnOk P w K mg base CX0 1 (He.fAd K ("Token", some "__init__")) (fdA K ("Token", some "__init__")) ["self", "kind", "place", "stop"] (spTok0 K) := by
  refine (F_Token___init__ T).ok sc_Token___init__ (fun vs H Q E h => Sp4.len h) (fun cdv A outer s H vs Q E hr h => ⟨_, PSs.nox (pss_cons (ps_fld (pv 0) (pv 1) rfl) (pss_cons (ps_fld (pv 0) (pv 2) rfl) (pss_cons (ps_fld (pv 0) (pv 3) rfl) (pss_cons (ps_fld (pv 0) (pe_lst pa_nil) rfl) (pss_cons (ps_fld (pv 0) (pe_lst pa_nil) rfl) (pss_cons (ps_fld (pv 0) pe_int rfl) (pss_one (ps_fld (pv 0) (pe_lst pa_nil) rfl)))))))), ?_⟩)
  show _
  try simp only [cxK, cxK2]
  obtain ⟨a, b, c, d, rfl, C, x, dx, kd, pl, st, rfl, rfl, rfl, rfl, hS, hx, k⟩ := h
  refine q_fld hS (val_var rfl) (val_var rfl) hx (c_Token T) (a_Token_kind T) few_nil fun H1 S1 => ?_
  refine q_fld S1 (val_var rfl) (val_var rfl) cu_same (c_Token T) (a_Token_place T) ((few_put few_nil) : Few 1 _).up fun H2 S2 => ?_
  refine q_fld S2 (val_var rfl) (val_var rfl) cu_same (c_Token T) (a_Token_stop T) ((few_put (few_put few_nil)) : Few 2 _).up fun H3 S3 => ?_
  refine q_fldL 0 S3 (fun _ => val_var rfl) va_nil (by decide) cu_same (c_Token T) (a_Token_name T) ((few_put (few_put (few_put few_nil))) : Few 3 _).up fun n H4 hn hnx S4 => ?_
  refine q_fldL 0 S4 (fun _ => val_var rfl) va_nil (by decide) cu_same (c_Token T) (a_Token_attributes T) ((few_put (few_put (few_put (few_put few_nil)))) : Few 4 _).up fun g H5 hg hgx S5 => ?_
  refine q_fld S5 (val_var rfl) val_c cu_same (c_Token T) (a_Token_ended T) ((few_put (few_put (few_put (few_put (few_put few_nil))))) : Few 5 _).up fun H6 S6 => ?_
  refine s_fldL 0 S6 (fun _ => val_var rfl) va_nil (by decide) cu_same (c_Token T) (a_Token_signs T) ((few_put (few_put (few_put (few_put (few_put (few_put few_nil)))))) : Few 6 _).up fun s' H7 hs hsx S7 => ?_
  refine k _ H7 n g s' S7 ?_ ?_ ?_ ?_ ?_
  · refine ((((((Kp.mut hx n30).trans (Kp.mut cu_same n30)).trans (Kp.mut cu_same n30)).trans ((Kp.new hn).trans (Kp.mut (cu_new cu_same hn) n30))).trans ((Kp.new hg).trans (Kp.mut (cu_new cu_same hg) n30))).trans (Kp.mut cu_same n30)).trans ((Kp.new hs).trans (Kp.mut (cu_new cu_same hs) n30))
  · rw [cu_same, tk_new]; rfl
  · exact (cu_ne hnx).trans (cu_new ((cu_ne hnx).trans ((cu_ne hnx).trans (cu_new ((cu_ne hnx).trans cu_same) hg))) hs)
  · exact (cu_ne hgx).trans (cu_new ((cu_ne hgx).trans ((cu_ne hgx).trans cu_same)) hs)
  · exact (cu_ne hsx).trans cu_same
/-- Token(..) within a def -/
theorem make_tok {σ : L2.St} {D : V → Hp → Prop} {t : TA} {H : Hp} {C : CHp} {kd : Nat} {pl st : Int} (hS : Sub C H) (ha : ValA t σ H [vn kd, .int pl, .int st])
    (nx : ∀ (C' : CHp) (H' : Hp) (x dx n g s : Addr), C x = none → Sub C' H' → Kp (noK 30) C C' → C' x = some (30, .ins (cT K) dx (tkF ⟨kd, pl, st, [], [], 0, []⟩ n g s)) → C' n = some (0, .lst []) → C' g = some (0, .lst []) → C' s = some (0, .lst []) → D (.ref x) H') :
    tMake (cT K) (spTok0 K) [] E0 t σ H D := ha _ fun x dx hx hdx hne => by
  have hC := hS.none hx
  refine ⟨_, _, _, _, rfl, cu C x 30 (.ins (cT K) dx []), x, dx, kd, pl, st, rfl, rfl, rfl, rfl, Sub.upd (hS.same (Same.new hdx)), cu_same, fun C' H' n g s h1 h2 h3 h4 h5 h6 => ⟨rfl, ?_⟩⟩
  exact nx C' H' x dx n g s hC h1 (fun a k o e q => h2 a k o (cu_new e hC) q) h3 h4 h5 h6
/-- a token that is whole is frozen -/
theorem tok_done {C C' : CHp} {H' : Hp} {x dx n g s : Addr} {t : Tk} {vs : List V} (hS : Sub C' H') (hk : Kp (noK 30) C C') (hx : C' x = some (30, .ins (cT K) dx (tkF t n g s))) (hn : C' n = some (0, .lst (nts t.name))) (hg : C' g = some (0, .lst vs)) (ha : AttrsAt (fz C') vs t.attrs)
    (hs : C' s = some (0, .lst (nts t.signs))) : Sub (cu C' x 0 (.ins (cT K) dx (tkF t n g s))) H' ∧ Kp (noK 30) C (cu C' x 0 (.ins (cT K) dx (tkF t n g s))) ∧ TokAt K (fz (cu C' x 0 (.ins (cT K) dx (tkF t n g s)))) x t := by
  have k1 : Kp (noK 30) C' (cu C' x 0 (.ins (cT K) dx (tkF t n g s))) := Kp.mut hx noK_self
  have hf := k1.fz ok0
  refine ⟨hS.rec (hS _ _ _ hx), hk.trans k1, dx, n, g, s, vs, fz_of cu_same, hf _ _ (fz_of hn), hf _ _ (fz_of hg), ha.mono hf, hf _ _ (fz_of hs)⟩
/-- a new token is given back -/
def RetTok (K : PySem.W.Frag) (C : CHp) (Q : VK) (t : Tk) : Prop := ∀ (C' : CHp) (H' : Hp) (p : Addr), Sub C' H' → Kp (noK 30) C C' → TokAt K (fz C') p t → Q (.ref p) H'
def spSignsTok (K : PySem.W.Frag) : Sp := Sp4 fun a b c d H Q => ∃ (C : CHp) (kd : Nat) (pl st : Int) (s : Addr) (l : NL), a = vn kd ∧ b = .int pl ∧ c = .int st ∧ d = .ref s ∧ Sub C H ∧ C s = some (0, .lst (nts l)) ∧ RetTok K C Q ⟨kd, pl, st, [], [], 0, l⟩
theorem ok_signs_token (T : Tx K mg) : FnOk P w K mg base CX0 3 (He.fAd K ("signs_token", none)) (fdA K ("signs_token", none)) ["kind", "place", "stop", "signs"] (spSignsTok K) := by
  refine (F_signs_token T).ok sc_signs_token (fun vs H Q E h => Sp4.len h) (fun cdv A outer s H vs Q E hr h => ⟨_, PSs.nox (pss_cons (ps_set (i := 4) sc_signs_token.nd rfl (Or.inl rfl) (pe_make (k_Token T) (ok_Token___init__ T) (hr.mono (by decide)) rfl (g_Token T) (B_Token___init__ T) .nil pass0 (pa_cons (pv 0) (pa_cons (pv 1) (pa_cons (pv 2) pa_nil))))) (pss_cons (ps_fld (pv 4) (pv 3) rfl) (pss_one (ps_ret (pv 4))))), ?_⟩)
  show _
  try simp only [cxK, cxK2]
  obtain ⟨a, b, c, d, rfl, C, kd, pl, st, s0, l, rfl, rfl, rfl, rfl, hS, hs, k⟩ := h
  refine q_set <| make_tok hS (va_cons (val_var rfl) (va_cons (val_var rfl) (va_cons (val_var rfl) va_nil))) fun C1 H1 x dx n g s' hx S1 K1 h1 hn hg hs' => ?_
  refine q_fld S1 (val_var rfl) (val_var rfl) h1 (c_Token T) (a_Token_signs T) few_tk.up fun H2 S2 => ?_
  rw [tk_psigns] at S2
  have k2 : Kp (noK 30) C1 (cu C1 x 30 (.ins (cT K) dx (tkF ⟨kd, pl, st, [], [], 0, []⟩ n g s0))) := Kp.mut h1 noK_self
  obtain ⟨S3, K3, h3⟩ := tok_done (t := ⟨kd, pl, st, [], [], 0, l⟩) (vs := []) S2 (K1.trans k2) cu_same (k2 _ _ _ hn ok0) (k2 _ _ _ hg ok0) trivial (k2 _ _ _ (K1 _ _ _ hs ok0) ok0)
  exact ⟨_, rfl, k _ _ x S3 K3 h3⟩
def spOpenTok (K : PySem.W.Frag) : Sp := Sp5 fun a b c d e H Q => ∃ (C : CHp) (pl st : Int) (n g : Addr) (nm : NL) (vs : List V) (as : List (NL × NL)) (en : Nat), a = .int pl ∧ b = .int st ∧ c = .ref n ∧ d = .ref g ∧ e = vn en ∧ Sub C H ∧
  C n = some (0, .lst (nts nm)) ∧ C g = some (0, .lst vs) ∧ AttrsAt (fz C) vs as ∧ RetTok K C Q ⟨1, pl, st, nm, as, en, []⟩
theorem ok_open_tag (T : Tx K mg) : FnOk P w K mg base CX0 3 (He.fAd K ("open_tag", none)) (fdA K ("open_tag", none)) ["place", "stop", "name", "attributes", "ended"] (spOpenTok K) := by
  refine (F_open_tag T).ok sc_open_tag (fun vs H Q E h => Sp5.len h) (fun cdv A outer s H vs Q E hr h => ⟨_, PSs.nox (pss_cons (ps_set (i := 5) sc_open_tag.nd rfl (Or.inl rfl) (pe_make (k_Token T) (ok_Token___init__ T) (hr.mono (by decide)) rfl (g_Token T) (B_Token___init__ T) .nil pass0 (pa_cons (pe_gi rfl (i_OPEN_TAG T)) (pa_cons (pv 0) (pa_cons (pv 1) pa_nil))))) (pss_cons (ps_fld (pv 5) (pv 2) rfl) (pss_cons (ps_fld (pv 5) (pv 3) rfl) (pss_cons (ps_fld (pv 5) (pv 4) rfl) (pss_one (ps_ret (pv 5))))))), ?_⟩)
  show _
  try simp only [cxK, cxK2]
  obtain ⟨a, b, c, d, e, rfl, C, pl, st, n0, g0, nm, vs, as, en, rfl, rfl, rfl, rfl, rfl, hS, hn0, hg0, has, k⟩ := h
  refine q_set <| make_tok (kd := 1) hS (va_cons val_c (va_cons (val_var rfl) (va_cons (val_var rfl) va_nil))) fun C1 H1 x dx n g s' hx S1 K1 h1 hn hg hs' => ?_
  refine q_fld S1 (val_var rfl) (val_var rfl) h1 (c_Token T) (a_Token_name T) few_tk.up fun H2 S2 => ?_
  rw [tk_pname] at S2
  refine q_fld S2 (val_var rfl) (val_var rfl) cu_same (c_Token T) (a_Token_attributes T) few_tk.up fun H3 S3 => ?_
  rw [cu_cu, tk_pattrs] at S3
  refine q_fld S3 (val_var rfl) (val_var rfl) cu_same (c_Token T) (a_Token_ended T) few_tk.up fun H4 S4 => ?_
  rw [cu_cu, tk_pended] at S4
  have k2 : Kp (noK 30) C1 (cu C1 x 30 (.ins (cT K) dx (tkF ⟨1, pl, st, [], [], en, []⟩ n0 g0 s'))) := Kp.mut h1 noK_self
  have kk := K1.trans k2
  have hf := kk.fz ok0
  obtain ⟨S5, K5, h5⟩ := tok_done (x := x) (dx := dx) (n := n0) (g := g0) (s := s') (t := ⟨1, pl, st, nm, as, en, []⟩) (vs := vs) S4 kk cu_same (kk _ _ _ hn0 ok0) (kk _ _ _ hg0 ok0) (has.mono hf) (k2 _ _ _ hs' ok0)
  exact ⟨_, rfl, k _ _ x S5 K5 h5⟩
def spCloseTok (K : PySem.W.Frag) : Sp := Sp3 fun a b c H Q => ∃ (C : CHp) (pl st : Int) (n : Addr) (nm : NL), a = .int pl ∧ b = .int st ∧ c = .ref n ∧ Sub C H ∧ C n = some (0, .lst (nts nm)) ∧ RetTok K C Q ⟨2, pl, st, nm, [], 0, []⟩
theorem ok_close_tag (T : Tx K mg) : FnOk P w K mg base CX0 3 (He.fAd K ("close_tag", none)) (fdA K ("close_tag", none)) ["place", "stop", "name"] (spCloseTok K) := by
  refine (F_close_tag T).ok sc_close_tag (fun vs H Q E h => Sp3.len h) (fun cdv A outer s H vs Q E hr h => ⟨_, PSs.nox (pss_cons (ps_set (i := 3) sc_close_tag.nd rfl (Or.inl rfl) (pe_make (k_Token T) (ok_Token___init__ T) (hr.mono (by decide)) rfl (g_Token T) (B_Token___init__ T) .nil pass0 (pa_cons (pe_gi rfl (i_CLOSE_TAG T)) (pa_cons (pv 0) (pa_cons (pv 1) pa_nil))))) (pss_cons (ps_fld (pv 3) (pv 2) rfl) (pss_one (ps_ret (pv 3))))), ?_⟩)
  show _
  try simp only [cxK, cxK2]
  obtain ⟨a, b, c, rfl, C, pl, st, n0, nm, rfl, rfl, rfl, hS, hn0, k⟩ := h
  refine q_set <| make_tok (kd := 2) hS (va_cons val_c (va_cons (val_var rfl) (va_cons (val_var rfl) va_nil))) fun C1 H1 x dx n g s' hx S1 K1 h1 hn hg hs' => ?_
  refine q_fld S1 (val_var rfl) (val_var rfl) h1 (c_Token T) (a_Token_name T) few_tk.up fun H2 S2 => ?_
  rw [tk_pname] at S2
  have k2 : Kp (noK 30) C1 (cu C1 x 30 (.ins (cT K) dx (tkF ⟨2, pl, st, [], [], 0, []⟩ n0 g s'))) := Kp.mut h1 noK_self
  obtain ⟨S3, K3, h3⟩ := tok_done (t := ⟨2, pl, st, nm, [], 0, []⟩) (vs := []) S2 (K1.trans k2) cu_same (k2 _ _ _ (K1 _ _ _ hn0 ok0) ok0) (k2 _ _ _ hg ok0) trivial (k2 _ _ _ hs' ok0)
  exact ⟨_, rfl, k _ _ x S3 K3 h3⟩

end Sm

set_option Elab.async false
set_option linter.all false
set_option maxRecDepth 100000
set_option maxHeartbeats 0
namespace Sm
open PySem PySem.Spec PyProof.Rows L2
variable {P : Program} {w : World} {K : PySem.W.Frag} {mg : Str → Option Value} {base : Heap}
/-! ### the reader in the heap -/
abbrev cR (K : PySem.W.Frag) : Addr := He.ga K "Reader"
structure Adr where
  dx : Addr
  pt : Addr
  ptn : Addr
  pa : Addr
  pan : Addr
  pb : Addr
  pr : Addr
  ts : List V
  kvs : List (List Key × V)
  tc : Nat
  rc : Nat
def rF (A : Adr) (m : M) : List (Str × V) := [("mode", vn m.mode), ("count", vn m.count), ("tokens", .ref A.pt), ("tag_name", .ref A.ptn), ("attributes", .ref A.pa), ("attribute_name", .ref A.pan), ("body", .ref A.pb), ("run", .ref A.pr), ("begun", .int m.begun), ("fault_kind", vn m.fk)]
def keyOf (l : NL) : List Key := l.map fun n : Nat => Sum.inl (n : Int)
/-- the dict of attributes: keys by value, values frozen lists -/
def KvsAt (F : Hp) : List (List Key × V) → List (NL × NL) → Prop
  | [], [] => True
  | kv :: kvs, a :: as => (kv.1 = keyOf a.1 ∧ ∃ x, kv.2 = .ref x ∧ F x = some (.lst (nts a.2))) ∧ KvsAt F kvs as
  | _, _ => False
theorem KvsAt.mono {F F' : Hp} (s : Same F F') : ∀ {vs : List (List Key × V)} {as : List (NL × NL)}, KvsAt F vs as → KvsAt F' vs as
  | [], [], _ => trivial
  | _ :: _, _ :: _, ⟨⟨e, x, e2, h⟩, r⟩ => ⟨⟨e, x, e2, s _ _ h⟩, r.mono s⟩
  | [], _ :: _, h => h.elim
  | _ :: _, [], h => h.elim
theorem KvsAt.app {F : Hp} : ∀ {vs us : List (List Key × V)} {ts rs : List (NL × NL)}, KvsAt F vs ts → KvsAt F us rs → KvsAt F (vs ++ us) (ts ++ rs)
  | [], _, [], _, _, h => h
  | _ :: _, _, _ :: _, _, ⟨a, r⟩, h => ⟨a, r.app h⟩
  | [], _, _ :: _, _, h, _ => h.elim
  | _ :: _, _, [], _, h, _ => h.elim
theorem KvsAt.len {F : Hp} : ∀ {vs : List (List Key × V)} {ts : List (NL × NL)}, KvsAt F vs ts → vs.length = ts.length
  | [], [], _ => rfl
  | _ :: _, _ :: _, ⟨_, r⟩ => by rw [List.length_cons, List.length_cons, r.len]
  | [], _ :: _, h => h.elim
  | _ :: _, [], h => h.elim
theorem KvsAt.get {F : Hp} : ∀ {vs : List (List Key × V)} {as : List (NL × NL)} {i : Nat} {k : List Key} {v : V}, KvsAt F vs as → vs[i]? = some (k, v) → ∃ a x, as[i]? = some a ∧ k = keyOf a.1 ∧ v = .ref x ∧ F x = some (.lst (nts a.2))
  | _ :: _, _ :: _, 0, _, _, ⟨⟨e1, x, e2, h⟩, _⟩, q => by
    have e := Option.some.inj q
    subst e
    exact ⟨_, x, rfl, e1, e2, h⟩
  | _ :: _, _ :: _, i + 1, _, _, ⟨_, r⟩, q => r.get (i := i) q
  | [], [], _, _, _, _, q => by simp at q
  | [], _ :: _, _, _, _, h, _ => h.elim
  | _ :: _, [], _, _, _, h, _ => h.elim
section
variable {A : Adr} {m : M}
theorem rF_mode : (rF A m).lookup ("mode" : Str) = some (vn m.mode) := by kernel_rfl
theorem rF_count : (rF A m).lookup ("count" : Str) = some (vn m.count) := by kernel_rfl
theorem rF_tokens : (rF A m).lookup ("tokens" : Str) = some (.ref A.pt) := by kernel_rfl
theorem rF_tag : (rF A m).lookup ("tag_name" : Str) = some (.ref A.ptn) := by kernel_rfl
theorem rF_attrs : (rF A m).lookup ("attributes" : Str) = some (.ref A.pa) := by kernel_rfl
theorem rF_attr : (rF A m).lookup ("attribute_name" : Str) = some (.ref A.pan) := by kernel_rfl
theorem rF_body : (rF A m).lookup ("body" : Str) = some (.ref A.pb) := by kernel_rfl
theorem rF_run : (rF A m).lookup ("run" : Str) = some (.ref A.pr) := by kernel_rfl
theorem rF_begun : (rF A m).lookup ("begun" : Str) = some (.int m.begun) := by kernel_rfl
theorem rF_fk : (rF A m).lookup ("fault_kind" : Str) = some (vn m.fk) := by kernel_rfl
theorem rP_mode (k : Nat) : putF "mode" (vn k) (rF A m) = rF A { m with mode := k } := by kernel_rfl
theorem rP_count (k : Nat) : putF "count" (vn k) (rF A m) = rF A { m with count := k } := by kernel_rfl
theorem rP_fk (k : Nat) : putF "fault_kind" (vn k) (rF A m) = rF A { m with fk := k } := by kernel_rfl
theorem rP_begun (k : Int) : putF "begun" (.int k) (rF A m) = rF A { m with begun := k } := by kernel_rfl
theorem rP_tag (p : Addr) : putF "tag_name" (.ref p) (rF A m) = rF { A with ptn := p } m := by kernel_rfl
theorem rP_attrs (p : Addr) : putF "attributes" (.ref p) (rF A m) = rF { A with pa := p } m := by kernel_rfl
theorem rP_attr (p : Addr) : putF "attribute_name" (.ref p) (rF A m) = rF { A with pan := p } m := by kernel_rfl
theorem rP_body (p : Addr) : putF "body" (.ref p) (rF A m) = rF { A with pb := p } m := by kernel_rfl
theorem rP_run (p : Addr) : putF "run" (.ref p) (rF A m) = rF { A with pr := p } m := by kernel_rfl
theorem few_rF : Few 900 (rF A m) := (show Few 10 (rF A m) from Nat.le_refl 10).up
end
structure RdAt (K : PySem.W.Frag) (C : CHp) (r : Addr) (A : Adr) (m : M) : Prop where
  o : C r = some (1, .ins (cR K) A.dx (rF A m))
  tk : C A.pt = some (2, .lst A.ts)
  tg : C A.ptn = some (A.tc, .lst (nts m.tag))
  at_ : C A.pa = some (4, .dT A.kvs)
  an : C A.pan = some (5, .lst (nts m.attr))
  bd : C A.pb = some (6, .lst (nts m.body))
  rn : C A.pr = some (A.rc, .lst (nts m.run))
  tks : Toks K (fz C) A.ts m.toks
  kv : KvsAt (fz C) A.kvs m.attrs
  htc : A.tc = 0 ∨ A.tc = 3
  hrc : A.rc = 0 ∨ A.rc = 7
theorem rd0 : rdK 0 := .inl rfl
theorem rdN {k : Nat} (h : k ≠ 0 := by decide) (h2 : k < 8 := by decide) : ¬ rdK k := fun z => by
  rcases z with z | z
  · exact h z
  · omega
theorem rdNo {k : Nat} (h : k ≠ 30 := by decide) : noK 30 k := h
theorem Kp.rd {C C' : CHp} (h : Kp (noK 30) C C') : Kp rdK C C' := h.mono fun k q => by
  rcases q with q | q
  · rw [q]; exact ok0
  · exact q.2
section
variable {C C' : CHp} {r : Addr} {A : Adr} {m : M}
theorem RdAt.keep (h : RdAt K C r A m) (k : Kp (noK 30) C C') : RdAt K C' r A m :=
  have hf := k.fz ok0
  ⟨k _ _ _ h.o rdNo, k _ _ _ h.tk rdNo, k _ _ _ h.tg (by rcases h.htc with e | e <;> rw [e] <;> exact rdNo), k _ _ _ h.at_ rdNo, k _ _ _ h.an rdNo, k _ _ _ h.bd rdNo, k _ _ _ h.rn (by rcases h.hrc with e | e <;> rw [e] <;> exact rdNo), h.tks.mono hf, h.kv.mono hf, h.htc, h.hrc⟩
theorem RdAt.setO (h : RdAt K C r A m) (m' : M) (e1 : m'.toks = m.toks) (e2 : m'.tag = m.tag) (e3 : m'.attrs = m.attrs) (e4 : m'.attr = m.attr) (e5 : m'.body = m.body) (e6 : m'.run = m.run) : RdAt K (cu C r 1 (.ins (cR K) A.dx (rF A m'))) r A m' :=
  have hf : Same (fz C) (fz (cu C r 1 (.ins (cR K) A.dx (rF A m')))) := Kp.fz (P := rdK) (Kp.mut h.o rdN) rd0
  ⟨cu_same, cu_other h.tk h.o (by decide), by rw [e2]; exact cu_other h.tg h.o (by rcases h.htc with e | e <;> rw [e] <;> decide), cu_other h.at_ h.o (by decide), by rw [e4]; exact cu_other h.an h.o (by decide), by rw [e5]; exact cu_other h.bd h.o (by decide), by rw [e6]; exact cu_other h.rn h.o (by rcases h.hrc with e | e <;> rw [e] <;> decide), by rw [e1]; exact h.tks.mono hf, by rw [e3]; exact h.kv.mono hf, h.htc, h.hrc⟩
theorem RdAt.setRun (h : RdAt K C r A m) (hc : A.rc = 7) (l : NL) : RdAt K (cu C A.pr A.rc (.lst (nts l))) r A { m with run := l } :=
  have hf : Same (fz C) (fz (cu C A.pr A.rc (.lst (nts l)))) := Kp.fz (P := rdK) (Kp.mut h.rn (by rw [hc]; exact rdN)) rd0
  ⟨cu_other h.o h.rn (by rcases h.hrc with e | e <;> rw [e] <;> decide), cu_other h.tk h.rn (by rcases h.hrc with e | e <;> rw [e] <;> decide), cu_other h.tg h.rn (by rw [hc]; rcases h.htc with e | e <;> rw [e] <;> decide), cu_other h.at_ h.rn (by rcases h.hrc with e | e <;> rw [e] <;> decide), cu_other h.an h.rn (by rcases h.hrc with e | e <;> rw [e] <;> decide), cu_other h.bd h.rn (by rcases h.hrc with e | e <;> rw [e] <;> decide), cu_same, h.tks.mono hf, h.kv.mono hf, h.htc, h.hrc⟩
theorem RdAt.setBody (h : RdAt K C r A m) (l : NL) : RdAt K (cu C A.pb 6 (.lst (nts l))) r A { m with body := l } :=
  have hf : Same (fz C) (fz (cu C A.pb 6 (.lst (nts l)))) := Kp.fz (P := rdK) (Kp.mut h.bd rdN) rd0
  ⟨cu_other h.o h.bd (by decide), cu_other h.tk h.bd (by decide), cu_other h.tg h.bd (by rcases h.htc with e | e <;> rw [e] <;> decide), cu_other h.at_ h.bd (by decide), cu_other h.an h.bd (by decide), cu_same, cu_other h.rn h.bd (by rcases h.hrc with e | e <;> rw [e] <;> decide), h.tks.mono hf, h.kv.mono hf, h.htc, h.hrc⟩
theorem RdAt.setAttr (h : RdAt K C r A m) (l : NL) : RdAt K (cu C A.pan 5 (.lst (nts l))) r A { m with attr := l } :=
  have hf : Same (fz C) (fz (cu C A.pan 5 (.lst (nts l)))) := Kp.fz (P := rdK) (Kp.mut h.an rdN) rd0
  ⟨cu_other h.o h.an (by decide), cu_other h.tk h.an (by decide), cu_other h.tg h.an (by rcases h.htc with e | e <;> rw [e] <;> decide), cu_other h.at_ h.an (by decide), cu_same, cu_other h.bd h.an (by decide), cu_other h.rn h.an (by rcases h.hrc with e | e <;> rw [e] <;> decide), h.tks.mono hf, h.kv.mono hf, h.htc, h.hrc⟩
theorem RdAt.setTag (h : RdAt K C r A m) (hc : A.tc = 3) (l : NL) : RdAt K (cu C A.ptn A.tc (.lst (nts l))) r A { m with tag := l } :=
  have hf : Same (fz C) (fz (cu C A.ptn A.tc (.lst (nts l)))) := Kp.fz (P := rdK) (Kp.mut h.tg (by rw [hc]; exact rdN)) rd0
  ⟨cu_other h.o h.tg (by rcases h.htc with e | e <;> rw [e] <;> decide), cu_other h.tk h.tg (by rcases h.htc with e | e <;> rw [e] <;> decide), cu_same, cu_other h.at_ h.tg (by rcases h.htc with e | e <;> rw [e] <;> decide), cu_other h.an h.tg (by rcases h.htc with e | e <;> rw [e] <;> decide), cu_other h.bd h.tg (by rcases h.htc with e | e <;> rw [e] <;> decide), cu_other h.rn h.tg (by rw [hc]; rcases h.hrc with e | e <;> rw [e] <;> decide), h.tks.mono hf, h.kv.mono hf, h.htc, h.hrc⟩
theorem RdAt.setToks (h : RdAt K C r A m) (us : List V) (ts : List Tk) (ht : Toks K (fz C) us ts) : RdAt K (cu C A.pt 2 (.lst us)) r { A with ts := us } { m with toks := ts } :=
  have hf : Same (fz C) (fz (cu C A.pt 2 (.lst us))) := Kp.fz (P := rdK) (Kp.mut h.tk rdN) rd0
  ⟨cu_other h.o h.tk (by decide), cu_same, cu_other h.tg h.tk (by rcases h.htc with e | e <;> rw [e] <;> decide), cu_other h.at_ h.tk (by decide), cu_other h.an h.tk (by decide), cu_other h.bd h.tk (by decide), cu_other h.rn h.tk (by rcases h.hrc with e | e <;> rw [e] <;> decide), ht.mono hf, h.kv.mono hf, h.htc, h.hrc⟩
theorem RdAt.setAttrs (h : RdAt K C r A m) (us : List (List Key × V)) (as : List (NL × NL)) (ht : KvsAt (fz C) us as) : RdAt K (cu C A.pa 4 (.dT us)) r { A with kvs := us } { m with attrs := as } :=
  have hf : Same (fz C) (fz (cu C A.pa 4 (.dT us))) := Kp.fz (P := rdK) (Kp.mut h.at_ rdN) rd0
  ⟨cu_other h.o h.at_ (by decide), cu_other h.tk h.at_ (by decide), cu_other h.tg h.at_ (by rcases h.htc with e | e <;> rw [e] <;> decide), cu_same, cu_other h.an h.at_ (by decide), cu_other h.bd h.at_ (by decide), cu_other h.rn h.at_ (by rcases h.hrc with e | e <;> rw [e] <;> decide), h.tks.mono hf, ht.mono hf, h.htc, h.hrc⟩
theorem RdAt.frzRun (h : RdAt K C r A m) : RdAt K (cu C A.pr 0 (.lst (nts m.run))) r { A with rc := 0 } m :=
  have hf : Same (fz C) (fz (cu C A.pr 0 (.lst (nts m.run)))) := fun a o e => by
    by_cases q : a = A.pr
    · subst q
      have z := of_fz e
      rw [h.rn] at z
      rw [← (Prod.mk.inj (Option.some.inj z)).2]
      exact fz_of cu_same
    · exact fz_of ((cu_ne q).trans (of_fz e))
  ⟨cu_other h.o h.rn (by rcases h.hrc with e | e <;> rw [e] <;> decide), cu_other h.tk h.rn (by rcases h.hrc with e | e <;> rw [e] <;> decide), (by
    by_cases q : A.ptn = A.pr
    · rw [q, cu_same]
      have z := h.tg
      rw [q, h.rn] at z
      have z2 := Prod.mk.inj (Option.some.inj z)
      rcases h.htc with e | e <;> rcases h.hrc with e2 | e2 <;> rw [e, e2] at z2 <;> first | (exact absurd z2.1 (by decide)) | (rw [e]; exact congrArg (fun w => some (0, w)) z2.2)
    · rw [cu_ne q]; exact h.tg), cu_other h.at_ h.rn (by rcases h.hrc with e | e <;> rw [e] <;> decide), cu_other h.an h.rn (by rcases h.hrc with e | e <;> rw [e] <;> decide), cu_other h.bd h.rn (by rcases h.hrc with e | e <;> rw [e] <;> decide), cu_same, h.tks.mono hf, h.kv.mono hf, h.htc, .inl rfl⟩
theorem RdAt.frzTag (h : RdAt K C r A m) : RdAt K (cu C A.ptn 0 (.lst (nts m.tag))) r { A with tc := 0 } m :=
  have hf : Same (fz C) (fz (cu C A.ptn 0 (.lst (nts m.tag)))) := fun a o e => by
    by_cases q : a = A.ptn
    · subst q
      have z := of_fz e
      rw [h.tg] at z
      rw [← (Prod.mk.inj (Option.some.inj z)).2]
      exact fz_of cu_same
    · exact fz_of ((cu_ne q).trans (of_fz e))
  ⟨cu_other h.o h.tg (by rcases h.htc with e | e <;> rw [e] <;> decide), cu_other h.tk h.tg (by rcases h.htc with e | e <;> rw [e] <;> decide), cu_same, cu_other h.at_ h.tg (by rcases h.htc with e | e <;> rw [e] <;> decide), cu_other h.an h.tg (by rcases h.htc with e | e <;> rw [e] <;> decide), cu_other h.bd h.tg (by rcases h.htc with e | e <;> rw [e] <;> decide), (by
    by_cases q : A.pr = A.ptn
    · rw [q, cu_same]
      have z := h.rn
      rw [q, h.tg] at z
      have z2 := Prod.mk.inj (Option.some.inj z)
      rcases h.htc with e | e <;> rcases h.hrc with e2 | e2 <;> rw [e, e2] at z2 <;> first | (exact absurd z2.1 (by decide)) | (rw [e2]; exact congrArg (fun w => some (0, w)) z2.2)
    · rw [cu_ne q]; exact h.rn), h.tks.mono hf, h.kv.mono hf, .inl rfl, h.hrc⟩
end

end Sm

set_option Elab.async false
set_option linter.all false
set_option maxRecDepth 100000
set_option maxHeartbeats 0
namespace Sm
open PySem PySem.Spec PyProof.Rows L2
variable {P : Program} {w : World} {K : PySem.W.Frag} {mg : Str → Option Value} {base : Heap}
/-! ### what a def does to the reader -/
/-- the reader is m' behind it, all else stands -/
def After (K : PySem.W.Frag) (C : CHp) (r : Addr) (m' : M) (tc rc : Nat) (X : Hp → Prop) : Prop := ∀ (C' : CHp) (H' : Hp) (A' : Adr), Sub C' H' → Kp rdK C C' → RdAt K C' r A' m' → A'.tc = tc → A'.rc = rc → X H'
section
variable {C C' : CHp} {r : Addr} {A : Adr} {m : M}
theorem RdAt.newRun (h : RdAt K C r A m) {p : Addr} (hp : C p = none) (l : NL) : RdAt K (cu (cu C p 7 (.lst (nts l))) r 1 (.ins (cR K) A.dx (rF { A with pr := p } m))) r { A with pr := p, rc := 7 } { m with run := l } :=
  have k1 : Kp rdK C (cu C p 7 (.lst (nts l))) := Kp.new hp
  have k2 : Kp rdK (cu C p 7 (.lst (nts l))) (cu (cu C p 7 (.lst (nts l))) r 1 (.ins (cR K) A.dx (rF { A with pr := p } m))) := Kp.mut (cu_new h.o hp) rdN
  have hf := (k1.trans k2).fz rd0
  ⟨cu_same, cu_other (cu_new h.tk hp) (cu_new h.o hp) (by decide), cu_other (cu_new h.tg hp) (cu_new h.o hp) (by rcases h.htc with e | e <;> rw [e] <;> decide), cu_other (cu_new h.at_ hp) (cu_new h.o hp) (by decide), cu_other (cu_new h.an hp) (cu_new h.o hp) (by decide), cu_other (cu_new h.bd hp) (cu_new h.o hp) (by decide), (cu_ne (Ne.symm (c_new h.o hp))).trans cu_same, h.tks.mono hf, h.kv.mono hf, h.htc, .inr rfl⟩
theorem RdAt.newBody (h : RdAt K C r A m) {p : Addr} (hp : C p = none) (l : NL) : RdAt K (cu (cu C p 6 (.lst (nts l))) r 1 (.ins (cR K) A.dx (rF { A with pb := p } m))) r { A with pb := p } { m with body := l } :=
  have k1 : Kp rdK C (cu C p 6 (.lst (nts l))) := Kp.new hp
  have k2 : Kp rdK (cu C p 6 (.lst (nts l))) (cu (cu C p 6 (.lst (nts l))) r 1 (.ins (cR K) A.dx (rF { A with pb := p } m))) := Kp.mut (cu_new h.o hp) rdN
  have hf := (k1.trans k2).fz rd0
  ⟨cu_same, cu_other (cu_new h.tk hp) (cu_new h.o hp) (by decide), cu_other (cu_new h.tg hp) (cu_new h.o hp) (by rcases h.htc with e | e <;> rw [e] <;> decide), cu_other (cu_new h.at_ hp) (cu_new h.o hp) (by decide), cu_other (cu_new h.an hp) (cu_new h.o hp) (by decide), (cu_ne (Ne.symm (c_new h.o hp))).trans cu_same, cu_other (cu_new h.rn hp) (cu_new h.o hp) (by rcases h.hrc with e | e <;> rw [e] <;> decide), h.tks.mono hf, h.kv.mono hf, h.htc, h.hrc⟩
theorem RdAt.newAttr (h : RdAt K C r A m) {p : Addr} (hp : C p = none) (l : NL) : RdAt K (cu (cu C p 5 (.lst (nts l))) r 1 (.ins (cR K) A.dx (rF { A with pan := p } m))) r { A with pan := p } { m with attr := l } :=
  have k1 : Kp rdK C (cu C p 5 (.lst (nts l))) := Kp.new hp
  have k2 : Kp rdK (cu C p 5 (.lst (nts l))) (cu (cu C p 5 (.lst (nts l))) r 1 (.ins (cR K) A.dx (rF { A with pan := p } m))) := Kp.mut (cu_new h.o hp) rdN
  have hf := (k1.trans k2).fz rd0
  ⟨cu_same, cu_other (cu_new h.tk hp) (cu_new h.o hp) (by decide), cu_other (cu_new h.tg hp) (cu_new h.o hp) (by rcases h.htc with e | e <;> rw [e] <;> decide), cu_other (cu_new h.at_ hp) (cu_new h.o hp) (by decide), (cu_ne (Ne.symm (c_new h.o hp))).trans cu_same, cu_other (cu_new h.bd hp) (cu_new h.o hp) (by decide), cu_other (cu_new h.rn hp) (cu_new h.o hp) (by rcases h.hrc with e | e <;> rw [e] <;> decide), h.tks.mono hf, h.kv.mono hf, h.htc, h.hrc⟩
theorem RdAt.newTag (h : RdAt K C r A m) {p : Addr} (hp : C p = none) (l : NL) : RdAt K (cu (cu C p 3 (.lst (nts l))) r 1 (.ins (cR K) A.dx (rF { A with ptn := p } m))) r { A with ptn := p, tc := 3 } { m with tag := l } :=
  have k1 : Kp rdK C (cu C p 3 (.lst (nts l))) := Kp.new hp
  have k2 : Kp rdK (cu C p 3 (.lst (nts l))) (cu (cu C p 3 (.lst (nts l))) r 1 (.ins (cR K) A.dx (rF { A with ptn := p } m))) := Kp.mut (cu_new h.o hp) rdN
  have hf := (k1.trans k2).fz rd0
  ⟨cu_same, cu_other (cu_new h.tk hp) (cu_new h.o hp) (by decide), (cu_ne (Ne.symm (c_new h.o hp))).trans cu_same, cu_other (cu_new h.at_ hp) (cu_new h.o hp) (by decide), cu_other (cu_new h.an hp) (cu_new h.o hp) (by decide), cu_other (cu_new h.bd hp) (cu_new h.o hp) (by decide), cu_other (cu_new h.rn hp) (cu_new h.o hp) (by rcases h.hrc with e | e <;> rw [e] <;> decide), h.tks.mono hf, h.kv.mono hf, .inr rfl, h.hrc⟩
theorem RdAt.newAttrs (h : RdAt K C r A m) {p : Addr} (hp : C p = none) : RdAt K (cu (cu C p 4 (.dT [])) r 1 (.ins (cR K) A.dx (rF { A with pa := p } m))) r { A with pa := p, kvs := [] } { m with attrs := [] } :=
  have k1 : Kp rdK C (cu C p 4 (.dT [])) := Kp.new hp
  have k2 : Kp rdK (cu C p 4 (.dT [])) (cu (cu C p 4 (.dT [])) r 1 (.ins (cR K) A.dx (rF { A with pa := p } m))) := Kp.mut (cu_new h.o hp) rdN
  have hf := (k1.trans k2).fz rd0
  ⟨cu_same, cu_other (cu_new h.tk hp) (cu_new h.o hp) (by decide), cu_other (cu_new h.tg hp) (cu_new h.o hp) (by rcases h.htc with e | e <;> rw [e] <;> decide), (cu_ne (Ne.symm (c_new h.o hp))).trans cu_same, cu_other (cu_new h.an hp) (cu_new h.o hp) (by decide), cu_other (cu_new h.bd hp) (cu_new h.o hp) (by decide), cu_other (cu_new h.rn hp) (cu_new h.o hp) (by rcases h.hrc with e | e <;> rw [e] <;> decide), h.tks.mono hf, trivial, h.htc, h.hrc⟩
end
section
variable {C C' : CHp} {r : Addr} {A : Adr} {m : M} {σ : L2.St} {H : Hp} {ta te : TE} {D : Ends} {t : TA} {U : TS} {y : V}
theorem v_mode (T : Tx K mg) (hS : Sub C H) (h : RdAt K C r A m) (ha : Val ta σ H (.ref r)) : Val (tFld K ta "mode") σ H (vn m.mode) := val_fld ha (hS _ _ _ h.o) (c_Reader T) (a_Reader_mode T) rF_mode
theorem v_count (T : Tx K mg) (hS : Sub C H) (h : RdAt K C r A m) (ha : Val ta σ H (.ref r)) : Val (tFld K ta "count") σ H (vn m.count) := val_fld ha (hS _ _ _ h.o) (c_Reader T) (a_Reader_count T) rF_count
theorem v_tokens (T : Tx K mg) (hS : Sub C H) (h : RdAt K C r A m) (ha : Val ta σ H (.ref r)) : Val (tFld K ta "tokens") σ H (.ref A.pt) := val_fld ha (hS _ _ _ h.o) (c_Reader T) (a_Reader_tokens T) rF_tokens
theorem v_tag (T : Tx K mg) (hS : Sub C H) (h : RdAt K C r A m) (ha : Val ta σ H (.ref r)) : Val (tFld K ta "tag_name") σ H (.ref A.ptn) := val_fld ha (hS _ _ _ h.o) (c_Reader T) (a_Reader_tag_name T) rF_tag
theorem v_attrs (T : Tx K mg) (hS : Sub C H) (h : RdAt K C r A m) (ha : Val ta σ H (.ref r)) : Val (tFld K ta "attributes") σ H (.ref A.pa) := val_fld ha (hS _ _ _ h.o) (c_Reader T) (a_Reader_attributes T) rF_attrs
theorem v_attr (T : Tx K mg) (hS : Sub C H) (h : RdAt K C r A m) (ha : Val ta σ H (.ref r)) : Val (tFld K ta "attribute_name") σ H (.ref A.pan) := val_fld ha (hS _ _ _ h.o) (c_Reader T) (a_Reader_attribute_name T) rF_attr
theorem v_body (T : Tx K mg) (hS : Sub C H) (h : RdAt K C r A m) (ha : Val ta σ H (.ref r)) : Val (tFld K ta "body") σ H (.ref A.pb) := val_fld ha (hS _ _ _ h.o) (c_Reader T) (a_Reader_body T) rF_body
theorem v_run (T : Tx K mg) (hS : Sub C H) (h : RdAt K C r A m) (ha : Val ta σ H (.ref r)) : Val (tFld K ta "run") σ H (.ref A.pr) := val_fld ha (hS _ _ _ h.o) (c_Reader T) (a_Reader_run T) rF_run
theorem v_begun (T : Tx K mg) (hS : Sub C H) (h : RdAt K C r A m) (ha : Val ta σ H (.ref r)) : Val (tFld K ta "begun") σ H (.int m.begun) := val_fld ha (hS _ _ _ h.o) (c_Reader T) (a_Reader_begun T) rF_begun
theorem v_fk (T : Tx K mg) (hS : Sub C H) (h : RdAt K C r A m) (ha : Val ta σ H (.ref r)) : Val (tFld K ta "fault_kind") σ H (vn m.fk) := val_fld ha (hS _ _ _ h.o) (c_Reader T) (a_Reader_fault_kind T) rF_fk
theorem s_mode (T : Tx K mg) (hS : Sub C H) (h : RdAt K C r A m) (ha : ∀ H, Val ta σ H (.ref r)) {k : Nat} (hv : Val te σ H (vn k))  (nx : After K C r ({ m with mode := k }) A.tc A.rc fun H' => D.nx σ H') : sFld K ta te "mode" D σ H := s_fld hS (ha H) hv h.o (c_Reader T) (a_Reader_mode T) few_rF fun H' S => by
    rw [rP_mode] at S
    exact nx _ H' A S (Kp.mut h.o rdN) (h.setO { m with mode := k } rfl rfl rfl rfl rfl rfl) rfl rfl
theorem q_mode (T : Tx K mg) (hS : Sub C H) (h : RdAt K C r A m) (ha : ∀ H, Val ta σ H (.ref r)) {k : Nat} (hv : Val te σ H (vn k))  (nx : After K C r ({ m with mode := k }) A.tc A.rc fun H' => U D σ H') : tSeq (sFld K ta te "mode") U D σ H := s_mode (D := { D with nx := U D }) T hS h ha hv nx
theorem s_fk (T : Tx K mg) (hS : Sub C H) (h : RdAt K C r A m) (ha : ∀ H, Val ta σ H (.ref r)) {k : Nat} (hv : Val te σ H (vn k))  (nx : After K C r ({ m with fk := k }) A.tc A.rc fun H' => D.nx σ H') : sFld K ta te "fault_kind" D σ H := s_fld hS (ha H) hv h.o (c_Reader T) (a_Reader_fault_kind T) few_rF fun H' S => by
    rw [rP_fk] at S
    exact nx _ H' A S (Kp.mut h.o rdN) (h.setO { m with fk := k } rfl rfl rfl rfl rfl rfl) rfl rfl
theorem q_fk (T : Tx K mg) (hS : Sub C H) (h : RdAt K C r A m) (ha : ∀ H, Val ta σ H (.ref r)) {k : Nat} (hv : Val te σ H (vn k))  (nx : After K C r ({ m with fk := k }) A.tc A.rc fun H' => U D σ H') : tSeq (sFld K ta te "fault_kind") U D σ H := s_fk (D := { D with nx := U D }) T hS h ha hv nx
theorem s_begun (T : Tx K mg) (hS : Sub C H) (h : RdAt K C r A m) (ha : ∀ H, Val ta σ H (.ref r)) {b : Int} (hv : Val te σ H (.int b))  (nx : After K C r ({ m with begun := b }) A.tc A.rc fun H' => D.nx σ H') : sFld K ta te "begun" D σ H := s_fld hS (ha H) hv h.o (c_Reader T) (a_Reader_begun T) few_rF fun H' S => by
    rw [rP_begun] at S
    exact nx _ H' A S (Kp.mut h.o rdN) (h.setO { m with begun := b } rfl rfl rfl rfl rfl rfl) rfl rfl
theorem q_begun (T : Tx K mg) (hS : Sub C H) (h : RdAt K C r A m) (ha : ∀ H, Val ta σ H (.ref r)) {b : Int} (hv : Val te σ H (.int b))  (nx : After K C r ({ m with begun := b }) A.tc A.rc fun H' => U D σ H') : tSeq (sFld K ta te "begun") U D σ H := s_begun (D := { D with nx := U D }) T hS h ha hv nx
theorem s_newRun (T : Tx K mg) (hS : Sub C H) (h : RdAt K C r A m) (ha : ∀ H, Val ta σ H (.ref r)) {l : NL} (hv : ValA t σ H (nts l)) (hl : l.length ≤ 100)  (nx : After K C r ({ m with run := l }) A.tc 7 fun H' => D.nx σ H') : sFld K ta (tLst t) "run" D σ H := s_fldL 7 hS ha hv (by rw [nts_len]; exact size_small (by omega)) h.o (c_Reader T) (a_Reader_run T) few_rF fun p H' hp hpr S => by
    rw [rP_run] at S
    exact nx _ H' _ S ((Kp.new hp).trans (Kp.mut (cu_new h.o hp) rdN)) (h.newRun hp l) rfl rfl
theorem q_newRun (T : Tx K mg) (hS : Sub C H) (h : RdAt K C r A m) (ha : ∀ H, Val ta σ H (.ref r)) {l : NL} (hv : ValA t σ H (nts l)) (hl : l.length ≤ 100)  (nx : After K C r ({ m with run := l }) A.tc 7 fun H' => U D σ H') : tSeq (sFld K ta (tLst t) "run") U D σ H := s_newRun (D := { D with nx := U D }) T hS h ha hv hl nx
theorem s_newBody (T : Tx K mg) (hS : Sub C H) (h : RdAt K C r A m) (ha : ∀ H, Val ta σ H (.ref r)) {l : NL} (hv : ValA t σ H (nts l)) (hl : l.length ≤ 100)  (nx : After K C r ({ m with body := l }) A.tc A.rc fun H' => D.nx σ H') : sFld K ta (tLst t) "body" D σ H := s_fldL 6 hS ha hv (by rw [nts_len]; exact size_small (by omega)) h.o (c_Reader T) (a_Reader_body T) few_rF fun p H' hp hpr S => by
    rw [rP_body] at S
    exact nx _ H' _ S ((Kp.new hp).trans (Kp.mut (cu_new h.o hp) rdN)) (h.newBody hp l) rfl rfl
theorem q_newBody (T : Tx K mg) (hS : Sub C H) (h : RdAt K C r A m) (ha : ∀ H, Val ta σ H (.ref r)) {l : NL} (hv : ValA t σ H (nts l)) (hl : l.length ≤ 100)  (nx : After K C r ({ m with body := l }) A.tc A.rc fun H' => U D σ H') : tSeq (sFld K ta (tLst t) "body") U D σ H := s_newBody (D := { D with nx := U D }) T hS h ha hv hl nx
theorem s_newAttr (T : Tx K mg) (hS : Sub C H) (h : RdAt K C r A m) (ha : ∀ H, Val ta σ H (.ref r)) {l : NL} (hv : ValA t σ H (nts l)) (hl : l.length ≤ 100)  (nx : After K C r ({ m with attr := l }) A.tc A.rc fun H' => D.nx σ H') : sFld K ta (tLst t) "attribute_name" D σ H := s_fldL 5 hS ha hv (by rw [nts_len]; exact size_small (by omega)) h.o (c_Reader T) (a_Reader_attribute_name T) few_rF fun p H' hp hpr S => by
    rw [rP_attr] at S
    exact nx _ H' _ S ((Kp.new hp).trans (Kp.mut (cu_new h.o hp) rdN)) (h.newAttr hp l) rfl rfl
theorem q_newAttr (T : Tx K mg) (hS : Sub C H) (h : RdAt K C r A m) (ha : ∀ H, Val ta σ H (.ref r)) {l : NL} (hv : ValA t σ H (nts l)) (hl : l.length ≤ 100)  (nx : After K C r ({ m with attr := l }) A.tc A.rc fun H' => U D σ H') : tSeq (sFld K ta (tLst t) "attribute_name") U D σ H := s_newAttr (D := { D with nx := U D }) T hS h ha hv hl nx
theorem s_newTag (T : Tx K mg) (hS : Sub C H) (h : RdAt K C r A m) (ha : ∀ H, Val ta σ H (.ref r)) {l : NL} (hv : ValA t σ H (nts l)) (hl : l.length ≤ 100)  (nx : After K C r ({ m with tag := l }) 3 A.rc fun H' => D.nx σ H') : sFld K ta (tLst t) "tag_name" D σ H := s_fldL 3 hS ha hv (by rw [nts_len]; exact size_small (by omega)) h.o (c_Reader T) (a_Reader_tag_name T) few_rF fun p H' hp hpr S => by
    rw [rP_tag] at S
    exact nx _ H' _ S ((Kp.new hp).trans (Kp.mut (cu_new h.o hp) rdN)) (h.newTag hp l) rfl rfl
theorem q_newTag (T : Tx K mg) (hS : Sub C H) (h : RdAt K C r A m) (ha : ∀ H, Val ta σ H (.ref r)) {l : NL} (hv : ValA t σ H (nts l)) (hl : l.length ≤ 100)  (nx : After K C r ({ m with tag := l }) 3 A.rc fun H' => U D σ H') : tSeq (sFld K ta (tLst t) "tag_name") U D σ H := s_newTag (D := { D with nx := U D }) T hS h ha hv hl nx
theorem s_appRun (T : Tx K mg) (hS : Sub C H) (h : RdAt K C r A m) (ha : ∀ H, Val ta σ H (.ref r)) (hc : A.rc = 7) {c : Nat} (hv : Val te σ H (vn c)) (hl : m.run.length ≤ 1000000)  (nx : After K C r ({ m with run := m.run ++ [c] }) A.tc A.rc fun H' => D.nx σ H') : tDrop (tBM K "list" rAppend (tFld K ta "run") (tCons te tNil)) D σ H := s_app hS (v_run T hS h (ha H)) hv h.rn (by rw [nts_len]; exact size_lt (by omega)) fun H' S => by
    have e : nts m.run ++ [vn c] = nts (m.run ++ [c]) := (nts_app m.run [c]).symm
    rw [e] at S
    exact nx _ H' _ S (Kp.mut h.rn (by rw [hc]; exact rdN)) (h.setRun hc _) rfl rfl
theorem q_appRun (T : Tx K mg) (hS : Sub C H) (h : RdAt K C r A m) (ha : ∀ H, Val ta σ H (.ref r)) (hc : A.rc = 7) {c : Nat} (hv : Val te σ H (vn c)) (hl : m.run.length ≤ 1000000)  (nx : After K C r ({ m with run := m.run ++ [c] }) A.tc A.rc fun H' => U D σ H') : tSeq (tDrop (tBM K "list" rAppend (tFld K ta "run") (tCons te tNil))) U D σ H := s_appRun (D := { D with nx := U D }) T hS h ha hc hv hl nx
theorem s_appBody (T : Tx K mg) (hS : Sub C H) (h : RdAt K C r A m) (ha : ∀ H, Val ta σ H (.ref r)) {c : Nat} (hv : Val te σ H (vn c)) (hl : m.body.length ≤ 1000000)  (nx : After K C r ({ m with body := m.body ++ [c] }) A.tc A.rc fun H' => D.nx σ H') : tDrop (tBM K "list" rAppend (tFld K ta "body") (tCons te tNil)) D σ H := s_app hS (v_body T hS h (ha H)) hv h.bd (by rw [nts_len]; exact size_lt (by omega)) fun H' S => by
    have e : nts m.body ++ [vn c] = nts (m.body ++ [c]) := (nts_app m.body [c]).symm
    rw [e] at S
    exact nx _ H' _ S (Kp.mut h.bd rdN) (h.setBody _) rfl rfl
theorem q_appBody (T : Tx K mg) (hS : Sub C H) (h : RdAt K C r A m) (ha : ∀ H, Val ta σ H (.ref r)) {c : Nat} (hv : Val te σ H (vn c)) (hl : m.body.length ≤ 1000000)  (nx : After K C r ({ m with body := m.body ++ [c] }) A.tc A.rc fun H' => U D σ H') : tSeq (tDrop (tBM K "list" rAppend (tFld K ta "body") (tCons te tNil))) U D σ H := s_appBody (D := { D with nx := U D }) T hS h ha hv hl nx
theorem s_extRun (T : Tx K mg) (hS : Sub C H) (h : RdAt K C r A m) (ha : ∀ H, Val ta σ H (.ref r)) (hc : A.rc = 7) {l : NL} (hv : ValA t σ H (nts l)) (hl2 : l.length ≤ 100) (hl : m.run.length ≤ 1000000)  (nx : After K C r ({ m with run := m.run ++ l }) A.tc A.rc fun H' => D.nx σ H') : tDrop (tBM K "list" rExtend (tFld K ta "run") (tCons (tLst t) tNil)) D σ H := s_extL hS (v_run T hS h (ha H)) hv (by rw [nts_len]; exact size_small (by omega)) h.rn (by rw [nts_len, nts_len]; exact size_small (by omega)) fun H' S => by
    rw [← nts_app] at S
    exact nx _ H' _ S (Kp.mut h.rn (by rw [hc]; exact rdN)) (h.setRun hc _) rfl rfl
theorem q_extRun (T : Tx K mg) (hS : Sub C H) (h : RdAt K C r A m) (ha : ∀ H, Val ta σ H (.ref r)) (hc : A.rc = 7) {l : NL} (hv : ValA t σ H (nts l)) (hl2 : l.length ≤ 100) (hl : m.run.length ≤ 1000000)  (nx : After K C r ({ m with run := m.run ++ l }) A.tc A.rc fun H' => U D σ H') : tSeq (tDrop (tBM K "list" rExtend (tFld K ta "run") (tCons (tLst t) tNil))) U D σ H := s_extRun (D := { D with nx := U D }) T hS h ha hc hv hl2 hl nx
end

end Sm

set_option Elab.async false
set_option linter.all false
set_option maxRecDepth 100000
set_option maxHeartbeats 0
/-! the items of a dict whose keys are tuples -/
namespace Sm
open PySem PySem.Spec PyProof.Rows L2
/-- .. each in a new pair: the key's own tuple, the value -/
def ItiT (d : Addr) (o : Obj) (kvs : List (List Key × V)) : It :=
  ⟨fun i H => H d = some (.frz o (.dT kvs)) ∧ i < kvs.length, fun i H x H' => ∃ (T q : Addr) (k : List Key) (v : V), kvs[i]? = some (k, v) ∧ x = .ref T ∧ H q = some (.tup (k.map kV)) ∧ H T = none ∧ H' = upd H T (.tup [.ref q, v]), fun i H => H d = some (.frz o (.dT kvs)) ∧ kvs.length ≤ i⟩
section
variable {X : Cx} {pins : List (Addr × Obj)} {σ : L2.St} {H : Hp} {s : Shared} {d : Addr} {o : Obj}
theorem frzT2 {kvs : List (List Key × V)} (I : Inv X pins σ H s) (h : H d = some (.frz o (.dT kvs))) :
    (d == sysModules) = false ∧ s.heap.get? d = some o ∧ o.ExactDict ∧ ∃ (es : Array DictEntry) (ep : Nat), o.data = .dict es ep ∧ es.size = kvs.length ∧
      ∀ (i : Nat) (k : List Key) (v : V), kvs[i]? = some (k, v) → ∃ (en : DictEntry) (q : Addr), es[i]? = some en ∧ en.key = .ref q ∧ H q = some (.tup (k.map kV)) ∧ RelV v en.val := by
  obtain ⟨hd, z, hs, xs, pr, o', es, ep, ho, hx, hdt, he, _⟩ := I.hok d _ h
  rw [hd] at ho
  cases ho
  refine ⟨hs, hd, hx, es, ep, hdt, ?_, fun i k v e => ?_⟩
  · have l1 : es.size = xs.length := size_of_entries he
    have l2 : kvs.length = xs.length := Paired.length pr
    omega
  · obtain ⟨b, hb, e1, e2, e3⟩ := paired_get pr e
    have q := entry_at he i
    rw [hb] at q
    exact ⟨_, b.2.1, q, rfl, e2, e3⟩
end
theorem dict_ep2 {o : Obj} {es es' : Array DictEntry} {ep ep' : Nat} (h : o.data = .dict es ep) (h' : o.data = .dict es' ep') : es' = es ∧ ep' = ep := by
  rw [h] at h'
  cases h'
  exact ⟨rfl, rfl⟩
section
variable {P : Program} {w : World} {K : PySem.W.Frag} {tg : Expr} {d : Addr} {o : Obj} {es : Array DictEntry} {ep : Nat}
theorem turn_itemsT {kvs : List (List Key × V)} {elts : List Expr} {kk : Nat} {tpos : Pos} (it : Addr) (hod : o.data = .dict es ep) :
    Turn P w K (.Tuple elts kk tpos) (ItiT d o kvs) [it] it (fun i h => ∃ ok ov, IsItemIter h it d i kvs.length ep ok ov) where
  mem := by simp
  obj := fun i h st b hb => by
    have e : b = it := by simpa using hb
    subst e
    obtain ⟨ok, ov, e⟩ := st
    exact ⟨_, e, fun v z => nomatch z⟩
  keep := fun i h h' st k => let ⟨ok, ov, e⟩ := st; ⟨ok, ov, k it (by simp) _ e⟩
  item := by
    intro X hP hw hK hc i pins s σ H E I hf st hg
    subst hP hw hK
    obtain ⟨hd, hi⟩ := hg
    obtain ⟨hs, hgd, hx, es', ep', hdt, hsz, ent⟩ := frzT2 I hd
    obtain ⟨rfl, rfl⟩ := dict_ep2 hod hdt
    obtain ⟨⟨k, v⟩, hkv⟩ : ∃ p, kvs[i]? = some p := ⟨kvs[i], List.getElem?_eq_getElem hi⟩
    obtain ⟨en, q, hen, hkey, hq, hval⟩ := ent i k v hkv
    obtain ⟨ok, ov, he⟩ := st
    rw [← hsz] at he
    have hlt : it < s.heap.objs.size := Heap.lt_size he
    have hi' : i < es'.size := by omega
    have een : es'[i] = en := by
      have := Array.getElem?_eq_getElem hi'
      rw [hen] at this
      exact (Option.some.inj this).symm
    refine wpAny_pyNext_items_item_raw he ⟨o, hgd, hx, hod⟩ hi' fun h' ho hT hz hk => ?_
    rw [een] at ho hT
    refine ⟨_, rfl, wpAny_letOwnedTupleGo_items (s := { s with heap := h' }) ho fun h'' he' sb => ?_⟩
    have hT2 : h''.get? s.heap.objs.size = some { cls := .type "tuple", data := .seq #[en.key, en.val] } := (sb.2 _ (Nat.ne_of_gt hlt)).trans hT
    have new : ObjOk X.prog X.w (upd H s.heap.objs.size (.tup [.ref q, v])) h'' s.heap.objs.size (.tup [.ref q, v]) :=
      ⟨by show 2 ≤ sizeLine; decide, [en.key, en.val], .cons hkey (.cons hval .nil), ⟨_, hT2, rfl, _, rfl⟩⟩
    have I1 : Inv X pins σ (upd H s.heap.objs.size (.tup [.ref q, v])) { s with heap := h'' } :=
      I.turnedNew (t' := s.toks) (ch := [it]) (fun b ob hb e => (sb.2 b (by simpa using hb)).trans (hk b ob (by simpa using hb) e)) hf (Nat.le_refl _) new
    refine ⟨.ref s.heap.objs.size, _, I1, rfl, ⟨_, q, k, v, hkv, rfl, hq, I.hok.fresh (Nat.le_refl _), rfl⟩, ⟨en.key, en.val, ?_⟩, fun b hb => ?_⟩
    · rw [← hsz]; exact he'
    · have e : b = it := by simpa using hb
      rw [e, upd_ne (Nat.ne_of_lt hlt)]
      exact (hf it (by simp)).1
  done := by
    intro X hP hw hK hc i pins s σ H E I hf st hg
    subst hP hw hK
    obtain ⟨hd, hi⟩ := hg
    obtain ⟨f0, f1, f2, f3, f4, f5⟩ := hf it (by simp)
    obtain ⟨hs, hgd, hx, es', ep', hdt, hsz, ent⟩ := frzT2 I hd
    obtain ⟨rfl, rfl⟩ := dict_ep2 hod hdt
    obtain ⟨ok, ov, he⟩ := st
    rw [← hsz] at he
    exact wpAny_pyNext_items_end_raw (I.ok.hd hc) he ⟨o, hgd, hx, hod⟩ (by omega) fun h' eb => ⟨rfl, I.turned (t' := s.toks) (fun b ob hb e => eb b ob hb e) f0 f1 f3 f4 f5⟩
  self := fun A i s Q E st h => let ⟨_, _, e⟩ := st; PySem.W.kcp_self e h
end
def iItemsT (td : TE) : TI := fun σ H R => td σ H fun x H1 => ∃ d o kvs, x = .ref d ∧ H1 d = some (.frz o (.dT kvs)) ∧ R (ItiT d o kvs) H1
section
variable {X : Cx} {tg e : Expr} {td : TE} {apos cpos : Pos}
theorem pi_itemsT {elts : List Expr} {kk : Nat} {tpos : Pos} (he : PE X e td) (hbase : attributeBase e "items" X.env (eval e X.env) = eval e X.env := by rfl) (hline : (apos.endLine == cpos.line) = true := by rfl) :
    PI X (.Tuple elts kk tpos) (.Call (.Attribute e "items" apos) [] [] cpos) (iItemsT td) := by
  refine ⟨fun pins s σ H R I h => ?_⟩
  refine wpAny_Call_method (T := "dict") (id := "dict.items") hbase rfl hline F.plainAttrs_dict F.slot_dict_items F.type_dict_items (thn (he.run pins s σ H _ I h) fun u s1 ⟨x, H1, I1, rx, d, o, kvs, ex, hd, q⟩ => ?_)
  subst ex
  obtain rfl : u = Value.ref d := rx
  obtain ⟨hs, hgd, hx, es, ep, hdt, hsz, ent⟩ := frzT2 I1 hd
  have hraw : s1.heap.DictRaw d es ep := ⟨o, hgd, hx, hdt⟩
  refine ⟨hraw.typeIs, ?_, ?_⟩
  · intro a ea
    cases ea
    exact ⟨o, hgd, hx.2.1⟩
  have I2 : Inv X pins σ H1 { s1 with heap := s1.heap.push { cls := .type "dict_items", data := .fields #[.ref d] } } := I1.kept (t' := s1.toks) fun b ob q => Heap.get?_push_of_some _ q
  have fin : wpAny (model X.prog X.w) X.A (pyIter (.ref s1.heap.objs.size)) (PIE X pins σ (.Tuple elts kk tpos) R) X.xe { s1 with heap := s1.heap.push { cls := .type "dict_items", data := .fields #[.ref d] } } := by
    refine wpAny_pyIter_items_raw (d := d) ⟨_, Heap.get?_push_size _ rfl, rfl, rfl⟩ (es := es) (ep := ep) ⟨o, Heap.get?_push_of_some _ hgd, hx, hdt⟩ (pi_one (tk := s1.toks) I2 _ (turn_itemsT _ hdt) ⟨.none, .none, ?_⟩ q)
    rw [hsz]
    exact Heap.get?_push_size _ rfl
  show wpAny _ _ (callWith cpos (.builtin "dict.items") [.ref d] [] []) _ X.xe s1
  exact method_meetsIn F.slot_dict_items F.entry_dict_items rfl (PySem.evalArgs_none ⟨rfl, hraw.typeIs, F.args_dict_items_1 _, _, meets_dict_items_raw d hs, ⟨es, ep, hraw⟩, fin⟩)
end
theorem walk_itemsT {d : Addr} {o : Obj} {kvs : List (List Key × V)} : Walk (ItiT d o kvs) kvs.length (fun H => H d = some (.frz o (.dT kvs)))
    (fun i H x H' => ∃ (T q : Addr) (k : List Key) (v : V), kvs[i]? = some (k, v) ∧ x = .ref T ∧ H q = some (.tup (k.map kV)) ∧ H T = none ∧ H' = upd H T (.tup [.ref q, v])) :=
  ⟨fun _ _ hi q => ⟨q, hi⟩, fun _ q => ⟨q, Nat.le_refl _⟩, fun _ _ _ _ _ _ y => y⟩
/-! rules that name the written part, for the block of a comprehension -/
section
variable {X : Cx} {K : PySem.W.Frag}
theorem pe_fldK {e : Expr} {f : Str} {pos : Pos} {ta : TE} (hK : X.K = K) (he : PE X e ta) (hb : attributeBase e f X.env (eval e X.env) = eval e X.env) : PE X (.Attribute e f pos) (tFld K ta f) := by
  subst hK; exact pe_fld he hb
theorem call_list_ofK (hK : X.K = K) : CallR X (.type "list") (fun xs H Q => ∃ p ys, xs = [.ref p] ∧ (SqL K H p ys ∨ SqT K H p ys) ∧ ∀ l, H l = none → Q (.ref l) (upd H l (.lst ys))) := by
  subst hK; exact call_list_of
theorem call_len_seqK (hK : X.K = K) : CallR X (.builtin "len") (fun xs H Q => ∃ p ys, xs = [.ref p] ∧ (SqL K H p ys ∨ SqT K H p ys) ∧ Q (.int ys.length) H) := by
  subst hK; exact call_len_seq
theorem op_in_seqK (hK : X.K = K) : OpR X (compareOp .In) (rIn K false) := by
  subst hK; exact op_in_seq
theorem pg_tup2K {k : Nat} {pos p1 p2 : Pos} {x y : Str} {i j : Nat} (hK : X.K = K) (hc : X.calm = true) (h1 : PG X (.Name x p1) (gName i)) (h2 : PG X (.Name y p2) (gName j)) : PG X (.Tuple [.Name x p1, .Name y p2] k pos) (gTup K 2 (gCons (gName i) (gCons (gName j) gNil))) := by
  subst hK; exact pg_tup hc (pgs_cons h1 (pgs_cons h2 pgs_nil))
end
end Sm

set_option Elab.async false
set_option linter.all false
set_option maxRecDepth 100000
set_option maxHeartbeats 0
/-! min(xs, key=len): xs a list of lists -/
namespace Sm
open PySem PySem.Spec PyProof.Rows L2
section
variable {X : Cx} {pins : List (Addr × Obj)} {σ : L2.St} {H : Hp} {s : Shared}
theorem inv_frame {h' : Heap} {m : Str → Option Value} {tk : Nat} (I : Inv X pins σ H s) (F : Fr X.base X.env.locals s.heap m) (F' : Fr X.base X.env.locals h' m)
    (keep : ∀ b o, b ≠ X.env.locals → s.heap.get? b = some o → h'.get? b = some o) : Inv X pins σ H { s with heap := h', toks := tk } := by
  refine I.step (g' := s.gens) (d' := s.drawn) (ch := []) (fun b hb => nomatch hb) (fun b o h1 _ _ e _ => keep b o h1 e) (fun b o h1 _ _ e _ => ⟨o.slots, keep b o h1 e⟩) (fun _ _ _ _ n => n) (fun b o _ e => ?_) (fun _ _ e => e) (fun _ _ _ e => e) (fun b ps e => ⟨#[], by rw [e]; simp⟩) (fun m' hm => ?_) (fun b o e => ?_) I.bare
  · by_cases hb : b = X.env.locals
    · subst hb
      obtain ⟨o', _, _, ho', _⟩ := F'.ns
      exact ⟨o', ho'⟩
    · exact ⟨o, keep b o hb e⟩
  · rw [SlX.ns_only hm F.ns]; exact F'.ns
  · refine (I.hok b o e).stay (fun c v hc q => keep c v ?_ q) (fun _ q => q) fun _ _ q => q
    intro z
    rcases hc with hc | hc
    · rw [← hc, z, I.free] at e; cases e
    · rw [z, I.free] at hc; cases hc
end
/-- the first of the shortest -/
def tMinLen (K : PySem.W.Frag) (t : TA) : TE := fun σ H Q => t σ H fun vs H1 => ∃ (a : Addr) (ps : List Addr) (ls : List (List V)), vs = [.ref a] ∧ SqL K H1 a (ps.map V.ref) ∧ ps.length = ls.length ∧ 0 < ps.length ∧
  (∀ (i : Nat) (p : Addr) (l : List V), ps[i]? = some p → ls[i]? = some l → SqL K H1 p l) ∧
  ∀ (i : Nat) (p : Addr) (l : List V), ps[i]? = some p → ls[i]? = some l → (∀ (j : Nat) (l' : List V), ls[j]? = some l' → l.length ≤ l'.length ∧ (j < i → l.length < l'.length)) → Q (.ref p) H1
theorem pe_minLen {X : Cx} {e : Expr} {t : TA} {p p2 kpos pos : Pos} (hc : X.calm = true) (hg : Gl X "min") (hm : X.mg "min" = none) (hg2 : Gl X "len") (hm2 : X.mg "len" = none) (ha : PA X [e] t)
    (he : backTo pos (starEach [e] X.env) = (false, eval e X.env) :: backTo pos (starEach [] X.env) := by rfl) (hpl : (backTo pos (starEach [e] X.env)).any (·.1) = false := by rfl)
    (hall : (backToKw pos (keywordEach [⟨some "key", .Name "len" p2, kpos⟩] X.env)).all (·.1.isSome) = true := by rfl) (hnone : (backToKw pos (keywordEach [⟨some "key", .Name "len" p2, kpos⟩] X.env)).any (·.1.isNone) = false := by rfl) :
    PE X (.Call (.Name "min" p) [e] [⟨some "key", .Name "len" p2, kpos⟩] pos) (tMinLen X.K t) := by
  refine ⟨fun pins s σ H Q I h => ?_⟩
  refine wpAny_Call_Name_kw (ld_blt I hg hm (by decide +kernel : bootBuiltins "min" = some (.builtin "min")) ?_)
  refine PyProof.Rows.callWith_kw (thn (ha.run pos pins s σ H _ I h) fun us s1 ⟨vs, H1, I1, r1, q1⟩ => ?_) he hpl hall hnone
  show wpAny _ _ (evalAll ((do let v ← eval (.Name "len" p2) X.env; standAt pos; pure v) :: [])) _ _ s1
  refine wpAny_evalAll_cons (wpAny_bind (ld_blt I1 hg2 hm2 (by decide +kernel : bootBuiltins "len" = some (.builtin "len")) (wpAny_bind (wpAny_standAt (wpAny_pure (wpAny_evalAll_nil ?_))))))
  obtain ⟨a, ps, ls, rfl, hs, hlen, hpos, hsq, q⟩ := q1
  cases r1 with
  | cons r rr =>
    cases rr
    cases r
    obtain ⟨its, rv, pl, hz⟩ := I1.list hs
    obtain ⟨m, F⟩ := I1.fr
    have hil : its.length = ps.length := by
      have := rv.length
      rw [List.length_map] at this
      omega
    have item : ∀ (i : Nat) (v : Value), its[i]? = some v → ∃ (p : Addr) (l : List V), ps[i]? = some p ∧ ls[i]? = some l ∧ v = .ref p := fun i v hv => by
      have hi : i < its.length := (List.getElem?_eq_some_iff.mp hv).1
      have hp : ps[i]? = some ps[i] := List.getElem?_eq_getElem (by omega)
      have hl : ls[i]? = some ls[i] := List.getElem?_eq_getElem (by omega)
      obtain ⟨u, hu, ru⟩ := rv.get (i := i) (x := V.ref ps[i]) (by rw [List.getElem?_map, hp]; rfl)
      rw [hv] at hu
      cases hu
      exact ⟨_, _, hp, hl, ru⟩
    have keepN : ∀ h, Fr X.base X.env.locals h m → News X.base X.env.locals h (allNews X.base s1.heap X.env.locals) → ∀ b o, b ≠ X.env.locals → s1.heap.get? b = some o → h.get? b = some o := fun h F2 N2 b o hb e => by
      cases q : X.base.get? b with
      | none => exact (N2 (b, o) (mem_allNews hb q e)).1
      | some u =>
        have := I1.bk b u q
        rw [e] at this
        cases this
        exact F2.keep b o q
    have noL : ∀ {p : Addr} {c : String} {its : Array Value} {n : Nat} {o : Obj}, s1.heap.get? p = some o → o.data = .seq its n → p ≠ X.env.locals := fun ho hd z => by
      obtain ⟨o', es, ep, ho', hd', _⟩ := F.ns
      rw [z, ho'] at ho
      cases ho
      rw [hd'] at hd
      cases hd
    have listN : ∀ {p : Addr} {its : Array Value}, PlainL s1.heap p its → ∀ h, Fr X.base X.env.locals h m → News X.base X.env.locals h (allNews X.base s1.heap X.env.locals) → h.IsList p its := fun pl h F2 N2 => by
      obtain ⟨o, n, ho, hcl, hdi, hda⟩ := pl
      exact ⟨o, keepN h F2 N2 _ o (noL (c := "") ho hda) ho, hcl, n, hda⟩
    refine kmb_min (kid := "len") (vs := its) (fun i => ((ls.getD i []).length : Int)) (I1.ok.hd hc) F (news_all) (fun h F2 N2 => listN pl h F2 N2) (by omega) (fun i v hv h tk own F2 N2 => ?_) fun i v h' tk' hv hb F2 N2 => ?_
    · obtain ⟨p, l, hp, hl, rfl⟩ := item i v hv
      obtain ⟨its2, rv2, pl2, hz2⟩ := I1.list (hsq i p l hp hl)
      have L2 := listN pl2 h F2 fun z hz => N2 z (List.mem_append_left _ hz)
      have e2 := rv2.length
      refine Calls.call_len_list (s := { s1 with heap := h, toks := tk }) L2 (by have := line63; simp only [List.size_toArray]; omega) ⟨h, tk + 1 + 1, tk + 1, rfl, ?_, F2, N2⟩
      have eg : ls.getD i [] = l := by rw [List.getD_eq_getElem?_getD, hl]; rfl
      try dsimp only
      rw [eg, e2, List.size_toArray]
    · obtain ⟨p, l, hp, hl, rfl⟩ := item i v hv
      have kp := keepN h' F2 N2
      refine ⟨.ref p, H1, inv_frame I1 F F2 kp, rfl, q i p l hp hl fun j l' hl' => ?_⟩
      have hj : j < its.length := by
        have := (List.getElem?_eq_some_iff.mp hl').1
        omega
      have hb2 := hb j hj
      have eg : ls.getD i [] = l := by rw [List.getD_eq_getElem?_getD, hl]; rfl
      have eg2 : ls.getD j [] = l' := by rw [List.getD_eq_getElem?_getD, hl']; rfl
      simp only [eg, eg2] at hb2
      omega
end Sm

set_option Elab.async false
set_option linter.all false
set_option maxRecDepth 100000
set_option maxHeartbeats 0
namespace Sm
open PySem PySem.Spec PyProof.Rows L2
variable {P : Program} {w : World} {K : PySem.W.Frag} {mg : Str → Option Value} {base : Heap}
/-! ### the reader's methods -/
theorem After.lift {C C1 : CHp} {r : Addr} {m' : M} {tc rc : Nat} {X : Hp → Prop} (k : After K C r m' tc rc X) (kp : Kp rdK C C1) : After K C1 r m' tc rc X := fun C' H' A' S kp2 rd e1 e2 => k C' H' A' S (kp.trans kp2) rd e1 e2
def spFail (K : PySem.W.Frag) : Sp := Sp2 fun a b H Q => ∃ (C : CHp) (r : Addr) (A : Adr) (m : M) (k : Nat), a = .ref r ∧ b = vn k ∧ Sub C H ∧ RdAt K C r A m ∧ After K C r (m.fail k) A.tc A.rc (Q .non)
theorem ok_Reader_fail (T : Tx K mg) : FnOk P w K mg base CX0 1 (He.fAd K ("Reader", some "fail")) (fdA K ("Reader", some "fail")) ["self", "kind"] (spFail K) := by
  refine (F_Reader_fail T).ok sc_Reader_fail (fun vs H Q E h => Sp2.len h) (fun cdv A outer s H vs Q E hr h => ⟨_, PSs.nox (pss_cons (ps_fld (pv 0) (pe_gi rfl (i_FAULT T)) rfl) (pss_one (ps_fld (pv 0) (pv 1) rfl))), ?_⟩)
  show _
  try simp only [cxK, cxK2]
  obtain ⟨a, b, rfl, C, r, A, m, k, rfl, rfl, hS, hr1, q⟩ := h
  refine q_mode (k := 26) T hS hr1 (fun _ => val_var rfl) val_c fun C1 H1 A1 S1 K1 R1 e1 e2 => ?_
  refine s_fk (k := k) T S1 R1 (fun _ => val_var rfl) (val_var rfl) ?_
  rw [e1, e2]
  exact q.lift K1
/-- the run is frozen: a copy of the heap's owners -/
theorem frz_run {C : CHp} {H : Hp} {r : Addr} {A : Adr} {m : M} (hS : Sub C H) (h : RdAt K C r A m) (hc : A.rc = 7) : Sub (cu C A.pr 0 (.lst (nts m.run))) H ∧ Kp rdK C (cu C A.pr 0 (.lst (nts m.run))) ∧ RdAt K (cu C A.pr 0 (.lst (nts m.run))) r { A with rc := 0 } m :=
  ⟨hS.rec (hS _ _ _ h.rn), Kp.mut h.rn (by rw [hc]; exact rdN), h.frzRun⟩
theorem frz_tag {C : CHp} {H : Hp} {r : Addr} {A : Adr} {m : M} (hS : Sub C H) (h : RdAt K C r A m) : Sub (cu C A.ptn 0 (.lst (nts m.tag))) H ∧ Kp rdK C (cu C A.ptn 0 (.lst (nts m.tag))) ∧ RdAt K (cu C A.ptn 0 (.lst (nts m.tag))) r { A with tc := 0 } m := by
  refine ⟨hS.rec (hS _ _ _ h.tg), ?_, h.frzTag⟩
  rcases h.htc with e | e
  · intro a k o ea hk
    by_cases q : a = A.ptn
    · subst q
      rw [h.tg, e] at ea
      rw [cu_same]; exact ea
    · rw [cu_ne q]; exact ea
  · exact Kp.mut h.tg (by rw [e]; exact rdN)
/-- l.append(what a call gives) -/
theorem t_appC {σ : L2.St} {H : Hp} {ta te : TE} {Q : VK} {a : Addr} {xs : List V} (ho : Val ta σ H (.ref a)) (hx : H a = some (.lst xs)) (h : te σ H fun y H1 => ∃ ys, H1 a = some (.lst ys) ∧ ys.length < sizeLine ∧ Q .non (upd H1 a (.lst (ys ++ [y])))) : tBM K "list" rAppend ta (tCons te tNil) σ H Q := by
  refine ho _ ⟨.inl ⟨rfl, xs, SqL.of hx⟩, ?_⟩
  have e : (fun (y : V) (H1 : Hp) => ∃ ys, H1 a = some (.lst ys) ∧ ys.length < sizeLine ∧ Q .non (upd H1 a (.lst (ys ++ [y])))) = fun y H1 => tNil σ H1 fun vs H2 => rAppend (.ref a) (y :: vs) H2 Q := by
    funext y H1
    apply propext
    constructor
    · rintro ⟨ys, h1, h2, h3⟩
      exact ⟨a, ys, y, rfl, rfl, h1, h2, h3⟩
    · rintro ⟨l, ys, z, e1, e2, h1, h2, h3⟩
      cases e1
      cases e2
      exact ⟨ys, h1, h2, h3⟩
  show te σ H fun y H1 => tNil σ H1 fun vs H2 => rAppend (.ref a) (y :: vs) H2 Q
  rw [← e]
  exact h
/-- a new token is put behind the reader's -/
theorem put_tok {C1 C2 : CHp} {H2 : Hp} {r p : Addr} {A : Adr} {m : M} {t : Tk} (R : RdAt K C1 r A m) (S2 : Sub C2 H2) (K2 : Kp (noK 30) C1 C2) (ht : TokAt K (fz C2) p t) :
    H2 A.pt = some (.lst A.ts) ∧ Sub (cu C2 A.pt 2 (.lst (A.ts ++ [.ref p]))) (upd H2 A.pt (.lst (A.ts ++ [.ref p]))) ∧ Kp rdK C1 (cu C2 A.pt 2 (.lst (A.ts ++ [.ref p]))) ∧
    RdAt K (cu C2 A.pt 2 (.lst (A.ts ++ [.ref p]))) r { A with ts := A.ts ++ [.ref p] } { m with toks := m.toks ++ [t] } := by
  have R2 := R.keep K2
  exact ⟨S2 _ _ _ R2.tk, S2.upd, K2.rd.trans (Kp.mut R2.tk rdN), R2.setToks _ _ (R2.tks.app ⟨⟨p, rfl, ht⟩, trivial⟩)⟩
theorem ts_size {C : CHp} {r : Addr} {A : Adr} {m : M} (R : RdAt K C r A m) (h : m.toks.length ≤ 1000000) : A.ts.length < sizeLine := by
  rw [R.tks.len]; exact size_lt (by omega)
def spFinRun (K : PySem.W.Frag) : Sp := Sp3 fun a b c H Q => ∃ (C : CHp) (r : Addr) (A : Adr) (m : M) (k : Nat) (st : Int), a = .ref r ∧ b = vn k ∧ c = .int st ∧ Sub C H ∧ RdAt K C r A m ∧ A.rc = 7 ∧ m.toks.length ≤ 1000000 ∧ After K C r (m.finRun k st) A.tc 7 (Q .non)
theorem ok_Reader_finish_run (T : Tx K mg) : FnOk P w K mg base CX0 4 (He.fAd K ("Reader", some "finish_run")) (fdA K ("Reader", some "finish_run")) ["self", "kind", "stop"] (spFinRun K) := by
  refine (F_Reader_finish_run T).ok sc_Reader_finish_run (fun vs H Q E h => Sp3.len h) (fun cdv A outer s H vs Q E hr h => ⟨_, PSs.nox (pss_cons (ps_expr (pe_bm PySem.F.plainAttrs_list PySem.F.slot_list_append PySem.F.type_list_append mt_append (pe_fld (pv 0) rfl) (pa_cons (pe_call (ok_signs_token T) (hr.mono (by decide)) rfl (g_signs_token T) (F_signs_token T).kp (B_signs_token T) .nil pass0 (pa_cons (pv 1) (pa_cons (pe_fld (pv 0) rfl) (pa_cons (pv 2) (pa_cons (pe_fld (pv 0) rfl) pa_nil))))) pa_nil))) (pss_one (ps_fld (pv 0) (pe_lst pa_nil) rfl))), ?_⟩)
  show _
  try simp only [cxK, cxK2]
  obtain ⟨a, b, c, rfl, C, r, A, m, k, st, rfl, rfl, rfl, hS, R0, hc, hl, q⟩ := h
  obtain ⟨S1, K1, R1⟩ := frz_run hS R0 hc
  refine q_drop (t_appC (v_tokens T S1 R1 (val_var rfl)) (S1 _ _ _ R1.tk) (t_call (va_cons (val_var rfl) (va_cons (v_begun T S1 R1 (val_var rfl)) (va_cons (val_var rfl) (va_cons (v_run T S1 R1 (val_var rfl)) va_nil)))) ?_))
  refine ⟨_, _, _, _, rfl, _, k, m.begun, st, A.pr, m.run, rfl, rfl, rfl, rfl, S1, R1.rn, fun C2 H2 p S2 K2 ht => ?_⟩
  obtain ⟨h1, S3, K3, R3⟩ := put_tok R1 S2 K2 ht
  refine ⟨_, h1, ts_size R1 hl, ?_⟩
  refine s_newRun (l := []) T S3 R3 (fun _ => val_var rfl) va_nil (by decide) ?_
  exact q.lift (K1.trans K3)
def spFinClose (K : PySem.W.Frag) : Sp := Sp1 fun a H Q => ∃ (C : CHp) (r : Addr) (A : Adr) (m : M), a = .ref r ∧ Sub C H ∧ RdAt K C r A m ∧ m.toks.length ≤ 1000000 ∧ After K C r m.finClose 3 A.rc (Q .non)
theorem ok_Reader_finish_close_tag (T : Tx K mg) : FnOk P w K mg base CX0 4 (He.fAd K ("Reader", some "finish_close_tag")) (fdA K ("Reader", some "finish_close_tag")) ["self"] (spFinClose K) := by
  refine (F_Reader_finish_close_tag T).ok sc_Reader_finish_close_tag (fun vs H Q E h => Sp1.len h) (fun cdv A outer s H vs Q E hr h => ⟨_, PSs.nox (pss_cons (ps_expr (pe_bm PySem.F.plainAttrs_list PySem.F.slot_list_append PySem.F.type_list_append mt_append (pe_fld (pv 0) rfl) (pa_cons (pe_call (ok_close_tag T) (hr.mono (by decide)) rfl (g_close_tag T) (F_close_tag T).kp (B_close_tag T) .nil pass0 (pa_cons (pe_fld (pv 0) rfl) (pa_cons (pe_op op_add (pe_fld (pv 0) rfl) pe_int) (pa_cons (pe_fld (pv 0) rfl) pa_nil)))) pa_nil))) (pss_cons (ps_fld (pv 0) (pe_lst pa_nil) rfl) (pss_one (ps_fld (pv 0) (pe_gi rfl (i_TEXT T)) rfl)))), ?_⟩)
  show _
  try simp only [cxK, cxK2]
  obtain ⟨a, rfl, C, r, A, m, rfl, hS, R0, hl, q⟩ := h
  obtain ⟨S1, K1, R1⟩ := frz_tag hS R0
  refine q_drop (t_appC (v_tokens T S1 R1 (val_var rfl)) (S1 _ _ _ R1.tk) (t_call (va_cons (v_begun T S1 R1 (val_var rfl)) (va_cons (val_i2 (v_count T S1 R1 (val_var rfl)) val_c) (va_cons (v_tag T S1 R1 (val_var rfl)) va_nil))) ?_))
  refine ⟨_, _, _, rfl, _, m.begun, m.count + 1, A.ptn, m.tag, rfl, rfl, rfl, S1, R1.tg, fun C2 H2 p S2 K2 ht => ?_⟩
  obtain ⟨h1, S3, K3, R3⟩ := put_tok R1 S2 K2 ht
  refine ⟨_, h1, ts_size R1 hl, ?_⟩
  refine q_newTag (l := []) T S3 R3 (fun _ => val_var rfl) va_nil (by decide) fun C4 H4 A4 S4 K4 R4 e1 e2 => ?_
  refine s_mode (k := 0) T S4 R4 (fun _ => val_var rfl) val_c ?_
  rw [e1, e2]
  exact q.lift ((K1.trans K3).trans K4)
theorem key_map (l : NL) : (keyOf l).map kV = nts l := by
  unfold keyOf nts
  rw [List.map_map]
  rfl
theorem key_inj : ∀ {a b : NL}, keyOf a = keyOf b → a = b
  | [], [], _ => rfl
  | [], _ :: _, h => by cases h
  | _ :: _, [], h => by cases h
  | x :: a, y :: b, h => by
    have h1 := (List.cons.inj h).1
    have h2 := key_inj (a := a) (b := b) (List.cons.inj h).2
    have h3 : (x : Int) = (y : Int) := Sum.inl.inj h1
    rw [h2, Int.ofNat.inj h3]
theorem any_kvs {F : Hp} (k : NL) : ∀ {kvs : List (List Key × V)} {as : List (NL × NL)}, KvsAt F kvs as → ((kvs.any fun kv => decide (kv.1 = keyOf k)) = as.any fun a => a.1 == k)
  | [], [], _ => rfl
  | kv :: kvs, a :: as, ⟨⟨e, _⟩, r⟩ => by
    have ih := any_kvs k r
    rw [List.any_cons, List.any_cons, e, ih]
    by_cases h : a.1 = k
    · have h1 : decide (keyOf a.1 = keyOf k) = true := by rw [h]; simp
      have h2 : (a.1 == k) = true := by simp [h]
      rw [h1, h2]
    · have h1 : decide (keyOf a.1 = keyOf k) = false := by simp; exact fun z => h (key_inj z)
      have h2 : (a.1 == k) = false := by simp [h]
      rw [h1, h2]
  | [], _ :: _, h => h.elim
  | _ :: _, [], h => h.elim
theorem q_dput {σ : L2.St} {H : Hp} {td ty tv : TE} {U : TS} {D : Ends} {v : V} {a : Addr} (hv : Val tv σ H v) (hd : Val td σ H (.ref a)) (h : ty σ H fun y H3 => ∃ H4, DPut H3 a y v H4 ∧ U D σ H4) : tSeq (sDPut td ty tv) U D σ H := by
  refine hv _ (hd _ ?_)
  have e : (fun (y : V) (H3 : Hp) => ∃ H4, DPut H3 a y v H4 ∧ U D σ H4) = fun y H3 => ∃ a' H4, V.ref a = .ref a' ∧ DPut H3 a' y v H4 ∧ U D σ H4 := by
    funext y H3
    apply propext
    constructor
    · rintro ⟨H4, h1, h2⟩; exact ⟨a, H4, rfl, h1, h2⟩
    · rintro ⟨a', H4, e, h1, h2⟩; cases e; exact ⟨H4, h1, h2⟩
  show ty σ H fun y H3 => ∃ a' H4, V.ref a = .ref a' ∧ DPut H3 a' y v H4 ∧ U D σ H4
  rw [← e]; exact h
def spFinAttr (K : PySem.W.Frag) : Sp := Sp1 fun a H Q => ∃ (C : CHp) (r : Addr) (A : Adr) (m : M), a = .ref r ∧ Sub C H ∧ RdAt K C r A m ∧ A.rc = 7 ∧ m.twice = false ∧ m.attrs.length ≤ 1000000 ∧ After K C r m.finAttr A.tc 7 (Q .non)
theorem ok_Reader_finish_attribute (T : Tx K mg) : FnOk P w K mg base CX0 1 (He.fAd K ("Reader", some "finish_attribute")) (fdA K ("Reader", some "finish_attribute")) ["self"] (spFinAttr K) := by
  refine (F_Reader_finish_attribute T).ok sc_Reader_finish_attribute (fun vs H Q E h => Sp1.len h) (fun cdv A outer s H vs Q E hr h => ⟨_, PSs.nox (pss_cons (ps_dput (hu_of hr) (pe_fld (pv 0) rfl) (pe_callTy call_tuple_of (by rfl) (n_tuple T) (by decide +kernel) (pa_cons (pe_fld (pv 0) rfl) pa_nil)) (pe_fld (pv 0) rfl) rfl) (pss_cons (ps_fld (pv 0) (pe_lst pa_nil) rfl) (pss_one (ps_fld (pv 0) (pe_lst pa_nil) rfl)))), ?_⟩)
  show _
  try simp only [cxK, cxK2]
  obtain ⟨a, rfl, C, r, A, m, rfl, hS, R0, hc, htw, hl, q⟩ := h
  obtain ⟨S1, K1, R1⟩ := frz_run hS R0 hc
  refine q_dput (v_run T S1 R1 (val_var rfl)) (v_attrs T S1 R1 (val_var rfl)) ((v_attr T S1 R1 (val_var rfl)) _ ⟨A.pan, _, rfl, .inl ⟨SqL.of (S1 _ _ _ R1.an), fun l hln => ?_⟩⟩)
  have hk : (A.kvs.any fun kv => decide (kv.1 = keyOf m.attr)) = false := by rw [any_kvs m.attr R1.kv]; exact htw
  have S2 : Sub _ (upd H l (.tup (nts m.attr))) := S1.same (Same.new hln)
  refine ⟨_, DPut.t (k := keyOf m.attr) (S2 _ _ _ R1.at_) (by rw [upd_same, key_map]) (by rw [R1.kv.len]; exact size_lt (by omega)), ?_⟩
  have ep : putK A.kvs (keyOf m.attr) (V.ref A.pr) = A.kvs ++ [(keyOf m.attr, .ref A.pr)] := by
    unfold putK
    rw [hk]; rfl
  have R2 := R1.setAttrs (A.kvs ++ [(keyOf m.attr, .ref A.pr)]) (m.attrs ++ [(m.attr, m.run)]) (R1.kv.app ⟨⟨rfl, A.pr, rfl, fz_of cu_same⟩, trivial⟩)
  rw [ep]
  have K2 : Kp rdK (cu C A.pr 0 (.lst (nts m.run))) (cu (cu C A.pr 0 (.lst (nts m.run))) A.pa 4 (.dT (A.kvs ++ [(keyOf m.attr, .ref A.pr)]))) := Kp.mut (j := 4) R1.at_ rdN
  refine q_newAttr (l := []) T (S2.upd) R2 (fun _ => val_var rfl) va_nil (by decide) fun C3 H3 A3 S3 K3 R3 e1 e2 => ?_
  refine s_newRun (l := []) T S3 R3 (fun _ => val_var rfl) va_nil (by decide) ?_
  rw [e1]
  exact q.lift ((K1.trans K2).trans K3)
/-! is_raw_name -/
def rawL : List NL := [Vaesca.CALC, Vaesca.VERB]
theorem LLAt.mono {F F' : Hp} (s : Same F F') : ∀ {vs : List V} {ls : List NL}, LLAt F vs ls → LLAt F' vs ls
  | [], [], _ => trivial
  | _ :: _, _ :: _, ⟨⟨a, e, h⟩, r⟩ => ⟨⟨a, e, s _ _ h⟩, r.mono s⟩
  | [], _ :: _, h => h.elim
  | _ :: _, [], h => h.elim
theorem LLAt.app {F : Hp} : ∀ {vs us : List V} {ts rs : List NL}, LLAt F vs ts → LLAt F us rs → LLAt F (vs ++ us) (ts ++ rs)
  | [], _, [], _, _, h => h
  | _ :: _, _, _ :: _, _, ⟨a, r⟩, h => ⟨a, r.app h⟩
  | [], _, _ :: _, _, h, _ => h.elim
  | _ :: _, _, [], _, h, _ => h.elim
theorem LLAt.len {F : Hp} : ∀ {vs : List V} {ts : List NL}, LLAt F vs ts → vs.length = ts.length
  | [], [], _ => rfl
  | _ :: _, _ :: _, ⟨_, r⟩ => by rw [List.length_cons, List.length_cons, r.len]
  | [], _ :: _, h => h.elim
  | _ :: _, [], h => h.elim
/-- a list of lists is being made at D: all else stands in F -/
def Making (H : Hp) (D : Addr) (ls : List NL) (H' : Hp) : Prop := ∃ (F : Hp) (vs : List V), Same H F ∧ Same F H' ∧ F D = none ∧ H' D = some (.lst vs) ∧ LLAt F vs ls
theorem Making.start {H : Hp} {D : Addr} (h : H D = none) : Making H D [] (upd H D (.lst [])) := ⟨H, [], fun _ _ e => e, Same.new h, h, upd_same, trivial⟩
theorem Making.same {H H' : Hp} {D : Addr} {ls : List NL} (h : Making H D ls H') (hD : H D = none) : Same H H' := let ⟨_, _, a, b, _⟩ := h; a.trans b
/-- one more: the item stands at p in H2, which grew from H' -/
theorem Making.more {H H' H2 : Hp} {D p : Addr} {ls : List NL} {l : NL} (h : Making H D ls H') (s : Same H' H2) (hp : H2 p = some (.lst (nts l))) (hpD : p ≠ D) :
    ∃ acc, H2 D = some (.lst acc) ∧ acc.length = ls.length ∧ Making H D (ls ++ [l]) (upd H2 D (.lst (acc ++ [.ref p]))) := by
  obtain ⟨F, vs, h1, h2, h3, h4, h5⟩ := h
  have sF : Same F (fun b => if b = D then none else H2 b) := fun b o e => by
    have hb : b ≠ D := fun z => by rw [z, h3] at e; cases e
    show (if b = D then none else H2 b) = some o
    rw [if_neg hb]; exact s _ _ (h2 _ _ e)
  refine ⟨vs, s _ _ h4, h5.len, fun b => if b = D then none else H2 b, vs ++ [.ref p], h1.trans sF, fun b o e => ?_, if_pos rfl, upd_same, (h5.mono sF).app ⟨⟨p, rfl, ?_⟩, trivial⟩⟩
  · by_cases hb : b = D
    · have e' : (if b = D then none else H2 b) = some o := e
      rw [if_pos hb] at e'; cases e'
    · have e' : (if b = D then none else H2 b) = some o := e
      rw [if_neg hb] at e'
      rw [upd_ne hb]; exact e'
  · show (if p = D then none else H2 p) = _
    rw [if_neg hpD]; exact hp
theorem raw_names : [cpsL (Str.ofString "calc"), cpsL (Str.ofString "verb")] = rawL := by decide +kernel
def spRawN : Sp := Sp1 fun a H Q => ∃ (p : Addr) (l : NL), a = .ref p ∧ H p = some (.lst (nts l)) ∧ ∀ H', Same H H' → Q (.bl (Vaesca.isRaw l)) H'
theorem isRaw_eq (l : NL) : (rawL.map dN).any (fun z => PyData.eqv z (dN l)) = Vaesca.isRaw l := by
  show (PyData.eqv (dN Vaesca.CALC) (dN l) || (PyData.eqv (dN Vaesca.VERB) (dN l) || false)) = _
  rw [eqN, eqN]
  unfold Vaesca.isRaw
  rw [Bool.eq_iff_iff]
  simp
  constructor <;> (intro h; rcases h with h | h <;> simp [h])
theorem ok_is_raw_name (T : Tx K mg) : FnOk P w K mg base CX0 2 (He.fAd K ("is_raw_name", none)) (fdA K ("is_raw_name", none)) ["name"] spRawN := by
  refine (F_is_raw_name T).ok sc_is_raw_name (fun vs H Q E h => Sp1.len h) (fun cdv A outer s H vs Q E hr h => ⟨_, PSs.nox (pss_one (ps_ret (pe_cmpR (op_inD (Sm.Room.units65 hr)) (pv 0) (pe_lc (own := [("raw_name", 1)]) (by rfl) sc_is_raw_name.nd (pi_tup (pe_glob (v := .ref (He.ga K "RAW_NAMES")) rfl (g_RAW_NAMES T) rfl)) (blkOk_by (own := [("raw_name", 1)]) (N := ["name", "raw_name"]) (sc := defScope (sT 79)) (by decide +kernel)) (fun _ _ _ _ _ => (pg_name (i := 1) sc_is_raw_name.nd rfl (Or.inl rfl))) (fun _ _ _ _ _ => pts_nil) (fun _ _ _ _ _ => (pe_call (ok_signs_of T) (hr.mono (by decide)) rfl (g_signs_of T) (F_signs_of T).kp (B_signs_of T) .nil pass0 (pa_cons (pv 1) pa_nil)))) (by rfl)))), ?_⟩)
  show _
  try simp only [cxK, cxK2]
  obtain ⟨a, rfl, p, l, rfl, hp, k⟩ := h
  have names : ∀ (i : Nat) (x : V), [V.str (Str.ofString "calc"), .str (Str.ofString "verb")][i]? = some x → ∃ z : Str, x = .str z ∧ (cpsL z).length ≤ 1000 ∧ rawL[i]? = some (cpsL z) := fun i x e => by
    rw [← raw_names]
    match i, e with
    | 0, e => cases e; exact ⟨_, rfl, by decide +kernel, rfl⟩
    | 1, e => cases e; exact ⟨_, rfl, by decide +kernel, rfl⟩
  refine ⟨_, rfl, _, rfl, ⟨_, t_RAW_NAMES T _⟩, fun D hD => lc_it (walk_tup (xs := [V.str (Str.ofString "calc"), .str (Str.ofString "verb")])) (fun i H' => Making H D (rawL.take i) H') (Making.start hD) (fun i H' _ _ => t_RAW_NAMES T H') (fun i x H1 H2 hi pv y => ?_) (fun H' pv => ?_)⟩
  · obtain ⟨rfl, y⟩ := y
    obtain ⟨z, rfl, hz, hr⟩ := names i x y
    refine ⟨rfl, ?_⟩
    simp only [tSeq, tIfS, tTest, tB, tOp, tUn, tVar, tC, rEq, rNe, rI0, rI, tAsg, gName, tRet, tRetN, tDrop, tNext, tCont, tCall, tCons, tNil, tCB, tAnd, tOr, tNot, tAndV, tOrV, tNotV, tIf, tIsN, tNotN, L2.start, tChain, cxK, cxK2, tSl, rSlL, tNoPart, tPart, Sp1, Sp2, Sp3, Sp4, Sp5, scal, natlit, natlt, natle, litlt, litle, Int.natCast_inj, Int.ofNat_lt, Int.ofNat_le, Int.cast_ofNat_Int, List.map, List.length, List.replicate, Nat.reduceAdd, Nat.reduceSub, Nat.sub_self, List.cons_append, List.nil_append, List.append_nil, List.getElem?_cons_succ, List.getElem?_cons_zero, List.set_cons_succ, List.set_cons_zero, Option.some.injEq, V.int.injEq, V.bl.injEq, V.ref.injEq, V.str.injEq, List.cons.injEq, and_assoc, exists_eq_left', exists_eq_left, exists_and_left, exists_eq', decide_eq_true_eq, true_and, and_true, Bool.not_eq_true', decide_eq_false_iff_not, Bool.false_eq_true, if_true, if_false, tYes, wipe, List.foldl, spSigns]
    refine ⟨hz, fun H3 p3 s3 n3 e3 => ?_⟩
    have hDs : ∃ acc, H2 D = some (.lst acc) := let ⟨_, vs, _, _, _, h, _⟩ := pv; ⟨vs, h⟩
    obtain ⟨acc0, hD2⟩ := hDs
    obtain ⟨acc, ha, hal, mk⟩ := pv.more s3 e3 (fun q => by rw [q, hD2] at n3; cases n3)
    refine ⟨acc, ha, ?_, ?_⟩
    · rw [hal]; exact size_lt (by have : (rawL.take i).length ≤ 2 := List.length_take_le' i rawL; omega)
    · rw [take_more hr]; exact mk
  · have sm := pv.same hD
    obtain ⟨F, vs, h1, h2, h3, h4, h5⟩ := pv
    have h5' : LLAt H' vs rawL := h5.mono h2
    refine ⟨dN l, rawL.map dN, dpN (sm _ _ hp), .lst (SqL.of h4) (dpAllNN h5'), shN _, shNN rawL, ?_⟩
    rw [isRaw_eq]
    exact k _ sm

end Sm

set_option Elab.async false
set_option linter.all false
set_option maxRecDepth 100000
set_option maxHeartbeats 0
namespace Sm
open PySem PySem.Spec PyProof.Rows L2
variable {P : Program} {w : World} {K : PySem.W.Frag} {mg : Str → Option Value} {base : Heap}
/-! ### a new reader -/
theorem rF_new (dx p2 p3 p4 p5 p6 p7 : Addr) : (putF "fault_kind" (.int 0) (putF "begun" (.int 0) (putF "run" (.ref p7) (putF "body" (.ref p6) (putF "attribute_name" (.ref p5) (putF "attributes" (.ref p4) (putF "tag_name" (.ref p3) (putF "tokens" (.ref p2) (putF "count" (.int 0) (putF "mode" (.int 0) [])))))))))) = rF ⟨dx, p2, p3, p4, p5, p6, p7, [], [], 3, 7⟩ M.new := by kernel_rfl
section
variable {σ : L2.St} {H : Hp} {ta : TE} {D : Ends} {U : TS}
theorem s_fldD {C : CHp} {k : Nat} (kp : Nat) {c a dx : Addr} {fs : List (Str × V)} {f : Str} (hS : Sub C H) (hσ : ∀ H, Val ta σ H (.ref a)) (h : C a = some (k, .ins c dx fs)) (hc : Cls K c) (hn : NoAttr K c f) (hl : Few 900 fs)
    (nx : ∀ p H', C p = none → p ≠ a → Sub (cu (cu C p kp (.dT [])) a k (.ins c dx (putF f (.ref p) fs))) H' → D.nx σ H') : sFld K ta tDNewT f D σ H :=
  fun p hp => hσ _ _ ⟨a, c, dx, fs, rfl, by
    rw [upd_ne (c_new h (hS.none hp))]; exact hS _ _ _ h, hc, hn, Nat.lt_of_le_of_lt hl (by decide), nx p _ (hS.none hp) (Ne.symm (c_new h (hS.none hp))) (Sub.upd (Sub.upd hS))⟩
theorem q_fldD {C : CHp} {k : Nat} (kp : Nat) {c a dx : Addr} {fs : List (Str × V)} {f : Str} (hS : Sub C H) (hσ : ∀ H, Val ta σ H (.ref a)) (h : C a = some (k, .ins c dx fs)) (hc : Cls K c) (hn : NoAttr K c f) (hl : Few 900 fs)
    (nx : ∀ p H', C p = none → p ≠ a → Sub (cu (cu C p kp (.dT [])) a k (.ins c dx (putF f (.ref p) fs))) H' → U D σ H') : tSeq (sFld K ta tDNewT f) U D σ H := s_fldD (D := { D with nx := U D }) kp hS hσ h hc hn hl nx
end
def spRd0 (K : PySem.W.Frag) : Sp := Sp1 fun a H Q => ∃ (C : CHp) (x dx : Addr), a = .ref x ∧ Sub C H ∧ C x = some (1, .ins (cR K) dx []) ∧ ∀ (C' : CHp) (H' : Hp) (A : Adr), Sub C' H' → Kp (noK 1) C C' → RdAt K C' x A M.new → A.tc = 3 → A.rc = 7 → Q .non H'
theorem ok_Reader___init__ (T : Tx K mg) : FnOk P w K mg base CX0 1 (He.fAd K ("Reader", some "__init__")) (fdA K ("Reader", some "__init__")) ["self"] (spRd0 K) := by
  refine (F_Reader___init__ T).ok sc_Reader___init__ (fun vs H Q E h => Sp1.len h) (fun cdv A outer s H vs Q E hr h => ⟨_, PSs.nox (pss_cons (ps_fld (pv 0) (pe_gi rfl (i_TEXT T)) rfl) (pss_cons (ps_fld (pv 0) pe_int rfl) (pss_cons (ps_fld (pv 0) (pe_lst pa_nil) rfl) (pss_cons (ps_fld (pv 0) (pe_lst pa_nil) rfl) (pss_cons (ps_fld (pv 0) pe_dnewT rfl) (pss_cons (ps_fld (pv 0) (pe_lst pa_nil) rfl) (pss_cons (ps_fld (pv 0) (pe_lst pa_nil) rfl) (pss_cons (ps_fld (pv 0) (pe_lst pa_nil) rfl) (pss_cons (ps_fld (pv 0) pe_int rfl) (pss_one (ps_fld (pv 0) pe_int rfl))))))))))), ?_⟩)
  show _
  try simp only [cxK, cxK2]
  obtain ⟨a, rfl, C, x, dx, rfl, hS, hx, k⟩ := h
  refine q_fld hS (val_var rfl) val_c hx (c_Reader T) (a_Reader_mode T) few_nil fun H1 S1 => ?_
  refine q_fld S1 (val_var rfl) val_c cu_same (c_Reader T) (a_Reader_count T) ((few_put few_nil) : Few 1 _).up fun H2 S2 => ?_
  refine q_fldL 2 S2 (fun _ => val_var rfl) va_nil (by decide) cu_same (c_Reader T) (a_Reader_tokens T) ((few_put (few_put few_nil)) : Few 2 _).up fun p2 H3 np2 xp2 S3 => ?_
  refine q_fldL 3 S3 (fun _ => val_var rfl) va_nil (by decide) cu_same (c_Reader T) (a_Reader_tag_name T) ((few_put (few_put (few_put few_nil))) : Few 3 _).up fun p3 H4 np3 xp3 S4 => ?_
  refine q_fldD 4 S4 (fun _ => val_var rfl) cu_same (c_Reader T) (a_Reader_attributes T) ((few_put (few_put (few_put (few_put few_nil)))) : Few 4 _).up fun p4 H5 np4 xp4 S5 => ?_
  refine q_fldL 5 S5 (fun _ => val_var rfl) va_nil (by decide) cu_same (c_Reader T) (a_Reader_attribute_name T) ((few_put (few_put (few_put (few_put (few_put few_nil))))) : Few 5 _).up fun p5 H6 np5 xp5 S6 => ?_
  refine q_fldL 6 S6 (fun _ => val_var rfl) va_nil (by decide) cu_same (c_Reader T) (a_Reader_body T) ((few_put (few_put (few_put (few_put (few_put (few_put few_nil)))))) : Few 6 _).up fun p6 H7 np6 xp6 S7 => ?_
  refine q_fldL 7 S7 (fun _ => val_var rfl) va_nil (by decide) cu_same (c_Reader T) (a_Reader_run T) ((few_put (few_put (few_put (few_put (few_put (few_put (few_put few_nil))))))) : Few 7 _).up fun p7 H8 np7 xp7 S8 => ?_
  refine q_fld S8 (val_var rfl) val_c cu_same (c_Reader T) (a_Reader_begun T) ((few_put (few_put (few_put (few_put (few_put (few_put (few_put (few_put few_nil)))))))) : Few 8 _).up fun H9 S9 => ?_
  refine s_fld S9 (val_var rfl) val_c cu_same (c_Reader T) (a_Reader_fault_kind T) ((few_put (few_put (few_put (few_put (few_put (few_put (few_put (few_put (few_put few_nil))))))))) : Few 9 _).up fun H10 S10 => ?_
  exact k _ H10 ⟨dx, p2, p3, p4, p5, p6, p7, [], [], 3, 7⟩ S10 ((((((((((Kp.mut hx noK_self).trans (Kp.mut cu_same noK_self)).trans ((Kp.new np2).trans (Kp.mut (cu_new cu_same np2) noK_self))).trans ((Kp.new np3).trans (Kp.mut (cu_new cu_same np3) noK_self))).trans ((Kp.new np4).trans (Kp.mut (cu_new cu_same np4) noK_self))).trans ((Kp.new np5).trans (Kp.mut (cu_new cu_same np5) noK_self))).trans ((Kp.new np6).trans (Kp.mut (cu_new cu_same np6) noK_self))).trans ((Kp.new np7).trans (Kp.mut (cu_new cu_same np7) noK_self))).trans (Kp.mut cu_same noK_self)).trans (Kp.mut cu_same noK_self)) ⟨by rw [cu_same, rF_new dx p2 p3 p4 p5 p6 p7], ((cu_ne xp2).trans ((cu_ne xp2).trans ((cu_ne xp2).trans (cu_new ((cu_ne xp2).trans (cu_new ((cu_ne xp2).trans (cu_new ((cu_ne xp2).trans (cu_new ((cu_ne xp2).trans (cu_new ((cu_ne xp2).trans cu_same) np3)) np4)) np5)) np6)) np7)))), ((cu_ne xp3).trans ((cu_ne xp3).trans ((cu_ne xp3).trans (cu_new ((cu_ne xp3).trans (cu_new ((cu_ne xp3).trans (cu_new ((cu_ne xp3).trans (cu_new ((cu_ne xp3).trans cu_same) np4)) np5)) np6)) np7)))), ((cu_ne xp4).trans ((cu_ne xp4).trans ((cu_ne xp4).trans (cu_new ((cu_ne xp4).trans (cu_new ((cu_ne xp4).trans (cu_new ((cu_ne xp4).trans cu_same) np5)) np6)) np7)))), ((cu_ne xp5).trans ((cu_ne xp5).trans ((cu_ne xp5).trans (cu_new ((cu_ne xp5).trans (cu_new ((cu_ne xp5).trans cu_same) np6)) np7)))), ((cu_ne xp6).trans ((cu_ne xp6).trans ((cu_ne xp6).trans (cu_new ((cu_ne xp6).trans cu_same) np7)))), ((cu_ne xp7).trans ((cu_ne xp7).trans ((cu_ne xp7).trans cu_same))), trivial, trivial, .inr rfl, .inr rfl⟩ rfl rfl

theorem make_reader {σ : L2.St} {D : V → Hp → Prop} {H : Hp} {C : CHp} (hS : Sub C H)
    (nx : ∀ (C' : CHp) (H' : Hp) (x : Addr) (A : Adr), C x = none → Sub C' H' → Kp (noK 1) C C' → RdAt K C' x A M.new → A.tc = 3 → A.rc = 7 → D (.ref x) H') : tMake (cR K) (spRd0 K) [] E0 tNil σ H D := fun x dx hx hdx hne => by
  have hC := hS.none hx
  exact ⟨_, rfl, cu C x 1 (.ins (cR K) dx []), x, dx, rfl, Sub.upd (hS.same (Same.new hdx)), cu_same, fun C' H' A h1 h2 h3 h4 h5 => ⟨rfl, nx C' H' x A hC h1 (fun a k o e q => h2 a k o (cu_new e hC) q) h3 h4 h5⟩⟩

end Sm

set_option Elab.async false
set_option linter.all false
set_option maxRecDepth 100000
set_option maxHeartbeats 0
namespace Sm
open PySem PySem.Spec PyProof.Rows L2
variable {P : Program} {w : World} {K : PySem.W.Frag} {mg : Str → Option Value} {base : Heap}
section
variable {σ : L2.St} {H : Hp} {ta : TE} {x : V}
theorem vt_truth {b : Bool} (ha : Val ta σ H x) (h : TruV K x H b) : ValT (fun σ H Q => ta σ H fun x H' => ∃ k, TruV K x H' k ∧ Q k H') σ H b := fun _ q => ha _ ⟨b, h, q⟩
theorem vt_nts {p : Addr} {l : NL} (ha : Val ta σ H (.ref p)) (h : H p = some (.lst (nts l))) : ValT (fun σ H Q => ta σ H fun x H' => ∃ k, TruV K x H' k ∧ Q k H') σ H (!l.isEmpty) := vt_truth ha (by rw [← nts_isEmpty]; exact tru_list h)
end
section
variable {A : Adr} {m : M}
theorem rL_finish_run : (rF A m).lookup ("finish_run" : Str) = none := by kernel_rfl
theorem rL_finish_attribute : (rF A m).lookup ("finish_attribute" : Str) = none := by kernel_rfl
theorem rL_finish_open_tag : (rF A m).lookup ("finish_open_tag" : Str) = none := by kernel_rfl
theorem rL_finish_close_tag : (rF A m).lookup ("finish_close_tag" : Str) = none := by kernel_rfl
theorem rL_finish_raw : (rF A m).lookup ("finish_raw" : Str) = none := by kernel_rfl
theorem rL_fail : (rF A m).lookup ("fail" : Str) = none := by kernel_rfl
end
section
variable {σ : L2.St} {H : Hp} {ta te : TE} {D : Ends} {U : TS} {C : CHp} {r : Addr} {A : Adr} {m : M}
/-! calls of the reader's methods -/
theorem s_fail {k : Nat} (hS : Sub C H) (h : RdAt K C r A m) (ha : Val ta σ H (.ref r)) (hv : Val te σ H (vn k)) (nx : After K C r (m.fail k) A.tc A.rc fun H' => D.nx σ H') : tDrop (tMeth (cR K) "fail" (spFail K) [] E0 ta (tCons te tNil)) D σ H :=
  s_drop (t_meth ha (hS _ _ _ h.o) rL_fail (va_cons hv va_nil) ⟨_, _, rfl, C, r, A, m, k, rfl, rfl, hS, h, nx⟩)
theorem s_finRun {t1 t2 : TE} {k : Nat} {st : Int} (hS : Sub C H) (h : RdAt K C r A m) (ha : Val ta σ H (.ref r)) (h1 : Val t1 σ H (vn k)) (h2 : Val t2 σ H (.int st)) (hc : A.rc = 7) (hl : m.toks.length ≤ 1000000) (nx : After K C r (m.finRun k st) A.tc 7 fun H' => D.nx σ H') : tDrop (tMeth (cR K) "finish_run" (spFinRun K) [] E0 ta (tCons t1 (tCons t2 tNil))) D σ H :=
  s_drop (t_meth ha (hS _ _ _ h.o) rL_finish_run (va_cons h1 (va_cons h2 va_nil)) ⟨_, _, _, rfl, C, r, A, m, k, st, rfl, rfl, rfl, hS, h, hc, hl, nx⟩)
theorem s_finClose (hS : Sub C H) (h : RdAt K C r A m) (ha : Val ta σ H (.ref r)) (hl : m.toks.length ≤ 1000000) (nx : After K C r m.finClose 3 A.rc fun H' => D.nx σ H') : tDrop (tMeth (cR K) "finish_close_tag" (spFinClose K) [] E0 ta tNil) D σ H :=
  s_drop (t_meth ha (hS _ _ _ h.o) rL_finish_close_tag va_nil ⟨_, rfl, C, r, A, m, rfl, hS, h, hl, nx⟩)
theorem s_finAttr (hS : Sub C H) (h : RdAt K C r A m) (ha : Val ta σ H (.ref r)) (hc : A.rc = 7) (ht : m.twice = false) (hl : m.attrs.length ≤ 1000000) (nx : After K C r m.finAttr A.tc 7 fun H' => D.nx σ H') : tDrop (tMeth (cR K) "finish_attribute" (spFinAttr K) [] E0 ta tNil) D σ H :=
  s_drop (t_meth ha (hS _ _ _ h.o) rL_finish_attribute va_nil ⟨_, rfl, C, r, A, m, rfl, hS, h, hc, ht, hl, nx⟩)
theorem q_fail {k : Nat} (hS : Sub C H) (h : RdAt K C r A m) (ha : Val ta σ H (.ref r)) (hv : Val te σ H (vn k)) (nx : After K C r (m.fail k) A.tc A.rc fun H' => U D σ H') : tSeq (tDrop (tMeth (cR K) "fail" (spFail K) [] E0 ta (tCons te tNil))) U D σ H := s_fail (D := { D with nx := U D }) hS h ha hv nx
theorem q_finRun {t1 t2 : TE} {k : Nat} {st : Int} (hS : Sub C H) (h : RdAt K C r A m) (ha : Val ta σ H (.ref r)) (h1 : Val t1 σ H (vn k)) (h2 : Val t2 σ H (.int st)) (hc : A.rc = 7) (hl : m.toks.length ≤ 1000000) (nx : After K C r (m.finRun k st) A.tc 7 fun H' => U D σ H') : tSeq (tDrop (tMeth (cR K) "finish_run" (spFinRun K) [] E0 ta (tCons t1 (tCons t2 tNil)))) U D σ H := s_finRun (D := { D with nx := U D }) hS h ha h1 h2 hc hl nx
theorem q_finAttr (hS : Sub C H) (h : RdAt K C r A m) (ha : Val ta σ H (.ref r)) (hc : A.rc = 7) (ht : m.twice = false) (hl : m.attrs.length ≤ 1000000) (nx : After K C r m.finAttr A.tc 7 fun H' => U D σ H') : tSeq (tDrop (tMeth (cR K) "finish_attribute" (spFinAttr K) [] E0 ta tNil)) U D σ H := s_finAttr (D := { D with nx := U D }) hS h ha hc ht hl nx
end
theorem lt2 : (Str.ofString "</").length ≤ sizeLine ∧ (Str.ofString "</").length = 2 := by decide +kernel
def spFinRaw (K : PySem.W.Frag) : Sp := Sp1 fun a H Q => ∃ (C : CHp) (r : Addr) (A : Adr) (m : M), a = .ref r ∧ Sub C H ∧ RdAt K C r A m ∧ A.rc = 7 ∧ m.toks.length ≤ 900000 ∧ After K C r m.finRaw 3 7 (Q .non)
theorem ok_Reader_finish_raw (T : Tx K mg) : FnOk P w K mg base CX0 5 (He.fAd K ("Reader", some "finish_raw")) (fdA K ("Reader", some "finish_raw")) ["self"] (spFinRaw K) := by
  refine (F_Reader_finish_raw T).ok sc_Reader_finish_raw (fun vs H Q E h => Sp1.len h) (fun cdv A outer s H vs Q E hr h => ⟨_, PSs.nox (pss_cons (ps_set (i := 1) sc_Reader_finish_raw.nd rfl (Or.inl rfl) (pe_op op_sub (pe_op op_sub (pe_fld (pv 0) rfl) (pe_callB call_len_seq (by rfl) (n_len T) (by decide +kernel) (pa_cons (pe_fld (pv 0) rfl) pa_nil))) (pe_callB call_len_str (by rfl) (n_len T) (by decide +kernel) (pa_cons pe_str pa_nil)))) (pss_cons (ps_if (pt_truth (pe_fld (pv 0) rfl) (by intro _; rfl)) (pss_one (ps_expr (pe_meth (pv 0) (c_Reader T) (m_Reader_finish_run T) (ok_Reader_finish_run T) (hr.mono (by decide)) (B_Reader_finish_run T) .nil pass0 (pa_cons (pe_gi rfl (i_RAW_TEXT T)) (pa_cons (pv 1) pa_nil))))) pss_nil) (pss_cons (ps_fld (pv 0) (pv 1) rfl) (pss_cons (ps_fld (pv 0) (pe_lst pa_nil) rfl) (pss_one (ps_expr (pe_meth0 (pv 0) (c_Reader T) (m_Reader_finish_close_tag T) (ok_Reader_finish_close_tag T) (hr.mono (by decide)) (B_Reader_finish_close_tag T) .nil pass0))))))), ?_⟩)
  show _
  try simp only [cxK, cxK2]
  obtain ⟨a, rfl, C, r, A, m, rfl, hS, R0, hc, hl, q⟩ := h
  have V0 : ∀ H', Val (tVar 0) (L2.start ["self", "place"] [V.ref r]) H' (.ref r) := fun _ => val_var rfl
  have hp := val_i2 (g := fun i j => .int (i - j)) (val_i2 (g := fun i j => .int (i - j)) (v_count T hS R0 (V0 H)) (val_len (K := K) (v_tag T hS R0 (V0 H)) (SqL.of (hS _ _ _ R0.tg)))) (val_lenS (n := 2) (val_c (v := .str "</")) lt2.1 lt2.2)
  rw [nts_len] at hp
  refine q_setV hp ?_
  refine q_if (vt_nts (v_run T hS R0 (val_var rfl)) (hS _ _ _ R0.rn)) (fun e => ?_) (fun e => ?_)
  · have e' : ¬ m.run = [] := by intro z; rw [z] at e; cases e
    have ef : m.finRaw = M.finClose { m.finRun 4 m.rawPlace with begun := m.rawPlace, body := [] } := if_neg e'
    refine s_finRun (k := 4) (st := m.rawPlace) hS R0 (val_var rfl) val_c (val_var rfl) hc (by omega) fun C1 H1 A1 S1 K1 R1 e1 e2 => ?_
    refine q_begun (b := m.rawPlace) T S1 R1 (fun _ => val_var rfl) (val_var rfl) fun C2 H2 A2 S2 K2 R2 e3 e4 => ?_
    refine q_newBody (l := []) T S2 R2 (fun _ => val_var rfl) va_nil (by decide) fun C3 H3 A3 S3 K3 R3 e5 e6 => ?_
    refine s_finClose S3 R3 (val_var rfl) (by show (m.toks ++ [_]).length ≤ 1000000; rw [List.length_append, List.length_singleton]; omega) ?_
    rw [e6, e4, e2]
    rw [ef] at q
    exact q.lift ((K1.trans K2).trans K3)
  · have e' : m.run = [] := by cases hr : m.run with
      | nil => rfl
      | cons x y => rw [hr] at e; cases e
    have ef : m.finRaw = M.finClose { m with begun := m.rawPlace, body := [] } := if_pos e'
    refine q_begun (b := m.rawPlace) T hS R0 (fun _ => val_var rfl) (val_var rfl) fun C2 H2 A2 S2 K2 R2 e3 e4 => ?_
    refine q_newBody (l := []) T S2 R2 (fun _ => val_var rfl) va_nil (by decide) fun C3 H3 A3 S3 K3 R3 e5 e6 => ?_
    refine s_finClose S3 R3 (val_var rfl) (by show m.toks.length ≤ 1000000; omega) ?_
    rw [e6, e4, hc]
    rw [ef] at q
    exact q.lift (K2.trans K3)

/-! finish_open_tag -/
theorem q_newAttrs {σ : L2.St} {H : Hp} {ta : TE} {D : Ends} {U : TS} {C : CHp} {r : Addr} {A : Adr} {m : M} (T : Tx K mg) (hS : Sub C H) (h : RdAt K C r A m) (ha : ∀ H, Val ta σ H (.ref r)) (nx : After K C r { m with attrs := [] } A.tc A.rc fun H' => U D σ H') : tSeq (sFld K ta tDNewT "attributes") U D σ H :=
  q_fldD 4 hS ha h.o (c_Reader T) (a_Reader_attributes T) few_rF fun p H' hp hpr S => by
    rw [rP_attrs] at S
    exact nx _ H' _ S ((Kp.new hp).trans (Kp.mut (cu_new h.o hp) rdN)) (h.newAttrs hp) rfl rfl
/-- the heap's owners, a place left out -/
def cdel (C : CHp) (a : Addr) : CHp := fun b => if b = a then none else C b
theorem cdel_ne {C : CHp} {a b : Addr} (h : b ≠ a) : cdel C a b = C b := if_neg h
theorem cdel_at {C : CHp} {a : Addr} : cdel C a a = none := if_pos rfl
theorem Sub.del {C : CHp} {H : Hp} {a : Addr} {o : HO} (h : Sub C H) : Sub (cdel C a) (L2.upd H a o) := fun b k u e => by
  by_cases hb : b = a
  · rw [hb, cdel_at] at e; cases e
  · rw [cdel_ne hb] at e
    rw [upd_ne hb]; exact h b k u e
theorem t_list {σ : L2.St} {H : Hp} {te : TE} {Q : VK} {p : Addr} {xs : List V} (hv : Val te σ H (.ref p)) (h : SqL K H p xs ∨ SqT K H p xs) (k : ∀ l, H l = none → Q (.ref l) (upd H l (.lst xs))) : tCB (fun xs H Q => ∃ p ys, xs = [V.ref p] ∧ (SqL K H p ys ∨ SqT K H p ys) ∧ ∀ l, H l = none → Q (.ref l) (upd H l (.lst ys))) (tCons te tNil) σ H Q :=
  hv _ ⟨p, xs, rfl, h, k⟩
theorem AttrsAt.app {F : Hp} : ∀ {vs us : List V} {ts rs : List (NL × NL)}, AttrsAt F vs ts → AttrsAt F us rs → AttrsAt F (vs ++ us) (ts ++ rs)
  | [], _, [], _, _, h => h
  | _ :: _, _, _ :: _, _, ⟨a, r⟩, h => ⟨a, r.app h⟩
  | [], _, _ :: _, _, h, _ => h.elim
  | _ :: _, _, [], _, h, _ => h.elim
def PairsAt (C0 : CHp) (pa : Addr) (x : HO) (D : Addr) (as : List (NL × NL)) (H' : Hp) : Prop := ∃ (C' : CHp) (vs : List V), Sub C' H' ∧ Kp allK C0 C' ∧ H' pa = some x ∧ C' pa = none ∧ C' D = some (31, .lst vs) ∧ vs.length = as.length ∧ AttrsAt (fz C') vs as
def spFinOpen (K : PySem.W.Frag) : Sp := Sp2 fun a b H Q => ∃ (C : CHp) (r : Addr) (A : Adr) (m : M) (en : Nat), a = .ref r ∧ b = vn en ∧ Sub C H ∧ RdAt K C r A m ∧ m.toks.length ≤ 1000000 ∧ m.attrs.length ≤ 1000000 ∧
  ∀ tc, (tc = 3 ∨ (tc = 0 ∧ (m.finOpen en).mode = 22)) → After K C r (m.finOpen en) tc A.rc (Q .non)
theorem ok_Reader_finish_open_tag (T : Tx K mg) : FnOk P w K mg base CX0 4 (He.fAd K ("Reader", some "finish_open_tag")) (fdA K ("Reader", some "finish_open_tag")) ["self", "ended"] (spFinOpen K) := by
  refine (F_Reader_finish_open_tag T).ok sc_Reader_finish_open_tag (fun vs H Q E h => Sp2.len h) (fun cdv A outer s H vs Q E hr h => ⟨_, PSs.nox (pss_cons (ps_set (i := 2) sc_Reader_finish_open_tag.nd rfl (Or.inl rfl) (pe_op op_add (pe_fld (pv 0) rfl) pe_int)) (pss_cons (ps_lock (ps_setLc (i := 3) (own := [("name", 4), ("value", 5)]) (by rfl) sc_Reader_finish_open_tag.nd rfl rfl (sw_true rfl rfl rfl (by decide +kernel)) (pi_itemsT (pe_fld (pv 0) rfl)) (blkOk_by (own := [("name", 4), ("value", 5)]) (N := ["self", "ended", "stop", "pairs", "name", "value"]) (sc := defScope (inClass (sT 78) 4)) (by decide +kernel)) (fun _ _ _ _ _ => (pg_tup2K (K := K) rfl rfl (by exact pg_name (i := 4) sc_Reader_finish_open_tag.nd rfl (Or.inl rfl)) (by exact pg_name (i := 5) sc_Reader_finish_open_tag.nd rfl (Or.inl rfl)))) (fun _ _ _ _ _ => pts_nil) (fun _ _ _ _ _ => (pe_tup (pa_cons (pe_callTy (call_list_ofK (K := K) rfl) (by rfl) (n_list T) (by decide +kernel) (pa_cons (pv 4) pa_nil)) (pa_cons (pv 5) pa_nil)))))) (pss_cons (ps_expr (pe_bm PySem.F.plainAttrs_list PySem.F.slot_list_append PySem.F.type_list_append mt_append (pe_fld (pv 0) rfl) (pa_cons (pe_call (ok_open_tag T) (hr.mono (by decide)) rfl (g_open_tag T) (F_open_tag T).kp (B_open_tag T) .nil pass0 (pa_cons (pe_fld (pv 0) rfl) (pa_cons (pv 2) (pa_cons (pe_fld (pv 0) rfl) (pa_cons (pv 3) (pa_cons (pv 1) pa_nil)))))) pa_nil))) (pss_cons (ps_fld (pv 0) pe_dnewT rfl) (pss_one (ps_if (PW.pt (pw_and (pt_cmpR op_eq (pv 1) pe_int (nomark _)) (pw_and1 (pt_val (pe_call (ok_is_raw_name T) (hr.mono (by decide)) rfl (g_is_raw_name T) (F_is_raw_name T).kp (B_is_raw_name T) .nil pass0 (pa_cons (pe_fld (pv 0) rfl) pa_nil)))))) (pss_cons (ps_fld (pv 0) (pv 2) rfl) (pss_one (ps_fld (pv 0) (pe_gi rfl (i_RAW T)) rfl))) (pss_cons (ps_fld (pv 0) (pe_lst pa_nil) rfl) (pss_one (ps_fld (pv 0) (pe_gi rfl (i_TEXT T)) rfl))))))))), ?_⟩)
  show _
  try simp only [cxK, cxK2]
  obtain ⟨a, b, rfl, C, r, A, m, en, rfl, rfl, hS, R0, hl, hl2, q⟩ := h
  refine q_setV (x := .int (m.count + 1)) (val_i2 (g := fun i j => .int (i + j)) (v_count T hS R0 (val_var rfl)) val_c) ?_
  -- the pairs
  refine s_seq ?_
  refine ⟨A.pa, .dT A.kvs, hS _ _ _ R0.at_, trivial, fun od => ?_⟩
  have SL : Sub (cdel C A.pa) (upd H A.pa (.frz od (.dT A.kvs))) := hS.del
  have rpa : r ≠ A.pa := c_ne R0.o R0.at_ (by decide)
  have hro : upd H A.pa (.frz od (.dT A.kvs)) r = some (.ins (cR K) A.dx (rF A m)) := by rw [upd_ne rpa]; exact hS _ _ _ R0.o
  refine s_set ?_
  have V1 : ∀ σ : L2.St, σ[0]? = some (some (.ref r)) → Val (tFld K (tVar 0) "attributes") σ (upd H A.pa (.frz od (.dT A.kvs))) (.ref A.pa) := fun σ hσ => val_fld (val_var hσ) hro (c_Reader T) (a_Reader_attributes T) rF_attrs
  unfold tLc iItemsT
  refine V1 _ ?hsig _ ?_
  case hsig => rfl
  have C0D : ∀ D, upd H A.pa (.frz od (.dT A.kvs)) D = none → cdel C A.pa D = none ∧ C D = none := fun D hD => by
    have h1 := SL.none hD
    have h2 : D ≠ A.pa := Ne.symm (ne_of_none upd_same hD)
    exact ⟨h1, (cdel_ne h2).symm.trans h1⟩
  refine ⟨A.pa, od, A.kvs, rfl, upd_same, fun D hD => lc_it walk_itemsT (fun i H' => PairsAt (cdel C A.pa) A.pa (.frz od (.dT A.kvs)) D (m.attrs.take i) H') ?h0 (fun i H' _ h => let ⟨_, _, _, _, z, _⟩ := h; z) (fun i x H1 H2 hi pv y => ?hs) (fun H' pv => ?hd)⟩
  case h0 =>
    have hpD : A.pa ≠ D := ne_of_none upd_same hD
    exact ⟨cu (cdel C A.pa) D 31 (.lst []), [], SL.upd, Kp.new (SL.none hD), by rw [upd_ne hpD]; exact upd_same, by rw [cu_ne hpD]; exact cdel_at, cu_same, rfl, trivial⟩
  case hs =>
    obtain ⟨T1, q1, k, v, hkv, rfl, hq, hT1, rfl⟩ := y
    obtain ⟨C', vs, S', K', hpa, hpn, hD', hlen, hat⟩ := pv
    obtain ⟨at1, x1, ha1, hk1, hv1, hx1⟩ := R0.kv.get hkv
    subst hk1 hv1
    rw [key_map] at hq
    refine ⟨T1, _, rfl, SqT.of upd_same, rfl, _, _, rfl, _, _, rfl, rfl, rfl, ?_⟩
    have S1 : Sub C' (upd H1 T1 (.tup [.ref q1, .ref x1])) := S'.same (Same.new hT1)
    simp only [tSeq, tIfS, tTest, tB, tOp, tUn, tVar, tC, rEq, rNe, rI0, rI, tAsg, gName, tRet, tRetN, tDrop, tNext, tCont, tCall, tCons, tNil, tCB, tAnd, tOr, tNot, tAndV, tOrV, tNotV, tIf, tIsN, tNotN, L2.start, tChain, cxK, cxK2, tSl, rSlL, tNoPart, tPart, Sp1, Sp2, Sp3, Sp4, Sp5, scal, natlit, natlt, natle, litlt, litle, Int.natCast_inj, Int.ofNat_lt, Int.ofNat_le, Int.cast_ofNat_Int, List.map, List.length, List.replicate, Nat.reduceAdd, Nat.reduceSub, Nat.sub_self, List.cons_append, List.nil_append, List.append_nil, List.getElem?_cons_succ, List.getElem?_cons_zero, List.set_cons_succ, List.set_cons_zero, Option.some.injEq, V.int.injEq, V.bl.injEq, V.ref.injEq, V.str.injEq, List.cons.injEq, and_assoc, exists_eq_left', exists_eq_left, exists_and_left, exists_eq', decide_eq_true_eq, true_and, and_true, Bool.not_eq_true', decide_eq_false_iff_not, Bool.false_eq_true, if_true, if_false, tTup, tYes, wipe, List.foldl]
    refine ⟨nts at1.1, .inr (SqT.of ((Same.new hT1) _ _ hq)), fun l hln => ⟨by decide, fun p hp => ?_⟩⟩
    have S2 : Sub (cu C' l 0 (.lst (nts at1.1))) _ := S1.upd (a := l) (k := 0) (o := .lst (nts at1.1))
    have S3 : Sub (cu (cu C' l 0 (.lst (nts at1.1))) p 0 (.tup [.ref l, .ref x1])) _ := S2.upd (a := p) (k := 0) (o := .tup [.ref l, .ref x1])
    have hlC := S1.none hln
    have hpC := S2.none hp
    have hD3 : cu (cu C' l 0 (.lst (nts at1.1))) p 0 (.tup [.ref l, .ref x1]) D = some (31, .lst vs) := cu_new (cu_new hD' hlC) hpC
    have k0 : Kp allK C' (cu (cu C' l 0 (.lst (nts at1.1))) p 0 (.tup [.ref l, .ref x1])) := (Kp.new hlC).trans (Kp.new hpC)
    have k1 : Kp (noK 31) C' (cu (cu (cu C' l 0 (.lst (nts at1.1))) p 0 (.tup [.ref l, .ref x1])) D 31 (.lst (vs ++ [.ref p]))) := k0.all.trans (Kp.mut hD3 noK_self)
    have k2 : Kp allK (cdel C A.pa) (cu (cu (cu C' l 0 (.lst (nts at1.1))) p 0 (.tup [.ref l, .ref x1])) D 31 (.lst (vs ++ [.ref p]))) := fun a k o e _ => by
      rw [cu_ne (c_new e (C0D D hD).1)]
      exact k0 _ _ _ (K' _ _ _ e trivial) trivial
    have hf := k1.fz ok0
    have hDl : l ≠ D := Ne.symm (c_new hD' hlC)
    have hDp : p ≠ D := Ne.symm (c_new (cu_new hD' hlC) hpC)
    have hpl : l ≠ p := c_new cu_same hpC
    have s4 : Same H1 (upd (upd (upd H1 T1 (.tup [.ref q1, .ref x1])) l (.lst (nts at1.1))) p (.tup [.ref l, .ref x1])) := ((Same.new hT1).trans (Same.new hln)).trans (Same.new hp)
    have paD : A.pa ≠ D := ne_of hpa (S' _ _ _ hD') (by intro z; cases z)
    have pal : A.pa ≠ l := ne_of_none ((Same.new hT1) _ _ hpa) hln
    have pap : A.pa ≠ p := ne_of_none ((Same.new hln) _ _ ((Same.new hT1) _ _ hpa)) hp
    refine ⟨vs, S3 _ _ _ hD3, by rw [hlen]; exact size_lt (by have := List.length_take_le' i m.attrs; omega), _, vs ++ [.ref p], S3.upd, k2, ?_, ?_, cu_same, ?_, ?_⟩
    · rw [upd_ne paD]; exact s4 _ _ hpa
    · rw [cu_ne paD, cu_ne pap, cu_ne pal]; exact hpn
    · rw [take_more ha1, List.length_append, List.length_append, hlen]; rfl
    · rw [take_more ha1]
      refine (hat.mono hf).app ⟨⟨p, l, x1, rfl, fz_of ((cu_ne hDp).trans cu_same), fz_of ((cu_ne hDl).trans ((cu_ne hpl).trans cu_same)), fz_of (k2 _ _ _ ?_ trivial)⟩, trivial⟩
      rw [cdel_ne (c_ne (of_fz hx1) R0.at_ (by decide))]
      exact of_fz hx1
  case hd =>
    obtain ⟨C', vs, S', K', hpa, hpn, hD', hlen, hat⟩ := pv
    rw [R0.kv.len, List.take_length] at hlen hat
    refine ⟨hpa, ?_⟩
    have hCD := (C0D D hD).2
    have S2 : Sub (cu C' A.pa 4 (.dT A.kvs)) (upd H' A.pa (.dT A.kvs)) := S'.upd
    have paD : D ≠ A.pa := ne_of (S' _ _ _ hD') hpa (by intro z; cases z)
    have hD2 : cu C' A.pa 4 (.dT A.kvs) D = some (31, .lst vs) := by rw [cu_ne paD]; exact hD'
    have S3 : Sub (cu (cu C' A.pa 4 (.dT A.kvs)) D 0 (.lst vs)) (upd H' A.pa (.dT A.kvs)) := S2.rec (S2 _ _ _ hD2)
    have k3 : Kp allK C (cu (cu C' A.pa 4 (.dT A.kvs)) D 0 (.lst vs)) := fun a k o e _ => by
      rw [cu_ne (c_new e hCD)]
      by_cases z : a = A.pa
      · rw [z, R0.at_] at e
        rw [z, cu_same]; exact e
      · rw [cu_ne z]
        exact K' _ _ _ (by rw [cdel_ne z]; exact e) trivial
    have k4 : Same (fz C') (fz (cu (cu C' A.pa 4 (.dT A.kvs)) D 0 (.lst vs))) := fun a o e => by
      have e' := of_fz e
      refine fz_of ?_
      rw [cu_ne (c_ne e' hD' (by decide)), cu_ne (c_new e' hpn)]
      exact e'
    have R3 := R0.keep k3.all
    have kC : Kp rdK C (cu (cu C' A.pa 4 (.dT A.kvs)) D 0 (.lst vs)) := k3.all
    obtain ⟨S4, K4, R4⟩ := frz_tag S3 R3
    refine q_drop (t_appC (v_tokens T S4 R4 (val_var rfl)) (S4 _ _ _ R4.tk) (t_call (va_cons (v_begun T S4 R4 (val_var rfl)) (va_cons (val_var rfl) (va_cons (v_tag T S4 R4 (val_var rfl)) (va_cons (val_var rfl) (va_cons (val_var rfl) va_nil))))) ?_))
    have tD : cu (cu (cu C' A.pa 4 (.dT A.kvs)) D 0 (.lst vs)) A.ptn 0 (.lst (nts m.tag)) D = some (0, .lst vs) := by
      by_cases z : D = A.ptn
      · exact absurd (c_new R0.tg hCD) (fun q => q z.symm)
      · rw [cu_ne z]; exact cu_same
    have f4 : Same (fz (cu (cu C' A.pa 4 (.dT A.kvs)) D 0 (.lst vs))) (fz (cu (cu (cu C' A.pa 4 (.dT A.kvs)) D 0 (.lst vs)) A.ptn 0 (.lst (nts m.tag)))) := K4.fz rd0
    refine ⟨_, _, _, _, _, rfl, _, m.begun, m.count + 1, A.ptn, D, m.tag, vs, m.attrs, en, rfl, rfl, rfl, rfl, rfl, S4, R4.tg, tD, (hat.mono k4).mono f4, fun C5 H5 p S5 K5 ht => ?_⟩
    obtain ⟨h1, S6, K6, R6⟩ := put_tok R4 S5 K5 ht
    refine ⟨_, h1, ts_size R4 hl, ?_⟩
    refine q_newAttrs T S6 R6 (fun _ => val_var rfl) fun C7 H7 A7 S7 K7 R7 e71 e72 => ?_
    have KK := (kC.trans K4).trans (K6.trans K7)
    have gf : ∀ (b : Bool) (H8 : Hp), Sub C7 H8 → b = (decide (en = 0) && Vaesca.isRaw m.tag) → if b = true then tSeq (sFld K (tVar 0) (tVar 2) "begun") (sFld K (tVar 0) (tC (.int 22)) "mode") { nx := fun _ H' => Q .non H', rt := Q } [some (.ref r), some (vn en), some (.int (m.count + 1)), some (.ref D), none, none] H8
        else tSeq (sFld K (tVar 0) (tLst tNil) "tag_name") (sFld K (tVar 0) (tC (.int 0)) "mode") { nx := fun _ H' => Q .non H', rt := Q } [some (.ref r), some (vn en), some (.int (m.count + 1)), some (.ref D), none, none] H8 := fun b H8 S8 hb => by
      cases hbb : decide (en = 0) && Vaesca.isRaw m.tag with
      | true =>
        rw [hb, hbb, if_pos rfl]
        rw [Bool.and_eq_true, decide_eq_true_eq] at hbb
        have ef : m.finOpen en = { m with toks := m.toks ++ [⟨1, m.begun, m.count + 1, m.tag, m.attrs, en, []⟩], attrs := [], begun := m.count + 1, mode := 22 } := if_pos hbb
        refine q_begun (b := m.count + 1) T S8 R7 (fun _ => val_var rfl) (val_var rfl) fun C9 H9 A9 S9 K9 R9 e91 e92 => ?_
        refine s_mode (k := 22) T S9 R9 (fun _ => val_var rfl) val_c ?_
        have q2 := q A9.tc (.inr ⟨e91.trans e71, by rw [ef]⟩)
        rw [ef] at q2
        rw [e92, e72]
        exact q2.lift (KK.trans K9)
      | false =>
        rw [hb, hbb, if_neg Bool.false_ne_true]
        have nb : ¬ (en = 0 ∧ Vaesca.isRaw m.tag = true) := fun z => by
          rw [decide_eq_true z.1, z.2] at hbb; cases hbb
        have ef : m.finOpen en = { m with toks := m.toks ++ [⟨1, m.begun, m.count + 1, m.tag, m.attrs, en, []⟩], attrs := [], tag := [], mode := 0 } := if_neg nb
        refine q_newTag (l := []) T S8 R7 (fun _ => val_var rfl) va_nil (by decide) fun C9 H9 A9 S9 K9 R9 e91 e92 => ?_
        refine s_mode (k := 0) T S9 R9 (fun _ => val_var rfl) val_c ?_
        have q2 := q A9.tc (.inl e91)
        rw [ef] at q2
        rw [e92, e72]
        exact q2.lift (KK.trans K9)
    unfold tIfS tAnd
    refine vt_test (val_eq (x := vn en) (y := .int 0) (val_var rfl) val_c rfl) _ ?_
    by_cases e0 : en = 0
    · subst e0
      rw [if_pos (show decide (vn 0 = V.int 0) = true from decide_eq_true rfl)]
      unfold tB
      refine t_call (vs := [.ref A7.ptn]) (va_cons (v_tag T S7 R7 ?vv) va_nil) ?_
      case vv => exact val_var rfl
      refine ⟨_, rfl, _, m.tag, rfl, S7 _ _ _ R7.tg, fun H8 s8 => ⟨_, rfl, ?_⟩⟩
      exact gf _ H8 (S7.same s8) (by simp)
    · have e1 : decide (vn en = V.int 0) = false := by
        apply decide_eq_false
        intro z
        exact e0 (Int.ofNat.inj (V.int.inj z))
      rw [e1, if_neg Bool.false_ne_true]
      exact gf false H7 S7 (by simp [e0])

end Sm

set_option Elab.async false
set_option linter.all false
set_option maxRecDepth 100000
set_option maxHeartbeats 0
namespace Sm
open PySem PySem.Spec PyProof.Rows L2
variable {P : Program} {w : World} {K : PySem.W.Frag} {mg : Str → Option Value} {base : Heap}
/-! ### steps: words -/
def Good (A : Adr) (m : M) : Prop := A.tc = 3 ∨ 22 ≤ m.mode
def AfterG (K : PySem.W.Frag) (C : CHp) (r : Addr) (m' : M) (X : Hp → Prop) : Prop := ∀ (C' : CHp) (H' : Hp) (A' : Adr), Sub C' H' → Kp rdK C C' → RdAt K C' r A' m' → A'.rc = 7 → Good A' m' → X H'
theorem AfterG.to {C : CHp} {r : Addr} {m' : M} {X : Hp → Prop} {tc rc : Nat} (k : AfterG K C r m' X) (h : tc = 3 ∨ 22 ≤ m'.mode) (hr : rc = 7) : After K C r m' tc rc X := fun C' H' A' S kp R e1 e2 => k C' H' A' S kp R (e2.trans hr) (by unfold Good; rw [e1]; exact h)
theorem AfterG.lift {C C1 : CHp} {r : Addr} {m' : M} {X : Hp → Prop} (k : AfterG K C r m' X) (kp : Kp rdK C C1) : AfterG K C1 r m' X := fun C' H' A' S kp2 R e1 e2 => k C' H' A' S (kp.trans kp2) R e1 e2
theorem mode_fail (m : M) (k : Nat) : 22 ≤ (m.fail k).mode := by show 22 ≤ 26; decide
section
variable {σ : L2.St} {H : Hp} {ta tb te : TE} {x y : V} {tt tu : TT} {D : Ends} {A B U : TS}
theorem dec_vn (a b : Nat) : decide (vn a = vn b) = decide (a = b) := by
  rw [decide_eq_decide]
  constructor
  · intro h; exact Int.ofNat.inj (V.int.inj h)
  · intro h; rw [h]
theorem val_eqN {a b : Nat} (ha : Val ta σ H (vn a)) (hb : Val tb σ H (vn b)) : Val (tOp rEq ta tb) σ H (.bl (decide (a = b))) := by
  rw [← dec_vn]; exact val_eq ha hb rfl
theorem val_neN {a b : Nat} (ha : Val ta σ H (vn a)) (hb : Val tb σ H (vn b)) : Val (tOp rNe ta tb) σ H (.bl (!decide (a = b))) := by
  rw [← dec_vn]; exact val_ne ha hb rfl
theorem vt_eq {a : Nat} (b : Nat) (ha : Val ta σ H (vn a)) (hb : Val tb σ H (vn b)) : ValT (tTest (tOp rEq ta tb)) σ H (decide (a = b)) := vt_test (val_eqN ha hb)
theorem vt_lt {a b : Nat} (ha : Val ta σ H (vn a)) (hb : Val tb σ H (vn b)) : ValT (tTest (tOp (rI0 fun i j => .bl (decide (i < j))) ta tb)) σ H (decide (a < b)) := by
  have e : decide ((a : Int) < (b : Int)) = decide (a < b) := by simp
  rw [← e]
  exact vt_test (val_i2 ha hb)
/-- a predicate of signs, called -/
theorem vt_sign {f : Nat → Bool} {c : Nat} (ha : Val te σ H (vn c)) : ValT (tB (tCall (spNB f) [] E0 (tCons te tNil))) σ H (f c) := vt_b (val_call (va_cons ha va_nil) fun _ q => ⟨_, rfl, c, rfl, q⟩)
/-- .. where the heap may grow -/
def GT' (tt : TT) (σ : L2.St) (H : Hp) (b : Bool) : Prop := ∀ Q : Bool → Hp → Prop, (∀ H', Same H H' → Q b H') → tt σ H Q
theorem ValT.g {b : Bool} (h : ValT tt σ H b) : GT' tt σ H b := fun Q q => h Q (q H fun _ _ e => e)
theorem g_not {b : Bool} (h : GT' tt σ H b) : GT' (tNot tt) σ H (!b) := fun Q q => h _ fun H' s => q H' s
theorem g_or {a b : Bool} (h1 : GT' tt σ H a) (h2 : ∀ H', Same H H' → GT' tu σ H' b) : GT' (tOr tt tu) σ H (a || b) := fun Q q => h1 _ fun H1 s1 => by
  cases a with
  | true => exact q H1 s1
  | false => exact h2 H1 s1 Q fun H2 s2 => q H2 (s1.trans s2)
theorem g_and {a b : Bool} (h1 : GT' tt σ H a) (h2 : ∀ H', Same H H' → GT' tu σ H' b) : GT' (tAnd tt tu) σ H (a && b) := fun Q q => h1 _ fun H1 s1 => by
  cases a with
  | false => exact q H1 s1
  | true => exact h2 H1 s1 Q fun H2 s2 => q H2 (s1.trans s2)
theorem sg_if {b : Bool} (h : GT' tt σ H b) (h1 : b = true → ∀ H', Same H H' → A D σ H') (h2 : b = false → ∀ H', Same H H' → B D σ H') : tIfS tt A B D σ H := h _ fun H' s => by
  cases b with
  | true => exact h1 rfl H' s
  | false => exact h2 rfl H' s
theorem qg_if {b : Bool} (h : GT' tt σ H b) (h1 : b = true → ∀ H', Same H H' → A { D with nx := U D } σ H') (h2 : b = false → ∀ H', Same H H' → B { D with nx := U D } σ H') : tSeq (tIfS tt A B) U D σ H := sg_if (D := { D with nx := U D }) h h1 h2
end
/-! only_step, add_to_name, behind_value_step -/
def spOnly (K : PySem.W.Frag) : Sp := Sp4 fun a b w' k' H Q => ∃ (C : CHp) (r : Addr) (A : Adr) (m : M) (c w k : Nat), a = .ref r ∧ b = vn c ∧ w' = vn w ∧ k' = vn k ∧ Sub C H ∧ RdAt K C r A m ∧ A.rc = 7 ∧ A.tc = 3 ∧ AfterG K C r (m.only c w k) (Q .non)
theorem ok_only_step (T : Tx K mg) : FnOk P w K mg base CX0 2 (He.fAd K ("only_step", none)) (fdA K ("only_step", none)) ["reader", "sign", "wanted", "mode_behind"] (spOnly K) := by
  refine (F_only_step T).ok sc_only_step (fun vs H Q E h => Sp4.len h) (fun cdv A outer s H vs Q E hr h => ⟨_, PSs.nox (pss_one (ps_if (pt_cmpR op_eq (pv 1) (pv 2) (nomark _)) (pss_one (ps_fld (pv 0) (pv 3) rfl)) (pss_one (ps_expr (pe_meth (pv 0) (c_Reader T) (m_Reader_fail T) (ok_Reader_fail T) (hr.mono (by decide)) (B_Reader_fail T) .nil pass0 (pa_cons (pe_gi rfl (i_WRONG_SIGN T)) pa_nil)))))), ?_⟩)
  show _
  try simp only [cxK, cxK2]
  obtain ⟨a, b, w', k', rfl, C, r, A, m, c, wn, kn, rfl, rfl, rfl, rfl, hS, R, hc, ht, q⟩ := h
  unfold M.only at q
  refine s_if (vt_eq wn (val_var rfl) (val_var rfl)) (fun e => ?_) (fun e => ?_)
  · rw [if_pos (of_decide_eq_true e)] at q
    exact s_mode (k := kn) T hS R (fun _ => val_var rfl) (val_var rfl) (q.to (.inl ht) hc)
  · rw [if_neg (of_decide_eq_false e)] at q
    exact s_fail (k := 1) hS R (val_var rfl) val_c (q.to (.inr (mode_fail _ _)) hc)
def spAdd (K : PySem.W.Frag) : Sp := Sp3 fun a n b H Q => ∃ (C : CHp) (r : Addr) (A : Adr) (m : M) (c : Nat), a = .ref r ∧ b = vn c ∧ Sub C H ∧ RdAt K C r A m ∧ A.rc = 7 ∧ A.tc = 3 ∧
  ((n = .ref A.ptn ∧ AfterG K C r (m.addTag c) (Q .non)) ∨ (n = .ref A.pan ∧ AfterG K C r (m.addAttr c) (Q .non)))
theorem ok_add_to_name (T : Tx K mg) : FnOk P w K mg base CX0 2 (He.fAd K ("add_to_name", none)) (fdA K ("add_to_name", none)) ["reader", "name", "sign"] (spAdd K) := by
  refine (F_add_to_name T).ok sc_add_to_name (fun vs H Q E h => Sp3.len h) (fun cdv A outer s H vs Q E hr h => ⟨_, PSs.nox (pss_one (ps_if (pt_cmpR op_lt (pe_callB call_len_seq (by rfl) (n_len T) (by decide +kernel) (pa_cons (pv 1) pa_nil)) (pe_gi rfl (i_LONGEST_NAME T)) (nomark _)) (pss_one (ps_expr (pe_bm PySem.F.plainAttrs_list PySem.F.slot_list_append PySem.F.type_list_append mt_append (pv 1) (pa_cons (pv 2) pa_nil)))) (pss_one (ps_expr (pe_meth (pv 0) (c_Reader T) (m_Reader_fail T) (ok_Reader_fail T) (hr.mono (by decide)) (B_Reader_fail T) .nil pass0 (pa_cons (pe_gi rfl (i_LONG_NAME T)) pa_nil)))))), ?_⟩)
  show _
  try simp only [cxK, cxK2]
  obtain ⟨a, n, b, rfl, C, r, A, m, c, rfl, rfl, hS, R, hc, ht, ⟨rfl, q⟩ | ⟨rfl, q⟩⟩ := h
  · unfold M.addTag at q
    have hl := val_len (K := K) (ta := tVar 1) (σ := L2.start ["reader", "name", "sign"] [V.ref r, V.ref A.ptn, vn c]) (val_var rfl) (SqL.of (hS _ _ _ R.tg))
    rw [nts_len] at hl
    refine s_if (vt_lt (b := 32) hl val_c) (fun e => ?_) (fun e => ?_)
    · have e' : m.tag.length < 32 := of_decide_eq_true e
      rw [if_pos e'] at q
      refine s_app hS (val_var rfl) (val_var rfl) R.tg (by rw [nts_len]; exact size_lt (by omega)) fun H' S => ?_
      have en : nts m.tag ++ [vn c] = nts (m.tag ++ [c]) := (nts_app m.tag [c]).symm
      rw [en] at S
      exact q.to (.inl ht) hc _ H' _ S (Kp.mut R.tg (by rw [ht]; exact rdN)) (R.setTag ht _) rfl rfl
    · rw [if_neg (of_decide_eq_false e)] at q
      exact s_fail (k := 2) hS R (val_var rfl) val_c (q.to (.inr (mode_fail _ _)) hc)
  · unfold M.addAttr at q
    have hl := val_len (K := K) (ta := tVar 1) (σ := L2.start ["reader", "name", "sign"] [V.ref r, V.ref A.pan, vn c]) (val_var rfl) (SqL.of (hS _ _ _ R.an))
    rw [nts_len] at hl
    refine s_if (vt_lt (b := 32) hl val_c) (fun e => ?_) (fun e => ?_)
    · have e' : m.attr.length < 32 := of_decide_eq_true e
      rw [if_pos e'] at q
      refine s_app hS (val_var rfl) (val_var rfl) R.an (by rw [nts_len]; exact size_lt (by omega)) fun H' S => ?_
      have en : nts m.attr ++ [vn c] = nts (m.attr ++ [c]) := (nts_app m.attr [c]).symm
      rw [en] at S
      exact q.to (.inl ht) hc _ H' _ S (Kp.mut R.an rdN) (R.setAttr _) rfl rfl
    · rw [if_neg (of_decide_eq_false e)] at q
      exact s_fail (k := 2) hS R (val_var rfl) val_c (q.to (.inr (mode_fail _ _)) hc)
/-- a def of (reader, sign), told by the mirror -/
def spStep0 (K : PySem.W.Frag) (Pm : M → Prop) (f : M → Nat → M) : Sp := Sp2 fun a b H Q => ∃ (C : CHp) (r : Addr) (A : Adr) (m : M) (c : Nat), a = .ref r ∧ b = vn c ∧ Sub C H ∧ RdAt K C r A m ∧ A.rc = 7 ∧ A.tc = 3 ∧ Pm m ∧ AfterG K C r (f m c) (Q .non)
def Sizes (m : M) : Prop := m.run.length ≤ 100000 ∧ m.toks.length ≤ 100000 ∧ m.attrs.length ≤ 100001
section
variable {σ : L2.St} {H : Hp} {ta te : TE} {D : Ends} {C : CHp} {r : Addr} {A : Adr} {m : M}
theorem s_finOpen {en : Nat} (hS : Sub C H) (h : RdAt K C r A m) (ha : Val ta σ H (.ref r)) (hv : Val te σ H (vn en)) (hc : A.rc = 7) (hl : m.toks.length ≤ 1000000) (hl2 : m.attrs.length ≤ 1000000) (nx : AfterG K C r (m.finOpen en) fun H' => D.nx σ H') : tDrop (tMeth (cR K) "finish_open_tag" (spFinOpen K) [] E0 ta (tCons te tNil)) D σ H :=
  s_drop (t_meth ha (hS _ _ _ h.o) rL_finish_open_tag (va_cons hv va_nil) ⟨_, _, rfl, C, r, A, m, en, rfl, rfl, hS, h, hl, hl2, fun tc htc => nx.to (by
    rcases htc with e | ⟨_, e⟩
    · exact .inl e
    · exact .inr (by rw [e]; decide)) hc⟩)
end
theorem ok_behind_value_step (T : Tx K mg) : FnOk P w K mg base CX0 5 (He.fAd K ("behind_value_step", none)) (fdA K ("behind_value_step", none)) ["reader", "sign"] (spStep0 K Sizes M.sBehind) := by
  refine (F_behind_value_step T).ok sc_behind_value_step (fun vs H Q E h => Sp2.len h) (fun cdv A outer s H vs Q E hr h => ⟨_, PSs.nox (pss_one (ps_if (pt_val (pe_call (ok_is_blank T) (hr.mono (by decide)) rfl (g_is_blank T) (F_is_blank T).kp (B_is_blank T) .nil pass0 (pa_cons (pv 1) pa_nil))) (pss_one (ps_fld (pv 0) (pe_gi rfl (i_GAP T)) rfl)) (pss_one (ps_if (pt_cmpR op_eq (pv 1) (pe_gi rfl (i_SLASH T)) (nomark _)) (pss_one (ps_fld (pv 0) (pe_gi rfl (i_BEHIND_SLASH T)) rfl)) (pss_one (ps_if (pt_cmpR op_eq (pv 1) (pe_gi rfl (i_GREATER T)) (nomark _)) (pss_one (ps_expr (pe_meth (pv 0) (c_Reader T) (m_Reader_finish_open_tag T) (ok_Reader_finish_open_tag T) (hr.mono (by decide)) (B_Reader_finish_open_tag T) .nil pass0 (pa_cons pe_int pa_nil)))) (pss_one (ps_expr (pe_meth (pv 0) (c_Reader T) (m_Reader_fail T) (ok_Reader_fail T) (hr.mono (by decide)) (B_Reader_fail T) .nil pass0 (pa_cons (pe_gi rfl (i_WRONG_SIGN T)) pa_nil)))))))))), ?_⟩)
  show _
  try simp only [cxK, cxK2]
  obtain ⟨a, b, rfl, C, r, A, m, c, rfl, rfl, hS, R, hc, ht, ⟨z1, z2, z3⟩, q⟩ := h
  unfold M.sBehind at q
  refine s_if (vt_sign (val_var rfl)) (fun e => ?_) (fun e => ?_)
  · rw [if_pos e] at q
    exact s_mode (k := 9) T hS R (fun _ => val_var rfl) val_c (q.to (.inl ht) hc)
  rw [if_neg (by rw [e]; exact Bool.false_ne_true)] at q
  refine s_if (vt_eq 47 (val_var rfl) val_c) (fun e => ?_) (fun e => ?_)
  · rw [if_pos (of_decide_eq_true e)] at q
    exact s_mode (k := 16) T hS R (fun _ => val_var rfl) val_c (q.to (.inl ht) hc)
  rw [if_neg (of_decide_eq_false e)] at q
  refine s_if (vt_eq 62 (val_var rfl) val_c) (fun e => ?_) (fun e => ?_)
  · rw [if_pos (of_decide_eq_true e)] at q
    exact s_finOpen (en := 0) hS R (val_var rfl) val_c hc (by omega) (by omega) q
  rw [if_neg (of_decide_eq_false e)] at q
  exact s_fail (k := 1) hS R (val_var rfl) val_c (q.to (.inr (mode_fail _ _)) hc)

end Sm

set_option Elab.async false
set_option linter.all false
set_option maxRecDepth 100000
set_option maxHeartbeats 0
namespace Sm
open PySem PySem.Spec PyProof.Rows L2
variable {P : Program} {w : World} {K : PySem.W.Frag} {mg : Str → Option Value} {base : Heap}
/-! ### the steps -/
section
variable {σ : L2.St} {H : Hp} {t1 t2 t3 t4 : TE} {D : Ends} {U : TS} {C : CHp} {r : Addr} {A : Adr} {m : M} {c : Nat}
theorem s_only {wn kn : Nat} (hS : Sub C H) (R : RdAt K C r A m) (hc : A.rc = 7) (ht : A.tc = 3) (h1 : Val t1 σ H (.ref r)) (h2 : Val t2 σ H (vn c)) (h3 : Val t3 σ H (vn wn)) (h4 : Val t4 σ H (vn kn)) (q : AfterG K C r (m.only c wn kn) fun H' => D.nx σ H') : tDrop (tCall (spOnly K) [] E0 (tCons t1 (tCons t2 (tCons t3 (tCons t4 tNil))))) D σ H :=
  s_drop (t_call (va_cons h1 (va_cons h2 (va_cons h3 (va_cons h4 va_nil)))) ⟨_, _, _, _, rfl, C, r, A, m, c, wn, kn, rfl, rfl, rfl, rfl, hS, R, hc, ht, q⟩)
theorem s_addTag (hS : Sub C H) (R : RdAt K C r A m) (hc : A.rc = 7) (ht : A.tc = 3) (h1 : Val t1 σ H (.ref r)) (h2 : Val t2 σ H (.ref A.ptn)) (h3 : Val t3 σ H (vn c)) (q : AfterG K C r (m.addTag c) fun H' => D.nx σ H') : tDrop (tCall (spAdd K) [] E0 (tCons t1 (tCons t2 (tCons t3 tNil)))) D σ H :=
  s_drop (t_call (va_cons h1 (va_cons h2 (va_cons h3 va_nil))) ⟨_, _, _, rfl, C, r, A, m, c, rfl, rfl, hS, R, hc, ht, .inl ⟨rfl, q⟩⟩)
theorem s_addAttr (hS : Sub C H) (R : RdAt K C r A m) (hc : A.rc = 7) (ht : A.tc = 3) (h1 : Val t1 σ H (.ref r)) (h2 : Val t2 σ H (.ref A.pan)) (h3 : Val t3 σ H (vn c)) (q : AfterG K C r (m.addAttr c) fun H' => D.nx σ H') : tDrop (tCall (spAdd K) [] E0 (tCons t1 (tCons t2 (tCons t3 tNil)))) D σ H :=
  s_drop (t_call (va_cons h1 (va_cons h2 (va_cons h3 va_nil))) ⟨_, _, _, rfl, C, r, A, m, c, rfl, rfl, hS, R, hc, ht, .inr ⟨rfl, q⟩⟩)
theorem s_behind (hS : Sub C H) (R : RdAt K C r A m) (hc : A.rc = 7) (ht : A.tc = 3) (z : Sizes m) (h1 : Val t1 σ H (.ref r)) (h2 : Val t2 σ H (vn c)) (q : AfterG K C r (m.sBehind c) fun H' => D.nx σ H') : tDrop (tCall (spStep0 K Sizes M.sBehind) [] E0 (tCons t1 (tCons t2 tNil))) D σ H :=
  s_drop (t_call (va_cons h1 (va_cons h2 va_nil)) ⟨_, _, rfl, C, r, A, m, c, rfl, rfl, hS, R, hc, ht, z, q⟩)
end
theorem SPre.sz {m : M} (h : SPre m) : Sizes m := ⟨h.run, h.toks, Nat.le_succ_of_le h.attrs⟩
theorem SPre.szA {m : M} (h : SPre m) : Sizes m.finAttr := ⟨by show 0 ≤ 100000; decide, h.toks, by
  show (m.attrs ++ [_]).length ≤ 100001
  have := h.attrs
  rw [List.length_append, List.length_singleton]; omega⟩
theorem Good.tc3 {A : Adr} {m : M} {k : Nat} (h : Good A m) (e : m.mode = k) (hk : k < 22) : A.tc = 3 := by
  rcases h with h | h
  · exact h
  · omega
/-- a step of the table -/
def spStep (K : PySem.W.Frag) (k : Nat) (f : M → Nat → M) : Sp := Sp2 fun a b H Q => ∃ (C : CHp) (r : Addr) (A : Adr) (m : M) (c : Nat), a = .ref r ∧ b = vn c ∧ Sub C H ∧ RdAt K C r A m ∧ A.rc = 7 ∧ Good A m ∧ SPre m ∧ m.mode = k ∧ AfterG K C r (f m c) (Q .non)
theorem isEmptyT {l : NL} (e : (!l.isEmpty) = true) : ¬ l = [] := by intro z; rw [z] at e; cases e
theorem isEmptyF {l : NL} (e : (!l.isEmpty) = false) : l = [] := by
  cases l with
  | nil => rfl
  | cons x y => cases e
theorem ok_text_step (T : Tx K mg) : FnOk P w K mg base CX0 5 (He.fAd K ("text_step", none)) (fdA K ("text_step", none)) ["reader", "sign"] (spStep K 0 M.sText) := by
  refine (F_text_step T).ok sc_text_step (fun vs H Q E h => Sp2.len h) (fun cdv A outer s H vs Q E hr h => ⟨_, PSs.nox (pss_cons (ps_if (pt_cmpR op_eq (pv 1) (pe_gi rfl (i_LESS T)) (nomark _)) (pss_cons (ps_if (pt_truth (pe_fld (pv 0) rfl) (by intro _; rfl)) (pss_one (ps_expr (pe_meth (pv 0) (c_Reader T) (m_Reader_finish_run T) (ok_Reader_finish_run T) (hr.mono (by decide)) (B_Reader_finish_run T) .nil pass0 (pa_cons (pe_gi rfl (i_RUN_OF_TEXT T)) (pa_cons (pe_fld (pv 0) rfl) pa_nil))))) pss_nil) (pss_cons (ps_fld (pv 0) (pe_fld (pv 0) rfl) rfl) (pss_cons (ps_fld (pv 0) (pe_gi rfl (i_BEHIND_LESS T)) rfl) (pss_one ps_retN)))) pss_nil) (pss_cons (ps_if (pt_not (pt_truth (pe_fld (pv 0) rfl) (by intro _; rfl))) (pss_one (ps_fld (pv 0) (pe_fld (pv 0) rfl) rfl)) pss_nil) (pss_one (ps_if (pt_cmpR op_eq (pv 1) (pe_gi rfl (i_AMPERSAND T)) (nomark _)) (pss_one (ps_fld (pv 0) (pe_gi rfl (i_REFERENCE_IN_TEXT T)) rfl)) (pss_one (ps_expr (pe_bm PySem.F.plainAttrs_list PySem.F.slot_list_append PySem.F.type_list_append mt_append (pe_fld (pv 0) rfl) (pa_cons (pv 1) pa_nil)))))))), ?_⟩)
  show _
  try simp only [cxK, cxK2]
  obtain ⟨a, b, rfl, C, r, A, m, c, rfl, rfl, hS, R, hc, hg, sp, hm, q⟩ := h
  have ht := hg.tc3 hm (by decide)
  unfold M.sText at q
  refine q_if (vt_eq 60 (val_var rfl) val_c) (fun e => ?_) (fun e => ?_)
  · rw [if_pos (of_decide_eq_true e)] at q
    refine q_if (vt_nts (v_run T hS R (val_var rfl)) (hS _ _ _ R.rn)) (fun e => ?_) (fun e => ?_)
    · rw [if_neg (isEmptyT e)] at q
      refine s_finRun (k := 0) (st := m.count) hS R (val_var rfl) val_c (v_count T hS R (val_var rfl)) hc (by have := sp.toks; omega) fun C1 H1 A1 S1 K1 R1 e1 e2 => ?_
      refine q_begun (b := m.count) T S1 R1 (fun _ => val_var rfl) (v_count (m := m.finRun 0 m.count) T S1 R1 (val_var rfl)) fun C2 H2 A2 S2 K2 R2 e3 e4 => ?_
      refine q_mode (k := 5) T S2 R2 (fun _ => val_var rfl) val_c ?_
      exact (q.lift (K1.trans K2)).to (.inl (by rw [e3, e1]; exact ht)) (by rw [e4, e2])
    · rw [if_pos (isEmptyF e)] at q
      refine q_begun (b := m.count) T hS R (fun _ => val_var rfl) (v_count T hS R (val_var rfl)) fun C2 H2 A2 S2 K2 R2 e3 e4 => ?_
      refine q_mode (k := 5) T S2 R2 (fun _ => val_var rfl) val_c ?_
      exact (q.lift K2).to (.inl (by rw [e3]; exact ht)) (by rw [e4, hc])
  rw [if_neg (of_decide_eq_false e)] at q
  refine q_if (vt_not (vt_nts (v_run T hS R (val_var rfl)) (hS _ _ _ R.rn))) (fun e => ?_) (fun e => ?_)
  · have e' : m.run = [] := isEmptyF (by simpa using e)
    rw [if_pos e'] at q
    refine s_begun (b := m.count) T hS R (fun _ => val_var rfl) (v_count T hS R (val_var rfl)) fun C2 H2 A2 S2 K2 R2 e3 e4 => ?_
    refine s_if (vt_eq 38 (val_var rfl) val_c) (fun e => ?_) (fun e => ?_)
    · rw [if_pos (of_decide_eq_true e)] at q
      exact s_mode (k := 1) T S2 R2 (fun _ => val_var rfl) val_c ((q.lift K2).to (.inl (by rw [e3]; exact ht)) (by rw [e4, hc]))
    · rw [if_neg (of_decide_eq_false e)] at q
      exact s_appRun (c := c) T S2 R2 (fun _ => val_var rfl) (by rw [e4, hc]) (val_var rfl) (by have := sp.run; show m.run.length ≤ 1000000; omega) ((q.lift K2).to (.inl (by rw [e3]; exact ht)) (by rw [e4, hc]))
  · have e' : ¬ m.run = [] := isEmptyT (by simpa using e)
    rw [if_neg e'] at q
    refine s_if (vt_eq 38 (val_var rfl) val_c) (fun e => ?_) (fun e => ?_)
    · rw [if_pos (of_decide_eq_true e)] at q
      exact s_mode (k := 1) T hS R (fun _ => val_var rfl) val_c (q.to (.inl ht) hc)
    · rw [if_neg (of_decide_eq_false e)] at q
      exact s_appRun (c := c) T hS R (fun _ => val_var rfl) hc (val_var rfl) (by have := sp.run; omega) (q.to (.inl ht) hc)
def spFinRef (K : PySem.W.Frag) : Sp := Sp2 fun a b H Q => ∃ (C : CHp) (r : Addr) (A : Adr) (m : M) (k : Nat), a = .ref r ∧ b = vn k ∧ Sub C H ∧ RdAt K C r A m ∧ A.rc = 7 ∧ A.tc = 3 ∧ m.run.length ≤ 100000 ∧ AfterG K C r (m.finRef k) (Q .non)
theorem ok_finish_reference (T : Tx K mg) : FnOk P w K mg base CX0 5 (He.fAd K ("finish_reference", none)) (fdA K ("finish_reference", none)) ["reader", "mode_behind"] (spFinRef K) := by
  refine (F_finish_reference T).ok sc_finish_reference (fun vs H Q E h => Sp2.len h) (fun cdv A outer s H vs Q E hr h => ⟨_, PSs.nox (pss_cons (ps_set (i := 2) sc_finish_reference.nd rfl (Or.inl rfl) (pe_call (ok_byte_of T) (hr.mono (by decide)) rfl (g_byte_of T) (F_byte_of T).kp (B_byte_of T) .nil pass0 (pa_cons (pe_fld (pv 0) rfl) pa_nil))) (pss_cons (ps_if (pt_cmpR op_isN (pv 2) pe_non (nomark _)) (pss_cons (ps_expr (pe_meth (pv 0) (c_Reader T) (m_Reader_fail T) (ok_Reader_fail T) (hr.mono (by decide)) (B_Reader_fail T) .nil pass0 (pa_cons (pe_gi rfl (i_WRONG_REFERENCE T)) pa_nil))) (pss_one ps_retN)) pss_nil) (pss_cons (ps_expr (pe_bm PySem.F.plainAttrs_list PySem.F.slot_list_append PySem.F.type_list_append mt_append (pe_fld (pv 0) rfl) (pa_cons (pv 2) pa_nil))) (pss_cons (ps_fld (pv 0) (pe_lst pa_nil) rfl) (pss_one (ps_fld (pv 0) (pv 1) rfl)))))), ?_⟩)
  show _
  try simp only [cxK, cxK2]
  obtain ⟨a, b, rfl, C, r, A, m, k, rfl, rfl, hS, R, hc, ht, hl, q⟩ := h
  unfold M.finRef at q
  refine q_set (t_call (va_cons (v_body T hS R (val_var rfl)) va_nil) ⟨_, rfl, A.pb, m.body, rfl, hS _ _ _ R.bd, fun H1 s1 => ?_⟩)
  have S1 := hS.same s1
  cases e : Vaesca.byteOf m.body with
  | none =>
    rw [e] at q
    refine q_if (b := true) (vt_test fun Q q => ⟨_, rfl, rfl, q⟩) (fun _ => ?_) (fun e => by cases e)
    exact q_fail (k := 4) S1 R (val_var rfl) val_c (q.to (.inr (mode_fail _ _)) hc)
  | some n =>
    rw [e] at q
    refine q_if (b := false) (vt_test fun Q q => ⟨_, rfl, rfl, q⟩) (fun e => by cases e) (fun _ => ?_)
    refine q_appRun (c := n) T S1 R (fun _ => val_var rfl) hc (val_var rfl) (by omega) fun C2 H2 A2 S2 K2 R2 e1 e2 => ?_
    refine q_newBody (l := []) T S2 R2 (fun _ => val_var rfl) va_nil (by decide) fun C3 H3 A3 S3 K3 R3 e3 e4 => ?_
    exact s_mode (k := k) T S3 R3 (fun _ => val_var rfl) (val_var rfl) ((q.lift (K2.trans K3)).to (.inl (by rw [e3, e1]; exact ht)) (by rw [e4, e2, hc]))
def spRef (K : PySem.W.Frag) : Sp := Sp3 fun a b k' H Q => ∃ (C : CHp) (r : Addr) (A : Adr) (m : M) (c k : Nat), a = .ref r ∧ b = vn c ∧ k' = vn k ∧ Sub C H ∧ RdAt K C r A m ∧ A.rc = 7 ∧ A.tc = 3 ∧ m.run.length ≤ 100000 ∧ AfterG K C r (m.sRef k c) (Q .non)
theorem ok_reference_step (T : Tx K mg) : FnOk P w K mg base CX0 6 (He.fAd K ("reference_step", none)) (fdA K ("reference_step", none)) ["reader", "sign", "mode_behind"] (spRef K) := by
  refine (F_reference_step T).ok sc_reference_step (fun vs H Q E h => Sp3.len h) (fun cdv A outer s H vs Q E hr h => ⟨_, PSs.nox (pss_one (ps_if (pt_cmpR op_eq (pv 1) (pe_gi rfl (i_SEMICOLON T)) (nomark _)) (pss_one (ps_expr (pe_call (ok_finish_reference T) (hr.mono (by decide)) rfl (g_finish_reference T) (F_finish_reference T).kp (B_finish_reference T) .nil pass0 (pa_cons (pv 0) (pa_cons (pv 2) pa_nil))))) (pss_one (ps_if (PW.pt (pw_and (pt_val (pe_call (ok_is_body_sign T) (hr.mono (by decide)) rfl (g_is_body_sign T) (F_is_body_sign T).kp (B_is_body_sign T) .nil pass0 (pa_cons (pv 1) pa_nil))) (pw_and1 (pt_cmpR op_lt (pe_callB call_len_seq (by rfl) (n_len T) (by decide +kernel) (pa_cons (pe_fld (pv 0) rfl) pa_nil)) (pe_gi rfl (i_LONGEST_BODY T)) (nomark _))))) (pss_one (ps_expr (pe_bm PySem.F.plainAttrs_list PySem.F.slot_list_append PySem.F.type_list_append mt_append (pe_fld (pv 0) rfl) (pa_cons (pv 1) pa_nil)))) (pss_one (ps_expr (pe_meth (pv 0) (c_Reader T) (m_Reader_fail T) (ok_Reader_fail T) (hr.mono (by decide)) (B_Reader_fail T) .nil pass0 (pa_cons (pe_gi rfl (i_WRONG_REFERENCE T)) pa_nil)))))))), ?_⟩)
  show _
  try simp only [cxK, cxK2]
  obtain ⟨a, b, k', rfl, C, r, A, m, c, k, rfl, rfl, rfl, hS, R, hc, ht, hl, q⟩ := h
  unfold M.sRef at q
  refine s_if (vt_eq 59 (val_var rfl) val_c) (fun e => ?_) (fun e => ?_)
  · rw [if_pos (of_decide_eq_true e)] at q
    exact s_drop (t_call (va_cons (val_var rfl) (va_cons (val_var rfl) va_nil)) ⟨_, _, rfl, C, r, A, m, k, rfl, rfl, hS, R, hc, ht, hl, q⟩)
  rw [if_neg (of_decide_eq_false e)] at q
  have hb := val_len (K := K) (v_body T hS R (val_var (σ := L2.start ["reader", "sign", "mode_behind"] [V.ref r, vn c, vn k]) (i := 0) rfl)) (SqL.of (hS _ _ _ R.bd))
  rw [nts_len] at hb
  refine s_if (vt_and (vt_sign (val_var rfl)) (fun _ => vt_lt (b := 4) hb val_c)) (fun e => ?_) (fun e => ?_)
  · rw [Bool.and_eq_true, decide_eq_true_eq] at e
    rw [if_pos e] at q
    exact s_appBody (c := c) T hS R (fun _ => val_var rfl) (val_var rfl) (by omega) (q.to (.inl ht) hc)
  · have e' : ¬ (isBody c = true ∧ m.body.length < 4) := fun z => by rw [z.1, decide_eq_true z.2] at e; cases e
    rw [if_neg e'] at q
    exact s_fail (k := 4) hS R (val_var rfl) val_c (q.to (.inr (mode_fail _ _)) hc)
theorem ok_text_reference_step (T : Tx K mg) : FnOk P w K mg base CX0 7 (He.fAd K ("text_reference_step", none)) (fdA K ("text_reference_step", none)) ["reader", "sign"] (spStep K 1 (M.sRef 0)) := by
  refine (F_text_reference_step T).ok sc_text_reference_step (fun vs H Q E h => Sp2.len h) (fun cdv A outer s H vs Q E hr h => ⟨_, PSs.nox (pss_one (ps_expr (pe_call (ok_reference_step T) (hr.mono (by decide)) rfl (g_reference_step T) (F_reference_step T).kp (B_reference_step T) .nil pass0 (pa_cons (pv 0) (pa_cons (pv 1) (pa_cons (pe_gi rfl (i_TEXT T)) pa_nil)))))), ?_⟩)
  show _
  try simp only [cxK, cxK2]
  obtain ⟨a, b, rfl, C, r, A, m, c, rfl, rfl, hS, R, hc, hg, sp, hm, q⟩ := h
  exact s_drop (t_call (va_cons (val_var rfl) (va_cons (val_var rfl) (va_cons (val_c (v := vn 0)) va_nil))) ⟨_, _, _, rfl, C, r, A, m, c, 0, rfl, rfl, rfl, hS, R, hc, hg.tc3 hm (by decide), sp.run, q⟩)
theorem ok_double_reference_step (T : Tx K mg) : FnOk P w K mg base CX0 7 (He.fAd K ("double_reference_step", none)) (fdA K ("double_reference_step", none)) ["reader", "sign"] (spStep K 2 (M.sRef 12)) := by
  refine (F_double_reference_step T).ok sc_double_reference_step (fun vs H Q E h => Sp2.len h) (fun cdv A outer s H vs Q E hr h => ⟨_, PSs.nox (pss_one (ps_expr (pe_call (ok_reference_step T) (hr.mono (by decide)) rfl (g_reference_step T) (F_reference_step T).kp (B_reference_step T) .nil pass0 (pa_cons (pv 0) (pa_cons (pv 1) (pa_cons (pe_gi rfl (i_DOUBLE_VALUE T)) pa_nil)))))), ?_⟩)
  show _
  try simp only [cxK, cxK2]
  obtain ⟨a, b, rfl, C, r, A, m, c, rfl, rfl, hS, R, hc, hg, sp, hm, q⟩ := h
  exact s_drop (t_call (va_cons (val_var rfl) (va_cons (val_var rfl) (va_cons (val_c (v := vn 12)) va_nil))) ⟨_, _, _, rfl, C, r, A, m, c, 12, rfl, rfl, rfl, hS, R, hc, hg.tc3 hm (by decide), sp.run, q⟩)
theorem ok_single_reference_step (T : Tx K mg) : FnOk P w K mg base CX0 7 (He.fAd K ("single_reference_step", none)) (fdA K ("single_reference_step", none)) ["reader", "sign"] (spStep K 3 (M.sRef 13)) := by
  refine (F_single_reference_step T).ok sc_single_reference_step (fun vs H Q E h => Sp2.len h) (fun cdv A outer s H vs Q E hr h => ⟨_, PSs.nox (pss_one (ps_expr (pe_call (ok_reference_step T) (hr.mono (by decide)) rfl (g_reference_step T) (F_reference_step T).kp (B_reference_step T) .nil pass0 (pa_cons (pv 0) (pa_cons (pv 1) (pa_cons (pe_gi rfl (i_SINGLE_VALUE T)) pa_nil)))))), ?_⟩)
  show _
  try simp only [cxK, cxK2]
  obtain ⟨a, b, rfl, C, r, A, m, c, rfl, rfl, hS, R, hc, hg, sp, hm, q⟩ := h
  exact s_drop (t_call (va_cons (val_var rfl) (va_cons (val_var rfl) (va_cons (val_c (v := vn 13)) va_nil))) ⟨_, _, _, rfl, C, r, A, m, c, 13, rfl, rfl, rfl, hS, R, hc, hg.tc3 hm (by decide), sp.run, q⟩)
theorem ok_bare_reference_step (T : Tx K mg) : FnOk P w K mg base CX0 7 (He.fAd K ("bare_reference_step", none)) (fdA K ("bare_reference_step", none)) ["reader", "sign"] (spStep K 4 (M.sRef 14)) := by
  refine (F_bare_reference_step T).ok sc_bare_reference_step (fun vs H Q E h => Sp2.len h) (fun cdv A outer s H vs Q E hr h => ⟨_, PSs.nox (pss_one (ps_expr (pe_call (ok_reference_step T) (hr.mono (by decide)) rfl (g_reference_step T) (F_reference_step T).kp (B_reference_step T) .nil pass0 (pa_cons (pv 0) (pa_cons (pv 1) (pa_cons (pe_gi rfl (i_BARE_VALUE T)) pa_nil)))))), ?_⟩)
  show _
  try simp only [cxK, cxK2]
  obtain ⟨a, b, rfl, C, r, A, m, c, rfl, rfl, hS, R, hc, hg, sp, hm, q⟩ := h
  exact s_drop (t_call (va_cons (val_var rfl) (va_cons (val_var rfl) (va_cons (val_c (v := vn 14)) va_nil))) ⟨_, _, _, rfl, C, r, A, m, c, 14, rfl, rfl, rfl, hS, R, hc, hg.tc3 hm (by decide), sp.run, q⟩)
theorem ok_behind_less_step (T : Tx K mg) : FnOk P w K mg base CX0 3 (He.fAd K ("behind_less_step", none)) (fdA K ("behind_less_step", none)) ["reader", "sign"] (spStep K 5 M.sLess) := by
  refine (F_behind_less_step T).ok sc_behind_less_step (fun vs H Q E h => Sp2.len h) (fun cdv A outer s H vs Q E hr h => ⟨_, PSs.nox (pss_one (ps_if (pt_val (pe_call (ok_is_small_letter T) (hr.mono (by decide)) rfl (g_is_small_letter T) (F_is_small_letter T).kp (B_is_small_letter T) .nil pass0 (pa_cons (pv 1) pa_nil))) (pss_cons (ps_fld (pv 0) (pe_lst (pa_cons (pv 1) pa_nil)) rfl) (pss_one (ps_fld (pv 0) (pe_gi rfl (i_OPEN_NAME T)) rfl))) (pss_one (ps_if (pt_cmpR op_eq (pv 1) (pe_gi rfl (i_SLASH T)) (nomark _)) (pss_one (ps_fld (pv 0) (pe_gi rfl (i_BEHIND_CLOSE T)) rfl)) (pss_one (ps_expr (pe_call (ok_only_step T) (hr.mono (by decide)) rfl (g_only_step T) (F_only_step T).kp (B_only_step T) .nil pass0 (pa_cons (pv 0) (pa_cons (pv 1) (pa_cons (pe_gi rfl (i_EXCLAMATION T)) (pa_cons (pe_gi rfl (i_BEHIND_EXCLAMATION T)) pa_nil))))))))))), ?_⟩)
  show _
  try simp only [cxK, cxK2]
  obtain ⟨a, b, rfl, C, r, A, m, c, rfl, rfl, hS, R, hc, hg, sp, hm, q⟩ := h
  have ht := hg.tc3 hm (by decide)
  unfold M.sLess at q
  refine s_if (vt_sign (val_var rfl)) (fun e => ?_) (fun e => ?_)
  · rw [if_pos e] at q
    refine q_newTag (l := [c]) T hS R (fun _ => val_var rfl) (va_cons (val_var rfl) va_nil) (by show 1 ≤ 100; decide) fun C2 H2 A2 S2 K2 R2 e3 e4 => ?_
    exact s_mode (k := 6) T S2 R2 (fun _ => val_var rfl) val_c ((q.lift K2).to (.inl e3) (by rw [e4, hc]))
  rw [if_neg (by rw [e]; exact Bool.false_ne_true)] at q
  refine s_if (vt_eq 47 (val_var rfl) val_c) (fun e => ?_) (fun e => ?_)
  · rw [if_pos (of_decide_eq_true e)] at q
    exact s_mode (k := 7) T hS R (fun _ => val_var rfl) val_c (q.to (.inl ht) hc)
  rw [if_neg (of_decide_eq_false e)] at q
  exact s_only (wn := 33) (kn := 17) hS R hc ht (val_var rfl) (val_var rfl) val_c val_c q
theorem ok_open_name_step (T : Tx K mg) : FnOk P w K mg base CX0 6 (He.fAd K ("open_name_step", none)) (fdA K ("open_name_step", none)) ["reader", "sign"] (spStep K 6 M.sOpenName) := by
  refine (F_open_name_step T).ok sc_open_name_step (fun vs H Q E h => Sp2.len h) (fun cdv A outer s H vs Q E hr h => ⟨_, PSs.nox (pss_one (ps_if (pt_val (pe_call (ok_is_name_sign T) (hr.mono (by decide)) rfl (g_is_name_sign T) (F_is_name_sign T).kp (B_is_name_sign T) .nil pass0 (pa_cons (pv 1) pa_nil))) (pss_one (ps_expr (pe_call (ok_add_to_name T) (hr.mono (by decide)) rfl (g_add_to_name T) (F_add_to_name T).kp (B_add_to_name T) .nil pass0 (pa_cons (pv 0) (pa_cons (pe_fld (pv 0) rfl) (pa_cons (pv 1) pa_nil)))))) (pss_one (ps_expr (pe_call (ok_behind_value_step T) (hr.mono (by decide)) rfl (g_behind_value_step T) (F_behind_value_step T).kp (B_behind_value_step T) .nil pass0 (pa_cons (pv 0) (pa_cons (pv 1) pa_nil))))))), ?_⟩)
  show _
  try simp only [cxK, cxK2]
  obtain ⟨a, b, rfl, C, r, A, m, c, rfl, rfl, hS, R, hc, hg, sp, hm, q⟩ := h
  have ht := hg.tc3 hm (by decide)
  unfold M.sOpenName at q
  refine s_if (vt_sign (val_var rfl)) (fun e => ?_) (fun e => ?_)
  · rw [if_pos e] at q
    exact s_addTag hS R hc ht (val_var rfl) (v_tag T hS R (val_var rfl)) (val_var rfl) q
  rw [if_neg (by rw [e]; exact Bool.false_ne_true)] at q
  exact s_behind hS R hc ht sp.sz (val_var rfl) (val_var rfl) q
theorem ok_behind_close_step (T : Tx K mg) : FnOk P w K mg base CX0 2 (He.fAd K ("behind_close_step", none)) (fdA K ("behind_close_step", none)) ["reader", "sign"] (spStep K 7 M.sBehindClose) := by
  refine (F_behind_close_step T).ok sc_behind_close_step (fun vs H Q E h => Sp2.len h) (fun cdv A outer s H vs Q E hr h => ⟨_, PSs.nox (pss_one (ps_if (pt_val (pe_call (ok_is_small_letter T) (hr.mono (by decide)) rfl (g_is_small_letter T) (F_is_small_letter T).kp (B_is_small_letter T) .nil pass0 (pa_cons (pv 1) pa_nil))) (pss_cons (ps_fld (pv 0) (pe_lst (pa_cons (pv 1) pa_nil)) rfl) (pss_one (ps_fld (pv 0) (pe_gi rfl (i_CLOSE_NAME T)) rfl))) (pss_one (ps_expr (pe_meth (pv 0) (c_Reader T) (m_Reader_fail T) (ok_Reader_fail T) (hr.mono (by decide)) (B_Reader_fail T) .nil pass0 (pa_cons (pe_gi rfl (i_WRONG_SIGN T)) pa_nil)))))), ?_⟩)
  show _
  try simp only [cxK, cxK2]
  obtain ⟨a, b, rfl, C, r, A, m, c, rfl, rfl, hS, R, hc, hg, sp, hm, q⟩ := h
  have ht := hg.tc3 hm (by decide)
  unfold M.sBehindClose at q
  refine s_if (vt_sign (val_var rfl)) (fun e => ?_) (fun e => ?_)
  · rw [if_pos e] at q
    refine q_newTag (l := [c]) T hS R (fun _ => val_var rfl) (va_cons (val_var rfl) va_nil) (by show 1 ≤ 100; decide) fun C2 H2 A2 S2 K2 R2 e3 e4 => ?_
    exact s_mode (k := 8) T S2 R2 (fun _ => val_var rfl) val_c ((q.lift K2).to (.inl e3) (by rw [e4, hc]))
  rw [if_neg (by rw [e]; exact Bool.false_ne_true)] at q
  exact s_fail (k := 1) hS R (val_var rfl) val_c (q.to (.inr (mode_fail _ _)) hc)
theorem ok_close_name_step (T : Tx K mg) : FnOk P w K mg base CX0 5 (He.fAd K ("close_name_step", none)) (fdA K ("close_name_step", none)) ["reader", "sign"] (spStep K 8 M.sCloseName) := by
  refine (F_close_name_step T).ok sc_close_name_step (fun vs H Q E h => Sp2.len h) (fun cdv A outer s H vs Q E hr h => ⟨_, PSs.nox (pss_one (ps_if (pt_val (pe_call (ok_is_name_sign T) (hr.mono (by decide)) rfl (g_is_name_sign T) (F_is_name_sign T).kp (B_is_name_sign T) .nil pass0 (pa_cons (pv 1) pa_nil))) (pss_one (ps_expr (pe_call (ok_add_to_name T) (hr.mono (by decide)) rfl (g_add_to_name T) (F_add_to_name T).kp (B_add_to_name T) .nil pass0 (pa_cons (pv 0) (pa_cons (pe_fld (pv 0) rfl) (pa_cons (pv 1) pa_nil)))))) (pss_one (ps_if (pt_cmpR op_eq (pv 1) (pe_gi rfl (i_GREATER T)) (nomark _)) (pss_one (ps_expr (pe_meth0 (pv 0) (c_Reader T) (m_Reader_finish_close_tag T) (ok_Reader_finish_close_tag T) (hr.mono (by decide)) (B_Reader_finish_close_tag T) .nil pass0))) (pss_one (ps_expr (pe_meth (pv 0) (c_Reader T) (m_Reader_fail T) (ok_Reader_fail T) (hr.mono (by decide)) (B_Reader_fail T) .nil pass0 (pa_cons (pe_gi rfl (i_WRONG_SIGN T)) pa_nil)))))))), ?_⟩)
  show _
  try simp only [cxK, cxK2]
  obtain ⟨a, b, rfl, C, r, A, m, c, rfl, rfl, hS, R, hc, hg, sp, hm, q⟩ := h
  have ht := hg.tc3 hm (by decide)
  unfold M.sCloseName at q
  refine s_if (vt_sign (val_var rfl)) (fun e => ?_) (fun e => ?_)
  · rw [if_pos e] at q
    exact s_addTag hS R hc ht (val_var rfl) (v_tag T hS R (val_var rfl)) (val_var rfl) q
  rw [if_neg (by rw [e]; exact Bool.false_ne_true)] at q
  refine s_if (vt_eq 62 (val_var rfl) val_c) (fun e => ?_) (fun e => ?_)
  · rw [if_pos (of_decide_eq_true e)] at q
    exact s_finClose hS R (val_var rfl) (by have := sp.toks; omega) (q.to (.inl rfl) hc)
  rw [if_neg (of_decide_eq_false e)] at q
  exact s_fail (k := 1) hS R (val_var rfl) val_c (q.to (.inr (mode_fail _ _)) hc)
theorem ok_gap_step (T : Tx K mg) : FnOk P w K mg base CX0 6 (He.fAd K ("gap_step", none)) (fdA K ("gap_step", none)) ["reader", "sign"] (spStep K 9 M.sGap) := by
  refine (F_gap_step T).ok sc_gap_step (fun vs H Q E h => Sp2.len h) (fun cdv A outer s H vs Q E hr h => ⟨_, PSs.nox (pss_one (ps_if (pt_val (pe_call (ok_is_small_letter T) (hr.mono (by decide)) rfl (g_is_small_letter T) (F_is_small_letter T).kp (B_is_small_letter T) .nil pass0 (pa_cons (pv 1) pa_nil))) (pss_cons (ps_fld (pv 0) (pe_lst (pa_cons (pv 1) pa_nil)) rfl) (pss_one (ps_fld (pv 0) (pe_gi rfl (i_ATTRIBUTE_NAME T)) rfl))) (pss_one (ps_expr (pe_call (ok_behind_value_step T) (hr.mono (by decide)) rfl (g_behind_value_step T) (F_behind_value_step T).kp (B_behind_value_step T) .nil pass0 (pa_cons (pv 0) (pa_cons (pv 1) pa_nil))))))), ?_⟩)
  show _
  try simp only [cxK, cxK2]
  obtain ⟨a, b, rfl, C, r, A, m, c, rfl, rfl, hS, R, hc, hg, sp, hm, q⟩ := h
  have ht := hg.tc3 hm (by decide)
  unfold M.sGap at q
  refine s_if (vt_sign (val_var rfl)) (fun e => ?_) (fun e => ?_)
  · rw [if_pos e] at q
    refine q_newAttr (l := [c]) T hS R (fun _ => val_var rfl) (va_cons (val_var rfl) va_nil) (by show 1 ≤ 100; decide) fun C2 H2 A2 S2 K2 R2 e3 e4 => ?_
    exact s_mode (k := 10) T S2 R2 (fun _ => val_var rfl) val_c ((q.lift K2).to (.inl (by rw [e3]; exact ht)) (by rw [e4, hc]))
  rw [if_neg (by rw [e]; exact Bool.false_ne_true)] at q
  exact s_behind hS R hc ht sp.sz (val_var rfl) (val_var rfl) q

end Sm

set_option Elab.async false
set_option linter.all false
set_option maxRecDepth 100000
set_option maxHeartbeats 0
namespace Sm
open PySem PySem.Spec PyProof.Rows L2
variable {P : Program} {w : World} {K : PySem.W.Frag} {mg : Str → Option Value} {base : Heap}
/-- sign in (a, b, c), the tuple made on the way -/
theorem g_in3 {σ : L2.St} {H : Hp} {ta t1 t2 t3 : TE} {c x y z : Nat} (ha : Val ta σ H (vn c)) (h1 : Val t1 σ H (vn x)) (h2 : Val t2 σ H (vn y)) (h3 : Val t3 σ H (vn z)) :
    GT' (tTest (tOp (rIn K false) ta (tTup (tCons t1 (tCons t2 (tCons t3 tNil)))))) σ H (decide (c = x ∨ c = y ∨ c = z)) := fun Q q => by
  refine ha _ (h1 _ (h2 _ (h3 _ ⟨by show 3 ≤ sizeLine; decide, fun p hp => ⟨p, nts [x, y, z], rfl, .inr (SqT.of upd_same), rfl, flat_nats _, ?_⟩⟩)))
  have an : inV (vn c) (nts [x, y, z]) = ([x, y, z] : NL).contains c := any_nats c [x, y, z]
  rw [an]
  refine ⟨_, rfl, ?_⟩
  have e : (if false = true then !([x, y, z] : NL).contains c else ([x, y, z] : NL).contains c) = decide (c = x ∨ c = y ∨ c = z) := by
    rw [if_neg Bool.false_ne_true, Bool.eq_iff_iff]
    simp
  rw [e]
  exact q _ (Same.new hp)
/-- tuple(name) in attributes -/
theorem g_twice {σ : L2.St} {H : Hp} {ta : TE} {C : CHp} {r : Addr} {A : Adr} {m : M} (T : Tx K mg) (hS : Sub C H) (R : RdAt K C r A m) (h0 : ∀ H, Val ta σ H (.ref r)) :
    GT' (tB (tDIn (tCB (fun xs H Q => ∃ p ys, xs = [V.ref p] ∧ ((SqL K H p ys ∧ ∀ l, H l = none → Q (.ref l) (upd H l (.tup ys))) ∨ (SqT K H p ys ∧ Q (.ref p) H))) (tCons (tFld K ta "attribute_name") tNil)) (tFld K ta "attributes"))) σ H m.twice := fun Q q => by
  refine v_attr T hS R (h0 H) _ ⟨A.pan, nts m.attr, rfl, .inl ⟨SqL.of (hS _ _ _ R.an), fun l hl => ?_⟩⟩
  have S1 : Sub C (upd H l (.tup (nts m.attr))) := hS.same (Same.new hl)
  refine v_attrs T S1 R (h0 _) _ ⟨A.pa, _, rfl, DGet.t (k := keyOf m.attr) (S1 _ _ _ R.at_) (by rw [upd_same, key_map]), _, rfl, ?_⟩
  rw [← valV_any, any_kvs m.attr R.kv]
  exact q _ (Same.new hl)
theorem ok_attribute_name_step (T : Tx K mg) : FnOk P w K mg base CX0 6 (He.fAd K ("attribute_name_step", none)) (fdA K ("attribute_name_step", none)) ["reader", "sign"] (spStep K 10 M.sAttrName) := by
  refine (F_attribute_name_step T).ok sc_attribute_name_step (fun vs H Q E h => Sp2.len h) (fun cdv A outer s H vs Q E hr h => ⟨_, PSs.nox (pss_one (ps_if (pt_val (pe_call (ok_is_name_sign T) (hr.mono (by decide)) rfl (g_is_name_sign T) (F_is_name_sign T).kp (B_is_name_sign T) .nil pass0 (pa_cons (pv 1) pa_nil))) (pss_one (ps_expr (pe_call (ok_add_to_name T) (hr.mono (by decide)) rfl (g_add_to_name T) (F_add_to_name T).kp (B_add_to_name T) .nil pass0 (pa_cons (pv 0) (pa_cons (pe_fld (pv 0) rfl) (pa_cons (pv 1) pa_nil)))))) (pss_one (ps_if (pt_not (PW.pt (pw_or (pt_val (pe_call (ok_is_blank T) (hr.mono (by decide)) rfl (g_is_blank T) (F_is_blank T).kp (B_is_blank T) .nil pass0 (pa_cons (pv 1) pa_nil))) (pw_or1 (pt_cmpR op_in_seq (pv 1) (pe_tup (pa_cons (pe_gi rfl (i_SLASH T)) (pa_cons (pe_gi rfl (i_GREATER T)) (pa_cons (pe_gi rfl (i_EQUALS T)) pa_nil)))) (by rfl)))))) (pss_one (ps_expr (pe_meth (pv 0) (c_Reader T) (m_Reader_fail T) (ok_Reader_fail T) (hr.mono (by decide)) (B_Reader_fail T) .nil pass0 (pa_cons (pe_gi rfl (i_WRONG_SIGN T)) pa_nil)))) (pss_one (ps_if (pt_cmp (pc_din (hu_of hr) (pe_callTy call_tuple_of (by rfl) (n_tuple T) (by decide +kernel) (pa_cons (pe_fld (pv 0) rfl) pa_nil)) (pe_fld (pv 0) rfl))) (pss_one (ps_expr (pe_meth (pv 0) (c_Reader T) (m_Reader_fail T) (ok_Reader_fail T) (hr.mono (by decide)) (B_Reader_fail T) .nil pass0 (pa_cons (pe_gi rfl (i_NAME_TWICE T)) pa_nil)))) (pss_one (ps_if (pt_cmpR op_eq (pv 1) (pe_gi rfl (i_EQUALS T)) (nomark _)) (pss_one (ps_fld (pv 0) (pe_gi rfl (i_BEHIND_EQUALS T)) rfl)) (pss_cons (ps_expr (pe_meth0 (pv 0) (c_Reader T) (m_Reader_finish_attribute T) (ok_Reader_finish_attribute T) (hr.mono (by decide)) (B_Reader_finish_attribute T) .nil pass0)) (pss_one (ps_expr (pe_call (ok_behind_value_step T) (hr.mono (by decide)) rfl (g_behind_value_step T) (F_behind_value_step T).kp (B_behind_value_step T) .nil pass0 (pa_cons (pv 0) (pa_cons (pv 1) pa_nil)))))))))))))), ?_⟩)
  show _
  try simp only [cxK, cxK2]
  obtain ⟨a, b, rfl, C, r, A, m, c, rfl, rfl, hS, R, hc, hg, sp, hm, q⟩ := h
  have ht := hg.tc3 hm (by decide)
  unfold M.sAttrName at q
  refine s_if (vt_sign (val_var rfl)) (fun e => ?_) (fun e => ?_)
  · rw [if_pos e] at q
    exact s_addAttr hS R hc ht (val_var rfl) (v_attr T hS R (val_var rfl)) (val_var rfl) q
  rw [if_neg (by rw [e]; exact Bool.false_ne_true)] at q
  refine sg_if (g_not (g_or (vt_sign (val_var rfl)).g fun H1 s1 => g_in3 (x := 47) (y := 62) (z := 61) (val_var rfl) val_c val_c val_c)) (fun e H1 s1 => ?_) (fun e H1 s1 => ?_)
  · have e' : ¬ (Vaesca.isBlank c = true ∨ c = 47 ∨ c = 62 ∨ c = 61) := by
      intro z
      rcases z with z | z
      · rw [z] at e; cases e
      · rw [decide_eq_true z, Bool.or_true] at e; cases e
    rw [if_pos e'] at q
    exact s_fail (k := 1) (hS.same s1) R (val_var rfl) val_c (q.to (.inr (mode_fail _ _)) hc)
  have e' : ¬ ¬ (Vaesca.isBlank c = true ∨ c = 47 ∨ c = 62 ∨ c = 61) := by
    intro z
    have z1 : Vaesca.isBlank c = false := by
      cases h : Vaesca.isBlank c with
      | false => rfl
      | true => exact absurd (.inl h) z
    rw [z1, decide_eq_false (fun w => z (.inr w))] at e; cases e
  rw [if_neg e'] at q
  have S1 := hS.same s1
  refine sg_if (g_twice T S1 R fun _ => val_var rfl) (fun e H2 s2 => ?_) (fun etw H2 s2 => ?_)
  · rw [if_pos e] at q
    exact s_fail (k := 3) (S1.same s2) R (val_var rfl) val_c (q.to (.inr (mode_fail _ _)) hc)
  rw [if_neg (by rw [etw]; exact Bool.false_ne_true)] at q
  have S2 := S1.same s2
  refine s_if (vt_eq 61 (val_var rfl) val_c) (fun e => ?_) (fun e => ?_)
  · rw [if_pos (of_decide_eq_true e)] at q
    exact s_mode (k := 11) T S2 R (fun _ => val_var rfl) val_c (q.to (.inl ht) hc)
  rw [if_neg (of_decide_eq_false e)] at q
  refine q_finAttr S2 R (val_var rfl) hc etw (by have := sp.attrs; omega) fun C3 H3 A3 S3 K3 R3 e3 e4 => ?_
  exact s_behind S3 R3 e4 (by rw [e3]; exact ht) sp.szA (val_var rfl) (val_var rfl) (q.lift K3)
theorem ok_behind_equals_step (T : Tx K mg) : FnOk P w K mg base CX0 2 (He.fAd K ("behind_equals_step", none)) (fdA K ("behind_equals_step", none)) ["reader", "sign"] (spStep K 11 M.sEq) := by
  refine (F_behind_equals_step T).ok sc_behind_equals_step (fun vs H Q E h => Sp2.len h) (fun cdv A outer s H vs Q E hr h => ⟨_, PSs.nox (pss_one (ps_if (pt_cmpR op_eq (pv 1) (pe_gi rfl (i_DOUBLE_QUOTE T)) (nomark _)) (pss_one (ps_fld (pv 0) (pe_gi rfl (i_DOUBLE_VALUE T)) rfl)) (pss_one (ps_if (pt_cmpR op_eq (pv 1) (pe_gi rfl (i_SINGLE_QUOTE T)) (nomark _)) (pss_one (ps_fld (pv 0) (pe_gi rfl (i_SINGLE_VALUE T)) rfl)) (pss_one (ps_if (pt_cmpR op_eq (pv 1) (pe_gi rfl (i_AMPERSAND T)) (nomark _)) (pss_one (ps_fld (pv 0) (pe_gi rfl (i_REFERENCE_IN_BARE T)) rfl)) (pss_one (ps_if (pt_val (pe_call (ok_is_bare T) (hr.mono (by decide)) rfl (g_is_bare T) (F_is_bare T).kp (B_is_bare T) .nil pass0 (pa_cons (pv 1) pa_nil))) (pss_cons (ps_expr (pe_bm PySem.F.plainAttrs_list PySem.F.slot_list_append PySem.F.type_list_append mt_append (pe_fld (pv 0) rfl) (pa_cons (pv 1) pa_nil))) (pss_one (ps_fld (pv 0) (pe_gi rfl (i_BARE_VALUE T)) rfl))) (pss_one (ps_expr (pe_meth (pv 0) (c_Reader T) (m_Reader_fail T) (ok_Reader_fail T) (hr.mono (by decide)) (B_Reader_fail T) .nil pass0 (pa_cons (pe_gi rfl (i_WRONG_SIGN T)) pa_nil)))))))))))), ?_⟩)
  show _
  try simp only [cxK, cxK2]
  obtain ⟨a, b, rfl, C, r, A, m, c, rfl, rfl, hS, R, hc, hg, sp, hm, q⟩ := h
  have ht := hg.tc3 hm (by decide)
  unfold M.sEq at q
  refine s_if (vt_eq 34 (val_var rfl) val_c) (fun e => ?_) (fun e => ?_)
  · rw [if_pos (of_decide_eq_true e)] at q
    exact s_mode (k := 12) T hS R (fun _ => val_var rfl) val_c (q.to (.inl ht) hc)
  rw [if_neg (of_decide_eq_false e)] at q
  refine s_if (vt_eq 39 (val_var rfl) val_c) (fun e => ?_) (fun e => ?_)
  · rw [if_pos (of_decide_eq_true e)] at q
    exact s_mode (k := 13) T hS R (fun _ => val_var rfl) val_c (q.to (.inl ht) hc)
  rw [if_neg (of_decide_eq_false e)] at q
  refine s_if (vt_eq 38 (val_var rfl) val_c) (fun e => ?_) (fun e => ?_)
  · rw [if_pos (of_decide_eq_true e)] at q
    exact s_mode (k := 4) T hS R (fun _ => val_var rfl) val_c (q.to (.inl ht) hc)
  rw [if_neg (of_decide_eq_false e)] at q
  refine s_if (vt_sign (val_var rfl)) (fun e => ?_) (fun e => ?_)
  · rw [if_pos e] at q
    refine q_appRun (c := c) T hS R (fun _ => val_var rfl) hc (val_var rfl) (by have := sp.run; omega) fun C2 H2 A2 S2 K2 R2 e3 e4 => ?_
    exact s_mode (k := 14) T S2 R2 (fun _ => val_var rfl) val_c ((q.lift K2).to (.inl (by rw [e3]; exact ht)) (by rw [e4, hc]))
  rw [if_neg (by rw [e]; exact Bool.false_ne_true)] at q
  exact s_fail (k := 1) hS R (val_var rfl) val_c (q.to (.inr (mode_fail _ _)) hc)
def spQuoted (K : PySem.W.Frag) : Sp := Sp4 fun a b qt rf H Q => ∃ (C : CHp) (r : Addr) (A : Adr) (m : M) (c quote ref : Nat), a = .ref r ∧ b = vn c ∧ qt = vn quote ∧ rf = vn ref ∧ Sub C H ∧ RdAt K C r A m ∧ A.rc = 7 ∧ A.tc = 3 ∧ Sizes m ∧ m.twice = false ∧ AfterG K C r (m.sQuoted quote ref c) (Q .non)
theorem ok_quoted_value_step (T : Tx K mg) : FnOk P w K mg base CX0 2 (He.fAd K ("quoted_value_step", none)) (fdA K ("quoted_value_step", none)) ["reader", "sign", "quote", "reference_mode"] (spQuoted K) := by
  refine (F_quoted_value_step T).ok sc_quoted_value_step (fun vs H Q E h => Sp4.len h) (fun cdv A outer s H vs Q E hr h => ⟨_, PSs.nox (pss_one (ps_if (pt_cmpR op_eq (pv 1) (pv 2) (nomark _)) (pss_cons (ps_expr (pe_meth0 (pv 0) (c_Reader T) (m_Reader_finish_attribute T) (ok_Reader_finish_attribute T) (hr.mono (by decide)) (B_Reader_finish_attribute T) .nil pass0)) (pss_one (ps_fld (pv 0) (pe_gi rfl (i_BEHIND_VALUE T)) rfl))) (pss_one (ps_if (pt_cmpR op_eq (pv 1) (pe_gi rfl (i_AMPERSAND T)) (nomark _)) (pss_one (ps_fld (pv 0) (pv 3) rfl)) (pss_one (ps_expr (pe_bm PySem.F.plainAttrs_list PySem.F.slot_list_append PySem.F.type_list_append mt_append (pe_fld (pv 0) rfl) (pa_cons (pv 1) pa_nil)))))))), ?_⟩)
  show _
  try simp only [cxK, cxK2]
  obtain ⟨a, b, qt, rf, rfl, C, r, A, m, c, quote, ref, rfl, rfl, rfl, rfl, hS, R, hc, ht, ⟨z1, z2, z3⟩, tw, q⟩ := h
  unfold M.sQuoted at q
  refine s_if (vt_eq quote (val_var rfl) (val_var rfl)) (fun e => ?_) (fun e => ?_)
  · rw [if_pos (of_decide_eq_true e)] at q
    refine q_finAttr hS R (val_var rfl) hc tw (by omega) fun C3 H3 A3 S3 K3 R3 e3 e4 => ?_
    exact s_mode (k := 15) T S3 R3 (fun _ => val_var rfl) val_c ((q.lift K3).to (.inl (by rw [e3]; exact ht)) e4)
  rw [if_neg (of_decide_eq_false e)] at q
  refine s_if (vt_eq 38 (val_var rfl) val_c) (fun e => ?_) (fun e => ?_)
  · rw [if_pos (of_decide_eq_true e)] at q
    exact s_mode (k := ref) T hS R (fun _ => val_var rfl) (val_var rfl) (q.to (.inl ht) hc)
  · rw [if_neg (of_decide_eq_false e)] at q
    exact s_appRun (c := c) T hS R (fun _ => val_var rfl) hc (val_var rfl) (by omega) (q.to (.inl ht) hc)
theorem ok_double_value_step (T : Tx K mg) : FnOk P w K mg base CX0 3 (He.fAd K ("double_value_step", none)) (fdA K ("double_value_step", none)) ["reader", "sign"] (spStep K 12 (M.sQuoted 34 2)) := by
  refine (F_double_value_step T).ok sc_double_value_step (fun vs H Q E h => Sp2.len h) (fun cdv A outer s H vs Q E hr h => ⟨_, PSs.nox (pss_one (ps_expr (pe_call (ok_quoted_value_step T) (hr.mono (by decide)) rfl (g_quoted_value_step T) (F_quoted_value_step T).kp (B_quoted_value_step T) .nil pass0 (pa_cons (pv 0) (pa_cons (pv 1) (pa_cons (pe_gi rfl (i_DOUBLE_QUOTE T)) (pa_cons (pe_gi rfl (i_REFERENCE_IN_DOUBLE T)) pa_nil))))))), ?_⟩)
  show _
  try simp only [cxK, cxK2]
  obtain ⟨a, b, rfl, C, r, A, m, c, rfl, rfl, hS, R, hc, hg, sp, hm, q⟩ := h
  exact s_drop (t_call (va_cons (val_var rfl) (va_cons (val_var rfl) (va_cons (val_c (v := vn 34)) (va_cons (val_c (v := vn 2)) va_nil)))) ⟨_, _, _, _, rfl, C, r, A, m, c, 34, 2, rfl, rfl, rfl, rfl, hS, R, hc, hg.tc3 hm (by decide), sp.sz, sp.fresh (.inl hm), q⟩)
theorem ok_single_value_step (T : Tx K mg) : FnOk P w K mg base CX0 3 (He.fAd K ("single_value_step", none)) (fdA K ("single_value_step", none)) ["reader", "sign"] (spStep K 13 (M.sQuoted 39 3)) := by
  refine (F_single_value_step T).ok sc_single_value_step (fun vs H Q E h => Sp2.len h) (fun cdv A outer s H vs Q E hr h => ⟨_, PSs.nox (pss_one (ps_expr (pe_call (ok_quoted_value_step T) (hr.mono (by decide)) rfl (g_quoted_value_step T) (F_quoted_value_step T).kp (B_quoted_value_step T) .nil pass0 (pa_cons (pv 0) (pa_cons (pv 1) (pa_cons (pe_gi rfl (i_SINGLE_QUOTE T)) (pa_cons (pe_gi rfl (i_REFERENCE_IN_SINGLE T)) pa_nil))))))), ?_⟩)
  show _
  try simp only [cxK, cxK2]
  obtain ⟨a, b, rfl, C, r, A, m, c, rfl, rfl, hS, R, hc, hg, sp, hm, q⟩ := h
  exact s_drop (t_call (va_cons (val_var rfl) (va_cons (val_var rfl) (va_cons (val_c (v := vn 39)) (va_cons (val_c (v := vn 3)) va_nil)))) ⟨_, _, _, _, rfl, C, r, A, m, c, 39, 3, rfl, rfl, rfl, rfl, hS, R, hc, hg.tc3 hm (by decide), sp.sz, sp.fresh (.inr (.inl hm)), q⟩)
theorem ok_bare_value_step (T : Tx K mg) : FnOk P w K mg base CX0 6 (He.fAd K ("bare_value_step", none)) (fdA K ("bare_value_step", none)) ["reader", "sign"] (spStep K 14 M.sBare) := by
  refine (F_bare_value_step T).ok sc_bare_value_step (fun vs H Q E h => Sp2.len h) (fun cdv A outer s H vs Q E hr h => ⟨_, PSs.nox (pss_one (ps_if (pt_val (pe_call (ok_is_bare T) (hr.mono (by decide)) rfl (g_is_bare T) (F_is_bare T).kp (B_is_bare T) .nil pass0 (pa_cons (pv 1) pa_nil))) (pss_one (ps_expr (pe_bm PySem.F.plainAttrs_list PySem.F.slot_list_append PySem.F.type_list_append mt_append (pe_fld (pv 0) rfl) (pa_cons (pv 1) pa_nil)))) (pss_one (ps_if (pt_cmpR op_eq (pv 1) (pe_gi rfl (i_AMPERSAND T)) (nomark _)) (pss_one (ps_fld (pv 0) (pe_gi rfl (i_REFERENCE_IN_BARE T)) rfl)) (pss_one (ps_if (PW.pt (pw_or (pt_val (pe_call (ok_is_blank T) (hr.mono (by decide)) rfl (g_is_blank T) (F_is_blank T).kp (B_is_blank T) .nil pass0 (pa_cons (pv 1) pa_nil))) (pw_or1 (pt_cmpR op_eq (pv 1) (pe_gi rfl (i_GREATER T)) (nomark _))))) (pss_cons (ps_expr (pe_meth0 (pv 0) (c_Reader T) (m_Reader_finish_attribute T) (ok_Reader_finish_attribute T) (hr.mono (by decide)) (B_Reader_finish_attribute T) .nil pass0)) (pss_one (ps_expr (pe_call (ok_behind_value_step T) (hr.mono (by decide)) rfl (g_behind_value_step T) (F_behind_value_step T).kp (B_behind_value_step T) .nil pass0 (pa_cons (pv 0) (pa_cons (pv 1) pa_nil)))))) (pss_one (ps_expr (pe_meth (pv 0) (c_Reader T) (m_Reader_fail T) (ok_Reader_fail T) (hr.mono (by decide)) (B_Reader_fail T) .nil pass0 (pa_cons (pe_gi rfl (i_WRONG_SIGN T)) pa_nil)))))))))), ?_⟩)
  show _
  try simp only [cxK, cxK2]
  obtain ⟨a, b, rfl, C, r, A, m, c, rfl, rfl, hS, R, hc, hg, sp, hm, q⟩ := h
  have ht := hg.tc3 hm (by decide)
  unfold M.sBare at q
  refine s_if (vt_sign (val_var rfl)) (fun e => ?_) (fun e => ?_)
  · rw [if_pos e] at q
    exact s_appRun (c := c) T hS R (fun _ => val_var rfl) hc (val_var rfl) (by have := sp.run; omega) (q.to (.inl ht) hc)
  rw [if_neg (by rw [e]; exact Bool.false_ne_true)] at q
  refine s_if (vt_eq 38 (val_var rfl) val_c) (fun e => ?_) (fun e => ?_)
  · rw [if_pos (of_decide_eq_true e)] at q
    exact s_mode (k := 4) T hS R (fun _ => val_var rfl) val_c (q.to (.inl ht) hc)
  rw [if_neg (of_decide_eq_false e)] at q
  refine s_if (vt_or (vt_sign (val_var rfl)) (fun _ => vt_eq 62 (val_var rfl) val_c)) (fun e => ?_) (fun e => ?_)
  · have e' : Vaesca.isBlank c = true ∨ c = 62 := by
      rw [Bool.or_eq_true, decide_eq_true_eq] at e; exact e
    rw [if_pos e'] at q
    refine q_finAttr hS R (val_var rfl) hc (sp.fresh (.inr (.inr hm))) (by have := sp.attrs; omega) fun C3 H3 A3 S3 K3 R3 e3 e4 => ?_
    exact s_behind S3 R3 e4 (by rw [e3]; exact ht) sp.szA (val_var rfl) (val_var rfl) (q.lift K3)
  · have e' : ¬ (Vaesca.isBlank c = true ∨ c = 62) := by
      intro z
      have : (Vaesca.isBlank c || decide (c = 62)) = true := by rw [Bool.or_eq_true, decide_eq_true_eq]; exact z
      rw [this] at e; cases e
    rw [if_neg e'] at q
    exact s_fail (k := 1) hS R (val_var rfl) val_c (q.to (.inr (mode_fail _ _)) hc)
theorem ok_behind_slash_step (T : Tx K mg) : FnOk P w K mg base CX0 5 (He.fAd K ("behind_slash_step", none)) (fdA K ("behind_slash_step", none)) ["reader", "sign"] (spStep K 16 M.sSlash) := by
  refine (F_behind_slash_step T).ok sc_behind_slash_step (fun vs H Q E h => Sp2.len h) (fun cdv A outer s H vs Q E hr h => ⟨_, PSs.nox (pss_one (ps_if (pt_cmpR op_eq (pv 1) (pe_gi rfl (i_GREATER T)) (nomark _)) (pss_one (ps_expr (pe_meth (pv 0) (c_Reader T) (m_Reader_finish_open_tag T) (ok_Reader_finish_open_tag T) (hr.mono (by decide)) (B_Reader_finish_open_tag T) .nil pass0 (pa_cons pe_int pa_nil)))) (pss_one (ps_expr (pe_meth (pv 0) (c_Reader T) (m_Reader_fail T) (ok_Reader_fail T) (hr.mono (by decide)) (B_Reader_fail T) .nil pass0 (pa_cons (pe_gi rfl (i_WRONG_SIGN T)) pa_nil)))))), ?_⟩)
  show _
  try simp only [cxK, cxK2]
  obtain ⟨a, b, rfl, C, r, A, m, c, rfl, rfl, hS, R, hc, hg, sp, hm, q⟩ := h
  unfold M.sSlash at q
  refine s_if (vt_eq 62 (val_var rfl) val_c) (fun e => ?_) (fun e => ?_)
  · rw [if_pos (of_decide_eq_true e)] at q
    exact s_finOpen (en := 1) hS R (val_var rfl) val_c hc (by have := sp.toks; omega) (by have := sp.attrs; omega) q
  · rw [if_neg (of_decide_eq_false e)] at q
    exact s_fail (k := 1) hS R (val_var rfl) val_c (q.to (.inr (mode_fail _ _)) hc)
theorem ok_behind_exclamation_step (T : Tx K mg) : FnOk P w K mg base CX0 3 (He.fAd K ("behind_exclamation_step", none)) (fdA K ("behind_exclamation_step", none)) ["reader", "sign"] (spStep K 17 M.sBang) := by
  refine (F_behind_exclamation_step T).ok sc_behind_exclamation_step (fun vs H Q E h => Sp2.len h) (fun cdv A outer s H vs Q E hr h => ⟨_, PSs.nox (pss_one (ps_expr (pe_call (ok_only_step T) (hr.mono (by decide)) rfl (g_only_step T) (F_only_step T).kp (B_only_step T) .nil pass0 (pa_cons (pv 0) (pa_cons (pv 1) (pa_cons (pe_gi rfl (i_DASH T)) (pa_cons (pe_gi rfl (i_BEHIND_DASH T)) pa_nil))))))), ?_⟩)
  show _
  try simp only [cxK, cxK2]
  obtain ⟨a, b, rfl, C, r, A, m, c, rfl, rfl, hS, R, hc, hg, sp, hm, q⟩ := h
  exact s_only (wn := 45) (kn := 18) hS R hc (hg.tc3 hm (by decide)) (val_var rfl) (val_var rfl) val_c val_c q
theorem ok_behind_dash_step (T : Tx K mg) : FnOk P w K mg base CX0 3 (He.fAd K ("behind_dash_step", none)) (fdA K ("behind_dash_step", none)) ["reader", "sign"] (spStep K 18 M.sDash) := by
  refine (F_behind_dash_step T).ok sc_behind_dash_step (fun vs H Q E h => Sp2.len h) (fun cdv A outer s H vs Q E hr h => ⟨_, PSs.nox (pss_one (ps_expr (pe_call (ok_only_step T) (hr.mono (by decide)) rfl (g_only_step T) (F_only_step T).kp (B_only_step T) .nil pass0 (pa_cons (pv 0) (pa_cons (pv 1) (pa_cons (pe_gi rfl (i_DASH T)) (pa_cons (pe_gi rfl (i_COMMENT_NO_DASH T)) pa_nil))))))), ?_⟩)
  show _
  try simp only [cxK, cxK2]
  obtain ⟨a, b, rfl, C, r, A, m, c, rfl, rfl, hS, R, hc, hg, sp, hm, q⟩ := h
  exact s_only (wn := 45) (kn := 19) hS R hc (hg.tc3 hm (by decide)) (val_var rfl) (val_var rfl) val_c val_c q
theorem ok_comment_no_dash_step (T : Tx K mg) : FnOk P w K mg base CX0 1 (He.fAd K ("comment_no_dash_step", none)) (fdA K ("comment_no_dash_step", none)) ["reader", "sign"] (spStep K 19 M.sCom0) := by
  refine (F_comment_no_dash_step T).ok sc_comment_no_dash_step (fun vs H Q E h => Sp2.len h) (fun cdv A outer s H vs Q E hr h => ⟨_, PSs.nox (pss_one (ps_if (pt_cmpR op_eq (pv 1) (pe_gi rfl (i_DASH T)) (nomark _)) (pss_one (ps_fld (pv 0) (pe_gi rfl (i_COMMENT_ONE_DASH T)) rfl)) (pss_one (ps_expr (pe_bm PySem.F.plainAttrs_list PySem.F.slot_list_append PySem.F.type_list_append mt_append (pe_fld (pv 0) rfl) (pa_cons (pv 1) pa_nil)))))), ?_⟩)
  show _
  try simp only [cxK, cxK2]
  obtain ⟨a, b, rfl, C, r, A, m, c, rfl, rfl, hS, R, hc, hg, sp, hm, q⟩ := h
  have ht := hg.tc3 hm (by decide)
  unfold M.sCom0 at q
  refine s_if (vt_eq 45 (val_var rfl) val_c) (fun e => ?_) (fun e => ?_)
  · rw [if_pos (of_decide_eq_true e)] at q
    exact s_mode (k := 20) T hS R (fun _ => val_var rfl) val_c (q.to (.inl ht) hc)
  · rw [if_neg (of_decide_eq_false e)] at q
    exact s_appRun (c := c) T hS R (fun _ => val_var rfl) hc (val_var rfl) (by have := sp.run; omega) (q.to (.inl ht) hc)
theorem ok_comment_one_dash_step (T : Tx K mg) : FnOk P w K mg base CX0 1 (He.fAd K ("comment_one_dash_step", none)) (fdA K ("comment_one_dash_step", none)) ["reader", "sign"] (spStep K 20 M.sCom1) := by
  refine (F_comment_one_dash_step T).ok sc_comment_one_dash_step (fun vs H Q E h => Sp2.len h) (fun cdv A outer s H vs Q E hr h => ⟨_, PSs.nox (pss_one (ps_if (pt_cmpR op_eq (pv 1) (pe_gi rfl (i_DASH T)) (nomark _)) (pss_one (ps_fld (pv 0) (pe_gi rfl (i_COMMENT_TWO_DASHES T)) rfl)) (pss_cons (ps_expr (pe_bm PySem.F.plainAttrs_list PySem.F.slot_list_extend PySem.F.type_list_extend mt_extend (pe_fld (pv 0) rfl) (pa_cons (pe_lst (pa_cons (pe_gi rfl (i_DASH T)) (pa_cons (pv 1) pa_nil))) pa_nil))) (pss_one (ps_fld (pv 0) (pe_gi rfl (i_COMMENT_NO_DASH T)) rfl))))), ?_⟩)
  show _
  try simp only [cxK, cxK2]
  obtain ⟨a, b, rfl, C, r, A, m, c, rfl, rfl, hS, R, hc, hg, sp, hm, q⟩ := h
  have ht := hg.tc3 hm (by decide)
  unfold M.sCom1 at q
  refine s_if (vt_eq 45 (val_var rfl) val_c) (fun e => ?_) (fun e => ?_)
  · rw [if_pos (of_decide_eq_true e)] at q
    exact s_mode (k := 21) T hS R (fun _ => val_var rfl) val_c (q.to (.inl ht) hc)
  · rw [if_neg (of_decide_eq_false e)] at q
    refine q_extRun (l := [45, c]) T hS R (fun _ => val_var rfl) hc (va_cons val_c (va_cons (val_var rfl) va_nil)) (by show 2 ≤ 100; decide) (by have := sp.run; omega) fun C2 H2 A2 S2 K2 R2 e3 e4 => ?_
    exact s_mode (k := 19) T S2 R2 (fun _ => val_var rfl) val_c ((q.lift K2).to (.inl (by rw [e3]; exact ht)) (by rw [e4, hc]))
theorem ok_comment_two_dashes_step (T : Tx K mg) : FnOk P w K mg base CX0 5 (He.fAd K ("comment_two_dashes_step", none)) (fdA K ("comment_two_dashes_step", none)) ["reader", "sign"] (spStep K 21 M.sCom2) := by
  refine (F_comment_two_dashes_step T).ok sc_comment_two_dashes_step (fun vs H Q E h => Sp2.len h) (fun cdv A outer s H vs Q E hr h => ⟨_, PSs.nox (pss_one (ps_if (pt_cmpR op_eq (pv 1) (pe_gi rfl (i_DASH T)) (nomark _)) (pss_one (ps_expr (pe_bm PySem.F.plainAttrs_list PySem.F.slot_list_append PySem.F.type_list_append mt_append (pe_fld (pv 0) rfl) (pa_cons (pe_gi rfl (i_DASH T)) pa_nil)))) (pss_one (ps_if (pt_cmpR op_eq (pv 1) (pe_gi rfl (i_GREATER T)) (nomark _)) (pss_cons (ps_expr (pe_meth (pv 0) (c_Reader T) (m_Reader_finish_run T) (ok_Reader_finish_run T) (hr.mono (by decide)) (B_Reader_finish_run T) .nil pass0 (pa_cons (pe_gi rfl (i_COMMENT T)) (pa_cons (pe_op op_add (pe_fld (pv 0) rfl) pe_int) pa_nil)))) (pss_one (ps_fld (pv 0) (pe_gi rfl (i_TEXT T)) rfl))) (pss_cons (ps_expr (pe_bm PySem.F.plainAttrs_list PySem.F.slot_list_extend PySem.F.type_list_extend mt_extend (pe_fld (pv 0) rfl) (pa_cons (pe_lst (pa_cons (pe_gi rfl (i_DASH T)) (pa_cons (pe_gi rfl (i_DASH T)) (pa_cons (pv 1) pa_nil)))) pa_nil))) (pss_one (ps_fld (pv 0) (pe_gi rfl (i_COMMENT_NO_DASH T)) rfl))))))), ?_⟩)
  show _
  try simp only [cxK, cxK2]
  obtain ⟨a, b, rfl, C, r, A, m, c, rfl, rfl, hS, R, hc, hg, sp, hm, q⟩ := h
  have ht := hg.tc3 hm (by decide)
  unfold M.sCom2 at q
  refine s_if (vt_eq 45 (val_var rfl) val_c) (fun e => ?_) (fun e => ?_)
  · rw [if_pos (of_decide_eq_true e)] at q
    exact s_appRun (c := 45) T hS R (fun _ => val_var rfl) hc val_c (by have := sp.run; omega) (q.to (.inl ht) hc)
  rw [if_neg (of_decide_eq_false e)] at q
  refine s_if (vt_eq 62 (val_var rfl) val_c) (fun e => ?_) (fun e => ?_)
  · rw [if_pos (of_decide_eq_true e)] at q
    refine q_finRun (k := 3) (st := m.count + 1) hS R (val_var rfl) val_c (val_i2 (g := fun i j => .int (i + j)) (v_count T hS R (val_var rfl)) val_c) hc (by have := sp.toks; omega) fun C2 H2 A2 S2 K2 R2 e3 e4 => ?_
    exact s_mode (k := 0) T S2 R2 (fun _ => val_var rfl) val_c ((q.lift K2).to (.inl (by rw [e3]; exact ht)) e4)
  · rw [if_neg (of_decide_eq_false e)] at q
    refine q_extRun (l := [45, 45, c]) T hS R (fun _ => val_var rfl) hc (va_cons val_c (va_cons val_c (va_cons (val_var rfl) va_nil))) (by show 3 ≤ 100; decide) (by have := sp.run; omega) fun C2 H2 A2 S2 K2 R2 e3 e4 => ?_
    exact s_mode (k := 19) T S2 R2 (fun _ => val_var rfl) val_c ((q.lift K2).to (.inl (by rw [e3]; exact ht)) (by rw [e4, hc]))
theorem ok_raw_step (T : Tx K mg) : FnOk P w K mg base CX0 1 (He.fAd K ("raw_step", none)) (fdA K ("raw_step", none)) ["reader", "sign"] (spStep K 22 M.sRaw) := by
  refine (F_raw_step T).ok sc_raw_step (fun vs H Q E h => Sp2.len h) (fun cdv A outer s H vs Q E hr h => ⟨_, PSs.nox (pss_one (ps_if (pt_cmpR op_eq (pv 1) (pe_gi rfl (i_LESS T)) (nomark _)) (pss_one (ps_fld (pv 0) (pe_gi rfl (i_RAW_BEHIND_LESS T)) rfl)) (pss_one (ps_expr (pe_bm PySem.F.plainAttrs_list PySem.F.slot_list_append PySem.F.type_list_append mt_append (pe_fld (pv 0) rfl) (pa_cons (pv 1) pa_nil)))))), ?_⟩)
  show _
  try simp only [cxK, cxK2]
  obtain ⟨a, b, rfl, C, r, A, m, c, rfl, rfl, hS, R, hc, hg, sp, hm, q⟩ := h
  unfold M.sRaw at q
  refine s_if (vt_eq 60 (val_var rfl) val_c) (fun e => ?_) (fun e => ?_)
  · rw [if_pos (of_decide_eq_true e)] at q
    exact s_mode (k := 23) T hS R (fun _ => val_var rfl) val_c (q.to (.inr (by show 22 ≤ 23; decide)) hc)
  · rw [if_neg (of_decide_eq_false e)] at q
    exact s_appRun (c := c) T hS R (fun _ => val_var rfl) hc (val_var rfl) (by have := sp.run; omega) (q.to (.inr (by show 22 ≤ m.mode; omega)) hc)
theorem ok_raw_behind_less_step (T : Tx K mg) : FnOk P w K mg base CX0 1 (He.fAd K ("raw_behind_less_step", none)) (fdA K ("raw_behind_less_step", none)) ["reader", "sign"] (spStep K 23 M.sRawLess) := by
  refine (F_raw_behind_less_step T).ok sc_raw_behind_less_step (fun vs H Q E h => Sp2.len h) (fun cdv A outer s H vs Q E hr h => ⟨_, PSs.nox (pss_one (ps_if (pt_cmpR op_eq (pv 1) (pe_gi rfl (i_SLASH T)) (nomark _)) (pss_one (ps_fld (pv 0) (pe_gi rfl (i_RAW_BEHIND_CLOSE T)) rfl)) (pss_one (ps_if (pt_cmpR op_eq (pv 1) (pe_gi rfl (i_LESS T)) (nomark _)) (pss_one (ps_expr (pe_bm PySem.F.plainAttrs_list PySem.F.slot_list_append PySem.F.type_list_append mt_append (pe_fld (pv 0) rfl) (pa_cons (pe_gi rfl (i_LESS T)) pa_nil)))) (pss_cons (ps_expr (pe_bm PySem.F.plainAttrs_list PySem.F.slot_list_extend PySem.F.type_list_extend mt_extend (pe_fld (pv 0) rfl) (pa_cons (pe_lst (pa_cons (pe_gi rfl (i_LESS T)) (pa_cons (pv 1) pa_nil))) pa_nil))) (pss_one (ps_fld (pv 0) (pe_gi rfl (i_RAW T)) rfl))))))), ?_⟩)
  show _
  try simp only [cxK, cxK2]
  obtain ⟨a, b, rfl, C, r, A, m, c, rfl, rfl, hS, R, hc, hg, sp, hm, q⟩ := h
  unfold M.sRawLess at q
  refine s_if (vt_eq 47 (val_var rfl) val_c) (fun e => ?_) (fun e => ?_)
  · rw [if_pos (of_decide_eq_true e)] at q
    exact s_mode (k := 24) T hS R (fun _ => val_var rfl) val_c (q.to (.inr (by show 22 ≤ 24; decide)) hc)
  rw [if_neg (of_decide_eq_false e)] at q
  refine s_if (vt_eq 60 (val_var rfl) val_c) (fun e => ?_) (fun e => ?_)
  · rw [if_pos (of_decide_eq_true e)] at q
    exact s_appRun (c := 60) T hS R (fun _ => val_var rfl) hc val_c (by have := sp.run; omega) (q.to (.inr (by show 22 ≤ m.mode; omega)) hc)
  · rw [if_neg (of_decide_eq_false e)] at q
    refine q_extRun (l := [60, c]) T hS R (fun _ => val_var rfl) hc (va_cons val_c (va_cons (val_var rfl) va_nil)) (by show 2 ≤ 100; decide) (by have := sp.run; omega) fun C2 H2 A2 S2 K2 R2 e3 e4 => ?_
    exact s_mode (k := 22) T S2 R2 (fun _ => val_var rfl) val_c ((q.lift K2).to (.inr (by show 22 ≤ 22; decide)) (by rw [e4, hc]))
/-- x if c else y -/
theorem val_ifE {σ : L2.St} {H : Hp} {ta tb : TE} {tt : TT} {b : Bool} {v : V} (h : ValT tt σ H b) (h1 : b = true → Val ta σ H v) (h2 : b = false → Val tb σ H v) : Val (tIf tt ta tb) σ H v := fun Q q => h _ (by
  cases b with
  | true => exact h1 rfl Q q
  | false => exact h2 rfl Q q)
theorem val_ixL {σ : L2.St} {H : Hp} {ta tb : TE} {p : Addr} {xs : List V} {i : Nat} {v : V} (ha : Val ta σ H (.ref p)) (hb : Val tb σ H (vn i)) (h : SqL K H p xs) (hi : xs[i]? = some v) : Val (tOp (rIxL K) ta tb) σ H v := fun Q q =>
  ha _ (hb _ ⟨p, xs, (i : Int), v, rfl, rfl, h, atI_nat hi, q⟩)
theorem ok_raw_behind_close_step (T : Tx K mg) : FnOk P w K mg base CX0 6 (He.fAd K ("raw_behind_close_step", none)) (fdA K ("raw_behind_close_step", none)) ["reader", "sign"] (spStep K 24 M.sRawClose) := by
  refine (F_raw_behind_close_step T).ok sc_raw_behind_close_step (fun vs H Q E h => Sp2.len h) (fun cdv A outer s H vs Q E hr h => ⟨_, PSs.nox (pss_cons (ps_set (i := 2) sc_raw_behind_close_step.nd rfl (Or.inl rfl) (pe_callB call_len_seq (by rfl) (n_len T) (by decide +kernel) (pa_cons (pe_fld (pv 0) rfl) pa_nil))) (pss_cons (ps_set (i := 3) sc_raw_behind_close_step.nd rfl (Or.inl rfl) (pe_ifExp (pt_cmpR op_lt (pv 2) (pe_callB call_len_seq (by rfl) (n_len T) (by decide +kernel) (pa_cons (pe_fld (pv 0) rfl) pa_nil)) (nomark _)) (pe_ix ix_list (pe_fld (pv 0) rfl) (pv 2) (fun _ _ => rfl)) (pe_gi rfl (i_GREATER T)))) (pss_one (ps_if (pt_cmpR op_ne (pv 1) (pv 3) (nomark _)) (pss_one (ps_expr (pe_meth (pv 0) (c_Reader T) (m_Reader_fail T) (ok_Reader_fail T) (hr.mono (by decide)) (B_Reader_fail T) .nil pass0 (pa_cons (pe_gi rfl (i_WRONG_RAW_CLOSE T)) pa_nil)))) (pss_one (ps_if (pt_cmpR op_lt (pv 2) (pe_callB call_len_seq (by rfl) (n_len T) (by decide +kernel) (pa_cons (pe_fld (pv 0) rfl) pa_nil)) (nomark _)) (pss_one (ps_expr (pe_bm PySem.F.plainAttrs_list PySem.F.slot_list_append PySem.F.type_list_append mt_append (pe_fld (pv 0) rfl) (pa_cons (pv 1) pa_nil)))) (pss_one (ps_expr (pe_meth0 (pv 0) (c_Reader T) (m_Reader_finish_raw T) (ok_Reader_finish_raw T) (hr.mono (by decide)) (B_Reader_finish_raw T) .nil pass0))))))))), ?_⟩)
  show _
  try simp only [cxK, cxK2]
  obtain ⟨a, b, rfl, C, r, A, m, c, rfl, rfl, hS, R, hc, hg, sp, hm, q⟩ := h
  unfold M.sRawClose at q
  have V0 : ∀ (σ : L2.St) H, σ[0]? = some (some (V.ref r)) → Val (tVar 0) σ H (.ref r) := fun σ H e => val_var e
  have hb : ∀ (σ : L2.St), σ[0]? = some (some (V.ref r)) → Val _ σ H (.int ((nts m.body).length : Int)) := fun σ e => val_len (K := K) (v_body T hS R (V0 σ H e)) (SqL.of (hS _ _ _ R.bd))
  have htg : ∀ (σ : L2.St), σ[0]? = some (some (V.ref r)) → Val _ σ H (.int ((nts m.tag).length : Int)) := fun σ e => val_len (K := K) (v_tag T hS R (V0 σ H e)) (SqL.of (hS _ _ _ R.tg))
  rw [nts_len] at hb htg
  refine q_setV (hb _ rfl) ?_
  refine q_setV (x := vn (if m.body.length < m.tag.length then m.tag.getD m.body.length 0 else 62)) (val_ifE (b := decide (m.body.length < m.tag.length)) (vt_lt (val_var rfl) (htg _ rfl)) (fun e => ?_) (fun e => ?_)) ?_
  · have e' : m.body.length < m.tag.length := of_decide_eq_true e
    rw [if_pos e']
    refine val_ixL (i := m.body.length) (v_tag T hS R (val_var rfl)) (val_var rfl) (SqL.of (hS _ _ _ R.tg)) ?_
    unfold nts
    rw [List.getElem?_map, List.getElem?_eq_getElem e', List.getD_eq_getElem?_getD, List.getElem?_eq_getElem e']
    rfl
  · rw [if_neg (of_decide_eq_false e)]
    exact val_c
  generalize (if m.body.length < m.tag.length then m.tag.getD m.body.length 0 else 62) = wanted at q ⊢
  refine s_if (b := !decide (c = wanted)) (vt_test (val_neN (val_var rfl) (val_var rfl))) (fun e => ?_) (fun e => ?_)
  · have e' : c ≠ wanted := by
      intro z; rw [decide_eq_true z] at e; cases e
    rw [if_pos e'] at q
    exact s_fail (k := 6) hS R (val_var rfl) val_c (q.to (.inr (mode_fail _ _)) hc)
  have e' : ¬ c ≠ wanted := by
    intro z; rw [decide_eq_false z] at e; cases e
  rw [if_neg e'] at q
  refine s_if (b := decide (m.body.length < m.tag.length)) (vt_lt (val_var rfl) (htg _ rfl)) (fun e => ?_) (fun e => ?_)
  · rw [if_pos (of_decide_eq_true e)] at q
    exact s_appBody (c := c) T hS R (fun _ => val_var rfl) (val_var rfl) (by have := of_decide_eq_true e; have := sp.tag; omega) (q.to (.inr (by show 22 ≤ m.mode; omega)) hc)
  · rw [if_neg (of_decide_eq_false e)] at q
    exact s_drop (t_meth (val_var rfl) (hS _ _ _ R.o) rL_finish_raw va_nil ⟨_, rfl, C, r, A, m, rfl, hS, R, hc, by have := sp.toks; omega, q.to (.inl rfl) rfl⟩)

end Sm

set_option Elab.async false
set_option linter.all false
set_option maxRecDepth 100000
set_option maxHeartbeats 0
namespace Sm
open PySem PySem.Spec PyProof.Rows L2
variable {P : Program} {w : World} {K : PySem.W.Frag} {mg : Str → Option Value} {base : Heap}
/-! ### the table of steps -/
def fdOf (K : PySem.W.Frag) (a : Addr) : FuncData := match K.lookup a with
  | some ⟨_, _, .func fd, _⟩ => fd
  | _ => PySem.W.fnOf "" "" (defArgs (.Pass ⟨0, 0, 0, 0⟩)) [] (defScope (.Pass ⟨0, 0, 0, 0⟩)) .none .none .none .none none .none .none
def stepL (K : PySem.W.Frag) : List Addr := [He.ga K "text_step", He.ga K "text_reference_step", He.ga K "double_reference_step", He.ga K "single_reference_step", He.ga K "bare_reference_step", He.ga K "behind_less_step", He.ga K "open_name_step", He.ga K "behind_close_step", He.ga K "close_name_step", He.ga K "gap_step", He.ga K "attribute_name_step", He.ga K "behind_equals_step", He.ga K "double_value_step", He.ga K "single_value_step", He.ga K "bare_value_step", He.ga K "behind_value_step", He.ga K "behind_slash_step", He.ga K "behind_exclamation_step", He.ga K "behind_dash_step", He.ga K "comment_no_dash_step", He.ga K "comment_one_dash_step", He.ga K "comment_two_dashes_step", He.ga K "raw_step", He.ga K "raw_behind_less_step", He.ga K "raw_behind_close_step"]
def stepF : Nat → M → Nat → M
  | 0 => M.sText
  | 1 => M.sRef 0
  | 2 => M.sRef 12
  | 3 => M.sRef 13
  | 4 => M.sRef 14
  | 5 => M.sLess
  | 6 => M.sOpenName
  | 7 => M.sBehindClose
  | 8 => M.sCloseName
  | 9 => M.sGap
  | 10 => M.sAttrName
  | 11 => M.sEq
  | 12 => M.sQuoted 34 2
  | 13 => M.sQuoted 39 3
  | 14 => M.sBare
  | 15 => M.sBehind
  | 16 => M.sSlash
  | 17 => M.sBang
  | 18 => M.sDash
  | 19 => M.sCom0
  | 20 => M.sCom1
  | 21 => M.sCom2
  | 22 => M.sRaw
  | 23 => M.sRawLess
  | 24 => M.sRawClose
  | _ => fun m _ => m
theorem step_is {m : M} {c : Nat} (h : m.mode ≤ 24) : m.step c = stepF m.mode m c := by
  rcases modes h with e | e | e | e | e | e | e | e | e | e | e | e | e | e | e | e | e | e | e | e | e | e | e | e | e
  · rw [step_0 e, e] <;> rfl
  · rw [step_1 e, e] <;> rfl
  · rw [step_2 e, e] <;> rfl
  · rw [step_3 e, e] <;> rfl
  · rw [step_4 e, e] <;> rfl
  · rw [step_5 e, e] <;> rfl
  · rw [step_6 e, e] <;> rfl
  · rw [step_7 e, e] <;> rfl
  · rw [step_8 e, e] <;> rfl
  · rw [step_9 e, e] <;> rfl
  · rw [step_10 e, e] <;> rfl
  · rw [step_11 e, e] <;> rfl
  · rw [step_12 e, e] <;> rfl
  · rw [step_13 e, e] <;> rfl
  · rw [step_14 e, e] <;> rfl
  · rw [step_15 e, e] <;> rfl
  · rw [step_16 e, e] <;> rfl
  · rw [step_17 e, e] <;> rfl
  · rw [step_18 e, e] <;> rfl
  · rw [step_19 e, e] <;> rfl
  · rw [step_20 e, e] <;> rfl
  · rw [step_21 e, e] <;> rfl
  · rw [step_22 e, e] <;> rfl
  · rw [step_23 e, e] <;> rfl
  · rw [step_24 e, e] <;> rfl
/-- behind_value_step in the table -/
theorem step15 (T : Tx K mg) : FnOk P w K mg base CX0 5 (He.fAd K ("behind_value_step", none)) (fdA K ("behind_value_step", none)) ["reader", "sign"] (spStep K 15 M.sBehind) :=
  (ok_behind_value_step T).imp fun vs H Q E h => by
    obtain ⟨a, b, rfl, C, r, A, m, c, rfl, rfl, hS, R, hc, hg, sp, hm, q⟩ := h
    exact ⟨_, _, rfl, C, r, A, m, c, rfl, rfl, hS, R, hc, hg.tc3 hm (by decide), sp.sz, q⟩
theorem steps_ok (T : Tx K mg) : ∀ (i : Nat) (f : Addr), (stepL K)[i]? = some f → FnOk P w K mg base CX0 7 f (fdOf K f) ["reader", "sign"] (spStep K i (stepF i)) ∧ PySem.W.keepIn K (.ref f) = true ∧ Binds K (fdOf K f) ["reader", "sign"] []
  | 0, _, h => by cases h; exact ⟨(ok_text_step T).mono (by decide), (F_text_step T).kp, B_text_step T⟩
  | 1, _, h => by cases h; exact ⟨(ok_text_reference_step T).mono (by decide), (F_text_reference_step T).kp, B_text_reference_step T⟩
  | 2, _, h => by cases h; exact ⟨(ok_double_reference_step T).mono (by decide), (F_double_reference_step T).kp, B_double_reference_step T⟩
  | 3, _, h => by cases h; exact ⟨(ok_single_reference_step T).mono (by decide), (F_single_reference_step T).kp, B_single_reference_step T⟩
  | 4, _, h => by cases h; exact ⟨(ok_bare_reference_step T).mono (by decide), (F_bare_reference_step T).kp, B_bare_reference_step T⟩
  | 5, _, h => by cases h; exact ⟨(ok_behind_less_step T).mono (by decide), (F_behind_less_step T).kp, B_behind_less_step T⟩
  | 6, _, h => by cases h; exact ⟨(ok_open_name_step T).mono (by decide), (F_open_name_step T).kp, B_open_name_step T⟩
  | 7, _, h => by cases h; exact ⟨(ok_behind_close_step T).mono (by decide), (F_behind_close_step T).kp, B_behind_close_step T⟩
  | 8, _, h => by cases h; exact ⟨(ok_close_name_step T).mono (by decide), (F_close_name_step T).kp, B_close_name_step T⟩
  | 9, _, h => by cases h; exact ⟨(ok_gap_step T).mono (by decide), (F_gap_step T).kp, B_gap_step T⟩
  | 10, _, h => by cases h; exact ⟨(ok_attribute_name_step T).mono (by decide), (F_attribute_name_step T).kp, B_attribute_name_step T⟩
  | 11, _, h => by cases h; exact ⟨(ok_behind_equals_step T).mono (by decide), (F_behind_equals_step T).kp, B_behind_equals_step T⟩
  | 12, _, h => by cases h; exact ⟨(ok_double_value_step T).mono (by decide), (F_double_value_step T).kp, B_double_value_step T⟩
  | 13, _, h => by cases h; exact ⟨(ok_single_value_step T).mono (by decide), (F_single_value_step T).kp, B_single_value_step T⟩
  | 14, _, h => by cases h; exact ⟨(ok_bare_value_step T).mono (by decide), (F_bare_value_step T).kp, B_bare_value_step T⟩
  | 15, _, h => by cases h; exact ⟨(step15 T).mono (by decide), (F_behind_value_step T).kp, B_behind_value_step T⟩
  | 16, _, h => by cases h; exact ⟨(ok_behind_slash_step T).mono (by decide), (F_behind_slash_step T).kp, B_behind_slash_step T⟩
  | 17, _, h => by cases h; exact ⟨(ok_behind_exclamation_step T).mono (by decide), (F_behind_exclamation_step T).kp, B_behind_exclamation_step T⟩
  | 18, _, h => by cases h; exact ⟨(ok_behind_dash_step T).mono (by decide), (F_behind_dash_step T).kp, B_behind_dash_step T⟩
  | 19, _, h => by cases h; exact ⟨(ok_comment_no_dash_step T).mono (by decide), (F_comment_no_dash_step T).kp, B_comment_no_dash_step T⟩
  | 20, _, h => by cases h; exact ⟨(ok_comment_one_dash_step T).mono (by decide), (F_comment_one_dash_step T).kp, B_comment_one_dash_step T⟩
  | 21, _, h => by cases h; exact ⟨(ok_comment_two_dashes_step T).mono (by decide), (F_comment_two_dashes_step T).kp, B_comment_two_dashes_step T⟩
  | 22, _, h => by cases h; exact ⟨(ok_raw_step T).mono (by decide), (F_raw_step T).kp, B_raw_step T⟩
  | 23, _, h => by cases h; exact ⟨(ok_raw_behind_less_step T).mono (by decide), (F_raw_behind_less_step T).kp, B_raw_behind_less_step T⟩
  | 24, _, h => by cases h; exact ⟨(ok_raw_behind_close_step T).mono (by decide), (F_raw_behind_close_step T).kp, B_raw_behind_close_step T⟩
  | _ + 25, _, h => by cases h
noncomputable def stepS (K : PySem.W.Frag) (f : Addr) : Option Sp := open Classical in if ∃ i : Nat, (stepL K)[i]? = some f then some (fun vs H Q E => ∃ i : Nat, (stepL K)[i]? = some f ∧ spStep K i (stepF i) vs H Q E) else none
theorem held_take_sign (T : Tx K mg) {f : Addr} {sp : Sp} (h : stepS K f = some sp) : Held P w K mg base 7 f sp := by
  unfold stepS at h
  split at h
  · rename_i hex
    obtain ⟨i, hi⟩ := hex
    have e := Option.some.inj h
    subst e
    obtain ⟨_, k2, k3⟩ := steps_ok (P := P) (w := w) (base := base) T i f hi
    exact ⟨fdOf K f, ["reader", "sign"], ⟨fun vs H Q E ⟨j, hj, q⟩ => (steps_ok (P := P) (w := w) (base := base) T j f hj).1.len vs H Q E q, fun A outer s H args us vs Q E hr he hb hv ⟨j, hj, q⟩ => (steps_ok T j f hj).1.run A outer s H args us vs Q E hr he hb hv q⟩, k2, k3⟩
  · cases h
theorem stepS_at {i : Nat} {f : Addr} (h : (stepL K)[i]? = some f) : stepS K f = some (fun vs H Q E => ∃ i : Nat, (stepL K)[i]? = some f ∧ spStep K i (stepF i) vs H Q E) := by
  unfold stepS
  exact if_pos ⟨i, h⟩
def spTake (K : PySem.W.Frag) : Sp := Sp2 fun a b H Q => ∃ (C : CHp) (r : Addr) (A : Adr) (m : M) (c : Nat), a = .ref r ∧ b = vn c ∧ Sub C H ∧ RdAt K C r A m ∧ A.rc = 7 ∧ Good A m ∧ SPre m ∧ m.mode ≤ 24 ∧ AfterG K C r (m.step c) (Q .non)
theorem val_ixT {σ : L2.St} {H : Hp} {ta tb : TE} {p : Addr} {xs : List V} {i : Nat} {v : V} (ha : Val ta σ H (.ref p)) (hb : Val tb σ H (vn i)) (h : SqT K H p xs) (hi : xs[i]? = some v) : Val (tOp (rIxT K) ta tb) σ H v := fun Q q =>
  ha _ (hb _ ⟨p, xs, (i : Int), v, rfl, rfl, h, atI_nat hi, q⟩)
theorem ok_take_sign (T : Tx K mg) : FnOk P w K mg base CX0 8 (He.fAd K ("take_sign", none)) (fdA K ("take_sign", none)) ["reader", "sign"] (spTake K) := by
  refine (F_take_sign T).ok sc_take_sign (fun vs H Q E h => Sp2.len h) (fun cdv A outer s H vs Q E hr h => ⟨_, PSs.nox (pss_cons (ps_set (i := 2) sc_take_sign.nd rfl (Or.inl rfl) (pe_ix ix_tup (pe_glob (v := .ref (He.ga K "STEPS")) rfl (g_STEPS T) rfl) (pe_fld (pv 0) rfl) (fun _ _ => rfl))) (pss_one (ps_expr (pe_callA (i := 2) (fun f sp h => held_take_sign T h) (hr.mono (by decide)) rfl (Or.inl rfl) (pa_cons (pv 0) (pa_cons (pv 1) pa_nil)))))), ?_⟩)
  show _
  try simp only [cxK, cxK2]
  obtain ⟨a, b, rfl, C, r, A, m, c, rfl, rfl, hS, R, hc, hg, sp, hm, q⟩ := h
  obtain ⟨f, hf⟩ : ∃ f, (stepL K)[m.mode]? = some f := ⟨_, List.getElem?_eq_getElem (show m.mode < 25 by omega)⟩
  refine q_setV (x := .ref f) (val_ixT (val_c (v := .ref (He.ga K "STEPS"))) (v_mode T hS R (val_var rfl)) (t_STEPS T H) (by
    show ((stepL K).map V.ref)[m.mode]? = _
    rw [List.getElem?_map, hf]; rfl)) ?_
  refine s_drop ⟨f, _, rfl, stepS_at hf, ?_⟩
  rw [step_is hm] at q
  exact va_cons (val_var rfl) (va_cons (val_var rfl) va_nil) _ ⟨m.mode, hf, _, _, rfl, C, r, A, m, c, rfl, rfl, hS, R, hc, hg, sp, rfl, q⟩

end Sm

set_option Elab.async false
set_option linter.all false
set_option maxRecDepth 100000
set_option maxHeartbeats 0
namespace Sm
open PySem PySem.Spec PyProof.Rows L2
variable {P : Program} {w : World} {K : PySem.W.Frag} {mg : Str → Option Value} {base : Heap}
/-! ### reading signs -/
section
variable {σ : L2.St} {H : Hp} {ta te : TE} {D : Ends} {U : TS} {tb : TS} {p : Addr} {xs : List V}
theorem s_forL {i : Nat} (hv : Val ta σ H (.ref p)) (hp : H p = some (.lst xs)) (Pv : Nat → L2.St → Hp → Prop) (h0 : Pv 0 σ H) (hG : ∀ j σ H, Pv j σ H → H p = some (.lst xs))
    (hs : ∀ j x σ H, xs[j]? = some x → Pv j σ H → tb { D with nx := Pv (j + 1), ct := Pv (j + 1), bk := D.nx } (σ.set i (some x)) H) (hd : ∀ σ H, Pv xs.length σ H → D.nx σ H) : tFor (iList K ta) (gName i) tb D σ H :=
  hv _ ⟨p, rfl, ⟨_, SqL.of hp⟩, for_it (walk_list (xs := xs)) Pv h0 (fun j σ H _ h => SqL.of (hG j σ H h)) (fun j x σ H1 H2 hi pv y => by
    obtain ⟨rfl, y⟩ := y
    exact hs j x σ _ y pv) hd⟩
theorem q_forL {i : Nat} (hv : Val ta σ H (.ref p)) (hp : H p = some (.lst xs)) (Pv : Nat → L2.St → Hp → Prop) (h0 : Pv 0 σ H) (hG : ∀ j σ H, Pv j σ H → H p = some (.lst xs))
    (hs : ∀ j x σ H, xs[j]? = some x → Pv j σ H → tb { D with nx := Pv (j + 1), ct := Pv (j + 1), bk := U D } (σ.set i (some x)) H) (hd : ∀ σ H, Pv xs.length σ H → U D σ H) : tSeq (tFor (iList K ta) (gName i) tb) U D σ H :=
  s_forL (D := { D with nx := U D }) hv hp Pv h0 hG hs hd
theorem s_count {C : CHp} {r : Addr} {A : Adr} {m : M} (T : Tx K mg) (hS : Sub C H) (h : RdAt K C r A m) (ha : Val ta σ H (.ref r)) (nx : After K C r { m with count := m.count + 1 } A.tc A.rc fun H' => D.nx σ H') : sFldAug K ta (tC (.int 1)) rAdd "count" D σ H :=
  ha _ ⟨r, cR K, A.dx, rF A m, vn m.count, rfl, hS _ _ _ h.o, c_Reader T, a_Reader_count T, rF_count, (m.count : Int), 1, rfl, rfl, A.dx, rF A m, hS _ _ _ h.o, (show 10 < 1000 by decide), (by
    show D.nx σ (upd H r (.ins (cR K) A.dx (putF "count" (vn (m.count + 1)) (rF A m))))
    have S : Sub (cu C r 1 (.ins (cR K) A.dx (putF "count" (vn (m.count + 1)) (rF A m)))) _ := hS.upd
    rw [rP_count] at S
    rw [rP_count]
    exact nx _ _ A S (Kp.mut h.o rdN) (h.setO { m with count := m.count + 1 } rfl rfl rfl rfl rfl rfl) rfl rfl)⟩
end
theorem AfterG.at {C C' : CHp} {H' : Hp} {r : Addr} {A' : Adr} {m' : M} {X : Hp → Prop} (k : AfterG K C r m' X) (S : Sub C' H') (kp : Kp rdK C C') (R : RdAt K C' r A' m') (e : A'.rc = 7) (g : Good A' m') : X H' := k C' H' A' S kp R e g
def spRead (K : PySem.W.Frag) : Sp := Sp2 fun a b H Q => ∃ (C : CHp) (r : Addr) (A : Adr) (m : M) (l : Addr) (k : Nat) (xs : NL), a = .ref r ∧ b = .ref l ∧ Sub C H ∧ RdAt K C r A m ∧ A.rc = 7 ∧ Good A m ∧ WF m ∧ m.mode ≤ 24 ∧ m.count + xs.length ≤ 20000 ∧ (∀ c ∈ xs, c < 256) ∧ C l = some (k, .lst (nts xs)) ∧ rdK k ∧ AfterG K C r (m.read xs) (Q .non)
theorem M.read_cons {m : M} {c : Nat} {l : NL} : m.read (c :: l) = if (m.step c).mode = 26 then m.step c else M.read { m.step c with count := (m.step c).count + 1 } l := by
  rw [M.read]
theorem ok_read_signs (T : Tx K mg) : FnOk P w K mg base CX0 9 (He.fAd K ("read_signs", none)) (fdA K ("read_signs", none)) ["reader", "signs"] (spRead K) := by
  refine (F_read_signs T).ok sc_read_signs (fun vs H Q E h => Sp2.len h) (fun cdv A outer s H vs Q E hr h => ⟨_, PSs.nox (pss_one (ps_for PassesOwn.never rfl (pi_list (pv 1)) (pg_name (i := 2) sc_read_signs.nd rfl (Or.inl rfl)) (pss_cons (ps_expr (pe_call (ok_take_sign T) (hr.mono (by decide)) rfl (g_take_sign T) (F_take_sign T).kp (B_take_sign T) .nil pass0 (pa_cons (pv 0) (pa_cons (pv 2) pa_nil)))) (pss_cons (ps_if (pt_cmpR op_eq (pe_fld (pv 0) rfl) (pe_gi rfl (i_FAULT T)) (nomark _)) (pss_one ps_retN) pss_nil) (pss_one (ps_fldaug (pv 0) pe_int in_add)))))), ?_⟩)
  show _
  try simp only [cxK, cxK2]
  obtain ⟨a, b, rfl, C, r, A, m, l, k, xs, rfl, rfl, hS, R, hc, hg, wf, hm, hn, hx, hl, hk, q⟩ := h
  refine s_forL (val_var rfl) (hS _ _ _ hl) (fun j σ H' => ∃ (C' : CHp) (A' : Adr) (mi : M) (v : Option V), σ = [some (.ref r), some (.ref l), v] ∧ Sub C' H' ∧ Kp rdK C C' ∧ RdAt K C' r A' mi ∧ A'.rc = 7 ∧ Good A' mi ∧ WF mi ∧ mi.mode ≤ 24 ∧ mi.count = m.count + j ∧ j ≤ xs.length ∧ m.read xs = mi.read (xs.drop j))
    ⟨C, A, m, _, rfl, hS, Kp.refl C, R, hc, hg, wf, hm, rfl, Nat.zero_le _, rfl⟩ (fun j σ H' ⟨C', A', mi, v, _, S, K', _⟩ => S _ _ _ (K' _ _ _ hl hk)) (fun j x σ H1 hj pv => ?_) (fun σ H1 pv => ?_)
  · obtain ⟨C1, A1, mi, v, rfl, S1, K1, R1, hc1, hg1, wf1, hm1, hn1, hj1, hr⟩ := pv
    obtain ⟨c, hcx, rfl⟩ := nts_at hj
    have hlt : j < xs.length := (List.getElem?_eq_some_iff.mp hcx).1
    have hcc : c < 256 := hx c (List.mem_of_getElem? hcx)
    rw [drop_more hcx, M.read_cons] at hr
    refine q_drop (t_call (va_cons (val_var rfl) (va_cons (val_var rfl) va_nil)) ⟨_, _, rfl, C1, r, A1, mi, c, rfl, rfl, S1, R1, hc1, hg1, wf1.spre hm1 (by omega), hm1, fun C2 H2 A2 S2 K2 R2 hc2 hg2 => ?_⟩)
    by_cases e : (mi.step c).mode = 26
    · rw [if_pos e] at hr
      refine q_if (b := true) (by rw [← decide_eq_true e]; exact vt_eq 26 (v_mode T S2 R2 (val_var rfl)) val_c) (fun _ => ?_) (fun z => by cases z)
      rw [hr] at q
      exact q.at S2 (K1.trans K2) R2 hc2 hg2
    · rw [if_neg e] at hr
      refine q_if (b := false) (by rw [← decide_eq_false e]; exact vt_eq 26 (v_mode T S2 R2 (val_var rfl)) val_c) (fun z => by cases z) (fun _ => ?_)
      have w1 := (step_W1 wf1 hm1 hcc).resolve_left e
      have w2 := (step_mode (c := c) hm1).resolve_left e
      refine s_count T S2 R2 (val_var rfl) fun C3 H3 A3 S3 K3 R3 e1 e2 => ?_
      exact ⟨C3, A3, _, _, rfl, S3, (K1.trans K2).trans K3, R3, e2.trans hc2, (by rcases hg2 with z | z; exact .inl (e1.trans z); exact .inr z), w1, w2, by show (mi.step c).count + 1 = _; rw [step_count]; omega, hlt, hr⟩
  · obtain ⟨C1, A1, mi, v, rfl, S1, K1, R1, hc1, hg1, wf1, hm1, hn1, hj1, hr⟩ := pv
    rw [nts_len, List.drop_length] at hr
    rw [show m.read xs = mi from hr] at q
    exact q.at S1 K1 R1 hc1 hg1
def spReadEnd (K : PySem.W.Frag) : Sp := Sp1 fun a H Q => ∃ (C : CHp) (r : Addr) (A : Adr) (m : M), a = .ref r ∧ Sub C H ∧ RdAt K C r A m ∧ A.rc = 7 ∧ Good A m ∧ m.toks.length ≤ 1000000 ∧ AfterG K C r m.fin (Q .non)
theorem gt_in2 {σ : L2.St} {H : Hp} {ta t1 t2 : TE} {c x y : Nat} (ha : Val ta σ H (vn c)) (h1 : Val t1 σ H (vn x)) (h2 : Val t2 σ H (vn y)) :
    GT' (tTest (tOp (rIn K false) ta (tTup (tCons t1 (tCons t2 tNil))))) σ H (decide (c = x ∨ c = y)) := fun Q q => by
  refine ha _ ?_
  refine va_cons h1 (va_cons h2 va_nil) _ ⟨by show 2 ≤ sizeLine; decide, fun p hp => ⟨p, nts [x, y], rfl, .inr (SqT.of upd_same), rfl, flat_nats _, _, rfl, ?_⟩⟩
  have e : inV (vn c) (nts [x, y]) = decide (c = x ∨ c = y) := by
    rw [show vn c = V.int (c : Int) from rfl, any_nats, Bool.eq_iff_iff]
    simp
  rw [if_neg Bool.false_ne_true, e]
  exact q _ (Same.new hp)
theorem ok_read_end (T : Tx K mg) : FnOk P w K mg base CX0 5 (He.fAd K ("read_end", none)) (fdA K ("read_end", none)) ["reader"] (spReadEnd K) := by
  refine (F_read_end T).ok sc_read_end (fun vs H Q E h => Sp1.len h) (fun cdv A outer s H vs Q E hr h => ⟨_, PSs.nox (pss_cons (ps_if (pt_cmpR op_in_seq (pe_fld (pv 0) rfl) (pe_tup (pa_cons (pe_gi rfl (i_ENDED T)) (pa_cons (pe_gi rfl (i_FAULT T)) pa_nil))) (by rfl)) (pss_one ps_retN) pss_nil) (pss_cons (ps_if (pt_cmpR op_ne (pe_fld (pv 0) rfl) (pe_gi rfl (i_TEXT T)) (nomark _)) (pss_cons (ps_expr (pe_meth (pv 0) (c_Reader T) (m_Reader_fail T) (ok_Reader_fail T) (hr.mono (by decide)) (B_Reader_fail T) .nil pass0 (pa_cons (pe_gi rfl (i_UNFINISHED T)) pa_nil))) (pss_one ps_retN)) pss_nil) (pss_cons (ps_if (pt_truth (pe_fld (pv 0) rfl) (by intro _; rfl)) (pss_one (ps_expr (pe_meth (pv 0) (c_Reader T) (m_Reader_finish_run T) (ok_Reader_finish_run T) (hr.mono (by decide)) (B_Reader_finish_run T) .nil pass0 (pa_cons (pe_gi rfl (i_RUN_OF_TEXT T)) (pa_cons (pe_fld (pv 0) rfl) pa_nil))))) pss_nil) (pss_one (ps_fld (pv 0) (pe_gi rfl (i_ENDED T)) rfl))))), ?_⟩)
  show _
  try simp only [cxK, cxK2]
  obtain ⟨a, rfl, C, r, A, m, rfl, hS, R, hc, hg, hl, q⟩ := h
  unfold M.fin at q
  refine qg_if (gt_in2 (x := 25) (y := 26) (v_mode T hS R (val_var rfl)) val_c val_c) (fun e H1 s1 => ?_) (fun e H1 s1 => ?_)
  · rw [if_pos (of_decide_eq_true e)] at q
    exact q.at (hS.same s1) (Kp.refl C) R hc hg
  rw [if_neg (of_decide_eq_false e)] at q
  have S1 := hS.same s1
  refine q_if (b := !decide (m.mode = 0)) (vt_test (val_neN (b := 0) (v_mode T S1 R (val_var rfl)) val_c)) (fun e => ?_) (fun e => ?_)
  · rw [if_pos (show m.mode ≠ 0 by simpa using e)] at q
    exact q_fail (k := 7) S1 R (val_var rfl) val_c (q.to (.inr (mode_fail _ _)) hc)
  rw [if_neg (show ¬ m.mode ≠ 0 by simpa using e)] at q
  have ht : A.tc = 3 := hg.tc3 (k := 0) (by simpa using e) (by decide)
  refine q_if (vt_nts (v_run T S1 R (val_var rfl)) (S1 _ _ _ R.rn)) (fun e => ?_) (fun e => ?_)
  · rw [if_neg (isEmptyT e)] at q
    refine s_finRun (k := 0) (st := m.count) S1 R (val_var rfl) val_c (v_count T S1 R (val_var rfl)) hc hl fun C1 H1 A1 S1 K1 R1 e1 e2 => ?_
    exact s_mode (k := 25) T S1 R1 (fun _ => val_var rfl) val_c ((q.lift K1).to (.inl (by rw [e1]; exact ht)) e2)
  · rw [if_pos (isEmptyF e)] at q
    exact s_mode (k := 25) T S1 R (fun _ => val_var rfl) val_c (q.to (.inl ht) hc)

end Sm

set_option Elab.async false
set_option linter.all false
set_option maxRecDepth 100000
set_option maxHeartbeats 0
namespace Sm
open PySem PySem.Spec PyProof.Rows L2
variable {P : Program} {w : World} {K : PySem.W.Frag} {mg : Str → Option Value} {base : Heap}
/-! ### whole texts -/
/-- all that stands, frozen -/
def C0 (H : Hp) : CHp := fun a => (H a).map fun o => (0, o)
theorem C0.sub {H : Hp} : Sub (C0 H) H := fun a k o e => by
  unfold C0 at e
  cases h : H a with
  | none => rw [h] at e; cases e
  | some u => rw [h] at e; cases e; rfl
theorem C0.at {H : Hp} {a : Addr} {o : HO} (h : H a = some o) : C0 H a = some (0, o) := by
  unfold C0; rw [h]; rfl
theorem C0.fz {H : Hp} : Same H (fz (C0 H)) := fun _ _ e => fz_of (C0.at e)
theorem C0.same {P : Nat → Prop} {H H' : Hp} {C' : CHp} (S : Sub C' H') (k : Kp P (C0 H) C') (h0 : P 0) : Same H H' := fun a o e => S _ _ _ (k _ _ _ (C0.at e) h0)
/-- a reader, to be looked at -/
def RdrAt (K : PySem.W.Frag) (F : Hp) (r : Addr) (m : M) : Prop := ∃ A : Adr, F r = some (.ins (cR K) A.dx (rF A m)) ∧ F A.pt = some (.lst A.ts) ∧ Toks K F A.ts m.toks
theorem RdrAt.mono {F F' : Hp} (s : Same F F') {r : Addr} {m : M} : RdrAt K F r m → RdrAt K F' r m := fun ⟨A, h1, h2, h3⟩ => ⟨A, s _ _ h1, s _ _ h2, h3.mono s⟩
theorem RdAt.rdr {C : CHp} {H : Hp} {r : Addr} {A : Adr} {m : M} (S : Sub C H) (R : RdAt K C r A m) : RdrAt K H r m := ⟨A, S _ _ _ R.o, S _ _ _ R.tk, R.tks.mono S.fz⟩
def spText (K : PySem.W.Frag) : Sp := Sp1 fun a H Q => ∃ (l : Addr) (xs : NL), a = .ref l ∧ H l = some (.lst (nts xs)) ∧ xs.length ≤ 20000 ∧ (∀ c ∈ xs, c < 256) ∧ ∀ (H' : Hp) (r : Addr), Same H H' → RdrAt K H' r (rd xs) → Q (.ref r) H'
theorem Kp.tail {P P' : Nat → Prop} {C C1 C2 : CHp} {r : Addr} {k : Nat} {o : HO} (a : Kp P C C1) (b : Kp P' C1 C2) (h : ∀ k, P k → P' k) : Kp P C C2 := a.trans (b.mono h)
theorem ok_read_text (T : Tx K mg) : FnOk P w K mg base CX0 10 (He.fAd K ("read_text", none)) (fdA K ("read_text", none)) ["signs"] (spText K) := by
  refine (F_read_text T).ok sc_read_text (fun vs H Q E h => Sp1.len h) (fun cdv A outer s H vs Q E hr h => ⟨_, PSs.nox (pss_cons (ps_set (i := 1) sc_read_text.nd rfl (Or.inl rfl) (pe_make0 (k_Reader T) (ok_Reader___init__ T) (hr.mono (by decide)) rfl (g_Reader T) (B_Reader___init__ T) .nil pass0)) (pss_cons (ps_expr (pe_call (ok_read_signs T) (hr.mono (by decide)) rfl (g_read_signs T) (F_read_signs T).kp (B_read_signs T) .nil pass0 (pa_cons (pv 1) (pa_cons (pv 0) pa_nil)))) (pss_cons (ps_expr (pe_call (ok_read_end T) (hr.mono (by decide)) rfl (g_read_end T) (F_read_end T).kp (B_read_end T) .nil pass0 (pa_cons (pv 1) pa_nil))) (pss_one (ps_ret (pv 1)))))), ?_⟩)
  show _
  try simp only [cxK, cxK2]
  obtain ⟨a, rfl, l, xs, rfl, hl, hn, hx, q⟩ := h
  refine q_set (make_reader C0.sub fun C1 H1 r A1 hr S1 K1 R1 e1 e2 => ?_)
  have hl1 : C1 l = some (0, .lst (nts xs)) := K1 _ _ _ (C0.at hl) (by intro z; cases z)
  refine q_drop (t_call (va_cons (val_var rfl) (va_cons (val_var rfl) va_nil)) ⟨_, _, rfl, C1, r, A1, M.new, l, 0, xs, rfl, rfl, S1, R1, e2, .inl e1, WF.new, by decide, by show 0 + xs.length ≤ 20000; omega, hx, hl1, rd0, fun C2 H2 A2 S2 K2 R2 hc2 hg2 => ?_⟩)
  have tb := read_tb xs M.new WF.new (by decide) hx
  have hc0 : M.new.count = 0 := rfl
  have ht : (M.new.read xs).toks.length ≤ 1000000 := by have := tb.1.n; have := tb.2; omega
  refine q_drop (t_call (va_cons (val_var rfl) va_nil) ⟨_, rfl, C2, r, A2, _, rfl, S2, R2, hc2, hg2, ht, fun C3 H3 A3 S3 K3 R3 hc3 hg3 => ?_⟩)
  refine s_retV (val_var rfl) (q H3 r ?_ (R3.rdr S3))
  have k : Kp (fun k => k = 0) (C0 H) C3 := (K1.mono (fun k e => by rw [e]; intro z; cases z)).trans ((K2.trans K3).mono fun k e => .inl e)
  exact C0.same S3 k rfl
/-! ### normal tokens -/
abbrev cJ (K : PySem.W.Frag) : Addr := He.ga K "Joiner"
def spCloses (K : PySem.W.Frag) : Sp := Sp2 fun a b H Q => ∃ (p q : Addr) (t o : Tk), a = .ref p ∧ b = .ref q ∧ TokAt K H p t ∧ TokAt K H q o ∧ Q (.bl (closes t o)) H
section
variable {σ : L2.St} {H : Hp} {ta : TE} {p : Addr} {t : Tk} {dx n a s : Addr}
theorem vk_kind (T : Tx K mg) (h : H p = some (.ins (cT K) dx (tkF t n a s))) (ha : Val ta σ H (.ref p)) : Val (tFld K ta "kind") σ H (vn t.kind) := val_fld ha h (c_Token T) (a_Token_kind T) tk_kind
theorem vk_place (T : Tx K mg) (h : H p = some (.ins (cT K) dx (tkF t n a s))) (ha : Val ta σ H (.ref p)) : Val (tFld K ta "place") σ H (.int t.place) := val_fld ha h (c_Token T) (a_Token_place T) tk_place
theorem vk_stop (T : Tx K mg) (h : H p = some (.ins (cT K) dx (tkF t n a s))) (ha : Val ta σ H (.ref p)) : Val (tFld K ta "stop") σ H (.int t.stop) := val_fld ha h (c_Token T) (a_Token_stop T) tk_stop
theorem vk_name (T : Tx K mg) (h : H p = some (.ins (cT K) dx (tkF t n a s))) (ha : Val ta σ H (.ref p)) : Val (tFld K ta "name") σ H (.ref n) := val_fld ha h (c_Token T) (a_Token_name T) tk_name
theorem vk_attrs (T : Tx K mg) (h : H p = some (.ins (cT K) dx (tkF t n a s))) (ha : Val ta σ H (.ref p)) : Val (tFld K ta "attributes") σ H (.ref a) := val_fld ha h (c_Token T) (a_Token_attributes T) tk_attrs
theorem vk_ended (T : Tx K mg) (h : H p = some (.ins (cT K) dx (tkF t n a s))) (ha : Val ta σ H (.ref p)) : Val (tFld K ta "ended") σ H (vn t.ended) := val_fld ha h (c_Token T) (a_Token_ended T) tk_ended
theorem vk_signs (T : Tx K mg) (h : H p = some (.ins (cT K) dx (tkF t n a s))) (ha : Val ta σ H (.ref p)) : Val (tFld K ta "signs") σ H (.ref s) := val_fld ha h (c_Token T) (a_Token_signs T) tk_signs
end
theorem ok_closes (T : Tx K mg) : FnOk P w K mg base CX0 1 (He.fAd K ("closes", none)) (fdA K ("closes", none)) ["token", "tag"] (spCloses K) := by
  refine (F_closes T).ok sc_closes (fun vs H Q E h => Sp2.len h) (fun cdv A outer s H vs Q E hr h => ⟨_, PSs.nox (pss_one (ps_ret (pe_and (pe_cmpR op_eq (pe_fld (pv 0) rfl) (pe_gi rfl (i_CLOSE_TAG T)) (nomark _)) (pe_one (pe_cmpR (op_eqD hr.units) (pe_fld (pv 0) rfl) (pe_fld (pv 1) rfl) (nomark _)))))), ?_⟩)
  show _
  try simp only [cxK, cxK2]
  obtain ⟨a, b, rfl, p, q, t, o, rfl, rfl, ⟨dx, n, g, s', vs, h1, h2, _⟩, ⟨dx2, n2, g2, s2, vs2, k1, k2, _⟩, k⟩ := h
  unfold closes at k
  refine s_ret ?_
  refine val_eqN (b := 2) (vk_kind T h1 (val_var rfl)) val_c _ ⟨_, rfl, ?_⟩
  cases e : decide (t.kind = 2) with
  | false =>
    rw [e] at k
    rw [if_neg Bool.false_ne_true]
    exact k
  | true =>
    rw [e] at k
    rw [if_pos rfl]
    refine vk_name T h1 (val_var rfl) _ (vk_name T k1 (val_var rfl) _ (eqL h2 k2 ?_))
    exact k
def spJoined (K : PySem.W.Frag) : Sp := Sp2 fun a b H Q => ∃ (C : CHp) (p q : Addr) (o t : Tk), a = .ref p ∧ b = .ref q ∧ Sub C H ∧ TokAt K (fz C) p o ∧ TokAt K (fz C) q t ∧ RetTok K C Q (joinTk o t)
theorem ok_joined (T : Tx K mg) : FnOk P w K mg base CX0 4 (He.fAd K ("joined", none)) (fdA K ("joined", none)) ["tag", "closing"] (spJoined K) := by
  refine (F_joined T).ok sc_joined (fun vs H Q E h => Sp2.len h) (fun cdv A outer s H vs Q E hr h => ⟨_, PSs.nox (pss_one (ps_ret (pe_call (ok_open_tag T) (hr.mono (by decide)) rfl (g_open_tag T) (F_open_tag T).kp (B_open_tag T) .nil pass0 (pa_cons (pe_fld (pv 0) rfl) (pa_cons (pe_fld (pv 1) rfl) (pa_cons (pe_fld (pv 0) rfl) (pa_cons (pe_fld (pv 0) rfl) (pa_cons pe_int pa_nil)))))))), ?_⟩)
  show _
  try simp only [cxK, cxK2]
  obtain ⟨a, b, rfl, C, p, q, o, t, rfl, rfl, hS, ⟨dx, n, g, s', vs, h1, h2, h3, h4, h5⟩, ⟨dx2, n2, g2, s2, vs2, k1, _⟩, k⟩ := h
  have f := hS.fz
  refine s_ret (t_call (va_cons (vk_place T (f _ _ h1) (val_var rfl)) (va_cons (vk_stop T (f _ _ k1) (val_var rfl)) (va_cons (vk_name T (f _ _ h1) (val_var rfl)) (va_cons (vk_attrs T (f _ _ h1) (val_var rfl)) (va_cons val_c va_nil))))) ?_)
  exact ⟨_, _, _, _, _, rfl, C, o.place, t.stop, n, g, o.name, vs, o.attrs, 1, rfl, rfl, rfl, rfl, rfl, hS, of_fz h2, of_fz h3, h4, k⟩

end Sm

set_option Elab.async false
set_option linter.all false
set_option maxRecDepth 100000
set_option maxHeartbeats 0
namespace Sm
open PySem PySem.Spec PyProof.Rows L2
variable {P : Program} {w : World} {K : PySem.W.Frag} {mg : Str → Option Value} {base : Heap}
/-! ### the joiner -/
theorem t_extC {σ : L2.St} {H : Hp} {ta te : TE} {Q : VK} {a : Addr} {xs : List V} (ho : Val ta σ H (.ref a)) (hx : H a = some (.lst xs))
    (h : te σ H fun y H1 => ∃ b ys zs, y = .ref b ∧ H1 a = some (.lst ys) ∧ H1 b = some (.lst zs) ∧ ys.length + zs.length ≤ sizeLine ∧ Q .non (upd H1 a (.lst (ys ++ zs)))) : tBM K "list" rExtend ta (tCons te tNil) σ H Q := by
  refine ho _ ⟨.inl ⟨rfl, xs, SqL.of hx⟩, ?_⟩
  have e : (fun (y : V) (H1 : Hp) => ∃ b ys zs, y = .ref b ∧ H1 a = some (.lst ys) ∧ H1 b = some (.lst zs) ∧ ys.length + zs.length ≤ sizeLine ∧ Q .non (upd H1 a (.lst (ys ++ zs)))) = fun y H1 => tNil σ H1 fun vs H2 => rExtend (.ref a) (y :: vs) H2 Q := by
    funext y H1
    apply propext
    constructor
    · rintro ⟨b, ys, zs, rfl, h1, h2, h3, h4⟩
      exact ⟨a, b, ys, zs, rfl, rfl, h1, h2, h3, h4⟩
    · rintro ⟨l, b, ys, zs, e1, e2, h1, h2, h3, h4⟩
      cases e1
      cases e2
      exact ⟨b, ys, zs, rfl, h1, h2, h3, h4⟩
  show te σ H fun y H1 => tNil σ H1 fun vs H2 => rExtend (.ref a) (y :: vs) H2 Q
  rw [← e]
  exact h
section
variable {σ : L2.St} {H : Hp} {ta te : TE} {x : V} {D : Ends} {U : TS} {f : Str} {t : TA} {vs : List V} {Q : VK}
theorem q_fldC (h : te σ H fun y H1 => tSeq (sFld K ta (tC y) f) U D σ H1) : tSeq (sFld K ta te f) U D σ H := h
theorem val_isN (ha : Val ta σ H x) : Val (tOp (fun x y H Q => y = .non ∧ Q (.bl (decide (x = .non))) H) ta (tC .non)) σ H (.bl (decide (x = .non))) := fun _ q => ha _ ⟨rfl, q⟩
theorem val_notN (ha : Val ta σ H x) : Val (tOp (fun x y H Q => y = .non ∧ Q (.bl (!decide (x = .non))) H) ta (tC .non)) σ H (.bl (!decide (x = .non))) := fun _ q => ha _ ⟨rfl, q⟩
theorem t_lst (hv : ValA t σ H vs) (hl : vs.length ≤ sizeLine) (k : ∀ p, H p = none → Q (.ref p) (upd H p (.lst vs))) : tLst t σ H Q := hv _ ⟨hl, k⟩
theorem q_setL {i : Nat} (hv : ValA t σ H vs) (hl : vs.length ≤ sizeLine) (k : ∀ p, H p = none → U D (σ.set i (some (.ref p))) (upd H p (.lst vs))) : tSeq (tAsg (tLst t) (gName i)) U D σ H := hv _ ⟨hl, k⟩
end
def jF (v : V) : List (Str × V) := [("held", v)]
theorem jF_held {v : V} : (jF v).lookup ("held" : Str) = some v := by kernel_rfl
theorem jP_held {v x : V} : putF "held" x (jF v) = jF x := by kernel_rfl
theorem jP_new {x : V} : putF "held" x [] = jF x := by kernel_rfl
theorem few_jF {v : V} : Few 900 (jF v) := (show Few 1 (jF v) from Nat.le_refl 1).up
theorem jL_settle {v : V} : (jF v).lookup ("settle" : Str) = none := by kernel_rfl
theorem jL_release {v : V} : (jF v).lookup ("release" : Str) = none := by kernel_rfl
def HeldAt (K : PySem.W.Frag) (F : Hp) (v : V) : Option Tk → Prop
  | none => v = .non
  | some o => ∃ p, v = .ref p ∧ TokAt K F p o
theorem HeldAt.mono {F F' : Hp} (s : Same F F') {v : V} : ∀ {o : Option Tk}, HeldAt K F v o → HeldAt K F' v o
  | none, h => h
  | some _, ⟨p, e, h⟩ => ⟨p, e, h.mono s⟩
def spJ0 (K : PySem.W.Frag) : Sp := Sp1 fun a H Q => ∃ (C : CHp) (x dx : Addr), a = .ref x ∧ Sub C H ∧ C x = some (8, .ins (cJ K) dx []) ∧ ∀ H', Sub (cu C x 8 (.ins (cJ K) dx (jF .non))) H' → Q .non H'
theorem ok_Joiner___init__ (T : Tx K mg) : FnOk P w K mg base CX0 1 (He.fAd K ("Joiner", some "__init__")) (fdA K ("Joiner", some "__init__")) ["self"] (spJ0 K) := by
  refine (F_Joiner___init__ T).ok sc_Joiner___init__ (fun vs H Q E h => Sp1.len h) (fun cdv A outer s H vs Q E hr h => ⟨_, PSs.nox (pss_one (ps_fld (pv 0) pe_non rfl)), ?_⟩)
  show _
  try simp only [cxK, cxK2]
  obtain ⟨a, rfl, C, x, dx, rfl, hS, hx, k⟩ := h
  refine s_fld hS (val_var rfl) val_c hx (c_Joiner T) (a_Joiner_held T) few_nil fun H1 S1 => ?_
  rw [jP_new] at S1
  exact k H1 S1
theorem make_joiner {σ : L2.St} {D : V → Hp → Prop} {H : Hp} {C : CHp} (hS : Sub C H)
    (nx : ∀ (H' : Hp) (x dx : Addr), C x = none → Sub (cu C x 8 (.ins (cJ K) dx (jF .non))) H' → D (.ref x) H') : tMake (cJ K) (spJ0 K) [] E0 tNil σ H D := fun x dx hx hdx hne => by
  have hC := hS.none hx
  refine ⟨_, rfl, cu C x 8 (.ins (cJ K) dx []), x, dx, rfl, Sub.upd (hS.same (Same.new hdx)), cu_same, fun H' h1 => ⟨rfl, ?_⟩⟩
  rw [cu_cu] at h1
  exact nx H' x dx hC h1
def RetRel (K : PySem.W.Frag) (C : CHp) (j dx : Addr) (held : Option Tk) (Q : VK) : Prop := ∀ (C' : CHp) (H' : Hp) (p : Addr) (us : List V), Sub C' H' → Kp (noK 8) C C' → C' j = some (8, .ins (cJ K) dx (jF .non)) → C p = none → C' p = some (31, .lst us) → Toks K (fz C') us (oneList held) → Q (.ref p) H'
def spRelease (K : PySem.W.Frag) : Sp := Sp1 fun a H Q => ∃ (C : CHp) (j dx : Addr) (hv : V) (held : Option Tk), a = .ref j ∧ Sub C H ∧ C j = some (8, .ins (cJ K) dx (jF hv)) ∧ HeldAt K (fz C) hv held ∧ RetRel K C j dx held Q
theorem ok_Joiner_release (T : Tx K mg) : FnOk P w K mg base CX0 1 (He.fAd K ("Joiner", some "release")) (fdA K ("Joiner", some "release")) ["self"] (spRelease K) := by
  refine (F_Joiner_release T).ok sc_Joiner_release (fun vs H Q E h => Sp1.len h) (fun cdv A outer s H vs Q E hr h => ⟨_, PSs.nox (pss_cons (ps_if (pt_cmpR op_isN (pe_fld (pv 0) rfl) pe_non (nomark _)) (pss_one (ps_ret (pe_lst pa_nil))) pss_nil) (pss_cons (ps_set (i := 1) sc_Joiner_release.nd rfl (Or.inl rfl) (pe_lst (pa_cons (pe_fld (pv 0) rfl) pa_nil))) (pss_cons (ps_fld (pv 0) pe_non rfl) (pss_one (ps_ret (pv 1)))))), ?_⟩)
  show _
  try simp only [cxK, cxK2]
  obtain ⟨a, rfl, C, j, dx, hv, held, rfl, hS, hj, hh, q⟩ := h
  have V0 : ∀ {σ : L2.St} {H' : Hp}, σ[0]? = some (some (.ref j)) → H' j = some (.ins (cJ K) dx (jF hv)) → Val (tFld K (tVar 0) "held") σ H' hv := fun h1 h2 => val_fld (val_var h1) h2 (c_Joiner T) (a_Joiner_held T) jF_held
  refine q_if (vt_test (val_isN (V0 rfl (hS _ _ _ hj)))) (fun e => ?_) (fun e => ?_)
  · have e' : hv = .non := of_decide_eq_true e
    subst e'
    cases held with
    | some o => obtain ⟨p, z, _⟩ := hh; cases z
    | none =>
      refine s_ret (t_lst va_nil (by decide) fun p hp => ?_)
      have hC := hS.none hp
      exact q _ _ p [] hS.upd (Kp.new hC) (cu_new hj hC) hC cu_same trivial
  · have e' : ¬ hv = .non := of_decide_eq_false e
    cases held with
    | none => exact absurd hh e'
    | some o =>
      obtain ⟨z, rfl, ht⟩ := hh
      refine q_setL (va_cons (V0 rfl (hS _ _ _ hj)) va_nil) (by show 1 ≤ sizeLine; decide) fun p hp => ?_
      have hC := hS.none hp
      have S1 : Sub (cu C p 31 (.lst [.ref z])) _ := hS.upd
      refine q_fld S1 (val_var rfl) val_c (cu_new hj hC) (c_Joiner T) (a_Joiner_held T) few_jF fun H2 S2 => ?_
      rw [jP_held] at S2
      have k1 : Kp (noK 8) C _ := (Kp.new (k := 31) (o := .lst [.ref z]) hC).trans (Kp.mut (k := 8) (o := .ins (cJ K) dx (jF .non)) (cu_new hj hC) noK_self)
      exact s_retV (val_var rfl) (q _ _ p [.ref z] S2 k1 cu_same hC (by rw [cu_ne (Ne.symm (c_new hj hC))]; exact cu_same) ⟨⟨z, rfl, ht.mono (k1.fz ok0)⟩, trivial⟩)
theorem nk {j k : Nat} (h : k ≠ j := by decide) : noK j k := h
def jnK : Nat → Prop := fun k => k ≠ 8 ∧ k ≠ 30 ∧ k ≠ 31
theorem jn0 : jnK 0 := ⟨by decide, by decide, by decide⟩
def hcl (h : Option Tk) (t : Tk) : Bool := match h with
  | none => false
  | some o => Sm.closes t o
theorem settle_cnt : ∀ (ts : List Tk) (h : Option Tk), (settle h ts).1.length ≤ (oneList h).length + ts.length - (oneList (settle h ts).2).length ∧ (oneList (settle h ts).2).length ≤ (oneList h).length + ts.length
  | [], h => ⟨by show 0 ≤ _; omega, by show (oneList h).length ≤ _; omega⟩
  | t :: r, h => by
    have ih := settle_cnt r (settle1 h t).2
    have one : (settle1 h t).1.length + (oneList (settle1 h t).2).length ≤ (oneList h).length + 1 := by
      unfold settle1
      cases h with
      | none => dsimp only; split <;> simp [oneList]
      | some o =>
        dsimp only
        split
        · simp [oneList]
        · split <;> simp [oneList]
    show ((settle1 h t).1 ++ (settle (settle1 h t).2 r).1).length ≤ (oneList h).length + (r.length + 1) - (oneList (settle (settle1 h t).2 r).2).length ∧ (oneList (settle (settle1 h t).2 r).2).length ≤ (oneList h).length + (r.length + 1)
    rw [List.length_append]
    omega
theorem one_le (h : Option Tk) : (oneList h).length ≤ 1 := by cases h <;> simp [oneList]
theorem settle1_close {h : Option Tk} {t : Tk} {o : Tk} (e : h = some o) (c : Sm.closes t o = true) : settle1 h t = ([joinTk o t], none) := by
  subst e
  exact if_pos c
theorem settle1_open {h : Option Tk} {t : Tk} (c : hcl h t = false) (e : isOpen t = true) : settle1 h t = (oneList h, some t) := by
  cases h with
  | none => exact if_pos e
  | some o => exact (if_neg (by rw [show Sm.closes t o = false from c]; exact Bool.false_ne_true)).trans (if_pos e)
theorem settle1_else {h : Option Tk} {t : Tk} (c : hcl h t = false) (e : isOpen t = false) : settle1 h t = (oneList h ++ [t], none) := by
  have n : ¬ isOpen t = true := by rw [e]; exact Bool.false_ne_true
  cases h with
  | none => exact if_neg n
  | some o => exact (if_neg (by rw [show Sm.closes t o = false from c]; exact Bool.false_ne_true)).trans (if_neg n)
theorem Kp.jn {P : Nat → Prop} {C C' : CHp} (h : Kp P C C') (q : ∀ k, jnK k → P k) : Kp jnK C C' := h.mono q
def spSettle (K : PySem.W.Frag) : Sp := Sp2 fun a b H Q => ∃ (C : CHp) (j dx : Addr) (hv : V) (held : Option Tk) (l : Addr) (k : Nat) (vs : List V) (ts : List Tk), a = .ref j ∧ b = .ref l ∧ Sub C H ∧ C j = some (8, .ins (cJ K) dx (jF hv)) ∧ HeldAt K (fz C) hv held ∧
  C l = some (k, .lst vs) ∧ jnK k ∧ Toks K (fz C) vs ts ∧ ts.length ≤ 1000000 ∧
  ∀ (C' : CHp) (H' : Hp) (hv' : V) (p : Addr) (us : List V), Sub C' H' → Kp jnK C C' → C' j = some (8, .ins (cJ K) dx (jF hv')) → HeldAt K (fz C') hv' (settle held ts).2 → C p = none → C' p = some (31, .lst us) → Toks K (fz C') us (settle held ts).1 → Q (.ref p) H'
theorem ok_Joiner_settle (T : Tx K mg) : FnOk P w K mg base CX0 5 (He.fAd K ("Joiner", some "settle")) (fdA K ("Joiner", some "settle")) ["self", "tokens"] (spSettle K) := by
  refine (F_Joiner_settle T).ok sc_Joiner_settle (fun vs H Q E h => Sp2.len h) (fun cdv A outer s H vs Q E hr h => ⟨_, PSs.nox (pss_cons (ps_set (i := 2) sc_Joiner_settle.nd rfl (Or.inl rfl) (pe_lst pa_nil)) (pss_cons (ps_for PassesOwn.never rfl (pi_list (pv 1)) (pg_name (i := 3) sc_Joiner_settle.nd rfl (Or.inl rfl)) (pss_cons (ps_if (PW.pt (pw_and (pt_cmpR op_notN (pe_fld (pv 0) rfl) pe_non (nomark _)) (pw_and1 (pt_val (pe_call (ok_closes T) (hr.mono (by decide)) rfl (g_closes T) (F_closes T).kp (B_closes T) .nil pass0 (pa_cons (pv 3) (pa_cons (pe_fld (pv 0) rfl) pa_nil))))))) (pss_cons (ps_fld (pv 0) (pe_call (ok_joined T) (hr.mono (by decide)) rfl (g_joined T) (F_joined T).kp (B_joined T) .nil pass0 (pa_cons (pe_fld (pv 0) rfl) (pa_cons (pv 3) pa_nil))) rfl) (pss_cons (ps_expr (pe_bm PySem.F.plainAttrs_list PySem.F.slot_list_extend PySem.F.type_list_extend mt_extend (pv 2) (pa_cons (pe_meth0 (pv 0) (c_Joiner T) (m_Joiner_release T) (ok_Joiner_release T) (hr.mono (by decide)) (B_Joiner_release T) .nil pass0) pa_nil))) (pss_one ps_continue))) pss_nil) (pss_cons (ps_expr (pe_bm PySem.F.plainAttrs_list PySem.F.slot_list_extend PySem.F.type_list_extend mt_extend (pv 2) (pa_cons (pe_meth0 (pv 0) (c_Joiner T) (m_Joiner_release T) (ok_Joiner_release T) (hr.mono (by decide)) (B_Joiner_release T) .nil pass0) pa_nil))) (pss_one (ps_if (PW.pt (pw_and (pt_cmpR op_eq (pe_fld (pv 3) rfl) (pe_gi rfl (i_OPEN_TAG T)) (nomark _)) (pw_and1 (pt_cmpR op_eq (pe_fld (pv 3) rfl) pe_int (nomark _))))) (pss_one (ps_fld (pv 0) (pv 3) rfl)) (pss_one (ps_expr (pe_bm PySem.F.plainAttrs_list PySem.F.slot_list_append PySem.F.type_list_append mt_append (pv 2) (pa_cons (pv 3) pa_nil))))))))) (pss_one (ps_ret (pv 2))))), ?_⟩)
  show _
  try simp only [cxK, cxK2]
  obtain ⟨a, b, rfl, C, j, dx, hv0, held, l, k, vs, ts, rfl, rfl, hS, hj, hh, hl, hk, hts, hn, q⟩ := h
  refine q_setL va_nil (by decide) fun p hp => ?_
  have hpC := hS.none hp
  have S0 : Sub (cu C p 31 (.lst [])) _ := hS.upd
  have K0 : Kp jnK C (cu C p 31 (.lst [])) := Kp.new hpC
  refine q_forL (val_var rfl) (S0 _ _ _ (cu_new hl hpC)) (fun i σ H' => ∃ (C' : CHp) (hv : V) (us : List V) (v : Option V), σ = [some (.ref j), some (.ref l), some (.ref p), v] ∧ Sub C' H' ∧ Kp jnK C C' ∧ C' j = some (8, .ins (cJ K) dx (jF hv)) ∧ HeldAt K (fz C') hv (settle held (ts.take i)).2 ∧
      C' p = some (31, .lst us) ∧ Toks K (fz C') us (settle held (ts.take i)).1)
    ⟨_, hv0, [], _, rfl, S0, K0, cu_new hj hpC, hh.mono (K0.fz jn0), cu_same, trivial⟩ (fun i σ H' ⟨C', hv, us, v, _, S, K', _⟩ => S _ _ _ (K' _ _ _ hl hk)) (fun i x σ H1 hi pv => ?_) (fun σ H1 pv => ?_)
  · obtain ⟨C1, hv, us, v, rfl, S1, K1, hj1, hh1, hp1, hu1⟩ := pv
    obtain ⟨t, z, htz, rfl, ht0⟩ := hts.get hi
    have ht1 : TokAt K (fz C1) z t := ht0.mono (K1.fz jn0)
    have hul : us.length ≤ 1000001 := by
      have h1 := (settle_cnt (ts.take i) held).1
      have h2 := one_le held
      have h3 := List.length_take_le' i ts
      have h4 := List.length_take_le i ts
      rw [hu1.len]
      have : (ts.take i).length ≤ ts.length := by omega
      omega
    obtain ⟨s1, h1, es⟩ : ∃ s1 h1, settle held (ts.take i) = (s1, h1) := ⟨_, _, rfl⟩
    have es2 : settle held (ts.take (i + 1)) = (s1 ++ (settle1 h1 t).1, (settle1 h1 t).2) := by rw [take_more htz, settle_snoc, es]
    rw [es] at hh1 hu1
    rw [es2]
    have Vh : ∀ {τ : L2.St} {H' : Hp} {x : V}, τ[0]? = some (some (.ref j)) → H' j = some (.ins (cJ K) dx (jF x)) → Val (tFld K (tVar 0) "held") τ H' x := fun q1 q2 => val_fld (val_var q1) q2 (c_Joiner T) (a_Joiner_held T) jF_held
    cases hc : hcl h1 t with
    | true =>
      cases h1 with
      | none => cases hc
      | some o =>
        have hc' : Sm.closes t o = true := hc
        obtain ⟨w, rfl, hw⟩ := hh1
        refine q_if (b := true) ?cond (fun _ => ?_) (fun z => by cases z)
        case cond =>
          have e : (!decide (V.ref w = .non) && Sm.closes t o) = true := by rw [hc']; rfl
          rw [← e]
          exact vt_and (vt_test (val_notN (Vh rfl (S1 _ _ _ hj1)))) fun _ => vt_b (val_call (va_cons (val_var rfl) (va_cons (Vh rfl (S1 _ _ _ hj1)) va_nil)) fun Q q => ⟨_, _, rfl, z, w, t, o, rfl, rfl, ht1.mono S1.fz, hw.mono S1.fz, q⟩)
        refine q_fldC (t_call (va_cons (Vh rfl (S1 _ _ _ hj1)) (va_cons (val_var rfl) va_nil)) ⟨_, _, rfl, C1, w, z, o, t, rfl, rfl, S1, hw, ht1, fun C2 H2 y S2 K2 hy => ?_⟩)
        have hj2 := K2 _ _ _ hj1 (nk : noK 30 8)
        refine q_fld S2 (val_var rfl) val_c hj2 (c_Joiner T) (a_Joiner_held T) few_jF fun H3 S3 => ?_
        rw [jP_held] at S3
        have K3 : Kp (noK 8) C2 (cu C2 j 8 (.ins (cJ K) dx (jF (.ref y)))) := Kp.mut hj2 noK_self
        have hp3 := K3 _ _ _ (K2 _ _ _ hp1 (nk : noK 30 31)) (nk : noK 8 31)
        refine q_drop (t_extC (val_var rfl) (S3 _ _ _ hp3) (t_meth (val_var rfl) (S3 _ _ _ cu_same) jL_release va_nil ⟨_, rfl, _, j, dx, .ref y, some (joinTk o t), rfl, S3, cu_same, ⟨y, rfl, hy.mono (K3.fz ok0)⟩, fun C4 H4 b ws S4 K4 hj4 hb hb4 hw4 => ?_⟩))
        have hp4 := K4 _ _ _ hp3 (nk : noK 8 31)
        refine ⟨b, us, ws, rfl, S4 _ _ _ hp4, S4 _ _ _ hb4, size_small (by rw [hw4.len]; have := one_le (some (joinTk o t)); omega), ?_⟩
        have S5 : Sub (cu C4 p 31 (.lst (us ++ ws))) _ := S4.upd
        have K25 : Kp (noK 31) C4 (cu C4 p 31 (.lst (us ++ ws))) := Kp.mut hp4 noK_self
        have K5 : Kp jnK C1 (cu C4 p 31 (.lst (us ++ ws))) := ((K2.jn fun k q => q.2.1).trans ((K3.jn fun k q => q.1).trans (K4.jn fun k q => q.1))).trans (K25.jn fun k q => q.2.2)
        rw [settle1_close rfl hc']
        exact ⟨_, .non, us ++ ws, _, rfl, S5, K1.trans K5, cu_other hj4 hp4 (by decide), rfl, cu_same, (hu1.mono (K5.fz jn0)).app (hw4.mono (K25.fz ok0))⟩
    | false =>
      refine q_if (b := false) ?cond (fun z => by cases z) (fun _ => ?_)
      case cond =>
        cases h1 with
        | none =>
          have e : hv = .non := hh1
          subst e
          exact vt_and (a := false) (b := false) (vt_test (val_notN (Vh rfl (S1 _ _ _ hj1)))) fun z => by cases z
        | some o =>
          obtain ⟨w, rfl, hw⟩ := hh1
          have e : (!decide (V.ref w = .non) && Sm.closes t o) = false := by rw [show Sm.closes t o = false from hc]; rfl
          rw [← e]
          exact vt_and (vt_test (val_notN (Vh rfl (S1 _ _ _ hj1)))) fun _ => vt_b (val_call (va_cons (val_var rfl) (va_cons (Vh rfl (S1 _ _ _ hj1)) va_nil)) fun Q q => ⟨_, _, rfl, z, w, t, o, rfl, rfl, ht1.mono S1.fz, hw.mono S1.fz, q⟩)
      refine q_drop (t_extC (val_var rfl) (S1 _ _ _ hp1) (t_meth (val_var rfl) (S1 _ _ _ hj1) jL_release va_nil ⟨_, rfl, C1, j, dx, hv, h1, rfl, S1, hj1, hh1, fun C4 H4 b ws S4 K4 hj4 hb hb4 hw4 => ?_⟩))
      have hp4 := K4 _ _ _ hp1 (nk : noK 8 31)
      have hwl : ws.length ≤ 1 := by rw [hw4.len]; exact one_le h1
      refine ⟨b, us, ws, rfl, S4 _ _ _ hp4, S4 _ _ _ hb4, size_small (by omega), ?_⟩
      have S5 : Sub (cu C4 p 31 (.lst (us ++ ws))) _ := S4.upd
      have K25 : Kp (noK 31) C4 (cu C4 p 31 (.lst (us ++ ws))) := Kp.mut hp4 noK_self
      have K5 : Kp jnK C1 (cu C4 p 31 (.lst (us ++ ws))) := (K4.jn fun k q => q.1).trans (K25.jn fun k q => q.2.2)
      have hj5 : cu C4 p 31 (.lst (us ++ ws)) j = some (8, .ins (cJ K) dx (jF .non)) := cu_other hj4 hp4 (by decide)
      have hu5 := (hu1.mono (K5.fz jn0)).app (hw4.mono (K25.fz ok0))
      have ht5 := ht1.mono (K5.fz jn0)
      obtain ⟨dz, nz, gz, sz, vz, hz, _⟩ := ht5.mono S5.fz
      refine s_if (b := isOpen t) (vt_and (vt_eq 1 (vk_kind T hz (val_var rfl)) val_c) fun _ => vt_eq 0 (vk_ended T hz (val_var rfl)) val_c) (fun e => ?_) (fun e => ?_)
      · rw [settle1_open hc e]
        refine s_fld S5 (val_var rfl) (val_var rfl) hj5 (c_Joiner T) (a_Joiner_held T) few_jF fun H6 S6 => ?_
        rw [jP_held] at S6
        have K6 : Kp (noK 8) (cu C4 p 31 (.lst (us ++ ws))) (cu (cu C4 p 31 (.lst (us ++ ws))) j 8 (.ins (cJ K) dx (jF (.ref z)))) := Kp.mut hj5 noK_self
        exact ⟨_, .ref z, us ++ ws, _, rfl, S6, (K1.trans K5).trans (K6.jn fun k q => q.1), cu_same, ⟨z, rfl, ht5.mono (K6.fz ok0)⟩, K6 _ _ _ cu_same (nk : noK 8 31), hu5.mono (K6.fz ok0)⟩
      · rw [settle1_else hc e]
        refine s_app S5 (val_var rfl) (val_var rfl) cu_same (size_lt (by rw [List.length_append]; omega)) fun H6 S6 => ?_
        rw [cu_cu] at S6
        have K6 : Kp (noK 31) C4 (cu C4 p 31 (.lst (us ++ ws ++ [.ref z]))) := Kp.mut hp4 noK_self
        have K7 : Kp jnK C1 (cu C4 p 31 (.lst (us ++ ws ++ [.ref z]))) := (K4.jn fun k q => q.1).trans (K6.jn fun k q => q.2.2)
        refine ⟨_, .non, us ++ ws ++ [.ref z], _, rfl, S6, K1.trans K7, cu_other hj4 hp4 (by decide), rfl, cu_same, ?_⟩
        rw [← List.append_assoc]
        exact ((hu1.mono (K7.fz jn0)).app (hw4.mono (K6.fz ok0))).app ⟨⟨z, rfl, ht1.mono (K7.fz jn0)⟩, trivial⟩
  · obtain ⟨C1, hv, us, v, rfl, S1, K1, hj1, hh1, hp1, hu1⟩ := pv
    rw [hts.len, List.take_length] at hh1 hu1
    exact s_retV (val_var rfl) (q C1 H1 hv p us S1 K1 hj1 hh1 hpC hp1 hu1)

end Sm

set_option Elab.async false
set_option linter.all false
set_option maxRecDepth 100000
set_option maxHeartbeats 0
namespace Sm
open PySem PySem.Spec PyProof.Rows L2
variable {P : Program} {w : World} {K : PySem.W.Frag} {mg : Str → Option Value} {base : Heap}
/-! ### normal tokens of a whole text -/
def spNormal (K : PySem.W.Frag) : Sp := Sp1 fun a H Q => ∃ (l : Addr) (vs : List V) (ts : List Tk), a = .ref l ∧ H l = some (.lst vs) ∧ Toks K H vs ts ∧ ts.length ≤ 1000000 ∧ ∀ (H' : Hp) (p : Addr) (us : List V), Same H H' → H' p = some (.lst us) → Toks K H' us (normTk ts) → Q (.ref p) H'
theorem ok_normal_tokens (T : Tx K mg) : FnOk P w K mg base CX0 6 (He.fAd K ("normal_tokens", none)) (fdA K ("normal_tokens", none)) ["tokens"] (spNormal K) := by
  refine (F_normal_tokens T).ok sc_normal_tokens (fun vs H Q E h => Sp1.len h) (fun cdv A outer s H vs Q E hr h => ⟨_, PSs.nox (pss_cons (ps_set (i := 1) sc_normal_tokens.nd rfl (Or.inl rfl) (pe_make0 (k_Joiner T) (ok_Joiner___init__ T) (hr.mono (by decide)) rfl (g_Joiner T) (B_Joiner___init__ T) .nil pass0)) (pss_cons (ps_set (i := 2) sc_normal_tokens.nd rfl (Or.inl rfl) (pe_meth (pv 1) (c_Joiner T) (m_Joiner_settle T) (ok_Joiner_settle T) (hr.mono (by decide)) (B_Joiner_settle T) .nil pass0 (pa_cons (pv 0) pa_nil))) (pss_cons (ps_expr (pe_bm PySem.F.plainAttrs_list PySem.F.slot_list_extend PySem.F.type_list_extend mt_extend (pv 2) (pa_cons (pe_meth0 (pv 1) (c_Joiner T) (m_Joiner_release T) (ok_Joiner_release T) (hr.mono (by decide)) (B_Joiner_release T) .nil pass0) pa_nil))) (pss_one (ps_ret (pv 2)))))), ?_⟩)
  show _
  try simp only [cxK, cxK2]
  obtain ⟨a, rfl, l, vs, ts, rfl, hl, hts, hn, q⟩ := h
  refine q_set (make_joiner C0.sub fun H1 j dx hj S1 => ?_)
  have K1 : Kp jnK (C0 H) (cu (C0 H) j 8 (.ins (cJ K) dx (jF .non))) := Kp.new hj
  refine q_set (t_meth (val_var rfl) (S1 _ _ _ cu_same) jL_settle (va_cons (val_var rfl) va_nil) ⟨_, _, rfl, _, j, dx, .non, none, l, 0, vs, ts, rfl, rfl, S1, cu_same, rfl, K1 _ _ _ (C0.at hl) jn0, jn0, hts.mono (fun a o e => K1.fz jn0 a o (C0.fz a o e)), hn, fun C2 H2 hv p us S2 K2 hj2 hh2 hp hp2 hu2 => ?_⟩)
  refine q_drop (t_extC (val_var rfl) (S2 _ _ _ hp2) (t_meth (val_var rfl) (S2 _ _ _ hj2) jL_release va_nil ⟨_, rfl, C2, j, dx, hv, _, rfl, S2, hj2, hh2, fun C3 H3 b ws S3 K3 hj3 hb hb3 hw3 => ?_⟩))
  have hp3 := K3 _ _ _ hp2 (nk : noK 8 31)
  have b1 := settle_cnt ts none
  have b2 := hu2.len
  have b3 := hw3.len
  have b4 := one_le (settle none ts).2
  have b5 : (oneList none).length = 0 := rfl
  refine ⟨b, us, ws, rfl, S3 _ _ _ hp3, S3 _ _ _ hb3, size_small (by omega), ?_⟩
  have S4 : Sub (cu C3 p 31 (.lst (us ++ ws))) _ := S3.upd
  have K34 : Kp (noK 31) C3 (cu C3 p 31 (.lst (us ++ ws))) := Kp.mut hp3 noK_self
  have K4 : Kp jnK C2 (cu C3 p 31 (.lst (us ++ ws))) := (K3.jn fun k q => q.1).trans (K34.jn fun k q => q.2.2)
  refine s_retV (val_var rfl) (q _ p (us ++ ws) (C0.same S4 (K1.trans (K2.trans K4)) jn0) upd_same ?_)
  exact ((hu2.mono (K4.fz jn0)).app (hw3.mono (K34.fz ok0))).mono S4.fz
/-! ### lists that expressions make -/
def GL (te : TE) (σ : L2.St) (H : Hp) (xs : List V) : Prop := ∀ Q : VK, (∀ H' p, Same H H' → H' p = some (.lst xs) → Q (.ref p) H') → te σ H Q
section
variable {σ : L2.St} {H : Hp} {ta tb te : TE} {xs ys vs : List V} {t : TA} {p : Addr} {D : Ends} {U : TS}
theorem Same.rfl' {H : Hp} : Same H H := fun _ _ e => e
theorem gl_lst (hv : ValA t σ H vs) (hl : vs.length ≤ 1000) : GL (tLst t) σ H vs := fun Q q => hv _ ⟨size_small (by omega), fun p hp => q _ p (Same.new hp) upd_same⟩
theorem gl_val (hv : Val te σ H (.ref p)) (h : H p = some (.lst xs)) : GL te σ H xs := fun Q q => hv _ (q H p Same.rfl' h)
theorem gl_cat (a : GL ta σ H xs) (b : ∀ H', Same H H' → GL tb σ H' ys) (hl : xs.length + ys.length ≤ 1000000) : GL (tOp rCat ta tb) σ H (xs ++ ys) := fun Q q =>
  a _ fun H1 p1 s1 h1 => b H1 s1 _ fun H2 p2 s2 h2 => ⟨p1, p2, xs, ys, rfl, rfl, s2 _ _ h1, h2, size_small (by omega), fun p hp => q _ p ((s1.trans s2).trans (Same.new hp)) upd_same⟩
theorem gl_call {sp : Sp} {E : XK} (ha : ValA t σ H vs) (h : ∀ Q : VK, RetL H Q xs → sp vs H Q E) : GL (tCall sp [] E t) σ H xs := fun Q q => ha _ (by
  rw [List.append_nil]
  exact h Q fun H' p s e => q H' p s e)
theorem s_retG (g : GL te σ H xs) (h : ∀ H' p, Same H H' → H' p = some (.lst xs) → D.rt (.ref p) H') : tRet te D σ H := g _ h
theorem q_setG {i : Nat} (g : GL te σ H xs) (h : ∀ H' p, Same H H' → H' p = some (.lst xs) → U D (σ.set i (some (.ref p))) H') : tSeq (tAsg te (gName i)) U D σ H := g _ h
/-- l.extend(..): the list stands at a, not known to H0 -/
theorem t_extG {a : Addr} {Q : VK} (ho : Val ta σ H (.ref a)) (hx : H a = some (.lst xs)) (g : GL te σ H ys) (hl : xs.length + ys.length ≤ 1000000) (nx : ∀ H', Same H H' → Q .non (upd H' a (.lst (xs ++ ys)))) : tBM K "list" rExtend ta (tCons te tNil) σ H Q :=
  t_extC ho hx (g _ fun H1 b s1 h1 => ⟨b, xs, ys, rfl, s1 _ _ hx, h1, size_small (by omega), nx H1 s1⟩)
theorem s_extG {a : Addr} (ho : Val ta σ H (.ref a)) (hx : H a = some (.lst xs)) (g : GL te σ H ys) (hl : xs.length + ys.length ≤ 1000000) (nx : ∀ H', Same H H' → D.nx σ (upd H' a (.lst (xs ++ ys)))) : tDrop (tBM K "list" rExtend ta (tCons te tNil)) D σ H :=
  s_drop (t_extG ho hx g hl nx)
theorem q_extG {a : Addr} (ho : Val ta σ H (.ref a)) (hx : H a = some (.lst xs)) (g : GL te σ H ys) (hl : xs.length + ys.length ≤ 1000000) (nx : ∀ H', Same H H' → U D σ (upd H' a (.lst (xs ++ ys)))) : tSeq (tDrop (tBM K "list" rExtend ta (tCons te tNil))) U D σ H :=
  q_drop (t_extG ho hx g hl nx)
theorem s_appG {a : Addr} {y : V} (ho : Val ta σ H (.ref a)) (hv : Val te σ H y) (hx : H a = some (.lst xs)) (hl : xs.length ≤ 1000000) (nx : D.nx σ (upd H a (.lst (xs ++ [y])))) : tDrop (tBM K "list" rAppend ta (tCons te tNil)) D σ H :=
  s_drop (t_appC ho hx (hv _ ⟨xs, hx, size_lt (by omega), nx⟩))
theorem q_appG {a : Addr} {y : V} (ho : Val ta σ H (.ref a)) (hv : Val te σ H y) (hx : H a = some (.lst xs)) (hl : xs.length ≤ 1000000) (nx : U D σ (upd H a (.lst (xs ++ [y])))) : tSeq (tDrop (tBM K "list" rAppend ta (tCons te tNil))) U D σ H :=
  q_drop (t_appC ho hx (hv _ ⟨xs, hx, size_lt (by omega), nx⟩))
end
theorem vt_in {σ : L2.St} {H : Hp} {ta tb : TE} {c : Nat} {q : Addr} {bs : NL} (ha : Val ta σ H (vn c)) (hb : Val tb σ H (.ref q)) (h : SqL K H q (nts bs) ∨ SqT K H q (nts bs)) : ValT (tTest (tOp (rIn K false) ta tb)) σ H (bs.contains c) := fun Q k => by
  refine ha _ (hb _ ⟨q, nts bs, rfl, h, rfl, flat_nats _, ?_⟩)
  have e : inV (vn c) (nts bs) = bs.contains c := any_nats c bs
  rw [e]
  exact ⟨_, rfl, k⟩
theorem s_next {σ : L2.St} {H : Hp} {D : Ends} (h : D.nx σ H) : tNext D σ H := h
/-! ### references -/
def refTo (c : Nat) : NL := if c = 60 then [38, 108, 116, 59] else if c = 62 then [38, 103, 116, 59] else if c = 38 then [38, 97, 109, 112, 59] else Vaescc.numbered c
theorem cps_refs : cpsL "&lt;" = [38, 108, 116, 59] ∧ cpsL "&gt;" = [38, 103, 116, 59] ∧ cpsL "&amp;" = [38, 97, 109, 112, 59] := by decide +kernel
def refStr (c : Nat) : Str := Str.empty ++ Str.ofString "&#" ++ (toString (c : Int) : Str) ++ Str.ofString ";"
theorem cps_num : ∀ c : Fin 256, cpsL (refStr c.1) = Vaescc.numbered c.1 ∧ (Str.empty ++ Str.ofString "&#").length ≤ sizeLine ∧ (Str.empty ++ Str.ofString "&#" ++ (toString (c.1 : Int) : Str)).length ≤ sizeLine ∧ (refStr c.1).length ≤ sizeLine := by decide +kernel
def spRefTo : Sp := Sp1 fun a H Q => ∃ c : Nat, a = vn c ∧ c < 256 ∧ NewL H Q (nts (refTo c))
theorem ok_reference_to (T : Tx K mg) : FnOk P w K mg base CX0 2 (He.fAd K ("reference_to", none)) (fdA K ("reference_to", none)) ["sign"] spRefTo := by
  refine (F_reference_to T).ok sc_reference_to (fun vs H Q E h => Sp1.len h) (fun cdv A outer s H vs Q E hr h => ⟨_, PSs.nox (pss_cons (ps_if (pt_cmpR op_eq (pv 0) (pe_gi rfl (i_LESS T)) (nomark _)) (pss_one (ps_ret (pe_call (ok_signs_of T) (hr.mono (by decide)) rfl (g_signs_of T) (F_signs_of T).kp (B_signs_of T) .nil pass0 (pa_cons pe_str pa_nil)))) pss_nil) (pss_cons (ps_if (pt_cmpR op_eq (pv 0) (pe_gi rfl (i_GREATER T)) (nomark _)) (pss_one (ps_ret (pe_call (ok_signs_of T) (hr.mono (by decide)) rfl (g_signs_of T) (F_signs_of T).kp (B_signs_of T) .nil pass0 (pa_cons pe_str pa_nil)))) pss_nil) (pss_cons (ps_if (pt_cmpR op_eq (pv 0) (pe_gi rfl (i_AMPERSAND T)) (nomark _)) (pss_one (ps_ret (pe_call (ok_signs_of T) (hr.mono (by decide)) rfl (g_signs_of T) (F_signs_of T).kp (B_signs_of T) .nil pass0 (pa_cons pe_str pa_nil)))) pss_nil) (pss_one (ps_ret (pe_call (ok_signs_of T) (hr.mono (by decide)) rfl (g_signs_of T) (F_signs_of T).kp (B_signs_of T) .nil pass0 (pa_cons (pe_joined (PJ.cons pe_str (PJ.cons (pe_fmt (pv 0)) (PJ.cons pe_str PJ.nil)))) pa_nil))))))), ?_⟩)
  show _
  try simp only [cxK, cxK2]
  obtain ⟨a, rfl, c, rfl, hc, k⟩ := h
  unfold refTo at k
  refine q_if (vt_eq 60 (val_var rfl) val_c) (fun e => ?_) (fun e => ?_)
  · rw [if_pos (of_decide_eq_true e)] at k
    exact s_ret (t_call (va_cons val_c va_nil) ⟨_, rfl, "&lt;", rfl, by rw [cps_refs.1]; decide, by rw [cps_refs.1]; exact k⟩)
  rw [if_neg (of_decide_eq_false e)] at k
  refine q_if (vt_eq 62 (val_var rfl) val_c) (fun e => ?_) (fun e => ?_)
  · rw [if_pos (of_decide_eq_true e)] at k
    exact s_ret (t_call (va_cons val_c va_nil) ⟨_, rfl, "&gt;", rfl, by rw [cps_refs.2.1]; decide, by rw [cps_refs.2.1]; exact k⟩)
  rw [if_neg (of_decide_eq_false e)] at k
  refine q_if (vt_eq 38 (val_var rfl) val_c) (fun e => ?_) (fun e => ?_)
  · rw [if_pos (of_decide_eq_true e)] at k
    exact s_ret (t_call (va_cons val_c va_nil) ⟨_, rfl, "&amp;", rfl, by rw [cps_refs.2.2]; decide, by rw [cps_refs.2.2]; exact k⟩)
  rw [if_neg (of_decide_eq_false e)] at k
  obtain ⟨n1, n2, n3, n4⟩ := cps_num ⟨c, hc⟩
  dsimp only at n1 n2 n3 n4
  have V : Val (fun σ H Q => tJs [tC (.str (Str.ofString "&#")), tFmt (tVar 0), tC (.str (Str.ofString ";"))] Str.empty σ H fun out H1 => Q (.str out) H1) (L2.start [Str.ofString "sign"] [vn c]) H (.str (refStr c)) := by
    intro Q q
    refine ⟨_, rfl, n2, ?_⟩
    unfold tJs tFmt
    refine val_var (v := vn c) rfl _ ?_
    refine .inr ⟨(c : Int), rfl, ?_, _, rfl, n3, ?_⟩
    · have : Nat.log2 ((c : Int).natAbs) ≤ 8 := by
        rw [Int.natAbs_natCast]
        by_cases h0 : c = 0
        · rw [h0]; decide
        · have := (Nat.log2_lt h0 (k := 9)).2 (by omega)
          omega
      omega
    · exact ⟨_, rfl, n4, q⟩
  refine s_ret (t_call (va_cons V va_nil) ?_)
  exact ⟨_, rfl, refStr c, rfl, by rw [n1]; unfold Vaescc.numbered Vaescc.digits; (repeat' split) <;> simp, by rw [n1]; exact k⟩
theorem refTo_len (c : Nat) : (refTo c).length ≤ 6 := by
  unfold refTo Vaescc.numbered Vaescc.digits
  (repeat' split) <;> simp
theorem short_ref {k c : Nat} : Vaescc.shortByte k c = if Vaescc.mayStand k c = true then [c] else refTo c := by
  unfold Vaescc.shortByte refTo
  simp only [beq_iff_eq]
  rfl
/-- which signs are barred: kind and list -/
def Bars (k : Nat) (bs : NL) : Prop := ∀ c, c < 256 ∨ k ≠ 3 → bs.contains c = !Vaescc.mayStand k c
def spShort (K : PySem.W.Frag) : Sp := Sp2 fun a b H Q => ∃ (p q : Addr) (l bs : NL) (k : Nat), a = .ref p ∧ b = .ref q ∧ H p = some (.lst (nts l)) ∧ (SqL K H q (nts bs) ∨ SqT K H q (nts bs)) ∧ Bars k bs ∧ (∀ c ∈ bs, c < 256) ∧ (k = 3 → ∀ c ∈ l, c < 256) ∧ (l.flatMap (Vaescc.shortByte k)).length ≤ 100000 ∧ NewL H Q (nts (l.flatMap (Vaescc.shortByte k)))
theorem flat_take {f : Nat → NL} {l : NL} {i c : Nat} (h : l[i]? = some c) : (l.take (i + 1)).flatMap f = (l.take i).flatMap f ++ f c := by
  rw [take_more h, List.flatMap_append]; simp
theorem flat_le {α : Type} {f : α → NL} (l : List α) (i : Nat) : ((l.take i).flatMap f).length ≤ (l.flatMap f).length := by
  have e := congrArg (fun z => (z.flatMap f).length) (List.take_append_drop i l)
  simp only [List.flatMap_append, List.length_append] at e
  omega
theorem Rd.same {H H' : Hp} {q : Addr} {o : HO} (s : Same H H') (h : Rd H q o) : Rd H' q o := h.imp (fun z => s _ _ z) (fun ⟨u, z⟩ => ⟨u, s _ _ z⟩)
theorem SqL.same' {H H' : Hp} {q : Addr} {xs : List V} (s : Same H H') : (SqL K H q xs ∨ SqT K H q xs) → (SqL K H' q xs ∨ SqT K H' q xs) := fun h => h.imp (fun z => z.imp (Rd.same s) id) (fun z => z.imp (Rd.same s) id)
theorem ok_shortest_form (T : Tx K mg) : FnOk P w K mg base CX0 3 (He.fAd K ("shortest_form", none)) (fdA K ("shortest_form", none)) ["signs", "barred"] (spShort K) := by
  refine (F_shortest_form T).ok sc_shortest_form (fun vs H Q E h => Sp2.len h) (fun cdv A outer s H vs Q E hr h => ⟨_, PSs.nox (pss_cons (ps_set (i := 2) sc_shortest_form.nd rfl (Or.inl rfl) (pe_lst pa_nil)) (pss_cons (ps_for PassesOwn.never rfl (pi_list (pv 0)) (pg_name (i := 3) sc_shortest_form.nd rfl (Or.inl rfl)) (pss_one (ps_if (pt_cmpR op_in_seq (pv 3) (pv 1) (by rfl)) (pss_one (ps_expr (pe_bm PySem.F.plainAttrs_list PySem.F.slot_list_extend PySem.F.type_list_extend mt_extend (pv 2) (pa_cons (pe_call (ok_reference_to T) (hr.mono (by decide)) rfl (g_reference_to T) (F_reference_to T).kp (B_reference_to T) .nil pass0 (pa_cons (pv 3) pa_nil)) pa_nil)))) (pss_one (ps_expr (pe_bm PySem.F.plainAttrs_list PySem.F.slot_list_append PySem.F.type_list_append mt_append (pv 2) (pa_cons (pv 3) pa_nil))))))) (pss_one (ps_ret (pv 2))))), ?_⟩)
  show _
  try simp only [cxK, cxK2]
  obtain ⟨a, b, rfl, p, q, l, bs, k, rfl, rfl, hp, hq, hb, hbs, hl, hn, kk⟩ := h
  refine q_setL va_nil (by decide) fun w hw => ?_
  have hpw : p ≠ w := ne_of_none hp hw
  have S0 : Same H (upd H w (.lst [])) := Same.new hw
  refine q_forL (val_var rfl) (S0 _ _ hp) (fun i σ H' => ∃ v : Option V, σ = [some (.ref p), some (.ref q), some (.ref w), v] ∧ Same H H' ∧ H' w = some (.lst (nts ((l.take i).flatMap (Vaescc.shortByte k))))) ⟨_, rfl, S0, upd_same⟩ (fun i σ H' ⟨_, _, s, _⟩ => s _ _ hp) (fun i x σ H1 hi pv => ?_) (fun σ H1 pv => ?_)
  · obtain ⟨v, rfl, s1, hw1⟩ := pv
    obtain ⟨c, hc, rfl⟩ := nts_at hi
    have hcl : c ∈ l := List.mem_of_getElem? hc
    have b1 := flat_le (f := Vaescc.shortByte k) l (i + 1)
    rw [flat_take hc, List.length_append] at b1
    have ec : bs.contains c = !Vaescc.mayStand k c := hb c (by
      by_cases h3 : k = 3
      · exact .inl (hl h3 c hcl)
      · exact .inr h3)
    refine s_if (vt_in (val_var rfl) (val_var rfl) (SqL.same' s1 hq)) (fun e => ?_) (fun e => ?_)
    · have c256 : c < 256 := hbs c (by simpa using e)
      have e1 : Vaescc.shortByte k c = refTo c := by
        rw [short_ref, if_neg]
        rw [e] at ec
        intro z; rw [z] at ec; cases ec
      refine s_extG (xs := nts ((l.take i).flatMap (Vaescc.shortByte k))) (ys := nts (refTo c)) (val_var rfl) hw1 ?g (by rw [nts_len, nts_len]; rw [e1] at b1; omega) fun H2 s2 => ?_
      case g =>
        exact gl_call (va_cons (val_var rfl) va_nil) fun Q h => ⟨_, rfl, c, rfl, c256, h.new⟩
      refine ⟨_, rfl, Same.mut (s1.trans s2) hw, ?_⟩
      rw [upd_same, flat_take hc, e1, nts_app]
    · have e1 : Vaescc.shortByte k c = [c] := by
        rw [short_ref, if_pos]
        rw [e] at ec
        cases z : Vaescc.mayStand k c with
        | true => rfl
        | false => rw [z] at ec; cases ec
      refine s_appG (val_var rfl) (val_var rfl) hw1 (by rw [nts_len]; omega) ?_
      refine ⟨_, rfl, Same.mut s1 hw, ?_⟩
      rw [upd_same, flat_take hc, e1, nts_app]
      rfl
  · obtain ⟨v, rfl, s1, hw1⟩ := pv
    rw [nts_len, List.take_length] at hw1
    exact s_retV (val_var rfl) (kk H1 w s1 hw hw1)

end Sm

set_option Elab.async false
set_option linter.all false
set_option maxRecDepth 100000
set_option maxHeartbeats 0
namespace Sm
open PySem PySem.Spec PyProof.Rows L2
variable {P : Program} {w : World} {K : PySem.W.Frag} {mg : Str → Option Value} {base : Heap}
/-! ### values and tags, written short -/
section
variable {σ : L2.St} {H : Hp} {ta : TE} {t : TA} {p : Addr} {l bs : NL} {k : Nat}
/-- shortest_form(l, (..)) -/
theorem gl_short (ha : Val ta σ H (.ref p)) (ht : ValA t σ H (nts bs)) (hz : bs.length ≤ 100) (hp : H p = some (.lst (nts l))) (hb : Bars k bs) (hbs : ∀ c ∈ bs, c < 256) (hl : k = 3 → ∀ c ∈ l, c < 256) (hn : (l.flatMap (Vaescc.shortByte k)).length ≤ 100000) :
    GL (tCall (spShort K) [] E0 (tCons ta (tCons (tTup t) tNil))) σ H (nts (l.flatMap (Vaescc.shortByte k))) := fun Q q =>
  ha _ (ht _ ⟨by rw [nts_len]; exact size_small (by omega), fun u hu => ⟨_, _, rfl, p, u, l, bs, k, rfl, rfl, (Same.new hu) _ _ hp, .inr (SqT.of upd_same), hb, hbs, hl, hn, fun H' w s hw e => q H' w ((Same.new hu).trans s) e⟩⟩)
end
theorem barsOf0 : Bars 0 [38, 60] := fun c _ => bars0 c
theorem barsOf1 : Bars 1 [38, 34] := fun c _ => bars1 c
theorem barsOf2 : Bars 2 [38, 39] := fun c _ => bars2 c
theorem barsOf3 : Bars 3 [9, 10, 13, 32, 34, 38, 39, 60, 61, 62, 96] := fun c h => by
  rcases h with h | h
  · exact bars3 h
  · exact absurd rfl h
theorem flat5 {k : Nat} {l : NL} (hk : k < 4) (hb : ∀ c ∈ l, c < 256) (hl : l.length ≤ 16384) : (l.flatMap (Vaescc.shortByte k)).length ≤ 100000 := by
  have := sl_le hk hb
  unfold sl at this
  omega
def spQuotedF (K : PySem.W.Frag) : Sp := Sp2 fun a b H Q => ∃ (p : Addr) (l : NL) (k q : Nat), a = .ref p ∧ b = vn q ∧ H p = some (.lst (nts l)) ∧ ((k = 1 ∧ q = 34) ∨ (k = 2 ∧ q = 39)) ∧ (l.flatMap (Vaescc.shortByte k)).length ≤ 100000 ∧ RetL H Q (nts (qF k q l))
theorem ok_quoted_form (T : Tx K mg) : FnOk P w K mg base CX0 4 (He.fAd K ("quoted_form", none)) (fdA K ("quoted_form", none)) ["value", "quote"] (spQuotedF K) := by
  refine (F_quoted_form T).ok sc_quoted_form (fun vs H Q E h => Sp2.len h) (fun cdv A outer s H vs Q E hr h => ⟨_, PSs.nox (pss_one (ps_ret (pe_op op_cat (pe_op op_cat (pe_lst (pa_cons (pv 1) pa_nil)) (pe_call (ok_shortest_form T) (hr.mono (by decide)) rfl (g_shortest_form T) (F_shortest_form T).kp (B_shortest_form T) .nil pass0 (pa_cons (pv 0) (pa_cons (pe_tup (pa_cons (pe_gi rfl (i_AMPERSAND T)) (pa_cons (pv 1) pa_nil))) pa_nil)))) (pe_lst (pa_cons (pv 1) pa_nil))))), ?_⟩)
  show _
  try simp only [cxK, cxK2]
  obtain ⟨a, b, rfl, p, l, k, q, rfl, rfl, hp, hk, hn, kk⟩ := h
  have hb : Bars k [38, q] := by
    rcases hk with ⟨rfl, rfl⟩ | ⟨rfl, rfl⟩
    · exact barsOf1
    · exact barsOf2
  have hq : ∀ c ∈ [38, q], c < 256 := by
    rcases hk with ⟨rfl, rfl⟩ | ⟨rfl, rfl⟩ <;> decide
  have h3 : k = 3 → ∀ c ∈ l, c < 256 := fun e => by omega
  refine s_retG (xs := nts (qF k q l)) ?g fun H1 p1 s1 h1 => kk H1 p1 s1 h1
  case g =>
    have e : nts (qF k q l) = ([vn q] ++ nts (l.flatMap (Vaescc.shortByte k))) ++ [vn q] := by
      unfold qF
      rw [nts_app, nts_app]; rfl
    rw [e]
    refine gl_cat (gl_cat (gl_lst (va_cons (val_var rfl) va_nil) (by show 1 ≤ 1000; decide)) (fun H1 s1 => gl_short (bs := [38, q]) (val_var rfl) (va_cons val_c (va_cons (val_var rfl) va_nil)) (by show 2 ≤ 100; decide) (s1 _ _ hp) hb hq h3 hn) ?_) (fun H1 s1 => gl_lst (va_cons (val_var rfl) va_nil) (by show 1 ≤ 1000; decide)) ?_
    · rw [nts_len, List.length_singleton]; omega
    · rw [List.length_append, nts_len, List.length_singleton]; omega
def spBare (K : PySem.W.Frag) : Sp := Sp2 fun a b H Q => ∃ (p : Addr) (l : NL) (tb : Bool), a = .ref p ∧ (∀ H, TruV K b H tb) ∧ H p = some (.lst (nts l)) ∧ (∀ c ∈ l, c < 256) ∧ l.length ≤ 16384 ∧ RetL H Q (nts (bareF tb l))
theorem ok_bare_form (T : Tx K mg) : FnOk P w K mg base CX0 4 (He.fAd K ("bare_form", none)) (fdA K ("bare_form", none)) ["value", "tight"] (spBare K) := by
  refine (F_bare_form T).ok sc_bare_form (fun vs H Q E h => Sp2.len h) (fun cdv A outer s H vs Q E hr h => ⟨_, PSs.nox (pss_cons (ps_set (i := 2) sc_bare_form.nd rfl (Or.inl rfl) (pe_call (ok_shortest_form T) (hr.mono (by decide)) rfl (g_shortest_form T) (F_shortest_form T).kp (B_shortest_form T) .nil pass0 (pa_cons (pv 0) (pa_cons (pe_callTy call_list_of (by rfl) (n_list T) (by decide +kernel) (pa_cons (pe_glob (v := .ref (He.ga K "NOT_BARE")) rfl (g_NOT_BARE T) rfl) pa_nil)) pa_nil)))) (pss_cons (ps_if (pt_truth (pv 1) (by intro _; rfl)) (pss_one (ps_expr (pe_bm PySem.F.plainAttrs_list PySem.F.slot_list_append PySem.F.type_list_append mt_append (pv 2) (pa_cons (pe_gi rfl (i_SPACE T)) pa_nil)))) pss_nil) (pss_one (ps_ret (pv 2))))), ?_⟩)
  show _
  try simp only [cxK, cxK2]
  obtain ⟨a, b, rfl, p, l, tb, rfl, ht, hp, hb, hl, k⟩ := h
  have hn := flat5 (k := 3) (by decide) hb hl
  have fin : ∀ H1 w, Same H H1 → H w = none → H1 w = some (.lst (nts (l.flatMap (Vaescc.shortByte 3)))) → tSeq (tIfS (fun σ H Q => tVar 1 σ H fun x H' => ∃ k, TruV K x H' k ∧ Q k H') (tDrop (tBM K "list" rAppend (tVar 2) (tCons (tC (.int 32)) tNil))) tNext) (tRet (tVar 2)) { nx := fun _ H' => Q .non H', rt := Q } [some (.ref p), some b, some (.ref w)] H1 := fun H1 w s1 hw h1 => by
    unfold bareF at k
    refine q_if (vt_truth (val_var rfl) (ht H1)) (fun e => ?_) (fun e => ?_)
    · rw [if_pos e, nts_app] at k
      refine s_appG (val_var rfl) val_c h1 (by rw [nts_len]; omega) ?_
      exact s_retV (val_var rfl) (k _ w (Same.mut s1 hw) upd_same)
    · rw [if_neg (by rw [e]; exact Bool.false_ne_true), List.append_nil] at k
      exact s_retV (val_var rfl) (k _ w s1 h1)
  refine q_set ?_
  refine val_var rfl _ ?_
  refine ⟨_, _, rfl, .inr (t_NOT_BARE T H), fun u hu => ?_⟩
  exact ⟨_, _, rfl, p, u, l, [9, 10, 13, 32, 34, 38, 39, 60, 61, 62, 96], 3, rfl, rfl, (Same.new hu) _ _ hp, .inl (SqL.of upd_same), barsOf3, by decide, fun _ => hb, hn, fun H' w s hw e => fin H' w ((Same.new hu).trans s) (Same.none (Same.new hu) hw) e⟩

theorem nth3 {α : Type} {a b c : α} {i : Nat} {x : α} (h : [a, b, c][i]? = some x) : (i = 0 ∧ x = a) ∨ (i = 1 ∧ x = b) ∨ (i = 2 ∧ x = c) := by
  match i, h with
  | 0, h => exact .inl ⟨rfl, (Option.some.inj h).symm⟩
  | 1, h => exact .inr (.inl ⟨rfl, (Option.some.inj h).symm⟩)
  | 2, h => exact .inr (.inr ⟨rfl, (Option.some.inj h).symm⟩)
  | n + 3, h => simp at h
theorem nth2 {α : Type} {a b : α} {i : Nat} {x : α} (h : [a, b][i]? = some x) : (i = 0 ∧ x = a) ∨ (i = 1 ∧ x = b) := by
  match i, h with
  | 0, h => exact .inl ⟨rfl, (Option.some.inj h).symm⟩
  | 1, h => exact .inr ⟨rfl, (Option.some.inj h).symm⟩
  | n + 2, h => simp at h
def spCheap (K : PySem.W.Frag) : Sp := Sp2 fun a b H Q => ∃ (p : Addr) (l : NL) (tb : Bool), a = .ref p ∧ (∀ H, TruV K b H tb) ∧ H p = some (.lst (nts l)) ∧ (∀ c ∈ l, c < 256) ∧ l.length ≤ 16384 ∧ RetL H Q (nts (Vaescn.shortValue tb l))
/-- min over lists of numbers -/
theorem t_min {σ : L2.St} {H : Hp} {Q : VK} {f : Addr} {ta : TE} {ps : List Addr} {ls : List NL} (hv : Val ta σ H (.ref f)) (hf : H f = some (.lst (ps.map V.ref))) (hl : ps.length = ls.length) (h0 : 0 < ps.length) (hp : ∀ (i : Nat) (p : Addr) (l : NL), ps[i]? = some p → ls[i]? = some l → H p = some (.lst (nts l)))
    (q : ∀ (i : Nat) (p : Addr) (l : NL), H p = some (.lst (nts l)) → FirstMin ls i l → Q (.ref p) H) : tMinLen K (tCons ta tNil) σ H Q := by
  refine hv _ ⟨f, ps, ls.map nts, rfl, SqL.of hf, by rw [hl, List.length_map], h0, fun i p l h1 h2 => ?_, fun i p l h1 h2 h3 => ?_⟩
  · rw [List.getElem?_map] at h2
    obtain ⟨x, hx, rfl⟩ := Option.map_eq_some_iff.mp h2
    exact SqL.of (hp i p x h1 hx)
  · rw [List.getElem?_map] at h2
    obtain ⟨x, hx, rfl⟩ := Option.map_eq_some_iff.mp h2
    refine q i p x (hp i p x h1 hx) ⟨hx, fun j l' hj => ?_⟩
    have := h3 j (nts l') (by rw [List.getElem?_map, hj]; rfl)
    rw [nts_len, nts_len] at this
    exact this
theorem ok_cheapest_form (T : Tx K mg) : FnOk P w K mg base CX0 5 (He.fAd K ("cheapest_form", none)) (fdA K ("cheapest_form", none)) ["value", "tight"] (spCheap K) := by
  refine (F_cheapest_form T).ok sc_cheapest_form (fun vs H Q E h => Sp2.len h) (fun cdv A outer s H vs Q E hr h => ⟨_, PSs.nox (pss_cons (ps_set (i := 2) sc_cheapest_form.nd rfl (Or.inl rfl) (pe_lst (pa_cons (pe_call (ok_quoted_form T) (hr.mono (by decide)) rfl (g_quoted_form T) (F_quoted_form T).kp (B_quoted_form T) .nil pass0 (pa_cons (pv 0) (pa_cons (pe_gi rfl (i_DOUBLE_QUOTE T)) pa_nil))) (pa_cons (pe_call (ok_quoted_form T) (hr.mono (by decide)) rfl (g_quoted_form T) (F_quoted_form T).kp (B_quoted_form T) .nil pass0 (pa_cons (pv 0) (pa_cons (pe_gi rfl (i_SINGLE_QUOTE T)) pa_nil))) pa_nil)))) (pss_cons (ps_if (pt_truth (pv 0) (by intro _; rfl)) (pss_one (ps_expr (pe_bm PySem.F.plainAttrs_list PySem.F.slot_list_insert PySem.F.type_list_insert mt_insert (pv 2) (pa_cons pe_int (pa_cons (pe_call (ok_bare_form T) (hr.mono (by decide)) rfl (g_bare_form T) (F_bare_form T).kp (B_bare_form T) .nil pass0 (pa_cons (pv 0) (pa_cons (pv 1) pa_nil))) pa_nil))))) pss_nil) (pss_one (ps_ret (pe_minLen rfl (by rfl) (n_min T) (by rfl) (n_len T) (pa_cons (pv 2) pa_nil)))))), ?_⟩)
  show _
  try simp only [cxK, cxK2]
  obtain ⟨a, b, rfl, p, l, tb, rfl, ht, hp, hb, hl, k⟩ := h
  have n1 := flat5 (k := 1) (by decide) hb hl
  have n2 := flat5 (k := 2) (by decide) hb hl
  refine q_set ?_
  have g1 : GL (tCall (spQuotedF K) [] E0 (tCons (tVar 0) (tCons (tC (.int 34)) tNil))) (L2.start ["value", "tight", "forms"] [.ref p, b]) H (nts (qF 1 34 l)) := gl_call (va_cons (val_var rfl) (va_cons val_c va_nil)) fun Q h => ⟨_, _, rfl, p, l, 1, 34, rfl, rfl, hp, .inl ⟨rfl, rfl⟩, n1, h⟩
  refine g1 _ fun H1 p1 s1 h1 => ?_
  have g2 : GL (tCall (spQuotedF K) [] E0 (tCons (tVar 0) (tCons (tC (.int 39)) tNil))) (L2.start ["value", "tight", "forms"] [.ref p, b]) H1 (nts (qF 2 39 l)) := gl_call (va_cons (val_var rfl) (va_cons val_c va_nil)) fun Q h => ⟨_, _, rfl, p, l, 2, 39, rfl, rfl, s1 _ _ hp, .inr ⟨rfl, rfl⟩, n2, h⟩
  refine g2 _ fun H2 p2 s2 h2 => ⟨by show 2 ≤ sizeLine; decide, fun f hf => ?_⟩
  have S3 : Same H2 (upd H2 f (.lst [.ref p1, .ref p2])) := Same.new hf
  have sp := S3 _ _ (s2 _ _ (s1 _ _ hp))
  refine q_if (vt_nts (val_var rfl) sp) (fun e => ?_) (fun e => ?_)
  · have hne : ¬ l = [] := isEmptyT e
    refine s_drop ?_
    refine val_var (v := .ref f) rfl _ ⟨.inl ⟨rfl, _, SqL.of upd_same⟩, ?_⟩
    refine val_c _ ?_
    have g3 : GL (tCall (spBare K) [] E0 (tCons (tVar 0) (tCons (tVar 1) tNil))) [some (V.ref p), some b, some (V.ref f)] (upd H2 f (.lst [.ref p1, .ref p2])) (nts (bareF tb l)) := gl_call (va_cons (val_var rfl) (va_cons (val_var rfl) va_nil)) fun Q h => ⟨_, _, rfl, p, l, tb, rfl, ht, sp, hb, hl, h⟩
    refine g3 _ fun H4 p4 s4 h4 => ⟨f, [.ref p1, .ref p2], 0, .ref p4, rfl, rfl, s4 _ _ upd_same, by show 2 < sizeLine; decide, by decide, by decide, ?_⟩
    have sAll : Same H (upd H4 f (.lst [.ref p4, .ref p1, .ref p2])) := Same.mut (s1.trans (s2.trans (S3.trans s4))) (Same.none (s1.trans s2) hf)
    have ne : ∀ {q : Addr} {o : HO}, H2 q = some o → q ≠ f := fun h => ne_of_none h hf
    have e4 : upd H4 f (.lst [.ref p4, .ref p1, .ref p2]) p4 = some (.lst (nts (bareF tb l))) := by
      have : p4 ≠ f := ne_of h4 (s4 _ _ upd_same) (by
        intro z
        cases hz : bareF tb l with
        | nil => rw [hz] at z; cases z
        | cons x y => rw [hz] at z; cases z)
      rw [upd_ne this]; exact h4
    have e1 : upd H4 f (.lst [.ref p4, .ref p1, .ref p2]) p1 = some (.lst (nts (qF 1 34 l))) := by
      rw [upd_ne (ne (s2 _ _ h1))]
      exact s4 _ _ (S3 _ _ (s2 _ _ h1))
    have e2 : upd H4 f (.lst [.ref p4, .ref p1, .ref p2]) p2 = some (.lst (nts (qF 2 39 l))) := by
      rw [upd_ne (ne h2)]
      exact s4 _ _ (S3 _ _ h2)
    refine s_ret (t_min (ps := [p4, p1, p2]) (ls := vForms tb l) (val_var rfl) upd_same ?_ (by show 0 < 3; decide) (fun i q x h1' h2' => ?_) fun i q x h1 h2 => ?_)
    · unfold vForms; rw [if_neg hne]; rfl
    · unfold vForms at h2'
      rw [if_neg hne] at h2'
      rcases nth3 h1' with ⟨rfl, rfl⟩ | ⟨rfl, rfl⟩ | ⟨rfl, rfl⟩
      · cases h2'; exact e4
      · cases h2'; exact e1
      · cases h2'; exact e2
    · rw [first_min h2] at h1
      exact k _ q sAll h1
  · have he : l = [] := isEmptyF e
    have sAll : Same H (upd H2 f (.lst [.ref p1, .ref p2])) := s1.trans (s2.trans S3)
    refine s_ret (t_min (ps := [p1, p2]) (ls := vForms tb l) (val_var rfl) upd_same ?_ (by show 0 < 2; decide) (fun i q x h1' h2' => ?_) fun i q x h1 h2 => ?_)
    · unfold vForms; rw [if_pos he]; rfl
    · unfold vForms at h2'
      rw [if_pos he] at h2'
      rcases nth2 h1' with ⟨rfl, rfl⟩ | ⟨rfl, rfl⟩
      · cases h2'; exact S3 _ _ (s2 _ _ h1)
      · cases h2'; exact S3 _ _ h2
    · rw [first_min h2] at h1
      exact k _ q sAll h1

end Sm

set_option Elab.async false
set_option linter.all false
set_option maxRecDepth 100000
set_option maxHeartbeats 0
namespace Sm
open PySem PySem.Spec PyProof.Rows L2
variable {P : Program} {w : World} {K : PySem.W.Frag} {mg : Str → Option Value} {base : Heap}
/-! ### tags and tokens, written short -/
section
variable {σ : L2.St} {H : Hp} {ta tb te : TE} {xs ys vs : List V} {t : TA} {p : Addr} {D : Ends} {U : TS} {tbd : TS} {tt : TT}
theorem gl_if {b : Bool} (h : ValT tt σ H b) (h1 : b = true → GL ta σ H xs) (h2 : b = false → GL tb σ H xs) : GL (tIf tt ta tb) σ H xs := fun Q q => h _ (by
  cases b with
  | true => rw [if_pos rfl]; exact h1 rfl Q q
  | false => rw [if_neg Bool.false_ne_true]; exact h2 rfl Q q)
/-- a new list -/
def GN (te : TE) (σ : L2.St) (H : Hp) (xs : List V) : Prop := ∀ Q : VK, (∀ H' p, Same H H' → H p = none → H' p = some (.lst xs) → Q (.ref p) H') → te σ H Q
theorem GN.gl (h : GN te σ H xs) : GL te σ H xs := fun Q q => h Q fun H' p s _ e => q H' p s e
theorem gn_lst (hv : ValA t σ H vs) (hl : vs.length ≤ 1000) : GN (tLst t) σ H vs := fun Q q => hv _ ⟨size_small (by omega), fun p hp => q _ p (Same.new hp) hp upd_same⟩
theorem gn_cat (a : GL ta σ H xs) (b : ∀ H', Same H H' → GL tb σ H' ys) (hl : xs.length + ys.length ≤ 1000000) : GN (tOp rCat ta tb) σ H (xs ++ ys) := fun Q q =>
  a _ fun H1 p1 s1 h1 => b H1 s1 _ fun H2 p2 s2 h2 => ⟨p1, p2, xs, ys, rfl, rfl, s2 _ _ h1, h2, size_small (by omega), fun p hp => q _ p ((s1.trans s2).trans (Same.new hp)) (Same.none (s1.trans s2) hp) upd_same⟩
theorem q_setN {i : Nat} (g : GN te σ H xs) (h : ∀ H' p, Same H H' → H p = none → H' p = some (.lst xs) → U D (σ.set i (some (.ref p))) H') : tSeq (tAsg te (gName i)) U D σ H := g _ h
theorem gn_call {sp : Sp} {E : XK} (ha : ValA t σ H vs) (h : ∀ Q : VK, NewL H Q xs → sp vs H Q E) : GN (tCall sp [] E t) σ H xs := fun Q q => ha _ (by
  rw [List.append_nil]
  exact h Q fun H' p s n e => q H' p s n e)
theorem val_and {a b : Bool} (h1 : Val ta σ H (.bl a)) (h2 : a = true → Val tb σ H (.bl b)) : Val (tAndV ta tb) σ H (.bl (a && b)) := fun Q q => h1 _ ⟨_, rfl, by
  cases a with
  | true => rw [if_pos rfl]; exact h2 rfl Q q
  | false => rw [if_neg Bool.false_ne_true]; exact q⟩
theorem q_forE {i j : Nat} (hv : Val ta σ H (.ref p)) (hp : H p = some (.lst xs)) (Pv : Nat → L2.St → Hp → Prop) (h0 : Pv 0 σ H) (hG : ∀ n σ H, Pv n σ H → H p = some (.lst xs))
    (hs : ∀ n x σ H T, xs[n]? = some x → Pv n σ H → H T = none → tbd { D with nx := Pv (n + 1), ct := Pv (n + 1), bk := U D } ((σ.set i (some (vn n))).set j (some x)) (upd H T (.tup [vn n, x]))) (hd : ∀ σ H, Pv xs.length σ H → U D σ H) :
    tSeq (tFor (iEnum K (tCons ta tNil)) (gTup K 2 (gCons (gName i) (gCons (gName j) gNil))) tbd) U D σ H :=
  hv _ ⟨p, xs, rfl, SqL.of hp, for_it (D := { D with nx := U D }) (walk_enum (xs := xs)) Pv h0 (fun n σ H _ h => SqL.of (hG n σ H h)) (fun n x σ H1 H2 hn pv y => by
    obtain ⟨T, x1, y1, rfl, hT, rfl, e1, e2⟩ := y
    cases e1
    exact ⟨T, _, rfl, SqT.of upd_same, rfl, _, _, rfl, _, _, rfl, rfl, hs n y1 σ H1 T e2 pv hT⟩) hd⟩
/-- for x, y in xs: pairs -/
theorem q_forP {i j : Nat} (hv : Val ta σ H (.ref p)) (hp : H p = some (.lst xs)) (Pv : Nat → L2.St → Hp → Prop) (h0 : Pv 0 σ H) (hG : ∀ n σ H, Pv n σ H → H p = some (.lst xs))
    (hs : ∀ n x σ H, xs[n]? = some x → Pv n σ H → ∃ a u v, x = .ref a ∧ SqT K H a [u, v] ∧ tbd { D with nx := Pv (n + 1), ct := Pv (n + 1), bk := U D } ((σ.set i (some u)).set j (some v)) H) (hd : ∀ σ H, Pv xs.length σ H → U D σ H) :
    tSeq (tFor (iList K ta) (gTup K 2 (gCons (gName i) (gCons (gName j) gNil))) tbd) U D σ H :=
  hv _ ⟨p, rfl, ⟨_, SqL.of hp⟩, for_it (D := { D with nx := U D }) (walk_list (xs := xs)) Pv h0 (fun n σ H _ h => SqL.of (hG n σ H h)) (fun n x σ H1 H2 hn pv y => by
    obtain ⟨rfl, y⟩ := y
    obtain ⟨a, u, v, rfl, ht, b⟩ := hs n x σ _ y pv
    exact ⟨a, _, rfl, ht, rfl, _, _, rfl, _, _, rfl, rfl, b⟩) hd⟩
end
theorem shortValue_le {tb : Bool} {l : NL} (hb : ∀ c ∈ l, c < 256) (hl : l.length ≤ 16384) : (Vaescn.shortValue tb l).length ≤ 100002 := by
  rw [shortValue_len]
  have := sl_le (k := 1) (by decide) hb
  unfold vlen
  split
  · decide
  · split <;> omega
def spAttrS (K : PySem.W.Frag) : Sp := Sp3 fun a b c H Q => ∃ (pn pv : Addr) (n l : NL) (tb : Bool), a = .ref pn ∧ b = .ref pv ∧ (∀ H, TruV K c H tb) ∧ H pn = some (.lst (nts n)) ∧ H pv = some (.lst (nts l)) ∧ (∀ c ∈ l, c < 256) ∧ n.length + l.length ≤ 16384 ∧ RetL H Q (nts (n ++ if l.isEmpty = true then [] else [61] ++ Vaescn.shortValue tb l))
theorem ok_short_attribute (T : Tx K mg) : FnOk P w K mg base CX0 6 (He.fAd K ("short_attribute", none)) (fdA K ("short_attribute", none)) ["name", "value", "tight"] (spAttrS K) := by
  refine (F_short_attribute T).ok sc_short_attribute (fun vs H Q E h => Sp3.len h) (fun cdv A outer s H vs Q E hr h => ⟨_, PSs.nox (pss_cons (ps_if (pt_not (pt_truth (pv 1) (by intro _; rfl))) (pss_one (ps_ret (pv 0))) pss_nil) (pss_one (ps_ret (pe_op op_cat (pe_op op_cat (pv 0) (pe_lst (pa_cons (pe_gi rfl (i_EQUALS T)) pa_nil))) (pe_call (ok_cheapest_form T) (hr.mono (by decide)) rfl (g_cheapest_form T) (F_cheapest_form T).kp (B_cheapest_form T) .nil pass0 (pa_cons (pv 1) (pa_cons (pv 2) pa_nil))))))), ?_⟩)
  show _
  try simp only [cxK, cxK2]
  obtain ⟨a, b, c, rfl, pn, pv, n, l, tb, rfl, rfl, ht, hn, hv, hb, hl, k⟩ := h
  refine q_if (vt_not (vt_nts (val_var rfl) hv)) (fun e => ?_) (fun e => ?_)
  · have e' : l.isEmpty = true := by simpa using e
    rw [if_pos e', List.append_nil] at k
    exact s_retV (val_var rfl) (k H pn Same.rfl' hn)
  · have e' : l.isEmpty = false := by simpa using e
    rw [if_neg (by rw [e']; exact Bool.false_ne_true), ← List.append_assoc, nts_app, nts_app] at k
    have z := shortValue_le (tb := tb) hb (by omega)
    refine s_retG (gl_cat (gl_cat (gl_val (val_var rfl) hn) (fun H1 s1 => gl_lst (va_cons val_c va_nil) (by show 1 ≤ 1000; decide)) ?_) (fun H1 s1 => gl_call (xs := nts (Vaescn.shortValue tb l)) (va_cons (val_var rfl) (va_cons (val_var rfl) va_nil)) fun Q h => ⟨_, _, rfl, pv, l, tb, rfl, ht, s1 _ _ hv, hb, by omega, h⟩) ?_) fun H1 p1 s1 h1 => k H1 p1 s1 h1
    · rw [nts_len, List.length_singleton]; omega
    · rw [List.length_append, nts_len, nts_len, List.length_singleton]; omega
def spTagEnd (K : PySem.W.Frag) : Sp := Sp1 fun a H Q => ∃ (p : Addr) (t : Tk), a = .ref p ∧ TokAt K H p t ∧ RetL H Q (nts (if (t.ended == 1) = true then [47, 62] else [62]))
theorem ok_tag_end (T : Tx K mg) : FnOk P w K mg base CX0 1 (He.fAd K ("tag_end", none)) (fdA K ("tag_end", none)) ["token"] (spTagEnd K) := by
  refine (F_tag_end T).ok sc_tag_end (fun vs H Q E h => Sp1.len h) (fun cdv A outer s H vs Q E hr h => ⟨_, PSs.nox (pss_one (ps_ret (pe_ifExp (pt_cmpR op_eq (pe_fld (pv 0) rfl) pe_int (nomark _)) (pe_lst (pa_cons (pe_gi rfl (i_SLASH T)) (pa_cons (pe_gi rfl (i_GREATER T)) pa_nil))) (pe_lst (pa_cons (pe_gi rfl (i_GREATER T)) pa_nil))))), ?_⟩)
  show _
  try simp only [cxK, cxK2]
  obtain ⟨a, rfl, p, t, rfl, ⟨dx, n, g, s', vs, h1, _⟩, k⟩ := h
  refine s_retG (gl_if (vt_eq 1 (vk_ended T h1 (val_var rfl)) val_c) (fun e => ?_) (fun e => ?_)) fun H1 p1 s1 e1 => k H1 p1 s1 e1
  · have : (t.ended == 1) = true := by simpa using e
    rw [if_pos this]
    exact gl_lst (va_cons val_c (va_cons val_c va_nil)) (by show 2 ≤ 1000; decide)
  · have : ¬ (t.ended == 1) = true := by simpa using e
    rw [if_neg this]
    exact gl_lst (va_cons val_c va_nil) (by show 1 ≤ 1000; decide)
def spOpenS (K : PySem.W.Frag) : Sp := Sp1 fun a H Q => ∃ (p : Addr) (t : Tk), a = .ref p ∧ TokAt K H p t ∧ t.kind = 1 ∧ SK t ∧ RetL H Q (nts (sTok t))
theorem drop_isEmpty {α : Type} {l : List α} {i : Nat} {x : α} (h : l[i]? = some x) : (l.drop (i + 1)).isEmpty = decide ((i : Int) = (l.length : Int) - 1) := by
  have := (List.getElem?_eq_some_iff.mp h).1
  rw [Bool.eq_iff_iff, decide_eq_true_eq, List.isEmpty_iff, List.drop_eq_nil_iff]
  omega
theorem ok_short_open_tag (T : Tx K mg) : FnOk P w K mg base CX0 7 (He.fAd K ("short_open_tag", none)) (fdA K ("short_open_tag", none)) ["token"] (spOpenS K) := by
  refine (F_short_open_tag T).ok sc_short_open_tag (fun vs H Q E h => Sp1.len h) (fun cdv A outer s H vs Q E hr h => ⟨_, PSs.nox (pss_cons (ps_set (i := 1) sc_short_open_tag.nd rfl (Or.inl rfl) (pe_op op_cat (pe_lst (pa_cons (pe_gi rfl (i_LESS T)) pa_nil)) (pe_fld (pv 0) rfl))) (pss_cons (ps_set (i := 2) sc_short_open_tag.nd rfl (Or.inl rfl) (pe_op op_sub (pe_callB call_len_seq (by rfl) (n_len T) (by decide +kernel) (pa_cons (pe_fld (pv 0) rfl) pa_nil)) pe_int)) (pss_cons (ps_for PassesOwn.never rfl (pi_enum (by rfl) (n_enumerate T) (pa_cons (pe_fld (pv 0) rfl) pa_nil)) (pg_tup rfl (pgs_cons (pg_name (i := 3) sc_short_open_tag.nd rfl (Or.inl rfl)) (pgs_cons (pg_name (i := 4) sc_short_open_tag.nd rfl (Or.inl rfl)) pgs_nil))) (pss_cons (ps_expr (pe_bm PySem.F.plainAttrs_list PySem.F.slot_list_append PySem.F.type_list_append mt_append (pv 1) (pa_cons (pe_gi rfl (i_SPACE T)) pa_nil))) (pss_one (ps_expr (pe_bm PySem.F.plainAttrs_list PySem.F.slot_list_extend PySem.F.type_list_extend mt_extend (pv 1) (pa_cons (pe_call (ok_short_attribute T) (hr.mono (by decide)) rfl (g_short_attribute T) (F_short_attribute T).kp (B_short_attribute T) .nil pass0 (pa_cons (pe_ix ix_tup (pv 4) pe_int (fun _ _ => rfl)) (pa_cons (pe_ix ix_tup (pv 4) pe_int (fun _ _ => rfl)) (pa_cons (pe_and (pe_cmpR op_eq (pe_fld (pv 0) rfl) pe_int (nomark _)) (pe_one (pe_cmpR op_eq (pv 3) (pv 2) (nomark _)))) pa_nil)))) pa_nil)))))) (pss_one (ps_ret (pe_op op_cat (pv 1) (pe_call (ok_tag_end T) (hr.mono (by decide)) rfl (g_tag_end T) (F_tag_end T).kp (B_tag_end T) .nil pass0 (pa_cons (pv 0) pa_nil)))))))), ?_⟩)
  show _
  try simp only [cxK, cxK2]
  obtain ⟨a, rfl, p, t, rfl, ht0, hk, sk, k⟩ := h
  obtain ⟨dx, n, g, s', vs, h1, h2, h3, h4, h5⟩ := ht0
  have ht0 : TokAt K H p t := ⟨dx, n, g, s', vs, h1, h2, h3, h4, h5⟩
  rw [opened_len hk] at k
  have hz := sk.n
  rw [opened_len hk] at hz
  simp only [List.length_append] at hz
  refine q_setN (gn_cat (xs := nts [60]) (gl_lst (va_cons val_c va_nil) (by show 1 ≤ 1000; decide)) (fun H1 s1 => gl_val (vk_name T (s1 _ _ h1) (val_var rfl)) (s1 _ _ h2)) (by rw [nts_len, nts_len, List.length_singleton]; omega)) fun H1 w s1 hw e1 => ?_
  rw [← nts_app] at e1
  have hl := val_len (K := K) (σ := [some (V.ref p), some (V.ref w), none, none, none]) (vk_attrs T (s1 _ _ h1) (val_var (i := 0) rfl)) (SqL.of (s1 _ _ h3))
  rw [h4.len] at hl
  refine q_setV (x := .int ((t.attrs.length : Int) - 1)) (val_i2 (g := fun i j => .int (i - j)) hl val_c) ?_
  refine q_forE (vk_attrs T (s1 _ _ h1) (val_var rfl)) (s1 _ _ h3) (fun i σ H' => ∃ (v1 v2 : Option V) (pre : NL), σ = [some (.ref p), some (.ref w), some (.int ((t.attrs.length : Int) - 1)), v1, v2] ∧ Same H H' ∧ pre ++ Vaescn.shortAttrs (t.ended == 1) (t.attrs.drop i) = Vaescn.shortAttrs (t.ended == 1) t.attrs ∧ H' w = some (.lst (nts ([60] ++ t.name ++ pre))))
    ⟨_, _, [], rfl, s1, rfl, by rw [List.append_nil]; exact e1⟩ (fun i σ H' ⟨_, _, _, _, s, _⟩ => s _ _ h3) (fun i x σ H2 u hi pv hu => ?_) (fun σ H2 pv => ?_)
  · obtain ⟨v1, v2, pre, rfl, s2, epre, e2⟩ := pv
    obtain ⟨at1, tp, an, ax, hat, rfl, hp1, hp2, hp3⟩ := h4.get hi
    have mem : at1 ∈ t.attrs := List.mem_of_getElem? hat
    rw [drop_more hat, shortAttrs_cons] at epre
    have epre2 := congrArg List.length epre
    simp only [List.length_append] at epre2
    have S3 : Same H2 (upd H2 u (.tup [vn i, .ref tp])) := Same.new hu
    have s3 := s2.trans S3
    have ea : Vaescn.shortAttr ((t.ended == 1) && (t.attrs.drop (i + 1)).isEmpty) at1 = [32] ++ (at1.1 ++ if at1.2.isEmpty = true then [] else [61] ++ Vaescn.shortValue ((t.ended == 1) && (t.attrs.drop (i + 1)).isEmpty) at1.2) := by
      unfold Vaescn.shortAttr
      rw [List.append_assoc]
    have ea2 := congrArg List.length ea
    rw [List.length_append, List.length_singleton] at ea2
    refine q_appG (val_var rfl) val_c (S3 _ _ e2) (by rw [nts_len]; simp only [List.length_append, List.length_singleton]; omega) ?_
    have e3 : nts ([60] ++ t.name ++ pre) ++ [V.int 32] = nts ([60] ++ t.name ++ (pre ++ [32])) := by
      rw [← List.append_assoc, nts_app ([60] ++ t.name ++ pre)]; rfl
    rw [e3]
    have S4 : Same H (upd (upd H2 u (.tup [vn i, .ref tp])) w (.lst (nts ([60] ++ t.name ++ (pre ++ [32]))))) := Same.mut s3 hw
    refine s_extG (val_var rfl) upd_same (gl_call (xs := nts (at1.1 ++ if at1.2.isEmpty = true then [] else [61] ++ Vaescn.shortValue ((t.ended == 1) && (t.attrs.drop (i + 1)).isEmpty) at1.2)) (va_cons (val_ixT (i := 0) (val_var rfl) val_c (SqT.of (S4 _ _ hp1)) rfl) (va_cons (val_ixT (i := 1) (val_var rfl) val_c (SqT.of (S4 _ _ hp1)) rfl) (va_cons (val_and (a := (t.ended == 1)) (b := decide ((i : Int) = (t.attrs.length : Int) - 1)) ?ve fun _ => ?vi) va_nil))) fun Q h => ⟨_, _, _, rfl, an, ax, at1.1, at1.2, _, rfl, rfl, fun H => (show _ = _ from rfl), S4 _ _ hp2, S4 _ _ hp3, sk.b _ mem, sk.val hk mem, by rw [drop_isEmpty hat] at h; exact h⟩) ?len fun H5 s5 => ?_
    case ve =>
      have e : (t.ended == 1) = decide (t.ended = 1) := by rw [Bool.eq_iff_iff]; simp
      rw [e]
      exact val_eqN (b := 1) (vk_ended T (S4 _ _ h1) (val_var rfl)) val_c
    case vi =>
      have e : decide ((i : Int) = (t.attrs.length : Int) - 1) = decide (vn i = V.int ((t.attrs.length : Int) - 1)) := by
        rw [decide_eq_decide]
        exact ⟨fun h => congrArg V.int h, fun h => V.int.inj h⟩
      rw [e]
      exact val_eq (val_var rfl) (val_var rfl) rfl
    case len =>
      rw [nts_len, nts_len]; simp only [List.length_append, List.length_singleton] at *; omega
    refine ⟨_, _, pre ++ Vaescn.shortAttr ((t.ended == 1) && (t.attrs.drop (i + 1)).isEmpty) at1, rfl, Same.mut (S4.trans s5) hw, by rw [← epre, List.append_assoc], ?_⟩
    rw [upd_same, ea, ← nts_app]
    simp only [List.append_assoc]
  · obtain ⟨v1, v2, pre, rfl, s2, epre, e2⟩ := pv
    rw [h4.len, List.drop_length] at epre
    have epre : pre = Vaescn.shortAttrs (t.ended == 1) t.attrs := by
      rw [← epre]
      show pre = pre ++ []
      rw [List.append_nil]
    subst epre
    rw [nts_app] at k
    refine s_retG (gl_cat (gl_val (val_var rfl) e2) (fun H3 s3 => gl_call (va_cons (val_var rfl) va_nil) fun Q h => ⟨_, rfl, p, t, rfl, ht0.mono (s2.trans s3), h⟩) ?_) fun H3 p3 s3 e3 => k H3 p3 (s2.trans s3) e3
    rw [nts_len, nts_len]; simp only [List.length_append]; omega

end Sm

set_option Elab.async false
set_option linter.all false
set_option maxRecDepth 100000
set_option maxHeartbeats 0
namespace Sm
open PySem PySem.Spec PyProof.Rows L2
variable {P : Program} {w : World} {K : PySem.W.Frag} {mg : Str → Option Value} {base : Heap}
/-! ### tokens, written short and told -/
def spShortTok (K : PySem.W.Frag) : Sp := Sp1 fun a H Q => ∃ (p : Addr) (t : Tk), a = .ref p ∧ TokAt K H p t ∧ SK t ∧ RetL H Q (nts (sTok t))
theorem cps_marks : cpsL "</" = [60, 47] ∧ cpsL "<!--" = [60, 33, 45, 45] ∧ cpsL "-->" = [45, 45, 62] ∧ cpsL "&quot;" = [38, 113, 117, 111, 116, 59] := by decide +kernel
theorem ok_short_token (T : Tx K mg) : FnOk P w K mg base CX0 8 (He.fAd K ("short_token", none)) (fdA K ("short_token", none)) ["token"] (spShortTok K) := by
  refine (F_short_token T).ok sc_short_token (fun vs H Q E h => Sp1.len h) (fun cdv A outer s H vs Q E hr h => ⟨_, PSs.nox (pss_cons (ps_if (pt_cmpR op_eq (pe_fld (pv 0) rfl) (pe_gi rfl (i_RUN_OF_TEXT T)) (nomark _)) (pss_one (ps_ret (pe_call (ok_shortest_form T) (hr.mono (by decide)) rfl (g_shortest_form T) (F_shortest_form T).kp (B_shortest_form T) .nil pass0 (pa_cons (pe_fld (pv 0) rfl) (pa_cons (pe_tup (pa_cons (pe_gi rfl (i_AMPERSAND T)) (pa_cons (pe_gi rfl (i_LESS T)) pa_nil))) pa_nil))))) pss_nil) (pss_cons (ps_if (pt_cmpR op_eq (pe_fld (pv 0) rfl) (pe_gi rfl (i_OPEN_TAG T)) (nomark _)) (pss_one (ps_ret (pe_call (ok_short_open_tag T) (hr.mono (by decide)) rfl (g_short_open_tag T) (F_short_open_tag T).kp (B_short_open_tag T) .nil pass0 (pa_cons (pv 0) pa_nil)))) pss_nil) (pss_cons (ps_if (pt_cmpR op_eq (pe_fld (pv 0) rfl) (pe_gi rfl (i_CLOSE_TAG T)) (nomark _)) (pss_one (ps_ret (pe_op op_cat (pe_op op_cat (pe_call (ok_signs_of T) (hr.mono (by decide)) rfl (g_signs_of T) (F_signs_of T).kp (B_signs_of T) .nil pass0 (pa_cons pe_str pa_nil)) (pe_fld (pv 0) rfl)) (pe_lst (pa_cons (pe_gi rfl (i_GREATER T)) pa_nil))))) pss_nil) (pss_cons (ps_if (pt_cmpR op_eq (pe_fld (pv 0) rfl) (pe_gi rfl (i_COMMENT T)) (nomark _)) (pss_one (ps_ret (pe_op op_cat (pe_op op_cat (pe_call (ok_signs_of T) (hr.mono (by decide)) rfl (g_signs_of T) (F_signs_of T).kp (B_signs_of T) .nil pass0 (pa_cons pe_str pa_nil)) (pe_fld (pv 0) rfl)) (pe_call (ok_signs_of T) (hr.mono (by decide)) rfl (g_signs_of T) (F_signs_of T).kp (B_signs_of T) .nil pass0 (pa_cons pe_str pa_nil))))) pss_nil) (pss_one (ps_ret (pe_fld (pv 0) rfl))))))), ?_⟩)
  show _
  try simp only [cxK, cxK2]
  obtain ⟨a, rfl, p, t, rfl, ht0, sk, k⟩ := h
  obtain ⟨dx, n, g, s', vs, h1, h2, h3, h4, h5⟩ := ht0
  have ht0 : TokAt K H p t := ⟨dx, n, g, s', vs, h1, h2, h3, h4, h5⟩
  have hk := sk.k.k
  have hz := sk.n
  refine q_if (vt_eq 0 (vk_kind T h1 (val_var rfl)) val_c) (fun e => ?_) (fun e => ?_)
  · have e' := of_decide_eq_true e
    have et : sTok t = t.signs.flatMap (Vaescc.shortByte 0) := by unfold sTok; rw [tok_0 e'] <;> rfl
    rw [et] at k hz
    refine s_retG (gl_short (bs := [38, 60]) (vk_signs T h1 (val_var rfl)) (va_cons val_c (va_cons val_c va_nil)) (by show 2 ≤ 100; decide) h5 barsOf0 (by decide) (fun z => by cases z) (by omega)) fun H1 p1 s1 e1 => k H1 p1 s1 e1
  have n0 := of_decide_eq_false e
  refine q_if (vt_eq 1 (vk_kind T h1 (val_var rfl)) val_c) (fun e => ?_) (fun e => ?_)
  · exact s_retG (gl_call (va_cons (val_var rfl) va_nil) fun Q h => ⟨_, rfl, p, t, rfl, ht0, of_decide_eq_true e, sk, h⟩) fun H1 p1 s1 e1 => k H1 p1 s1 e1
  have n1 := of_decide_eq_false e
  refine q_if (vt_eq 2 (vk_kind T h1 (val_var rfl)) val_c) (fun e => ?_) (fun e => ?_)
  · have e' := of_decide_eq_true e
    have et : sTok t = [60, 47] ++ t.name ++ [62] := by unfold sTok; rw [tok_2 e'] <;> rfl
    rw [et] at k hz
    rw [nts_app, nts_app] at k
    simp only [List.length_append] at hz
    refine s_retG (gl_cat (gl_cat (gl_call (xs := nts [60, 47]) (va_cons val_c va_nil) fun Q h => ⟨_, rfl, "</", rfl, by rw [cps_marks.1]; decide, by rw [cps_marks.1]; exact h.new⟩) (fun H1 s1 => gl_val (vk_name T (s1 _ _ h1) (val_var rfl)) (s1 _ _ h2)) ?_) (fun H1 s1 => gl_lst (va_cons val_c va_nil) (by show 1 ≤ 1000; decide)) ?_) fun H1 p1 s1 e1 => k H1 p1 s1 e1
    · rw [nts_len, nts_len]; show 2 + _ ≤ _; omega
    · rw [List.length_append, nts_len, nts_len]; show 2 + _ + 1 ≤ _; omega
  have n2 := of_decide_eq_false e
  refine q_if (vt_eq 3 (vk_kind T h1 (val_var rfl)) val_c) (fun e => ?_) (fun e => ?_)
  · have e' := of_decide_eq_true e
    have et : sTok t = [60, 33, 45, 45] ++ t.signs ++ [45, 45, 62] := by unfold sTok; rw [tok_3 e'] <;> rfl
    rw [et] at k hz
    rw [nts_app, nts_app] at k
    simp only [List.length_append] at hz
    refine s_retG (gl_cat (gl_cat (gl_call (xs := nts [60, 33, 45, 45]) (va_cons val_c va_nil) fun Q h => ⟨_, rfl, "<!--", rfl, by rw [cps_marks.2.1]; decide, by rw [cps_marks.2.1]; exact h.new⟩) (fun H1 s1 => gl_val (vk_signs T (s1 _ _ h1) (val_var rfl)) (s1 _ _ h5)) ?_) (fun H1 s1 => gl_call (xs := nts [45, 45, 62]) (va_cons val_c va_nil) fun Q h => ⟨_, rfl, "-->", rfl, by rw [cps_marks.2.2.1]; decide, by rw [cps_marks.2.2.1]; exact h.new⟩) ?_) fun H1 p1 s1 e1 => k H1 p1 s1 e1
    · rw [nts_len, nts_len]; show 4 + _ ≤ _; omega
    · rw [List.length_append, nts_len, nts_len, nts_len]; show 4 + _ + 3 ≤ _; omega
  have n3 := of_decide_eq_false e
  have e' : t.kind = 4 := by omega
  have et : sTok t = t.signs := by unfold sTok; rw [tok_4 e'] <;> rfl
  rw [et] at k
  exact s_retV (vk_signs T h1 (val_var rfl)) (k H s' Same.rfl' h5)
def spShorts (K : PySem.W.Frag) : Sp := Sp1 fun a H Q => ∃ (l : Addr) (vs : List V) (ts : List Tk), a = .ref l ∧ H l = some (.lst vs) ∧ Toks K H vs ts ∧ (∀ t ∈ ts, SK t) ∧ (ts.flatMap sTok).length ≤ 100000 ∧ NewL H Q (nts (ts.flatMap sTok))
theorem flatT_take {f : Tk → NL} {l : List Tk} {i : Nat} {t : Tk} (h : l[i]? = some t) : (l.take (i + 1)).flatMap f = (l.take i).flatMap f ++ f t := by
  rw [take_more h, List.flatMap_append]; simp
theorem ok_short_tokens (T : Tx K mg) : FnOk P w K mg base CX0 9 (He.fAd K ("short_tokens", none)) (fdA K ("short_tokens", none)) ["tokens"] (spShorts K) := by
  refine (F_short_tokens T).ok sc_short_tokens (fun vs H Q E h => Sp1.len h) (fun cdv A outer s H vs Q E hr h => ⟨_, PSs.nox (pss_cons (ps_set (i := 1) sc_short_tokens.nd rfl (Or.inl rfl) (pe_lst pa_nil)) (pss_cons (ps_for PassesOwn.never rfl (pi_list (pv 0)) (pg_name (i := 2) sc_short_tokens.nd rfl (Or.inl rfl)) (pss_one (ps_expr (pe_bm PySem.F.plainAttrs_list PySem.F.slot_list_extend PySem.F.type_list_extend mt_extend (pv 1) (pa_cons (pe_call (ok_short_token T) (hr.mono (by decide)) rfl (g_short_token T) (F_short_token T).kp (B_short_token T) .nil pass0 (pa_cons (pv 2) pa_nil)) pa_nil))))) (pss_one (ps_ret (pv 1))))), ?_⟩)
  show _
  try simp only [cxK, cxK2]
  obtain ⟨a, rfl, l, vs, ts, rfl, hl, hts, sk, hn, k⟩ := h
  refine q_setL va_nil (by decide) fun w hw => ?_
  have S0 : Same H (upd H w (.lst [])) := Same.new hw
  refine q_forL (val_var rfl) (S0 _ _ hl) (fun i σ H' => ∃ v : Option V, σ = [some (.ref l), some (.ref w), v] ∧ Same H H' ∧ H' w = some (.lst (nts ((ts.take i).flatMap sTok)))) ⟨_, rfl, S0, upd_same⟩ (fun i σ H' ⟨_, _, s, _⟩ => s _ _ hl) (fun i x σ H1 hi pv => ?_) (fun σ H1 pv => ?_)
  · obtain ⟨v, rfl, s1, e1⟩ := pv
    obtain ⟨t, p, ht, rfl, hp⟩ := hts.get hi
    have b1 := flat_le (f := sTok) ts (i + 1)
    rw [flatT_take ht, List.length_append] at b1
    refine s_extG (ys := nts (sTok t)) (val_var rfl) e1 ?g (by rw [nts_len, nts_len]; omega) fun H2 s2 => ?_
    case g => exact gl_call (va_cons (val_var rfl) va_nil) fun Q h => ⟨_, rfl, p, t, rfl, hp.mono s1, sk t (List.mem_of_getElem? ht), h⟩
    refine ⟨_, rfl, Same.mut (s1.trans s2) hw, ?_⟩
    rw [upd_same, flatT_take ht, nts_app]
  · obtain ⟨v, rfl, s1, e1⟩ := pv
    rw [hts.len, List.take_length] at e1
    exact s_retV (val_var rfl) (k H1 w s1 hw e1)
def spCounted : Sp := Sp1 fun a H Q => ∃ (p : Addr) (l : NL), a = .ref p ∧ H p = some (.lst (nts l)) ∧ l.length ≤ 500000 ∧ NewL H Q (nts (l.length :: l))
theorem ok_counted (T : Tx K mg) : FnOk P w K mg base CX0 1 (He.fAd K ("counted", none)) (fdA K ("counted", none)) ["row"] spCounted := by
  refine (F_counted T).ok sc_counted (fun vs H Q E h => Sp1.len h) (fun cdv A outer s H vs Q E hr h => ⟨_, PSs.nox (pss_one (ps_ret (pe_op op_cat (pe_lst (pa_cons (pe_callB call_len_seq (by rfl) (n_len T) (by decide +kernel) (pa_cons (pv 0) pa_nil)) pa_nil)) (pv 0)))), ?_⟩)
  show _
  try simp only [cxK, cxK2]
  obtain ⟨a, rfl, p, l, rfl, hp, hl, k⟩ := h
  have hv := val_len (K := K) (σ := L2.start ["row"] [.ref p]) (val_var (i := 0) rfl) (SqL.of hp)
  rw [nts_len] at hv
  have g : GN (tOp rCat (tLst (tCons (tCB (fun ys H Q => ∃ p zs, ys = [.ref p] ∧ (SqL K H p zs ∨ SqT K H p zs) ∧ Q (.int (zs.length : Int)) H) (tCons (tVar 0) tNil)) tNil)) (tVar 0)) (L2.start ["row"] [.ref p]) H ([vn l.length] ++ nts l) :=
    gn_cat (gl_lst (va_cons hv va_nil) (by show 1 ≤ 1000; decide)) (fun H1 s1 => gl_val (val_var rfl) (s1 _ _ hp)) (by rw [nts_len]; show 1 + _ ≤ _; omega)
  exact g _ fun H1 p1 s1 n1 e1 => k H1 p1 s1 n1 e1

end Sm

set_option Elab.async false
set_option linter.all false
set_option maxRecDepth 100000
set_option maxHeartbeats 0
namespace Sm
open PySem PySem.Spec PyProof.Rows L2
variable {P : Program} {w : World} {K : PySem.W.Frag} {mg : Str → Option Value} {base : Heap}
/-! ### told, laid out -/
def spToldAs (K : PySem.W.Frag) : Sp := Sp1 fun a H Q => ∃ (l : Addr) (vs : List V) (as : List (NL × NL)), a = .ref l ∧ H l = some (.lst vs) ∧ AttrsAt H vs as ∧ (∀ a ∈ as, a.1.length + a.2.length ≤ 16384) ∧ as.length ≤ 100000 ∧ (as.flatMap toldA).length ≤ 100000 ∧ NewL H Q (nts (as.length :: as.flatMap toldA))
theorem flatG_take {α : Type} {f : α → NL} {l : List α} {i : Nat} {t : α} (h : l[i]? = some t) : (l.take (i + 1)).flatMap f = (l.take i).flatMap f ++ f t := by
  rw [take_more h, List.flatMap_append]; simp
theorem ok_told_attributes (T : Tx K mg) : FnOk P w K mg base CX0 2 (He.fAd K ("told_attributes", none)) (fdA K ("told_attributes", none)) ["attributes"] (spToldAs K) := by
  refine (F_told_attributes T).ok sc_told_attributes (fun vs H Q E h => Sp1.len h) (fun cdv A outer s H vs Q E hr h => ⟨_, PSs.nox (pss_cons (ps_set (i := 1) sc_told_attributes.nd rfl (Or.inl rfl) (pe_lst (pa_cons (pe_callB call_len_seq (by rfl) (n_len T) (by decide +kernel) (pa_cons (pv 0) pa_nil)) pa_nil))) (pss_cons (ps_for PassesOwn.never rfl (pi_list (pv 0)) (pg_tup rfl (pgs_cons (pg_name (i := 2) sc_told_attributes.nd rfl (Or.inl rfl)) (pgs_cons (pg_name (i := 3) sc_told_attributes.nd rfl (Or.inl rfl)) pgs_nil))) (pss_cons (ps_expr (pe_bm PySem.F.plainAttrs_list PySem.F.slot_list_extend PySem.F.type_list_extend mt_extend (pv 1) (pa_cons (pe_call (ok_counted T) (hr.mono (by decide)) rfl (g_counted T) (F_counted T).kp (B_counted T) .nil pass0 (pa_cons (pv 2) pa_nil)) pa_nil))) (pss_one (ps_expr (pe_bm PySem.F.plainAttrs_list PySem.F.slot_list_extend PySem.F.type_list_extend mt_extend (pv 1) (pa_cons (pe_call (ok_counted T) (hr.mono (by decide)) rfl (g_counted T) (F_counted T).kp (B_counted T) .nil pass0 (pa_cons (pv 3) pa_nil)) pa_nil)))))) (pss_one (ps_ret (pv 1))))), ?_⟩)
  show _
  try simp only [cxK, cxK2]
  obtain ⟨a, rfl, l, vs, as, rfl, hl, has, hz, hn0, hn, k⟩ := h
  have hv := val_len (K := K) (σ := L2.start ["attributes", "told", "name", "value"] [.ref l]) (val_var (i := 0) rfl) (SqL.of hl)
  rw [has.len] at hv
  refine q_setN (gn_lst (vs := [vn as.length]) (va_cons hv va_nil) (by show 1 ≤ 1000; decide)) fun H1 w s1 hw e1 => ?_
  refine q_forP (val_var rfl) (s1 _ _ hl) (fun i σ H' => ∃ v1 v2 : Option V, σ = [some (.ref l), some (.ref w), v1, v2] ∧ Same H H' ∧ H' w = some (.lst (nts (as.length :: (as.take i).flatMap toldA)))) ⟨_, _, rfl, s1, e1⟩ (fun i σ H' ⟨_, _, _, s, _⟩ => s _ _ hl) (fun i x σ H2 hi pv => ?_) (fun σ H2 pv => ?_)
  · obtain ⟨v1, v2, rfl, s2, e2⟩ := pv
    obtain ⟨at1, tp, an, ax, hat, rfl, hp1, hp2, hp3⟩ := has.get hi
    have mem : at1 ∈ as := List.mem_of_getElem? hat
    have hz1 := hz _ mem
    have b1 := flat_le (f := toldA) as (i + 1)
    rw [flatG_take hat, List.length_append] at b1
    have hl2 : (toldA at1).length = at1.1.length + 1 + (at1.2.length + 1) := by unfold toldA; rw [List.length_append, List.length_cons, List.length_cons]
    refine ⟨tp, .ref an, .ref ax, rfl, SqT.of (s2 _ _ hp1), ?_⟩
    refine q_extG (ys := nts (at1.1.length :: at1.1)) (val_var rfl) e2 ?g1 ?l1 fun H3 s3 => ?_
    case g1 => exact gl_call (va_cons (val_var rfl) va_nil) fun Q h => ⟨_, rfl, an, at1.1, rfl, s2 _ _ hp2, by omega, h.new⟩
    case l1 => rw [nts_len, nts_len, List.length_cons, List.length_cons]; omega
    have S3 : Same H (upd H3 w (.lst (nts (as.length :: (as.take i).flatMap toldA) ++ nts (at1.1.length :: at1.1)))) := Same.mut (s2.trans s3) hw
    refine s_extG (ys := nts (at1.2.length :: at1.2)) (val_var rfl) upd_same ?g2 ?l2 fun H4 s4 => ?_
    case g2 => exact gl_call (va_cons (val_var rfl) va_nil) fun Q h => ⟨_, rfl, ax, at1.2, rfl, S3 _ _ hp3, by omega, h.new⟩
    case l2 => rw [List.length_append, nts_len, nts_len, nts_len, List.length_cons, List.length_cons, List.length_cons]; omega
    refine ⟨_, _, rfl, Same.mut (S3.trans s4) hw, ?_⟩
    rw [upd_same, flatG_take hat, ← nts_app, ← nts_app]
    unfold toldA
    simp only [List.cons_append, List.append_assoc]
  · obtain ⟨v1, v2, rfl, s2, e2⟩ := pv
    rw [has.len, List.take_length] at e2
    exact s_retV (val_var rfl) (k H2 w s2 hw e2)
def spToldTok (K : PySem.W.Frag) : Sp := Sp1 fun a H Q => ∃ (p : Addr) (t : Tk), a = .ref p ∧ TokAt K H p t ∧ SK t ∧ NewL H Q (nts (toldT t))
theorem s_retN {σ : L2.St} {H : Hp} {te : TE} {xs : List V} {D : Ends} (g : GN te σ H xs) (h : ∀ H' p, Same H H' → H p = none → H' p = some (.lst xs) → D.rt (.ref p) H') : tRet te D σ H := g _ h
theorem ok_told_token (T : Tx K mg) : FnOk P w K mg base CX0 3 (He.fAd K ("told_token", none)) (fdA K ("told_token", none)) ["token"] (spToldTok K) := by
  refine (F_told_token T).ok sc_told_token (fun vs H Q E h => Sp1.len h) (fun cdv A outer s H vs Q E hr h => ⟨_, PSs.nox (pss_cons (ps_if (pt_cmpR op_eq (pe_fld (pv 0) rfl) (pe_gi rfl (i_OPEN_TAG T)) (nomark _)) (pss_one (ps_ret (pe_op op_cat (pe_op op_cat (pe_lst (pa_cons (pe_fld (pv 0) rfl) (pa_cons (pe_fld (pv 0) rfl) pa_nil))) (pe_call (ok_counted T) (hr.mono (by decide)) rfl (g_counted T) (F_counted T).kp (B_counted T) .nil pass0 (pa_cons (pe_fld (pv 0) rfl) pa_nil))) (pe_call (ok_told_attributes T) (hr.mono (by decide)) rfl (g_told_attributes T) (F_told_attributes T).kp (B_told_attributes T) .nil pass0 (pa_cons (pe_fld (pv 0) rfl) pa_nil))))) pss_nil) (pss_cons (ps_if (pt_cmpR op_eq (pe_fld (pv 0) rfl) (pe_gi rfl (i_CLOSE_TAG T)) (nomark _)) (pss_one (ps_ret (pe_op op_cat (pe_lst (pa_cons (pe_fld (pv 0) rfl) pa_nil)) (pe_call (ok_counted T) (hr.mono (by decide)) rfl (g_counted T) (F_counted T).kp (B_counted T) .nil pass0 (pa_cons (pe_fld (pv 0) rfl) pa_nil))))) pss_nil) (pss_one (ps_ret (pe_op op_cat (pe_lst (pa_cons (pe_fld (pv 0) rfl) pa_nil)) (pe_call (ok_counted T) (hr.mono (by decide)) rfl (g_counted T) (F_counted T).kp (B_counted T) .nil pass0 (pa_cons (pe_fld (pv 0) rfl) pa_nil))))))), ?_⟩)
  show _
  try simp only [cxK, cxK2]
  obtain ⟨a, rfl, p, t, rfl, ⟨dx, n, g, s', vs, h1, h2, h3, h4, h5⟩, sk, k⟩ := h
  have hz := sk.n
  unfold toldT at k
  refine q_if (vt_eq 1 (vk_kind T h1 (val_var rfl)) val_c) (fun e => ?_) (fun e => ?_)
  · have e' := of_decide_eq_true e
    rw [if_pos e', nts_app, nts_app] at k
    have z1 := name_len (.inl e')
    have z2 := as_len e'
    have z3 := sk.attrs e'
    refine s_retN (gn_cat (gl_cat (gl_lst (vs := nts [t.kind, t.ended]) (va_cons (vk_kind T h1 (val_var rfl)) (va_cons (vk_ended T h1 (val_var rfl)) va_nil)) (by show 2 ≤ 1000; decide)) (fun H1 s1 => gl_call (xs := nts (t.name.length :: t.name)) (va_cons (vk_name T (s1 _ _ h1) (val_var rfl)) va_nil) fun Q h => ⟨_, rfl, n, t.name, rfl, s1 _ _ h2, by omega, h.new⟩) ?_) (fun H1 s1 => gl_call (xs := nts (t.attrs.length :: t.attrs.flatMap toldA)) (va_cons (vk_attrs T (s1 _ _ h1) (val_var rfl)) va_nil) fun Q h => ⟨_, rfl, g, vs, t.attrs, rfl, s1 _ _ h3, h4.mono s1, fun a ha => sk.val e' ha, by omega, by omega, h.new⟩) ?_) fun H1 p1 s1 n1 e1 => k H1 p1 s1 n1 e1
    · simp only [nts_len, List.length_append, List.length_cons, List.length_nil]; omega
    · simp only [nts_len, List.length_append, List.length_cons, List.length_nil]; omega
  rw [if_neg (of_decide_eq_false e)] at k
  have n1 := of_decide_eq_false e
  refine q_if (vt_eq 2 (vk_kind T h1 (val_var rfl)) val_c) (fun e => ?_) (fun e => ?_)
  · have e' := of_decide_eq_true e
    rw [if_pos e', nts_app] at k
    have z1 := name_len (.inr e')
    refine s_retN (gn_cat (gl_lst (vs := nts [t.kind]) (va_cons (vk_kind T h1 (val_var rfl)) va_nil) (by show 1 ≤ 1000; decide)) (fun H1 s1 => gl_call (xs := nts (t.name.length :: t.name)) (va_cons (vk_name T (s1 _ _ h1) (val_var rfl)) va_nil) fun Q h => ⟨_, rfl, n, t.name, rfl, s1 _ _ h2, by omega, h.new⟩) ?_) fun H1 p1 s1 n1 e1 => k H1 p1 s1 n1 e1
    simp only [nts_len, List.length_append, List.length_cons, List.length_nil]; omega
  rw [if_neg (of_decide_eq_false e)] at k
  have n2 := of_decide_eq_false e
  rw [nts_app] at k
  have z1 := signs_len sk.k n1 n2
  refine s_retN (gn_cat (gl_lst (vs := nts [t.kind]) (va_cons (vk_kind T h1 (val_var rfl)) va_nil) (by show 1 ≤ 1000; decide)) (fun H1 s1 => gl_call (xs := nts (t.signs.length :: t.signs)) (va_cons (vk_signs T (s1 _ _ h1) (val_var rfl)) va_nil) fun Q h => ⟨_, rfl, s', t.signs, rfl, s1 _ _ h5, by omega, h.new⟩) ?_) fun H1 p1 s1 n1 e1 => k H1 p1 s1 n1 e1
  simp only [nts_len, List.length_append, List.length_cons, List.length_nil]; omega
/-! full forms -/
def spFullV : Sp := Sp1 fun a H Q => ∃ (p : Addr) (l : NL), a = .ref p ∧ H p = some (.lst (nts l)) ∧ l.length ≤ 16384 ∧ NewL H Q (nts (fullV l))
theorem ok_full_value (T : Tx K mg) : FnOk P w K mg base CX0 2 (He.fAd K ("full_value", none)) (fdA K ("full_value", none)) ["value"] spFullV := by
  refine (F_full_value T).ok sc_full_value (fun vs H Q E h => Sp1.len h) (fun cdv A outer s H vs Q E hr h => ⟨_, PSs.nox (pss_cons (ps_set (i := 1) sc_full_value.nd rfl (Or.inl rfl) (pe_lst (pa_cons (pe_gi rfl (i_DOUBLE_QUOTE T)) pa_nil))) (pss_cons (ps_for PassesOwn.never rfl (pi_list (pv 0)) (pg_name (i := 2) sc_full_value.nd rfl (Or.inl rfl)) (pss_one (ps_if (pt_cmpR op_eq (pv 2) (pe_gi rfl (i_AMPERSAND T)) (nomark _)) (pss_one (ps_expr (pe_bm PySem.F.plainAttrs_list PySem.F.slot_list_extend PySem.F.type_list_extend mt_extend (pv 1) (pa_cons (pe_call (ok_signs_of T) (hr.mono (by decide)) rfl (g_signs_of T) (F_signs_of T).kp (B_signs_of T) .nil pass0 (pa_cons pe_str pa_nil)) pa_nil)))) (pss_one (ps_if (pt_cmpR op_eq (pv 2) (pe_gi rfl (i_DOUBLE_QUOTE T)) (nomark _)) (pss_one (ps_expr (pe_bm PySem.F.plainAttrs_list PySem.F.slot_list_extend PySem.F.type_list_extend mt_extend (pv 1) (pa_cons (pe_call (ok_signs_of T) (hr.mono (by decide)) rfl (g_signs_of T) (F_signs_of T).kp (B_signs_of T) .nil pass0 (pa_cons pe_str pa_nil)) pa_nil)))) (pss_one (ps_expr (pe_bm PySem.F.plainAttrs_list PySem.F.slot_list_append PySem.F.type_list_append mt_append (pv 1) (pa_cons (pv 2) pa_nil))))))))) (pss_cons (ps_expr (pe_bm PySem.F.plainAttrs_list PySem.F.slot_list_append PySem.F.type_list_append mt_append (pv 1) (pa_cons (pe_gi rfl (i_DOUBLE_QUOTE T)) pa_nil))) (pss_one (ps_ret (pv 1)))))), ?_⟩)
  show _
  try simp only [cxK, cxK2]
  obtain ⟨a, rfl, p, l, rfl, hp, hl, k⟩ := h
  have hz := wv_len l
  refine q_setN (gn_lst (vs := nts [34]) (va_cons val_c va_nil) (by show 1 ≤ 1000; decide)) fun H1 w s1 hw e1 => ?_
  refine q_forL (val_var rfl) (s1 _ _ hp) (fun i σ H' => ∃ v : Option V, σ = [some (.ref p), some (.ref w), v] ∧ Same H H' ∧ H' w = some (.lst (nts ([34] ++ (l.take i).flatMap Vaesca.writeValueSign)))) ⟨_, rfl, s1, e1⟩ (fun i σ H' ⟨_, _, s, _⟩ => s _ _ hp) (fun i x σ H2 hi pv => ?_) (fun σ H2 pv => ?_)
  · obtain ⟨v, rfl, s2, e2⟩ := pv
    obtain ⟨c, hc, rfl⟩ := nts_at hi
    have b1 := flat_le (f := Vaesca.writeValueSign) l (i + 1)
    rw [flatG_take hc, List.length_append] at b1
    have go : ∀ H' : Hp, H' w = some (.lst (nts ([34] ++ (l.take i).flatMap Vaesca.writeValueSign) ++ nts (Vaesca.writeValueSign c))) → H' w = some (.lst (nts ([34] ++ (l.take (i + 1)).flatMap Vaesca.writeValueSign))) := fun H' e => by
      rw [e, flatG_take hc, ← nts_app, List.append_assoc]
    refine s_if (vt_eq 38 (val_var rfl) val_c) (fun e => ?_) (fun e => ?_)
    · have ec : Vaesca.writeValueSign c = [38, 97, 109, 112, 59] := by rw [of_decide_eq_true e] <;> rfl
      refine s_extG (ys := nts (Vaesca.writeValueSign c)) (val_var rfl) e2 ?g ?l fun H3 s3 => ⟨_, rfl, Same.mut (s2.trans s3) hw, go _ upd_same⟩
      case g => exact gl_call (va_cons val_c va_nil) fun Q h => ⟨_, rfl, "&amp;", rfl, by rw [cps_refs.2.2]; decide, by rw [cps_refs.2.2, ← ec]; exact h.new⟩
      case l => rw [nts_len, nts_len, List.length_append, List.length_singleton]; omega
    have n1 := of_decide_eq_false e
    refine s_if (vt_eq 34 (val_var rfl) val_c) (fun e => ?_) (fun e => ?_)
    · have ec : Vaesca.writeValueSign c = [38, 113, 117, 111, 116, 59] := by rw [of_decide_eq_true e] <;> rfl
      refine s_extG (ys := nts (Vaesca.writeValueSign c)) (val_var rfl) e2 ?g ?l fun H3 s3 => ⟨_, rfl, Same.mut (s2.trans s3) hw, go _ upd_same⟩
      case g => exact gl_call (va_cons val_c va_nil) fun Q h => ⟨_, rfl, "&quot;", rfl, by rw [cps_marks.2.2.2]; decide, by rw [cps_marks.2.2.2, ← ec]; exact h.new⟩
      case l => rw [nts_len, nts_len, List.length_append, List.length_singleton]; omega
    have n2 := of_decide_eq_false e
    have ec : Vaesca.writeValueSign c = [c] := by
      unfold Vaesca.writeValueSign
      rw [if_neg (by simpa using n1), if_neg (by simpa using n2)]
    refine s_appG (val_var rfl) (val_var rfl) e2 (by rw [nts_len, List.length_append, List.length_singleton]; omega) ?_
    refine ⟨_, rfl, Same.mut s2 hw, ?_⟩
    refine go _ ?_
    rw [upd_same, ec]
    rfl
  · obtain ⟨v, rfl, s2, e2⟩ := pv
    rw [nts_len, List.take_length] at e2
    refine q_appG (val_var rfl) val_c e2 (by rw [nts_len, List.length_append, List.length_singleton]; omega) ?_
    refine s_retV (val_var rfl) (k _ w (Same.mut s2 hw) hw ?_)
    rw [upd_same]
    show some (HO.lst (nts ([34] ++ l.flatMap Vaesca.writeValueSign) ++ nts [34])) = _
    rw [← nts_app]
    rfl
def spFullT (K : PySem.W.Frag) : Sp := Sp2 fun a b H Q => ∃ (p : Addr) (t : Tk) (g : Nat), a = .ref p ∧ b = vn g ∧ TokAt K H p t ∧ t.kind = 1 ∧ SK t ∧ RetL H Q (nts (fullT g t))
theorem ok_full_open_tag (T : Tx K mg) : FnOk P w K mg base CX0 3 (He.fAd K ("full_open_tag", none)) (fdA K ("full_open_tag", none)) ["token", "gap"] (spFullT K) := by
  refine (F_full_open_tag T).ok sc_full_open_tag (fun vs H Q E h => Sp2.len h) (fun cdv A outer s H vs Q E hr h => ⟨_, PSs.nox (pss_cons (ps_set (i := 2) sc_full_open_tag.nd rfl (Or.inl rfl) (pe_op op_cat (pe_lst (pa_cons (pe_gi rfl (i_LESS T)) pa_nil)) (pe_fld (pv 0) rfl))) (pss_cons (ps_for PassesOwn.never rfl (pi_list (pe_fld (pv 0) rfl)) (pg_tup rfl (pgs_cons (pg_name (i := 3) sc_full_open_tag.nd rfl (Or.inl rfl)) (pgs_cons (pg_name (i := 4) sc_full_open_tag.nd rfl (Or.inl rfl)) pgs_nil))) (pss_cons (ps_expr (pe_bm PySem.F.plainAttrs_list PySem.F.slot_list_append PySem.F.type_list_append mt_append (pv 2) (pa_cons (pv 1) pa_nil))) (pss_cons (ps_expr (pe_bm PySem.F.plainAttrs_list PySem.F.slot_list_extend PySem.F.type_list_extend mt_extend (pv 2) (pa_cons (pv 3) pa_nil))) (pss_cons (ps_expr (pe_bm PySem.F.plainAttrs_list PySem.F.slot_list_append PySem.F.type_list_append mt_append (pv 2) (pa_cons (pe_gi rfl (i_EQUALS T)) pa_nil))) (pss_one (ps_expr (pe_bm PySem.F.plainAttrs_list PySem.F.slot_list_extend PySem.F.type_list_extend mt_extend (pv 2) (pa_cons (pe_call (ok_full_value T) (hr.mono (by decide)) rfl (g_full_value T) (F_full_value T).kp (B_full_value T) .nil pass0 (pa_cons (pv 4) pa_nil)) pa_nil)))))))) (pss_one (ps_ret (pe_op op_cat (pv 2) (pe_call (ok_tag_end T) (hr.mono (by decide)) rfl (g_tag_end T) (F_tag_end T).kp (B_tag_end T) .nil pass0 (pa_cons (pv 0) pa_nil))))))), ?_⟩)
  show _
  try simp only [cxK, cxK2]
  obtain ⟨a, b, rfl, p, t, gp, rfl, rfl, ht0, hk, sk, k⟩ := h
  obtain ⟨dx, n, g, s', vs, h1, h2, h3, h4, h5⟩ := ht0
  have ht0 : TokAt K H p t := ⟨dx, n, g, s', vs, h1, h2, h3, h4, h5⟩
  have hz := sk.n
  have hf := fullT_len gp hk
  unfold fullT at k hf
  simp only [List.length_append] at hf
  refine q_setN (gn_cat (xs := nts [60]) (gl_lst (va_cons val_c va_nil) (by show 1 ≤ 1000; decide)) (fun H1 s1 => gl_val (vk_name T (s1 _ _ h1) (val_var rfl)) (s1 _ _ h2)) (by rw [nts_len, nts_len, List.length_singleton]; omega)) fun H1 w s1 hw e1 => ?_
  rw [← nts_app] at e1
  refine q_forP (vk_attrs T (s1 _ _ h1) (val_var rfl)) (s1 _ _ h3) (fun i σ H' => ∃ v1 v2 : Option V, σ = [some (.ref p), some (vn gp), some (.ref w), v1, v2] ∧ Same H H' ∧ H' w = some (.lst (nts ([60] ++ t.name ++ (t.attrs.take i).flatMap (fullA gp))))) ⟨_, _, rfl, s1, by rw [List.take_zero, List.flatMap_nil, List.append_nil]; exact e1⟩ (fun i σ H' ⟨_, _, _, s, _⟩ => s _ _ h3) (fun i x σ H2 hi pv => ?_) (fun σ H2 pv => ?_)
  · obtain ⟨v1, v2, rfl, s2, e2⟩ := pv
    obtain ⟨at1, tp, an, ax, hat, rfl, hp1, hp2, hp3⟩ := h4.get hi
    have mem : at1 ∈ t.attrs := List.mem_of_getElem? hat
    have hz1 := sk.val hk mem
    have b1 := flat_le (f := fullA gp) t.attrs (i + 1)
    rw [flatG_take hat, List.length_append] at b1
    have ef : fullA gp at1 = [gp] ++ at1.1 ++ [61] ++ fullV at1.2 := rfl
    have ef2 := congrArg List.length ef
    simp only [List.length_append, List.length_singleton] at ef2
    refine ⟨tp, .ref an, .ref ax, rfl, SqT.of (s2 _ _ hp1), ?_⟩
    obtain ⟨pre, epre⟩ : ∃ pre, pre = [60] ++ t.name ++ (t.attrs.take i).flatMap (fullA gp) := ⟨_, rfl⟩
    have epl := congrArg List.length epre
    simp only [List.length_append, List.length_singleton] at epl
    rw [← epre] at e2
    have n0 : ([60] : NL).length = 1 := rfl
    refine q_appG (val_var rfl) (val_var rfl) e2 (by rw [nts_len]; omega) ?_
    have S3 : Same H (upd H2 w (.lst (nts pre ++ [vn gp]))) := Same.mut s2 hw
    refine q_extG (ys := nts at1.1) (val_var rfl) upd_same (gl_val (val_var rfl) (S3 _ _ hp2)) (by rw [List.length_append, nts_len, nts_len, List.length_singleton]; omega) fun H4 s4 => ?_
    have S4 := Same.mut (o := .lst (nts pre ++ [vn gp] ++ nts at1.1)) (S3.trans s4) hw
    refine q_appG (val_var rfl) val_c upd_same (by rw [List.length_append, List.length_append, nts_len, nts_len, List.length_singleton]; omega) ?_
    have S5 := Same.mut (o := .lst (nts pre ++ [vn gp] ++ nts at1.1 ++ [V.int 61])) S4 hw
    refine s_extG (ys := nts (fullV at1.2)) (val_var rfl) upd_same ?g ?l fun H6 s6 => ?_
    case g => exact gl_call (va_cons (val_var rfl) va_nil) fun Q h => ⟨_, rfl, ax, at1.2, rfl, S5 _ _ hp3, by omega, h.new⟩
    case l => rw [List.length_append, List.length_append, List.length_append, nts_len, nts_len, nts_len, List.length_singleton, List.length_singleton]; omega
    refine ⟨_, _, rfl, Same.mut (S5.trans s6) hw, ?_⟩
    rw [upd_same, flatG_take hat, ef, ← List.append_assoc, ← epre]
    have e : nts (pre ++ ([gp] ++ at1.1 ++ [61] ++ fullV at1.2)) = nts pre ++ [vn gp] ++ nts at1.1 ++ [V.int 61] ++ nts (fullV at1.2) := by
      rw [nts_app, nts_app, nts_app, nts_app]
      simp only [List.append_assoc]
      rfl
    rw [e]
  · obtain ⟨v1, v2, rfl, s2, e2⟩ := pv
    rw [h4.len, List.take_length] at e2
    rw [nts_app] at k
    refine s_retG (gl_cat (gl_val (val_var rfl) e2) (fun H3 s3 => gl_call (va_cons (val_var rfl) va_nil) fun Q h => ⟨_, rfl, p, t, rfl, ht0.mono (s2.trans s3), h⟩) ?_) fun H3 p3 s3 e3 => k H3 p3 (s2.trans s3) e3
    rw [nts_len, nts_len]; simp only [List.length_append]; omega

end Sm

set_option Elab.async false
set_option linter.all false
set_option maxRecDepth 100000
set_option maxHeartbeats 0
namespace Sm
open PySem PySem.Spec PyProof.Rows L2
variable {P : Program} {w : World} {K : PySem.W.Frag} {mg : Str → Option Value} {base : Heap}
/-! ### answers of whole texts -/
section
variable {σ : L2.St} {H : Hp} {ta t1 t2 : TE} {Q : VK} {r : Addr} {A : Adr} {m : M} {sp : Sp} {E : XK}
theorem t_call1 (h : t1 σ H fun v H1 => sp [v] H1 Q E) : tCall sp [] E (tCons t1 tNil) σ H Q := h
theorem t_call2 (h : t1 σ H fun v H1 => t2 σ H1 fun u H2 => sp [v, u] H2 Q E) : tCall sp [] E (tCons t1 (tCons t2 tNil)) σ H Q := h
theorem vr_mode (T : Tx K mg) (h : H r = some (.ins (cR K) A.dx (rF A m))) (ha : Val ta σ H (.ref r)) : Val (tFld K ta "mode") σ H (vn m.mode) := val_fld ha h (c_Reader T) (a_Reader_mode T) rF_mode
theorem vr_count (T : Tx K mg) (h : H r = some (.ins (cR K) A.dx (rF A m))) (ha : Val ta σ H (.ref r)) : Val (tFld K ta "count") σ H (vn m.count) := val_fld ha h (c_Reader T) (a_Reader_count T) rF_count
theorem vr_fk (T : Tx K mg) (h : H r = some (.ins (cR K) A.dx (rF A m))) (ha : Val ta σ H (.ref r)) : Val (tFld K ta "fault_kind") σ H (vn m.fk) := val_fld ha h (c_Reader T) (a_Reader_fault_kind T) rF_fk
theorem vr_tokens (T : Tx K mg) (h : H r = some (.ins (cR K) A.dx (rF A m))) (ha : Val ta σ H (.ref r)) : Val (tFld K ta "tokens") σ H (.ref A.pt) := val_fld ha h (c_Reader T) (a_Reader_tokens T) rF_tokens
end
def spFault (K : PySem.W.Frag) : Sp := Sp1 fun a H Q => ∃ (r : Addr) (m : M), a = .ref r ∧ RdrAt K H r m ∧ NewL H Q (nts (faultA m))
theorem ok_fault_answer (T : Tx K mg) : FnOk P w K mg base CX0 1 (He.fAd K ("fault_answer", none)) (fdA K ("fault_answer", none)) ["reader"] (spFault K) := by
  refine (F_fault_answer T).ok sc_fault_answer (fun vs H Q E h => Sp1.len h) (fun cdv A outer s H vs Q E hr h => ⟨_, PSs.nox (pss_one (ps_ret (pe_lst (pa_cons pe_int (pa_cons (pe_fld (pv 0) rfl) (pa_cons (pe_fld (pv 0) rfl) pa_nil)))))), ?_⟩)
  show _
  try simp only [cxK, cxK2]
  obtain ⟨a, rfl, r, m, rfl, ⟨A, h1, h2, h3⟩, k⟩ := h
  exact s_retN (gn_lst (vs := nts (faultA m)) (va_cons val_c (va_cons (vr_fk T h1 (val_var rfl)) (va_cons (vr_count T h1 (val_var rfl)) va_nil))) (by show 3 ≤ 1000; decide)) fun H1 p1 s1 n1 e1 => k H1 p1 s1 n1 e1
def spReadA (K : PySem.W.Frag) : Sp := Sp2 fun a b H Q => ∃ (r : Addr) (m : M) (p : Addr) (l : NL), a = .ref r ∧ b = .ref p ∧ RdrAt K H r m ∧ H p = some (.lst (nts l)) ∧ l.length ≤ 500000 ∧ NewL H Q (nts (readA m l))
theorem ok_read_answer (T : Tx K mg) : FnOk P w K mg base CX0 2 (He.fAd K ("read_answer", none)) (fdA K ("read_answer", none)) ["reader", "written"] (spReadA K) := by
  refine (F_read_answer T).ok sc_read_answer (fun vs H Q E h => Sp2.len h) (fun cdv A outer s H vs Q E hr h => ⟨_, PSs.nox (pss_cons (ps_if (pt_cmpR op_eq (pe_fld (pv 0) rfl) (pe_gi rfl (i_FAULT T)) (nomark _)) (pss_one (ps_ret (pe_call (ok_fault_answer T) (hr.mono (by decide)) rfl (g_fault_answer T) (F_fault_answer T).kp (B_fault_answer T) .nil pass0 (pa_cons (pv 0) pa_nil)))) pss_nil) (pss_one (ps_ret (pe_op op_cat (pe_lst (pa_cons pe_int pa_nil)) (pe_call (ok_counted T) (hr.mono (by decide)) rfl (g_counted T) (F_counted T).kp (B_counted T) .nil pass0 (pa_cons (pv 1) pa_nil)))))), ?_⟩)
  show _
  try simp only [cxK, cxK2]
  obtain ⟨a, b, rfl, r, m, p, l, rfl, rfl, ⟨A, h1, h2, h3⟩, hp, hl, k⟩ := h
  unfold readA at k
  refine q_if (vt_eq 26 (vr_mode T h1 (val_var rfl)) val_c) (fun e => ?_) (fun e => ?_)
  · rw [if_pos (of_decide_eq_true e)] at k
    exact s_ret (t_call (va_cons (val_var rfl) va_nil) ⟨_, rfl, r, m, rfl, ⟨A, h1, h2, h3⟩, k⟩)
  · rw [if_neg (of_decide_eq_false e), show (0 :: l.length :: l : NL) = [0] ++ (l.length :: l) from rfl, nts_app] at k
    refine s_retN (gn_cat (gl_lst (vs := nts [0]) (va_cons val_c va_nil) (by show 1 ≤ 1000; decide)) (fun H1 s1 => gl_call (xs := nts (l.length :: l)) (va_cons (val_var rfl) va_nil) fun Q h => ⟨_, rfl, p, l, rfl, s1 _ _ hp, hl, h.new⟩) ?_) fun H1 p1 s1 n1 e1 => k H1 p1 s1 n1 e1
    simp only [nts_len, List.length_cons, List.length_nil]; omega
def spLaidTok (K : PySem.W.Frag) : Sp := Sp2 fun a b H Q => ∃ (p : Addr) (t : Tk) (w : Int), a = .ref p ∧ b = .int w ∧ TokAt K H p t ∧ SK t ∧ RetL H Q (nts (laidM w t))
theorem ok_laid_token (T : Tx K mg) : FnOk P w K mg base CX0 9 (He.fAd K ("laid_token", none)) (fdA K ("laid_token", none)) ["token", "width"] (spLaidTok K) := by
  refine (F_laid_token T).ok sc_laid_token (fun vs H Q E h => Sp2.len h) (fun cdv A outer s H vs Q E hr h => ⟨_, PSs.nox (pss_cons (ps_if (pt_cmpR op_ne (pe_fld (pv 0) rfl) (pe_gi rfl (i_OPEN_TAG T)) (nomark _)) (pss_one (ps_ret (pe_call (ok_short_token T) (hr.mono (by decide)) rfl (g_short_token T) (F_short_token T).kp (B_short_token T) .nil pass0 (pa_cons (pv 0) pa_nil)))) pss_nil) (pss_cons (ps_set (i := 2) sc_laid_token.nd rfl (Or.inl rfl) (pe_call (ok_full_open_tag T) (hr.mono (by decide)) rfl (g_full_open_tag T) (F_full_open_tag T).kp (B_full_open_tag T) .nil pass0 (pa_cons (pv 0) (pa_cons (pe_gi rfl (i_SPACE T)) pa_nil)))) (pss_cons (ps_if (pt_cmpR op_le (pe_callB call_len_seq (by rfl) (n_len T) (by decide +kernel) (pa_cons (pv 2) pa_nil)) (pv 1) (nomark _)) (pss_one (ps_ret (pv 2))) pss_nil) (pss_one (ps_ret (pe_call (ok_full_open_tag T) (hr.mono (by decide)) rfl (g_full_open_tag T) (F_full_open_tag T).kp (B_full_open_tag T) .nil pass0 (pa_cons (pv 0) (pa_cons (pe_gi rfl (i_LINE_FEED T)) pa_nil)))))))), ?_⟩)
  show _
  try simp only [cxK, cxK2]
  obtain ⟨a, b, rfl, p, t, w, rfl, rfl, ht0, sk, k⟩ := h
  obtain ⟨dx, n, g, s', vs, h1, h2, h3, h4, h5⟩ := ht0
  have ht0 : TokAt K H p t := ⟨dx, n, g, s', vs, h1, h2, h3, h4, h5⟩
  unfold laidM at k
  refine q_if (vt_test (val_neN (b := 1) (vk_kind T h1 (val_var rfl)) val_c)) (fun e => ?_) (fun e => ?_)
  · rw [if_pos (by simpa using e)] at k
    exact s_retG (gl_call (va_cons (val_var rfl) va_nil) fun Q h => ⟨_, rfl, p, t, rfl, ht0, sk, h⟩) fun H1 p1 s1 e1 => k H1 p1 s1 e1
  have hk : t.kind = 1 := by simpa using e
  rw [if_neg (fun z => z hk)] at k
  refine q_setG (xs := nts (fullT 32 t)) (gl_call (va_cons (val_var rfl) (va_cons val_c va_nil)) fun Q h => ⟨_, _, rfl, p, t, 32, rfl, rfl, ht0, hk, sk, h⟩) fun H1 p1 s1 e1 => ?_
  have hv := val_len (K := K) (σ := [some (V.ref p), some (V.int w), some (V.ref p1)]) (val_var (i := 2) rfl) (SqL.of e1)
  rw [nts_len] at hv
  refine q_if (b := decide (((fullT 32 t).length : Int) ≤ w)) (vt_test (val_i2 (g := fun i j => .bl (decide (i ≤ j))) hv (val_var rfl))) (fun e => ?_) (fun e => ?_)
  · rw [if_pos (of_decide_eq_true e)] at k
    exact s_retV (val_var rfl) (k H1 p1 s1 e1)
  · rw [if_neg (of_decide_eq_false e)] at k
    exact s_retG (gl_call (va_cons (val_var rfl) (va_cons val_c va_nil)) fun Q h => ⟨_, _, rfl, p, t, 10, rfl, rfl, ht0.mono s1, hk, sk, h⟩) fun H2 p2 s2 e2 => k H2 p2 (s1.trans s2) e2
def spLaids (K : PySem.W.Frag) : Sp := Sp2 fun a b H Q => ∃ (l : Addr) (vs : List V) (ts : List Tk) (w : Int), a = .ref l ∧ b = .int w ∧ H l = some (.lst vs) ∧ Toks K H vs ts ∧ (∀ t ∈ ts, SK t) ∧ (ts.flatMap sTok).length ≤ 50000 ∧ NewL H Q (nts (ts.flatMap (laidM w)))
theorem ok_laid_out (T : Tx K mg) : FnOk P w K mg base CX0 10 (He.fAd K ("laid_out", none)) (fdA K ("laid_out", none)) ["tokens", "width"] (spLaids K) := by
  refine (F_laid_out T).ok sc_laid_out (fun vs H Q E h => Sp2.len h) (fun cdv A outer s H vs Q E hr h => ⟨_, PSs.nox (pss_cons (ps_set (i := 2) sc_laid_out.nd rfl (Or.inl rfl) (pe_lst pa_nil)) (pss_cons (ps_for PassesOwn.never rfl (pi_list (pv 0)) (pg_name (i := 3) sc_laid_out.nd rfl (Or.inl rfl)) (pss_one (ps_expr (pe_bm PySem.F.plainAttrs_list PySem.F.slot_list_extend PySem.F.type_list_extend mt_extend (pv 2) (pa_cons (pe_call (ok_laid_token T) (hr.mono (by decide)) rfl (g_laid_token T) (F_laid_token T).kp (B_laid_token T) .nil pass0 (pa_cons (pv 3) (pa_cons (pv 1) pa_nil))) pa_nil))))) (pss_one (ps_ret (pv 2))))), ?_⟩)
  show _
  try simp only [cxK, cxK2]
  obtain ⟨a, b, rfl, l, vs, ts, wd, rfl, rfl, hl, hts, sk, hn, k⟩ := h
  have hn2 := laids_len wd ts
  refine q_setL va_nil (by decide) fun w hw => ?_
  have S0 : Same H (upd H w (.lst [])) := Same.new hw
  refine q_forL (val_var rfl) (S0 _ _ hl) (fun i σ H' => ∃ v : Option V, σ = [some (.ref l), some (.int wd), some (.ref w), v] ∧ Same H H' ∧ H' w = some (.lst (nts ((ts.take i).flatMap (laidM wd))))) ⟨_, rfl, S0, upd_same⟩ (fun i σ H' ⟨_, _, s, _⟩ => s _ _ hl) (fun i x σ H1 hi pv => ?_) (fun σ H1 pv => ?_)
  · obtain ⟨v, rfl, s1, e1⟩ := pv
    obtain ⟨t, p, ht, rfl, hp⟩ := hts.get hi
    have b1 := flat_le (f := laidM wd) ts (i + 1)
    rw [flatT_take ht, List.length_append] at b1
    refine s_extG (ys := nts (laidM wd t)) (val_var rfl) e1 ?g (by rw [nts_len, nts_len]; omega) fun H2 s2 => ?_
    case g => exact gl_call (va_cons (val_var rfl) (va_cons (val_var rfl) va_nil)) fun Q h => ⟨_, _, rfl, p, t, wd, rfl, rfl, hp.mono s1, sk t (List.mem_of_getElem? ht), h⟩
    refine ⟨_, rfl, Same.mut (s1.trans s2) hw, ?_⟩
    rw [upd_same, flatT_take ht, nts_app]
  · obtain ⟨v, rfl, s1, e1⟩ := pv
    rw [hts.len, List.take_length] at e1
    exact s_retV (val_var rfl) (k H1 w s1 hw e1)
/-! whole texts -/
def Txt' (H : Hp) (l : Addr) (xs : NL) : Prop := H l = some (.lst (nts xs)) ∧ xs.length ≤ 16384 ∧ ∀ c ∈ xs, c < 256
theorem Txt'.sk {H : Hp} {l : Addr} {xs : NL} (h : Txt' H l xs) : (∀ t ∈ (rd xs).toks, SK t) ∧ (∀ t ∈ normTk (rd xs).toks, SK t) ∧ ((rd xs).toks.flatMap sTok).length ≤ 16384 ∧ ((normTk (rd xs).toks).flatMap sTok).length ≤ 16384 ∧ (rd xs).toks.length ≤ 16384 ∧ (normTk (rd xs).toks).length ≤ 16384 := by
  obtain ⟨_, h2, h3⟩ := h
  obtain ⟨tb, hc⟩ := rd_tb xs h3
  have by' := rd_by h3
  have nl := norm_len (ts := (rd xs).toks) (kts tb)
  have a := tb.s
  have b := tb.n
  exact ⟨tb.sk by' (by omega), norm_sk tb by' (by omega), by omega, by omega, by omega, by omega⟩
def spMin : Sp := Sp1 fun a H Q => ∃ (l : Addr) (xs : NL), a = .ref l ∧ Txt' H l xs ∧ NewL H Q (nts (minA xs))
theorem ok_minified_answer (T : Tx K mg) : FnOk P w K mg base CX0 11 (He.fAd K ("minified_answer", none)) (fdA K ("minified_answer", none)) ["signs"] spMin := by
  refine (F_minified_answer T).ok sc_minified_answer (fun vs H Q E h => Sp1.len h) (fun cdv A outer s H vs Q E hr h => ⟨_, PSs.nox (pss_cons (ps_set (i := 1) sc_minified_answer.nd rfl (Or.inl rfl) (pe_call (ok_read_text T) (hr.mono (by decide)) rfl (g_read_text T) (F_read_text T).kp (B_read_text T) .nil pass0 (pa_cons (pv 0) pa_nil))) (pss_one (ps_ret (pe_call (ok_read_answer T) (hr.mono (by decide)) rfl (g_read_answer T) (F_read_answer T).kp (B_read_answer T) .nil pass0 (pa_cons (pv 1) (pa_cons (pe_call (ok_short_tokens T) (hr.mono (by decide)) rfl (g_short_tokens T) (F_short_tokens T).kp (B_short_tokens T) .nil pass0 (pa_cons (pe_call (ok_normal_tokens T) (hr.mono (by decide)) rfl (g_normal_tokens T) (F_normal_tokens T).kp (B_normal_tokens T) .nil pass0 (pa_cons (pe_fld (pv 1) rfl) pa_nil)) pa_nil)) pa_nil)))))), ?_⟩)
  show _
  try simp only [cxK, cxK2]
  obtain ⟨a, rfl, l, xs, rfl, ht, k⟩ := h
  obtain ⟨k1, k2, k3, k4, k5, k6⟩ := ht.sk
  refine q_set (t_call (va_cons (val_var rfl) va_nil) ⟨_, rfl, l, xs, rfl, ht.1, by have := ht.2.1; omega, ht.2.2, fun H1 r s1 R1 => ?_⟩)
  obtain ⟨A, h1, h2, h3⟩ := R1
  refine s_ret (t_call2 (t2 := tCall (spShorts K) [] E0 (tCons (tCall (spNormal K) [] E0 (tCons (tFld K (tVar 1) "tokens") tNil)) tNil)) (val_var (v := .ref r) rfl _ ?_))
  refine t_call1 (t_call (va_cons (vr_tokens T h1 (val_var rfl)) va_nil) ⟨_, rfl, A.pt, A.ts, _, rfl, h2, h3, by omega, fun H2 p us s2 e2 ht2 => ?_⟩)
  refine ⟨_, rfl, p, us, _, rfl, e2, ht2, k2, by omega, fun H3 w s3 n3 e3 => ?_⟩
  exact ⟨_, _, rfl, r, rd xs, w, _, rfl, rfl, ⟨A, s3 _ _ (s2 _ _ h1), s3 _ _ (s2 _ _ h2), h3.mono (s2.trans s3)⟩, e3, by omega, fun H4 w4 s4 n4 e4 => k H4 w4 (s1.trans (s2.trans (s3.trans s4))) (Same.none (s1.trans (s2.trans s3)) n4) e4⟩
def spLaidA : Sp := Sp2 fun a b H Q => ∃ (w : Int) (l : Addr) (xs : NL), a = .int w ∧ b = .ref l ∧ 0 ≤ w ∧ Txt' H l xs ∧ NewL H Q (nts (laidA w xs))
theorem flat_congr {f g : Tk → NL} : ∀ {l : List Tk}, (∀ x ∈ l, f x = g x) → l.flatMap f = l.flatMap g
  | [], _ => rfl
  | a :: r, h => by
    rw [List.flatMap_cons, List.flatMap_cons, h a List.mem_cons_self, flat_congr fun x hx => h x (List.mem_cons_of_mem _ hx)]
theorem laidA_eq {w : Int} {xs : NL} (hw : 0 ≤ w) (h : ∀ t ∈ (rd xs).toks, SK t) : laidA w xs = readA (rd xs) ((rd xs).toks.flatMap (laidM w)) := by
  unfold laidA
  congr 1
  exact flat_congr fun t ht => laid_mirror (h t ht).k hw
theorem ok_laid_answer (T : Tx K mg) : FnOk P w K mg base CX0 11 (He.fAd K ("laid_answer", none)) (fdA K ("laid_answer", none)) ["width", "signs"] spLaidA := by
  refine (F_laid_answer T).ok sc_laid_answer (fun vs H Q E h => Sp2.len h) (fun cdv A outer s H vs Q E hr h => ⟨_, PSs.nox (pss_cons (ps_set (i := 2) sc_laid_answer.nd rfl (Or.inl rfl) (pe_call (ok_read_text T) (hr.mono (by decide)) rfl (g_read_text T) (F_read_text T).kp (B_read_text T) .nil pass0 (pa_cons (pv 1) pa_nil))) (pss_one (ps_ret (pe_call (ok_read_answer T) (hr.mono (by decide)) rfl (g_read_answer T) (F_read_answer T).kp (B_read_answer T) .nil pass0 (pa_cons (pv 2) (pa_cons (pe_call (ok_laid_out T) (hr.mono (by decide)) rfl (g_laid_out T) (F_laid_out T).kp (B_laid_out T) .nil pass0 (pa_cons (pe_fld (pv 2) rfl) (pa_cons (pv 0) pa_nil))) pa_nil)))))), ?_⟩)
  show _
  try simp only [cxK, cxK2]
  obtain ⟨a, b, rfl, wd, l, xs, rfl, rfl, hw, ht, k⟩ := h
  obtain ⟨k1, k2, k3, k4, k5, k6⟩ := ht.sk
  rw [laidA_eq hw k1] at k
  have hn2 := laids_len wd (rd xs).toks
  refine q_set (t_call (va_cons (val_var rfl) va_nil) ⟨_, rfl, l, xs, rfl, ht.1, by have := ht.2.1; omega, ht.2.2, fun H1 r s1 R1 => ?_⟩)
  obtain ⟨A, h1, h2, h3⟩ := R1
  refine s_ret (t_call2 (t2 := tCall (spLaids K) [] E0 (tCons (tFld K (tVar 2) "tokens") (tCons (tVar 0) tNil))) (val_var (v := .ref r) rfl _ ?_))
  refine t_call (va_cons (vr_tokens T h1 (val_var rfl)) (va_cons (val_var rfl) va_nil)) ⟨_, _, rfl, A.pt, A.ts, _, wd, rfl, rfl, h2, h3, k1, by omega, fun H3 w s3 n3 e3 => ?_⟩
  exact ⟨_, _, rfl, r, rd xs, w, _, rfl, rfl, ⟨A, s3 _ _ h1, s3 _ _ h2, h3.mono s3⟩, e3, by omega, fun H4 w4 s4 n4 e4 => k H4 w4 (s1.trans (s3.trans s4)) (Same.none (s1.trans s3) n4) e4⟩

end Sm

set_option Elab.async false
set_option linter.all false
set_option maxRecDepth 100000
set_option maxHeartbeats 0
namespace Sm
open PySem PySem.Spec PyProof.Rows L2
variable {P : Program} {w : World} {K : PySem.W.Frag} {mg : Str → Option Value} {base : Heap}
/-! ### told tokens, saved signs, texts that are the same -/
def spTold (K : PySem.W.Frag) : Sp := Sp1 fun a H Q => ∃ (r : Addr) (m : M), a = .ref r ∧ RdrAt K H r m ∧ (∀ t ∈ normTk m.toks, SK t) ∧ m.toks.length ≤ 100000 ∧ (normTk m.toks).length ≤ 100000 ∧
  ∀ (H' : Hp) (p : Addr) (vs : List V), Same H H' → H' p = some (.lst vs) → LLAt H' vs ((normTk m.toks).map toldT) → Q (.ref p) H'
theorem ok_told_normal_tokens (T : Tx K mg) : FnOk P w K mg base CX0 7 (He.fAd K ("told_normal_tokens", none)) (fdA K ("told_normal_tokens", none)) ["reader"] (spTold K) := by
  refine (F_told_normal_tokens T).ok sc_told_normal_tokens (fun vs H Q E h => Sp1.len h) (fun cdv A outer s H vs Q E hr h => ⟨_, PSs.nox (pss_one (ps_ret (pe_lc (own := [("token", 1)]) (by rfl) sc_told_normal_tokens.nd (pi_list (pe_call (ok_normal_tokens T) (hr.mono (by decide)) rfl (g_normal_tokens T) (F_normal_tokens T).kp (B_normal_tokens T) .nil pass0 (pa_cons (pe_fld (pv 0) rfl) pa_nil))) (blkOk_by (own := [("token", 1)]) (N := ["reader", "token"]) (sc := defScope (sT 156)) (by decide +kernel)) (fun _ _ _ _ _ => (pg_name (i := 1) sc_told_normal_tokens.nd rfl (Or.inl rfl))) (fun _ _ _ _ _ => pts_nil) (fun _ _ _ _ _ => (pe_call (ok_told_token T) (hr.mono (by decide)) rfl (g_told_token T) (F_told_token T).kp (B_told_token T) .nil pass0 (pa_cons (pv 1) pa_nil)))))), ?_⟩)
  show _
  try simp only [cxK, cxK2]
  obtain ⟨a, rfl, r, m, rfl, ⟨A, h1, h2, h3⟩, sk, hn, hn2, k⟩ := h
  refine s_ret ?_
  refine t_call (va_cons (vr_tokens T h1 (val_var rfl)) va_nil) ⟨_, rfl, A.pt, A.ts, _, rfl, h2, h3, by omega, fun H1 p us s1 e1 ht1 => ⟨p, rfl, ⟨_, SqL.of e1⟩, fun D hD => lc_it (walk_list (xs := us)) (fun i H' => Making H1 D (((normTk m.toks).take i).map toldT) H') (Making.start hD) (fun i H' _ h => SqL.of (h.same hD _ _ e1)) (fun i x H2 H3 hi pv y => ?_) (fun H' pv => ?_)⟩⟩
  · obtain ⟨rfl, y⟩ := y
    obtain ⟨t, q, ht, rfl, hq⟩ := ht1.get y
    refine ⟨rfl, ?_⟩
    unfold tYes
    dsimp only
    rw [if_pos rfl]
    refine t_call (va_cons (val_var rfl) va_nil) ⟨_, rfl, q, t, rfl, hq.mono (pv.same hD), sk t (List.mem_of_getElem? ht), fun H4 p4 s4 n4 e4 => ?_⟩
    have hDs : ∃ acc, H3 D = some (.lst acc) := let ⟨_, vs, _, _, _, h, _⟩ := pv; ⟨vs, h⟩
    obtain ⟨acc0, hD2⟩ := hDs
    obtain ⟨acc, ha, hal, mk⟩ := pv.more s4 e4 (fun q => by rw [q, hD2] at n4; cases n4)
    refine ⟨acc, ha, ?_, ?_⟩
    · rw [hal, List.length_map]; exact size_lt (by have := List.length_take_le' i (normTk m.toks); omega)
    · rw [take_more ht, List.map_append]; exact mk
  · have sm := pv.same hD
    obtain ⟨F, vs, g1, g2, g3, g4, g5⟩ := pv
    rw [ht1.len, List.take_length] at g5
    exact k H' D vs (s1.trans sm) g4 (g5.mono g2)
theorem LLAt.get {F : Hp} : ∀ {vs : List V} {ls : List NL} {i : Nat} {v : V}, LLAt F vs ls → vs[i]? = some v → ∃ a l, ls[i]? = some l ∧ v = .ref a ∧ F a = some (.lst (nts l))
  | _ :: _, _ :: _, 0, _, ⟨⟨a, e, h⟩, _⟩, q => ⟨a, _, rfl, (Option.some.inj q).symm.trans e, h⟩
  | _ :: _, _ :: _, i + 1, _, ⟨_, r⟩, q => r.get (i := i) q
  | [], [], _, _, _, q => by simp at q
  | [], _ :: _, _, _, h, _ => h.elim
  | _ :: _, [], _, _, h, _ => h.elim
theorem told_eq {ts : List Tk} (h : ∀ t ∈ ts, SK t) : told ts = ts.map toldT := by
  unfold told
  exact List.map_congr_left fun t ht => told_mirror (h t ht).k
theorem toldF_len : ∀ {ts : List Tk}, (∀ t ∈ ts, SK t) → ((ts.map toldT).flatten).length ≤ 4 * ts.length + 3 * (ts.flatMap sTok).length
  | [], _ => Nat.zero_le _
  | t :: r, h => by
    have h1 := toldT_len (h t List.mem_cons_self)
    have h2 := toldF_len fun u hu => h u (List.mem_cons_of_mem _ hu)
    rw [List.map_cons, List.flatten_cons, List.flatMap_cons, List.length_append, List.length_append, List.length_cons]
    omega
theorem flatten_take {ls : List NL} {i : Nat} {l : NL} (h : ls[i]? = some l) : (ls.take (i + 1)).flatten = (ls.take i).flatten ++ l := by
  rw [take_more h, List.flatten_append]; simp
theorem flatten_le (ls : List NL) (i : Nat) : ((ls.take i).flatten).length ≤ ls.flatten.length := by
  have e := congrArg (fun z => z.flatten.length) (List.take_append_drop i ls)
  simp only [List.flatten_append, List.length_append] at e
  omega
def spToks : Sp := Sp1 fun a H Q => ∃ (l : Addr) (xs : NL), a = .ref l ∧ Txt' H l xs ∧ NewL H Q (nts (toksA xs))
theorem ok_tokens_answer (T : Tx K mg) : FnOk P w K mg base CX0 11 (He.fAd K ("tokens_answer", none)) (fdA K ("tokens_answer", none)) ["signs"] spToks := by
  refine (F_tokens_answer T).ok sc_tokens_answer (fun vs H Q E h => Sp1.len h) (fun cdv A outer s H vs Q E hr h => ⟨_, PSs.nox (pss_cons (ps_set (i := 1) sc_tokens_answer.nd rfl (Or.inl rfl) (pe_call (ok_read_text T) (hr.mono (by decide)) rfl (g_read_text T) (F_read_text T).kp (B_read_text T) .nil pass0 (pa_cons (pv 0) pa_nil))) (pss_cons (ps_if (pt_cmpR op_eq (pe_fld (pv 1) rfl) (pe_gi rfl (i_FAULT T)) (nomark _)) (pss_one (ps_ret (pe_call (ok_fault_answer T) (hr.mono (by decide)) rfl (g_fault_answer T) (F_fault_answer T).kp (B_fault_answer T) .nil pass0 (pa_cons (pv 1) pa_nil)))) pss_nil) (pss_cons (ps_set (i := 2) sc_tokens_answer.nd rfl (Or.inl rfl) (pe_call (ok_told_normal_tokens T) (hr.mono (by decide)) rfl (g_told_normal_tokens T) (F_told_normal_tokens T).kp (B_told_normal_tokens T) .nil pass0 (pa_cons (pv 1) pa_nil))) (pss_cons (ps_set (i := 3) sc_tokens_answer.nd rfl (Or.inl rfl) (pe_lst (pa_cons pe_int (pa_cons (pe_callB call_len_seq (by rfl) (n_len T) (by decide +kernel) (pa_cons (pv 2) pa_nil)) pa_nil)))) (pss_cons (ps_for PassesOwn.never rfl (pi_list (pv 2)) (pg_name (i := 4) sc_tokens_answer.nd rfl (Or.inl rfl)) (pss_one (ps_expr (pe_bm PySem.F.plainAttrs_list PySem.F.slot_list_extend PySem.F.type_list_extend mt_extend (pv 3) (pa_cons (pv 4) pa_nil))))) (pss_one (ps_ret (pv 3)))))))), ?_⟩)
  show _
  try simp only [cxK, cxK2]
  obtain ⟨a, rfl, l, xs, rfl, ht, k⟩ := h
  obtain ⟨k1, k2, k3, k4, k5, k6⟩ := ht.sk
  unfold toksA at k
  refine q_set (t_call (va_cons (val_var rfl) va_nil) ⟨_, rfl, l, xs, rfl, ht.1, by have := ht.2.1; omega, ht.2.2, fun H1 r s1 R1 => ?_⟩)
  obtain ⟨A, h1, h2, h3⟩ := R1
  refine q_if (vt_eq 26 (vr_mode T h1 (val_var rfl)) val_c) (fun e => ?_) (fun e => ?_)
  · rw [if_pos (of_decide_eq_true e)] at k
    exact s_ret (t_call (va_cons (val_var rfl) va_nil) ⟨_, rfl, r, rd xs, rfl, ⟨A, h1, h2, h3⟩, fun H2 p s2 n2 e2 => k H2 p (s1.trans s2) (Same.none s1 n2) e2⟩)
  rw [if_neg (of_decide_eq_false e), told_eq k2] at k
  have hfl := toldF_len k2
  refine q_set (t_call (va_cons (val_var rfl) va_nil) ⟨_, rfl, r, rd xs, rfl, ⟨A, h1, h2, h3⟩, k2, by omega, by omega, fun H2 p vs s2 e2 hv => ?_⟩)
  have hvl := hv.len
  rw [List.length_map] at hvl
  have hl := val_len (K := K) (σ := [some (V.ref l), some (V.ref r), some (V.ref p), none, none]) (val_var (i := 2) rfl) (SqL.of e2)
  rw [hvl] at hl
  refine q_setN (gn_lst (vs := nts [0, (normTk (rd xs).toks).length]) (va_cons val_c (va_cons hl va_nil)) (by show 2 ≤ 1000; decide)) fun H3 w s3 hw e3 => ?_
  refine q_forL (val_var rfl) (s3 _ _ e2) (fun i σ H' => ∃ v : Option V, σ = [some (.ref l), some (.ref r), some (.ref p), some (.ref w), v] ∧ Same H2 H' ∧ H' w = some (.lst (nts ([0, (normTk (rd xs).toks).length] ++ (((normTk (rd xs).toks).map toldT).take i).flatten)))) ⟨_, rfl, s3, e3⟩ (fun i σ H' ⟨_, _, s, _⟩ => s _ _ e2) (fun i x σ H4 hi pv => ?_) (fun σ H4 pv => ?_)
  · obtain ⟨v, rfl, s4, e4⟩ := pv
    obtain ⟨u, tl, htl, rfl, hu⟩ := hv.get hi
    have b1 := flatten_le ((normTk (rd xs).toks).map toldT) (i + 1)
    rw [flatten_take htl, List.length_append] at b1
    refine s_extG (ys := nts tl) (val_var rfl) e4 (gl_val (val_var rfl) (s4 _ _ hu)) (by simp only [nts_len, List.length_append, List.length_cons, List.length_nil]; omega) fun H5 s5 => ?_
    refine ⟨_, rfl, Same.mut (s4.trans s5) hw, ?_⟩
    rw [upd_same, flatten_take htl, ← nts_app, List.append_assoc]
  · obtain ⟨v, rfl, s4, e4⟩ := pv
    rw [hv.len, List.take_length] at e4
    exact s_retV (val_var rfl) (k H4 w (s1.trans (s2.trans s4)) (Same.none (s1.trans s2) hw) e4)

theorem t_op {σ : L2.St} {H : Hp} {ta tb : TE} {rd : R2} {Q : VK} (h : ta σ H fun x H1 => tb σ H1 fun y H2 => rd x y H2 Q) : tOp rd ta tb σ H Q := h
theorem t_cb1 {σ : L2.St} {H : Hp} {te : TE} {r : List V → Hp → VK → Prop} {Q : VK} (h : te σ H fun v H1 => r [v] H1 Q) : tCB r (tCons te tNil) σ H Q := h
theorem t_lcL {σ : L2.St} {H : Hp} {ta te : TE} {g : TG} {tt : TT} {vs : List Nat} {Q : VK} {p : Addr} {xs : List V} (ha : Val ta σ H (.ref p)) (hp : H p = some (.lst xs)) (h : ∀ D, H D = none → ∃ W : Nat → Nat → Hp → Prop, (∃ m, W 0 m (upd H D (.lst []))) ∧ ∀ i m H, W i m H →
    ((Itl K p).stop i H ∧ Q (.ref D) H) ∨ ((Itl K p).go i H ∧ ∃ Nx : Hp → Prop, (∀ H', Nx H' → ∃ m', m' < m ∧ W (i + 1) m' H') ∧ ∀ x H', (Itl K p).yld i H x H' → g x (wipe σ vs) H' fun σ2 H2 => wipe σ2 vs = wipe σ vs ∧ tt σ2 H2 fun b H3 =>
      if b = true then te σ2 H3 fun y H4 => ∃ acc, H4 D = some (.lst acc) ∧ acc.length < sizeLine ∧ Nx (upd H4 D (.lst (acc ++ [y]))) else Nx H3)) : tLc (iList K ta) g tt te vs σ H Q := ha _ ⟨p, rfl, ⟨_, SqL.of hp⟩, h⟩
theorem t_call2T {σ : L2.St} {H : Hp} {ta : TE} {t : TA} {sp : Sp} {E : XK} {Q : VK} {v : V} {xs : List V} (ha : Val ta σ H v) (ht : ValA t σ H xs) (hz : xs.length ≤ 100) (h : ∀ u, H u = none → sp [v, .ref u] (upd H u (.tup xs)) Q E) : tCall sp [] E (tCons ta (tCons (tTup t) tNil)) σ H Q :=
  ha _ (ht _ ⟨size_small (by omega), h⟩)
/-! what is saved -/
def svI (t : Tk) : Int := t.stop - t.place - ((sTok t).length : Int)
theorem savedK_eq (ks : List Nat) (ts : List Tk) : savedK ks ts = ((ts.filter fun t => ks.contains t.kind).map svI).sum := rfl
def ivs (l : List Int) : List V := l.map V.int
def svL (ks : List Nat) (ts : List Tk) : List Int := (ts.filter fun t => ks.contains t.kind).map svI
theorem svL_take {ks : List Nat} {ts : List Tk} {i : Nat} {t : Tk} (h : ts[i]? = some t) : svL ks (ts.take (i + 1)) = if ks.contains t.kind = true then svL ks (ts.take i) ++ [svI t] else svL ks (ts.take i) := by
  unfold svL
  rw [take_more h, List.filter_append, List.map_append]
  by_cases e : ks.contains t.kind = true
  · rw [if_pos e]
    simp only [List.filter_cons, List.filter_nil, e, if_true]
    rfl
  · rw [if_neg e]
    simp only [List.filter_cons, List.filter_nil, e, if_false]
    simp
theorem svL_len (ks : List Nat) (ts : List Tk) : (svL ks ts).length ≤ ts.length := by
  unfold svL
  rw [List.length_map]
  exact List.length_filter_le ..
def spSavedK (K : PySem.W.Frag) : Sp := Sp2 fun a b H Q => ∃ (l q : Addr) (vs : List V) (ts : List Tk) (ks : NL), a = .ref l ∧ b = .ref q ∧ H l = some (.lst vs) ∧ Toks K H vs ts ∧ (∀ t ∈ ts, SK t) ∧ ts.length ≤ 100000 ∧ (SqL K H q (nts ks) ∨ SqT K H q (nts ks)) ∧ ∀ H', Same H H' → Q (.int (savedK ks ts)) H'
theorem ok_saved_by_kinds (T : Tx K mg) : FnOk P w K mg base CX0 9 (He.fAd K ("saved_by_kinds", none)) (fdA K ("saved_by_kinds", none)) ["tokens", "kinds"] (spSavedK K) := by
  refine (F_saved_by_kinds T).ok sc_saved_by_kinds (fun vs H Q E h => Sp2.len h) (fun cdv A outer s H vs Q E hr h => ⟨_, PSs.nox (pss_one (ps_ret (pe_callB (cr_sum rfl) (by rfl) (n_sum T) (by decide +kernel) (pa_cons (pe_lc (own := [("token", 2)]) (by rfl) sc_saved_by_kinds.nd (pi_list (pv 0)) (blkOk_by (own := [("token", 2)]) (N := ["tokens", "kinds", "token"]) (sc := defScope (sT 152)) (by decide +kernel)) (fun _ _ _ _ _ => (pg_name (i := 2) sc_saved_by_kinds.nd rfl (Or.inl rfl))) (fun _ _ _ _ _ => (pts_one (pt_cmpR (op_in_seqK (K := K) rfl) (pe_fldK (K := K) rfl (pv 2) rfl) (pv 1) (by rfl)))) (fun _ _ _ _ _ => (pe_op op_sub (pe_op op_sub (pe_fldK (K := K) rfl (pv 2) rfl) (pe_fldK (K := K) rfl (pv 2) rfl)) (pe_callB (call_len_seqK (K := K) rfl) (by rfl) (n_len T) (by decide +kernel) (pa_cons (pe_call (ok_short_token T) (hr.mono (by decide)) rfl (g_short_token T) (F_short_token T).kp (B_short_token T) .nil pass0 (pa_cons (pv 2) pa_nil)) pa_nil))))) pa_nil)))), ?_⟩)
  show _
  try simp only [cxK, cxK2]
  obtain ⟨a, b, rfl, l, q, vs, ts, ks, rfl, rfl, hl, hts, sk, hn, hq, k⟩ := h
  refine s_ret (t_cb1 (t_lcL (val_var rfl) hl fun D hD => lc_it (walk_list (xs := vs)) (fun i H' => Same H H' ∧ H' D = some (.lst (ivs (svL ks (ts.take i))))) ⟨Same.new hD, upd_same⟩ (fun i H' _ h => SqL.of (h.1 _ _ hl)) (fun i x H2 H3 hi pv y => ?_) (fun H' pv => ?_)))
  · obtain ⟨rfl, y⟩ := y
    obtain ⟨t, p, ht, rfl, hp⟩ := hts.get y
    obtain ⟨s1, e1⟩ := pv
    obtain ⟨dx, n, g, s', ws, h1, h2, h3, h4, h5⟩ := hp.mono s1
    have hp1 : TokAt K H3 p t := ⟨dx, n, g, s', ws, h1, h2, h3, h4, h5⟩
    refine ⟨rfl, ?_⟩
    refine vt_in (vk_kind T h1 (val_var rfl)) (val_var rfl) (SqL.same' s1 hq) _ ?_
    rw [svL_take ht]
    have hll := svL_len ks (ts.take i)
    have hl3 := List.length_take_le' i ts
    cases e : ks.contains t.kind with
    | false =>
      rw [if_neg Bool.false_ne_true, if_neg Bool.false_ne_true]
      exact ⟨s1, e1⟩
    | true =>
      rw [if_pos rfl, if_pos rfl]
      refine val_i2 (g := fun i j => .int (i - j)) (vk_stop T h1 (val_var rfl)) (vk_place T h1 (val_var rfl)) _ ?_
      refine t_call (va_cons (val_var rfl) va_nil) ⟨_, rfl, p, t, rfl, hp1, sk t (List.mem_of_getElem? ht), fun H4 p4 s4 e4 => ?_⟩
      refine ⟨p4, _, rfl, .inl (SqL.of e4), _, _, rfl, rfl, ?_⟩
      refine ⟨_, s4 _ _ e1, ?_, Same.mut (s1.trans s4) hD, ?_⟩
      · unfold ivs; rw [List.length_map]; exact size_lt (by omega)
      · rw [upd_same, nts_len]
        unfold ivs
        rw [List.map_append]
        rfl
  · obtain ⟨s1, e1⟩ := pv
    rw [hts.len, List.take_length] at e1
    exact ⟨D, svL ks ts, rfl, SqL.of e1, k H' s1⟩
theorem nts_ivs (l : NL) : nts l = ivs (l.map Int.ofNat) := by
  unfold nts ivs
  rw [List.map_map]
  rfl
def spSavedA : Sp := Sp1 fun a H Q => ∃ (l : Addr) (xs : NL), a = .ref l ∧ Txt' H l xs ∧ NewL H Q (ivs (savedI xs))
theorem ok_saved_answer (T : Tx K mg) : FnOk P w K mg base CX0 11 (He.fAd K ("saved_answer", none)) (fdA K ("saved_answer", none)) ["signs"] spSavedA := by
  refine (F_saved_answer T).ok sc_saved_answer (fun vs H Q E h => Sp1.len h) (fun cdv A outer s H vs Q E hr h => ⟨_, PSs.nox (pss_cons (ps_set (i := 1) sc_saved_answer.nd rfl (Or.inl rfl) (pe_call (ok_read_text T) (hr.mono (by decide)) rfl (g_read_text T) (F_read_text T).kp (B_read_text T) .nil pass0 (pa_cons (pv 0) pa_nil))) (pss_cons (ps_if (pt_cmpR op_eq (pe_fld (pv 1) rfl) (pe_gi rfl (i_FAULT T)) (nomark _)) (pss_one (ps_ret (pe_call (ok_fault_answer T) (hr.mono (by decide)) rfl (g_fault_answer T) (F_fault_answer T).kp (B_fault_answer T) .nil pass0 (pa_cons (pv 1) pa_nil)))) pss_nil) (pss_cons (ps_set (i := 2) sc_saved_answer.nd rfl (Or.inl rfl) (pe_fld (pv 1) rfl)) (pss_cons (ps_set (i := 3) sc_saved_answer.nd rfl (Or.inl rfl) (pe_call (ok_saved_by_kinds T) (hr.mono (by decide)) rfl (g_saved_by_kinds T) (F_saved_by_kinds T).kp (B_saved_by_kinds T) .nil pass0 (pa_cons (pv 2) (pa_cons (pe_tup (pa_cons (pe_gi rfl (i_RUN_OF_TEXT T)) pa_nil)) pa_nil)))) (pss_cons (ps_set (i := 4) sc_saved_answer.nd rfl (Or.inl rfl) (pe_call (ok_saved_by_kinds T) (hr.mono (by decide)) rfl (g_saved_by_kinds T) (F_saved_by_kinds T).kp (B_saved_by_kinds T) .nil pass0 (pa_cons (pv 2) (pa_cons (pe_tup (pa_cons (pe_gi rfl (i_OPEN_TAG T)) (pa_cons (pe_gi rfl (i_CLOSE_TAG T)) pa_nil))) pa_nil)))) (pss_cons (ps_set (i := 5) sc_saved_answer.nd rfl (Or.inl rfl) (pe_op op_sub (pe_callB call_len_seq (by rfl) (n_len T) (by decide +kernel) (pa_cons (pe_call (ok_short_tokens T) (hr.mono (by decide)) rfl (g_short_tokens T) (F_short_tokens T).kp (B_short_tokens T) .nil pass0 (pa_cons (pv 2) pa_nil)) pa_nil)) (pe_callB call_len_seq (by rfl) (n_len T) (by decide +kernel) (pa_cons (pe_call (ok_short_tokens T) (hr.mono (by decide)) rfl (g_short_tokens T) (F_short_tokens T).kp (B_short_tokens T) .nil pass0 (pa_cons (pe_call (ok_normal_tokens T) (hr.mono (by decide)) rfl (g_normal_tokens T) (F_normal_tokens T).kp (B_normal_tokens T) .nil pass0 (pa_cons (pv 2) pa_nil)) pa_nil)) pa_nil)))) (pss_one (ps_ret (pe_lst (pa_cons pe_int (pa_cons (pv 3) (pa_cons (pv 4) (pa_cons (pv 5) pa_nil))))))))))))), ?_⟩)
  show _
  try simp only [cxK, cxK2]
  obtain ⟨a, rfl, l, xs, rfl, ht, k⟩ := h
  obtain ⟨k1, k2, k3, k4, k5, k6⟩ := ht.sk
  unfold savedI at k
  refine q_set (t_call (va_cons (val_var rfl) va_nil) ⟨_, rfl, l, xs, rfl, ht.1, by have := ht.2.1; omega, ht.2.2, fun H1 r s1 R1 => ?_⟩)
  obtain ⟨A, h1, h2, h3⟩ := R1
  refine q_if (vt_eq 26 (vr_mode T h1 (val_var rfl)) val_c) (fun e => ?_) (fun e => ?_)
  · rw [if_pos (of_decide_eq_true e), ← nts_ivs] at k
    exact s_ret (t_call (va_cons (val_var rfl) va_nil) ⟨_, rfl, r, rd xs, rfl, ⟨A, h1, h2, h3⟩, fun H2 p s2 n2 e2 => k H2 p (s1.trans s2) (Same.none s1 n2) e2⟩)
  rw [if_neg (of_decide_eq_false e)] at k
  refine q_setV (vr_tokens T h1 (val_var rfl)) ?_
  refine q_set (t_call2T (v := .ref A.pt) (xs := nts [0]) (val_var rfl) (va_cons val_c va_nil) (by show 1 ≤ 100; decide) fun u1 hu1 => ?_)
  have S2 : Same H1 (upd H1 u1 (.tup (nts [0]))) := Same.new hu1
  refine ⟨_, _, rfl, A.pt, u1, A.ts, _, [0], rfl, rfl, S2 _ _ h2, h3.mono S2, k1, by omega, .inr (SqT.of upd_same), fun H3 s3 => ?_⟩
  have S3 := S2.trans s3
  refine q_set (t_call2T (v := .ref A.pt) (xs := nts [1, 2]) (val_var rfl) (va_cons val_c (va_cons val_c va_nil)) (by show 2 ≤ 100; decide) fun u2 hu2 => ?_)
  have S4 : Same H3 (upd H3 u2 (.tup (nts [1, 2]))) := Same.new hu2
  refine ⟨_, _, rfl, A.pt, u2, A.ts, _, [1, 2], rfl, rfl, S4 _ _ (S3 _ _ h2), h3.mono (S3.trans S4), k1, by omega, .inr (SqT.of upd_same), fun H5 s5 => ?_⟩
  have S5 := (S3.trans S4).trans s5
  refine q_set (t_op (t_cb1 (t_call (va_cons (val_var rfl) va_nil) ⟨_, rfl, A.pt, A.ts, _, rfl, S5 _ _ h2, h3.mono S5, k1, by omega, fun H6 w6 s6 n6 e6 => ?_⟩)))
  refine ⟨w6, _, rfl, .inl (SqL.of e6), ?_⟩
  refine t_cb1 (t_call1 (t_call (va_cons (val_var rfl) va_nil) ⟨_, rfl, A.pt, A.ts, _, rfl, s6 _ _ (S5 _ _ h2), h3.mono (S5.trans s6), by omega, fun H7 p7 us s7 e7 ht7 => ?_⟩))
  refine ⟨_, rfl, p7, us, _, rfl, e7, ht7, k2, by omega, fun H8 w8 s8 n8 e8 => ?_⟩
  refine ⟨w8, _, rfl, .inl (SqL.of e8), _, _, rfl, rfl, ?_⟩
  rw [nts_len, nts_len]
  have S8 := ((s1.trans S5).trans (s6.trans (s7.trans s8)))
  exact s_retN (gn_lst (vs := ivs [0, savedK [0] (rd xs).toks, savedK [1, 2] (rd xs).toks, (((rd xs).toks.flatMap sTok).length : Int) - (((normTk (rd xs).toks).flatMap sTok).length : Int)]) (va_cons val_c (va_cons (val_var rfl) (va_cons (val_var rfl) (va_cons (val_var rfl) va_nil)))) (by show 4 ≤ 1000; decide)) fun H9 p9 s9 n9 e9 => k H9 p9 (S8.trans s9) (Same.none S8 n9) e9

end Sm

set_option Elab.async false
set_option linter.all false
set_option maxRecDepth 100000
set_option maxHeartbeats 0
namespace Sm
open PySem PySem.Spec PyProof.Rows L2
variable {P : Program} {w : World} {K : PySem.W.Frag} {mg : Str → Option Value} {base : Heap}
/-! ### two texts -/
theorem t_lst2 {σ : L2.St} {H : Hp} {t1 t2 : TE} {Q : VK} (h : t1 σ H fun v H1 => t2 σ H1 fun u H2 => [v, u].length ≤ sizeLine ∧ ∀ p, H2 p = none → Q (.ref p) (upd H2 p (.lst [v, u]))) : tLst (tCons t1 (tCons t2 tNil)) σ H Q := h
def spSame : Sp := Sp2 fun a b H Q => ∃ (l1 l2 : Addr) (xs ys : NL), a = .ref l1 ∧ b = .ref l2 ∧ Txt' H l1 xs ∧ Txt' H l2 ys ∧ NewL H Q (nts (sameA xs ys))
theorem ok_same_answer (T : Tx K mg) : FnOk P w K mg base CX0 11 (He.fAd K ("same_answer", none)) (fdA K ("same_answer", none)) ["first_signs", "second_signs"] spSame := by
  refine (F_same_answer T).ok sc_same_answer (fun vs H Q E h => Sp2.len h) (fun cdv A outer s H vs Q E hr h => ⟨_, PSs.nox (pss_cons (ps_set (i := 2) sc_same_answer.nd rfl (Or.inl rfl) (pe_lst (pa_cons (pe_call (ok_read_text T) (hr.mono (by decide)) rfl (g_read_text T) (F_read_text T).kp (B_read_text T) .nil pass0 (pa_cons (pv 0) pa_nil)) (pa_cons (pe_call (ok_read_text T) (hr.mono (by decide)) rfl (g_read_text T) (F_read_text T).kp (B_read_text T) .nil pass0 (pa_cons (pv 1) pa_nil)) pa_nil)))) (pss_cons (ps_for PassesOwn.never rfl (pi_enum (by rfl) (n_enumerate T) (pa_cons (pv 2) pa_nil)) (pg_tup rfl (pgs_cons (pg_name (i := 4) sc_same_answer.nd rfl (Or.inl rfl)) (pgs_cons (pg_name (i := 5) sc_same_answer.nd rfl (Or.inl rfl)) pgs_nil))) (pss_one (ps_if (pt_cmpR op_eq (pe_fld (pv 5) rfl) (pe_gi rfl (i_FAULT T)) (nomark _)) (pss_one (ps_ret (pe_lst (pa_cons pe_int (pa_cons (pv 4) (pa_cons (pe_fld (pv 5) rfl) (pa_cons (pe_fld (pv 5) rfl) pa_nil))))))) pss_nil))) (pss_cons (ps_set (i := 3) sc_same_answer.nd rfl (Or.inl rfl) (pe_cmpR (op_eqD hr.units) (pe_call (ok_told_normal_tokens T) (hr.mono (by decide)) rfl (g_told_normal_tokens T) (F_told_normal_tokens T).kp (B_told_normal_tokens T) .nil pass0 (pa_cons (pe_ix ix_list (pv 2) pe_int (fun _ _ => rfl)) pa_nil)) (pe_call (ok_told_normal_tokens T) (hr.mono (by decide)) rfl (g_told_normal_tokens T) (F_told_normal_tokens T).kp (B_told_normal_tokens T) .nil pass0 (pa_cons (pe_ix ix_list (pv 2) pe_int (fun _ _ => rfl)) pa_nil)) (nomark _))) (pss_one (ps_ret (pe_lst (pa_cons pe_int (pa_cons (pe_ifExp (pt_val (pv 3)) pe_int pe_int) pa_nil)))))))), ?_⟩)
  show _
  try simp only [cxK, cxK2]
  obtain ⟨a, b, rfl, l1, l2, xs, ys, rfl, rfl, t1, t2, k⟩ := h
  obtain ⟨k1, k2, k3, k4, k5, k6⟩ := t1.sk
  obtain ⟨j1, j2, j3, j4, j5, j6⟩ := t2.sk
  have z1 := t1.2.1
  have z2 := t2.2.1
  unfold sameA at k
  refine q_set (t_lst2 (t_call (va_cons (val_var rfl) va_nil) ⟨_, rfl, l1, xs, rfl, t1.1, by omega, t1.2.2, fun H1 r1 s1 R1 => ?_⟩))
  refine t_call (va_cons (val_var rfl) va_nil) ⟨_, rfl, l2, ys, rfl, s1 _ _ t2.1, by omega, t2.2.2, fun H2 r2 s2 R2 => ⟨by show 2 ≤ sizeLine; decide, fun p hp => ?_⟩⟩
  have S3 : Same H2 (upd H2 p (.lst [.ref r1, .ref r2])) := Same.new hp
  have R1' := R1.mono (s2.trans S3)
  have R2' := R2.mono S3
  have sH : Same H (upd H2 p (.lst [.ref r1, .ref r2])) := s1.trans (s2.trans S3)
  refine q_forE (val_var rfl) upd_same (fun i σ H' => ∃ v1 v2 : Option V, σ = [some (.ref l1), some (.ref l2), some (.ref p), none, v1, v2] ∧ Same (upd H2 p (.lst [.ref r1, .ref r2])) H' ∧ (1 ≤ i → ¬ (rd xs).mode = 26) ∧ (2 ≤ i → ¬ (rd ys).mode = 26)) ⟨_, _, rfl, Same.rfl', fun z => by omega, fun z => by omega⟩ (fun i σ H' ⟨_, _, _, s, _⟩ => s _ _ upd_same) (fun i x σ H4 u hi pv hu => ?_) (fun σ H4 pv => ?_)
  · obtain ⟨v1, v2, rfl, s4, p1, p2⟩ := pv
    have S5 : Same H4 (upd H4 u (.tup [vn i, x])) := Same.new hu
    have s5 := s4.trans S5
    rcases nth2 hi with ⟨rfl, rfl⟩ | ⟨rfl, rfl⟩
    · obtain ⟨A, h1, h2, h3⟩ := R1'.mono s5
      refine s_if (vt_eq 26 (vr_mode T h1 (val_var rfl)) val_c) (fun e => ?_) (fun e => ?_)
      · rw [if_pos (of_decide_eq_true e)] at k
        exact s_retN (gn_lst (vs := nts [1, 0, (rd xs).fk, (rd xs).count]) (va_cons val_c (va_cons (val_var rfl) (va_cons (vr_fk T h1 (val_var rfl)) (va_cons (vr_count T h1 (val_var rfl)) va_nil)))) (by show 4 ≤ 1000; decide)) fun H6 q s6 n6 e6 => k H6 q (sH.trans (s5.trans s6)) (Same.none (sH.trans s5) n6) e6
      · exact ⟨_, _, rfl, s5, fun _ => of_decide_eq_false e, fun z => by omega⟩
    · obtain ⟨A, h1, h2, h3⟩ := R2'.mono s5
      rw [if_neg (p1 (by decide))] at k
      refine s_if (vt_eq 26 (vr_mode T h1 (val_var rfl)) val_c) (fun e => ?_) (fun e => ?_)
      · rw [if_pos (of_decide_eq_true e)] at k
        exact s_retN (gn_lst (vs := nts [1, 1, (rd ys).fk, (rd ys).count]) (va_cons val_c (va_cons (val_var rfl) (va_cons (vr_fk T h1 (val_var rfl)) (va_cons (vr_count T h1 (val_var rfl)) va_nil)))) (by show 4 ≤ 1000; decide)) fun H6 q s6 n6 e6 => k H6 q (sH.trans (s5.trans s6)) (Same.none (sH.trans s5) n6) e6
      · exact ⟨_, _, rfl, s5, fun _ => p1 (by decide), fun _ => of_decide_eq_false e⟩
  · obtain ⟨v1, v2, rfl, s4, p1, p2⟩ := pv
    rw [if_neg (p1 (by show 1 ≤ 2; decide)), if_neg (p2 (by show 2 ≤ 2; decide)), told_eq k2, told_eq j2] at k
    have hp4 := s4 _ _ (upd_same (H := H2) (a := p) (o := .lst [.ref r1, .ref r2]))
    have V0 : ∀ H' : Hp, H' p = some (.lst [.ref r1, .ref r2]) → Val (tOp (rIxL K) (tVar 2) (tC (.int 0))) [some (V.ref l1), some (V.ref l2), some (V.ref p), none, v1, v2] H' (.ref r1) := fun H' h => val_ixL (i := 0) (val_var rfl) val_c (SqL.of h) rfl
    have V1 : ∀ H' : Hp, H' p = some (.lst [.ref r1, .ref r2]) → Val (tOp (rIxL K) (tVar 2) (tC (.int 1))) [some (V.ref l1), some (V.ref l2), some (V.ref p), none, v1, v2] H' (.ref r2) := fun H' h => val_ixL (i := 1) (val_var rfl) val_c (SqL.of h) rfl
    refine q_set (t_op (t_call (va_cons (V0 _ hp4) va_nil) ⟨_, rfl, r1, rd xs, rfl, R1'.mono s4, k2, by omega, by omega, fun H5 q1 us1 s5 e5 ll1 => ?_⟩))
    refine t_call (va_cons (V1 _ (s5 _ _ hp4)) va_nil) ⟨_, rfl, r2, rd ys, rfl, R2'.mono (s4.trans s5), j2, by omega, by omega, fun H6 q2 us2 s6 e6 ll2 => ?_⟩
    refine eqLL (s6 _ _ e5) (ll1.mono s6) e6 ll2 ?_
    have S6 := sH.trans (s4.trans (s5.trans s6))
    refine s_retN (gn_lst (vs := nts [0, if (normTk (rd xs).toks).map toldT = (normTk (rd ys).toks).map toldT then 1 else 0]) (va_cons val_c (va_cons (val_ifE (b := decide ((normTk (rd xs).toks).map toldT = (normTk (rd ys).toks).map toldT)) (vt_b (val_var rfl)) (fun e => ?_) (fun e => ?_)) va_nil)) (by show 2 ≤ 1000; decide)) fun H7 q s7 n7 e7 => k H7 q (S6.trans s7) (Same.none S6 n7) e7
    · rw [if_pos (of_decide_eq_true e)]; exact val_c
    · rw [if_neg (of_decide_eq_false e)]; exact val_c

end Sm

set_option Elab.async false
set_option linter.all false
set_option maxRecDepth 100000
set_option maxHeartbeats 0
namespace Sm
open PySem PySem.Spec PyProof.Rows L2
variable {P : Program} {w : World} {K : PySem.W.Frag} {mg : Str → Option Value} {base : Heap}
/-! ### the cursor -/
section
variable {σ : L2.St} {H : Hp} {ta tv : TE} {D : Ends} {U : TS}
theorem s_augI {C : CHp} {k : Nat} {c a dx : Addr} {fs : List (Str × V)} {f : Str} {x y : Int} (hS : Sub C H) (ha : Val ta σ H (.ref a)) (h : C a = some (k, .ins c dx fs)) (hc : Cls K c) (hn : NoAttr K c f) (hk : fs.lookup f = some (.int x)) (hv : Val tv σ H (.int y)) (hl : Few 900 fs)
    (nx : ∀ H', Sub (cu C a k (.ins c dx (putF f (.int (x + y)) fs))) H' → D.nx σ H') : sFldAug K ta tv rAdd f D σ H :=
  ha _ ⟨a, c, dx, fs, .int x, rfl, hS _ _ _ h, hc, hn, hk, hv _ ⟨x, y, rfl, rfl, dx, fs, hS _ _ _ h, Nat.lt_of_le_of_lt hl (by decide), nx _ hS.upd⟩⟩
theorem q_augI {C : CHp} {k : Nat} {c a dx : Addr} {fs : List (Str × V)} {f : Str} {x y : Int} (hS : Sub C H) (ha : Val ta σ H (.ref a)) (h : C a = some (k, .ins c dx fs)) (hc : Cls K c) (hn : NoAttr K c f) (hk : fs.lookup f = some (.int x)) (hv : Val tv σ H (.int y)) (hl : Few 900 fs)
    (nx : ∀ H', Sub (cu C a k (.ins c dx (putF f (.int (x + y)) fs))) H' → U D σ H') : tSeq (sFldAug K ta tv rAdd f) U D σ H := s_augI (D := { D with nx := U D }) hS ha h hc hn hk hv hl nx
end
abbrev cC (K : PySem.W.Frag) : Addr := He.ga K "Cursor"
def cF (nl : Addr) (pos : Nat) : List (Str × V) := [("numbers", .ref nl), ("place", vn pos)]
section
variable {nl : Addr} {pos : Nat} {x : Nat}
theorem cF_numbers : (cF nl pos).lookup ("numbers" : Str) = some (.ref nl) := by kernel_rfl
theorem cF_place : (cF nl pos).lookup ("place" : Str) = some (.int (pos : Int)) := by kernel_rfl
theorem cP_place : putF "place" (.int (x : Int)) (cF nl pos) = cF nl x := by kernel_rfl
theorem cP_new : putF "place" (.int 0) (putF "numbers" (.ref nl) []) = cF nl 0 := by kernel_rfl
theorem few_cF : Few 900 (cF nl pos) := (show Few 2 (cF nl pos) from Nat.le_refl 2).up
theorem cL_take_number : (cF nl pos).lookup ("take_number" : Str) = none := by kernel_rfl
theorem cL_take_row : (cF nl pos).lookup ("take_row" : Str) = none := by kernel_rfl
theorem cL_is_through : (cF nl pos).lookup ("is_through" : Str) = none := by kernel_rfl
end
theorem sqm {H H' : Hp} {a : Addr} {xs : List V} (h : SqL K H a xs) (s : Same H H') : SqL K H' a xs := h.imp (Rd.same s) id
def CuAt (K : PySem.W.Frag) (C : CHp) (q dx nl : Addr) (pos : Nat) (L : List Int) : Prop := C q = some (10, .ins (cC K) dx (cF nl pos)) ∧ SqL K (fz C) nl (ivs L)
theorem ivs_at {L : List Int} {i : Nat} {n : Int} (h : L[i]? = some n) : (ivs L)[i]? = some (.int n) := by
  unfold ivs; rw [List.getElem?_map, h]; rfl
theorem ivs_len (L : List Int) : (ivs L).length = L.length := List.length_map ..
def spCur0 (K : PySem.W.Frag) : Sp := Sp2 fun a b H Q => ∃ (C : CHp) (x dx nl : Addr), a = .ref x ∧ b = .ref nl ∧ Sub C H ∧ C x = some (10, .ins (cC K) dx []) ∧ ∀ H', Sub (cu C x 10 (.ins (cC K) dx (cF nl 0))) H' → Q .non H'
theorem ok_Cursor___init__ (T : Tx K mg) : FnOk P w K mg base CX0 1 (He.fAd K ("Cursor", some "__init__")) (fdA K ("Cursor", some "__init__")) ["self", "numbers"] (spCur0 K) := by
  refine (F_Cursor___init__ T).ok sc_Cursor___init__ (fun vs H Q E h => Sp2.len h) (fun cdv A outer s H vs Q E hr h => ⟨_, PSs.nox (pss_cons (ps_fld (pv 0) (pv 1) rfl) (pss_one (ps_fld (pv 0) pe_int rfl))), ?_⟩)
  show _
  try simp only [cxK, cxK2]
  obtain ⟨a, b, rfl, C, x, dx, nl, rfl, rfl, hS, hx, k⟩ := h
  refine q_fld hS (val_var rfl) (val_var rfl) hx (c_Cursor T) (a_Cursor_numbers T) few_nil fun H1 S1 => ?_
  refine s_fld S1 (val_var rfl) val_c cu_same (c_Cursor T) (a_Cursor_place T) ((few_put few_nil) : Few 1 _).up fun H2 S2 => ?_
  rw [cu_cu, cP_new] at S2
  exact k H2 S2
def spThrough (K : PySem.W.Frag) : Sp := Sp1 fun a H Q => ∃ (C : CHp) (q dx nl : Addr) (pos : Nat) (L : List Int), a = .ref q ∧ Sub C H ∧ CuAt K C q dx nl pos L ∧ Q (.bl (decide (L.length ≤ pos))) H
section
variable {σ : L2.St} {H : Hp} {ta : TE} {C : CHp} {q dx nl : Addr} {pos : Nat} {L : List Int}
theorem vc_numbers (T : Tx K mg) (S : Sub C H) (h : CuAt K C q dx nl pos L) (ha : Val ta σ H (.ref q)) : Val (tFld K ta "numbers") σ H (.ref nl) := val_fld ha (S _ _ _ h.1) (c_Cursor T) (a_Cursor_numbers T) cF_numbers
theorem vc_place (T : Tx K mg) (S : Sub C H) (h : CuAt K C q dx nl pos L) (ha : Val ta σ H (.ref q)) : Val (tFld K ta "place") σ H (vn pos) := val_fld ha (S _ _ _ h.1) (c_Cursor T) (a_Cursor_place T) cF_place
end
theorem ok_Cursor_is_through (T : Tx K mg) : FnOk P w K mg base CX0 1 (He.fAd K ("Cursor", some "is_through")) (fdA K ("Cursor", some "is_through")) ["self"] (spThrough K) := by
  refine (F_Cursor_is_through T).ok sc_Cursor_is_through (fun vs H Q E h => Sp1.len h) (fun cdv A outer s H vs Q E hr h => ⟨_, PSs.nox (pss_one (ps_ret (pe_cmpR op_ge (pe_fld (pv 0) rfl) (pe_callB call_len_seq (by rfl) (n_len T) (by decide +kernel) (pa_cons (pe_fld (pv 0) rfl) pa_nil)) (nomark _)))), ?_⟩)
  show _
  try simp only [cxK, cxK2]
  obtain ⟨a, rfl, C, q, dx, nl, pos, L, rfl, hS, hq, k⟩ := h
  have hl := val_len (K := K) (σ := L2.start ["self"] [.ref q]) (vc_numbers T hS hq (val_var (i := 0) rfl)) (sqm hq.2 hS.fz)
  rw [ivs_len] at hl
  have e : decide (L.length ≤ pos) = decide ((pos : Int) ≥ (L.length : Int)) := by
    rw [decide_eq_decide]; omega
  rw [e] at k
  exact s_retV (val_i2 (g := fun i j => .bl (decide (i ≥ j))) (vc_place T hS hq (val_var rfl)) hl) k
def spTakeN (K : PySem.W.Frag) : Sp := Sp1 fun a H Q => ∃ (C : CHp) (q dx nl : Addr) (pos : Nat) (L : List Int) (n : Int), a = .ref q ∧ Sub C H ∧ CuAt K C q dx nl pos L ∧ L[pos]? = some n ∧ ∀ H', Sub (cu C q 10 (.ins (cC K) dx (cF nl (pos + 1)))) H' → Q (.int n) H'
theorem ok_Cursor_take_number (T : Tx K mg) : FnOk P w K mg base CX0 1 (He.fAd K ("Cursor", some "take_number")) (fdA K ("Cursor", some "take_number")) ["self"] (spTakeN K) := by
  refine (F_Cursor_take_number T).ok sc_Cursor_take_number (fun vs H Q E h => Sp1.len h) (fun cdv A outer s H vs Q E hr h => ⟨_, PSs.nox (pss_cons (ps_set (i := 1) sc_Cursor_take_number.nd rfl (Or.inl rfl) (pe_ix ix_list (pe_fld (pv 0) rfl) (pe_fld (pv 0) rfl) (fun _ _ => rfl))) (pss_cons (ps_fldaug (pv 0) pe_int in_add) (pss_one (ps_ret (pv 1))))), ?_⟩)
  show _
  try simp only [cxK, cxK2]
  obtain ⟨a, rfl, C, q, dx, nl, pos, L, n, rfl, hS, hq, hn, k⟩ := h
  refine q_setV (val_ixL (i := pos) (vc_numbers T hS hq (val_var rfl)) (vc_place T hS hq (val_var rfl)) (sqm hq.2 hS.fz) (ivs_at hn)) ?_
  refine q_augI hS (val_var rfl) hq.1 (c_Cursor T) (a_Cursor_place T) cF_place val_c few_cF fun H1 S1 => ?_
  have S1' : Sub (cu C q 10 (.ins (cC K) dx (putF "place" (.int ((pos + 1 : Nat) : Int)) (cF nl pos)))) H1 := S1
  rw [cP_place] at S1'
  exact s_retV (val_var rfl) (k H1 S1')
theorem cut_row {L : List Int} {pos : Nat} {r rest : List Int} (h : L.drop pos = r ++ rest) : cutV (ivs L) (some (pos : Int)) (some ((pos : Int) + (r.length : Int))) = ivs r := by
  have hl := congrArg List.length h
  rw [List.length_drop, List.length_append] at hl
  have e2 : (pos : Int) + (r.length : Int) = ((pos + r.length : Nat) : Int) := by omega
  unfold cutV
  rw [e2, HT.sIx_nat, HT.sIx_nat, ivs_len]
  unfold ivs
  rw [← List.map_drop, ← List.map_take]
  congr 1
  by_cases hp : pos ≤ L.length
  · rw [Nat.min_eq_left hp, h]
    by_cases h0 : pos + r.length ≤ L.length
    · rw [Nat.min_eq_left h0, show pos + r.length - pos = r.length by omega, List.take_left']
      rfl
    · exfalso; omega
  · have hr : r = [] := List.eq_nil_of_length_eq_zero (by omega)
    subst hr
    rw [show min pos L.length = L.length by omega, List.drop_length]
    simp
theorem drop_at {L : List Int} {pos : Nat} {n : Int} {r : List Int} (h : L.drop pos = n :: r) : L[pos]? = some n ∧ L.drop (pos + 1) = r := by
  have h1 : L[pos]? = some n := by
    have := List.getElem?_drop (xs := L) (i := pos) (j := 0)
    rw [h] at this
    exact this.symm
  refine ⟨h1, ?_⟩
  rw [← List.drop_drop, h]
  rfl
theorem val_cut {σ : L2.St} {H : Hp} {ta t1 t2 : TE} {p : Addr} {xs ys : List V} {lo hi : Int} (ha : Val ta σ H (.ref p)) (h1 : Val t1 σ H (.int lo)) (h2 : Val t2 σ H (.int hi)) (hp : SqL K H p xs) (e : cutV xs (some lo) (some hi) = ys) : GN (tSl (rSlL K) ta (tPart t1) (tPart t2)) σ H ys := fun Q q =>
  ha _ (h1 _ ⟨lo, rfl, h2 _ ⟨hi, rfl, p, xs, rfl, hp, fun u hu => by rw [e]; exact q _ u (Same.new hu) hu upd_same⟩⟩)
def spTakeRow (K : PySem.W.Frag) : Sp := Sp1 fun a H Q => ∃ (C : CHp) (q dx nl : Addr) (pos : Nat) (L r rest : List Int), a = .ref q ∧ Sub C H ∧ CuAt K C q dx nl pos L ∧ L.drop pos = (r.length : Int) :: (r ++ rest) ∧
  ∀ (C' : CHp) (H' : Hp) (p : Addr), Sub C' H' → Kp (noK 10) C C' → CuAt K C' q dx nl (pos + 1 + r.length) L → L.drop (pos + 1 + r.length) = rest → C' p = some (0, .lst (ivs r)) → Q (.ref p) H'
theorem ok_Cursor_take_row (T : Tx K mg) : FnOk P w K mg base CX0 2 (He.fAd K ("Cursor", some "take_row")) (fdA K ("Cursor", some "take_row")) ["self"] (spTakeRow K) := by
  refine (F_Cursor_take_row T).ok sc_Cursor_take_row (fun vs H Q E h => Sp1.len h) (fun cdv A outer s H vs Q E hr h => ⟨_, PSs.nox (pss_cons (ps_set (i := 1) sc_Cursor_take_row.nd rfl (Or.inl rfl) (pe_meth0 (pv 0) (c_Cursor T) (m_Cursor_take_number T) (ok_Cursor_take_number T) (hr.mono (by decide)) (B_Cursor_take_number T) .nil pass0)) (pss_cons (ps_set (i := 2) sc_Cursor_take_row.nd rfl (Or.inl rfl) (pe_slice sl_list (pe_fld (pv 0) rfl) (po_some (pe_fld (pv 0) rfl)) (po_some (pe_op op_add (pe_fld (pv 0) rfl) (pv 1))))) (pss_cons (ps_fldaug (pv 0) (pv 1) in_add) (pss_one (ps_ret (pv 2)))))), ?_⟩)
  show _
  try simp only [cxK, cxK2]
  obtain ⟨a, rfl, C, q, dx, nl, pos, L, r, rest, rfl, hS, hq, hL, k⟩ := h
  obtain ⟨hn, hd⟩ := drop_at hL
  refine q_set (t_meth (val_var rfl) (hS _ _ _ hq.1) cL_take_number va_nil ⟨_, rfl, C, q, dx, nl, pos, L, _, rfl, hS, hq, hn, fun H1 S1 => ?_⟩)
  have K1 : Kp (noK 10) C (cu C q 10 (.ins (cC K) dx (cF nl (pos + 1)))) := Kp.mut hq.1 noK_self
  have hq1 : CuAt K (cu C q 10 (.ins (cC K) dx (cF nl (pos + 1)))) q dx nl (pos + 1) L := ⟨cu_same, sqm hq.2 (K1.fz ok0)⟩
  refine q_setN (val_cut (hi := ((pos + 1 : Nat) : Int) + (r.length : Int)) (vc_numbers T S1 hq1 (val_var rfl)) (vc_place T S1 hq1 (val_var rfl)) (val_i2 (g := fun i j => .int (i + j)) (vc_place T S1 hq1 (val_var rfl)) (val_var rfl)) (sqm hq1.2 S1.fz) (cut_row hd)) fun H2 p s2 np ep => ?_
  have S2 := S1.same s2
  have hpC := S1.none np
  have S3 : Sub (cu (cu C q 10 (.ins (cC K) dx (cF nl (pos + 1)))) p 0 (.lst (ivs r))) H2 := S2.rec ep
  have K3 : Kp (noK 10) (cu C q 10 (.ins (cC K) dx (cF nl (pos + 1)))) (cu (cu C q 10 (.ins (cC K) dx (cF nl (pos + 1)))) p 0 (.lst (ivs r))) := Kp.new hpC
  have hq3 := cu_new (k := 0) (x := .lst (ivs r)) hq1.1 hpC
  refine q_augI S3 (val_var rfl) hq3 (c_Cursor T) (a_Cursor_place T) cF_place (val_var rfl) few_cF fun H4 S4 => ?_
  have S4' : Sub (cu (cu (cu C q 10 (.ins (cC K) dx (cF nl (pos + 1)))) p 0 (.lst (ivs r))) q 10 (.ins (cC K) dx (putF "place" (.int ((pos + 1 + r.length : Nat) : Int)) (cF nl (pos + 1))))) H4 := S4
  rw [cP_place] at S4'
  have K4 : Kp (noK 10) (cu (cu C q 10 (.ins (cC K) dx (cF nl (pos + 1)))) p 0 (.lst (ivs r))) _ := Kp.mut (k := 10) (o := .ins (cC K) dx (cF nl (pos + 1 + r.length))) hq3 noK_self
  refine s_retV (val_var rfl) (k _ H4 p S4' ((K1.trans K3).trans K4) ⟨cu_same, sqm (sqm hq1.2 (K3.fz ok0)) (K4.fz ok0)⟩ ?_ (K4 _ _ _ cu_same ok0))
  rw [← List.drop_drop, hd]
  exact List.drop_left' rfl

end Sm

set_option Elab.async false
set_option linter.all false
set_option maxRecDepth 100000
set_option maxHeartbeats 0
namespace Sm
open PySem PySem.Spec PyProof.Rows L2
variable {P : Program} {w : World} {K : PySem.W.Frag} {mg : Str → Option Value} {base : Heap}
/-! ### the session -/
abbrev cS (K : PySem.W.Frag) : Addr := He.ga K "Session"
def sF (r j : Addr) (n : Nat) : List (Str × V) := [("reader", .ref r), ("joiner", .ref j), ("looked_at", vn n)]
section
variable {r j x : Addr} {n y : Nat}
theorem sF_reader : (sF r j n).lookup ("reader" : Str) = some (.ref r) := by kernel_rfl
theorem sF_joiner : (sF r j n).lookup ("joiner" : Str) = some (.ref j) := by kernel_rfl
theorem sF_looked : (sF r j n).lookup ("looked_at" : Str) = some (.int (n : Int)) := by kernel_rfl
theorem sP_reader : putF "reader" (.ref x) (sF r j n) = sF x j n := by kernel_rfl
theorem sP_joiner : putF "joiner" (.ref x) (sF r j n) = sF r x n := by kernel_rfl
theorem sP_looked : putF "looked_at" (.int (y : Int)) (sF r j n) = sF r j y := by kernel_rfl
theorem sP_new : putF "looked_at" (.int 0) (putF "joiner" (.ref j) (putF "reader" (.ref r) [])) = sF r j 0 := by kernel_rfl
theorem few_sF : Few 900 (sF r j n) := (show Few 3 (sF r j n) from Nat.le_refl 3).up
theorem sL_begin : (sF r j n).lookup ("begin" : Str) = none := by kernel_rfl
theorem sL_is_over : (sF r j n).lookup ("is_over" : Str) = none := by kernel_rfl
theorem sL_has_room : (sF r j n).lookup ("has_room_for" : Str) = none := by kernel_rfl
theorem sL_feed : (sF r j n).lookup ("feed" : Str) = none := by kernel_rfl
theorem sL_end : (sF r j n).lookup ("end" : Str) = none := by kernel_rfl
theorem sL_new : (sF r j n).lookup ("new_normal_tokens" : Str) = none := by kernel_rfl
end
theorem RdAt.keepP {P : Nat → Prop} {C C' : CHp} {r : Addr} {A : Adr} {m : M} (h : RdAt K C r A m) (k : Kp P C C') (hP : ∀ j, j < 8 → P j) : RdAt K C' r A m :=
  have hf := k.fz (hP 0 (by decide))
  ⟨k _ _ _ h.o (hP _ (by decide)), k _ _ _ h.tk (hP _ (by decide)), k _ _ _ h.tg (by rcases h.htc with e | e <;> rw [e] <;> exact hP _ (by decide)), k _ _ _ h.at_ (hP _ (by decide)), k _ _ _ h.an (hP _ (by decide)), k _ _ _ h.bd (hP _ (by decide)), k _ _ _ h.rn (by rcases h.hrc with e | e <;> rw [e] <;> exact hP _ (by decide)), h.tks.mono hf, h.kv.mono hf, h.htc, h.hrc⟩
def bgK : Nat → Prop := fun k => k ≠ 1 ∧ k ≠ 9
def spBegin (K : PySem.W.Frag) : Sp := Sp1 fun a H Q => ∃ (C : CHp) (se dx : Addr) (fs : List (Str × V)), a = .ref se ∧ Sub C H ∧ C se = some (9, .ins (cS K) dx fs) ∧ (fs = [] ∨ ∃ r j n, fs = sF r j n) ∧
  ∀ (C' : CHp) (H' : Hp) (r j dxj : Addr) (A : Adr), Sub C' H' → Kp bgK C C' → C' se = some (9, .ins (cS K) dx (sF r j 0)) → RdAt K C' r A M.new → A.tc = 3 → A.rc = 7 → C' j = some (8, .ins (cJ K) dxj (jF .non)) → Q .non H'
theorem ok_Session_begin (T : Tx K mg) : FnOk P w K mg base CX0 3 (He.fAd K ("Session", some "begin")) (fdA K ("Session", some "begin")) ["self"] (spBegin K) := by
  refine (F_Session_begin T).ok sc_Session_begin (fun vs H Q E h => Sp1.len h) (fun cdv A outer s H vs Q E hr h => ⟨_, PSs.nox (pss_cons (ps_fld (pv 0) (pe_make0 (k_Reader T) (ok_Reader___init__ T) (hr.mono (by decide)) rfl (g_Reader T) (B_Reader___init__ T) .nil pass0) rfl) (pss_cons (ps_fld (pv 0) (pe_make0 (k_Joiner T) (ok_Joiner___init__ T) (hr.mono (by decide)) rfl (g_Joiner T) (B_Joiner___init__ T) .nil pass0) rfl) (pss_one (ps_fld (pv 0) pe_int rfl)))), ?_⟩)
  show _
  try simp only [cxK, cxK2]
  obtain ⟨a, rfl, C, se, dx, fs, rfl, hS, hse, hfs, k⟩ := h
  have hl0 : Few 3 fs := by
    rcases hfs with rfl | ⟨r, j, n, rfl⟩
    · exact few_nil
    · exact Nat.le_refl 3
  refine q_fldC (make_reader hS fun C1 H1 r A1 hr S1 K1 R1 e1 e2 => ?_)
  have hse1 := K1 _ _ _ hse (nk : noK 1 9)
  refine q_fld S1 (val_var rfl) val_c hse1 (c_Session T) (a_Session_reader T) hl0.up fun H2 S2 => ?_
  have K2 : Kp (noK 9) C1 (cu C1 se 9 (.ins (cS K) dx (putF "reader" (.ref r) fs))) := Kp.mut hse1 noK_self
  have R2 := R1.keepP K2 fun k q => (by show k ≠ 9; omega)
  refine q_fldC (make_joiner S2 fun H3 j dxj hj S3 => ?_)
  have K3 : Kp (noK 9) (cu C1 se 9 (.ins (cS K) dx (putF "reader" (.ref r) fs))) (cu (cu C1 se 9 (.ins (cS K) dx (putF "reader" (.ref r) fs))) j 8 (.ins (cJ K) dxj (jF .non))) := Kp.new hj
  have R3 := R2.keepP K3 fun k q => (by show k ≠ 9; omega)
  have hse3 : cu (cu C1 se 9 (.ins (cS K) dx (putF "reader" (.ref r) fs))) j 8 (.ins (cJ K) dxj (jF .non)) se = some (9, .ins (cS K) dx (putF "reader" (.ref r) fs)) := cu_new cu_same hj
  refine q_fld S3 (val_var rfl) val_c hse3 (c_Session T) (a_Session_joiner T) ((few_put hl0) : Few 4 _).up fun H4 S4 => ?_
  have K4 := Kp.mut (P := noK 9) (k := 9) (o := .ins (cS K) dx (putF "joiner" (.ref j) (putF "reader" (.ref r) fs))) hse3 noK_self
  have R4 := R3.keepP K4 fun k q => (by show k ≠ 9; omega)
  have hj4 := K4 _ _ _ cu_same (nk : noK 9 8)
  refine s_fld S4 (val_var rfl) val_c cu_same (c_Session T) (a_Session_looked_at T) ((few_put (few_put hl0)) : Few 5 _).up fun H5 S5 => ?_
  rw [cu_cu] at S5
  have ef : putF "looked_at" (.int 0) (putF "joiner" (.ref j) (putF "reader" (.ref r) fs)) = sF r j 0 := by
    rcases hfs with rfl | ⟨r', j', n', rfl⟩
    · exact sP_new
    · rw [sP_reader, sP_joiner]; exact sP_looked (y := 0)
  rw [ef] at S5
  have K5 := Kp.mut (P := noK 9) (k := 9) (o := .ins (cS K) dx (sF r j 0)) hse3 noK_self
  have R5 := R3.keepP K5 fun k q => (by show k ≠ 9; omega)
  refine k _ H5 r j dxj A1 S5 ?_ cu_same R5 e1 e2 (K5 _ _ _ cu_same (nk : noK 9 8))
  exact ((K1.mono fun k q => q.1).trans (K2.mono fun k q => q.2)).trans ((K3.mono fun k q => q.2).trans (K5.mono fun k q => q.2))
theorem ok_Session___init__ (T : Tx K mg) : FnOk P w K mg base CX0 4 (He.fAd K ("Session", some "__init__")) (fdA K ("Session", some "__init__")) ["self"] (spBegin K) := by
  refine (F_Session___init__ T).ok sc_Session___init__ (fun vs H Q E h => Sp1.len h) (fun cdv A outer s H vs Q E hr h => ⟨_, PSs.nox (pss_one (ps_expr (pe_meth0 (pv 0) (c_Session T) (m_Session_begin T) (ok_Session_begin T) (hr.mono (by decide)) (B_Session_begin T) .nil pass0))), ?_⟩)
  show _
  try simp only [cxK, cxK2]
  obtain ⟨a, rfl, k⟩ := h
  obtain ⟨C, se, dx, fs, rfl, hS, hse, hfs, k⟩ := k
  refine s_drop (t_meth (val_var rfl) (hS _ _ _ hse) ?_ va_nil ⟨_, rfl, C, se, dx, fs, rfl, hS, hse, hfs, k⟩)
  rcases hfs with rfl | ⟨r, j, n, rfl⟩
  · rfl
  · exact sL_begin
structure SeAt (K : PySem.W.Frag) (C : CHp) (se dx r j dxj : Addr) (A : Adr) (m : M) (hv : V) (held : Option Tk) (n : Nat) : Prop where
  o : C se = some (9, .ins (cS K) dx (sF r j n))
  R : RdAt K C r A m
  J : C j = some (8, .ins (cJ K) dxj (jF hv))
  hh : HeldAt K (fz C) hv held
section
variable {σ : L2.St} {H : Hp} {ta : TE} {C : CHp} {se dx r j dxj : Addr} {A : Adr} {m : M} {hv : V} {held : Option Tk} {n : Nat}
theorem vs_reader (T : Tx K mg) (S : Sub C H) (h : SeAt K C se dx r j dxj A m hv held n) (ha : Val ta σ H (.ref se)) : Val (tFld K ta "reader") σ H (.ref r) := val_fld ha (S _ _ _ h.o) (c_Session T) (a_Session_reader T) sF_reader
theorem vs_joiner (T : Tx K mg) (S : Sub C H) (h : SeAt K C se dx r j dxj A m hv held n) (ha : Val ta σ H (.ref se)) : Val (tFld K ta "joiner") σ H (.ref j) := val_fld ha (S _ _ _ h.o) (c_Session T) (a_Session_joiner T) sF_joiner
theorem vs_looked (T : Tx K mg) (S : Sub C H) (h : SeAt K C se dx r j dxj A m hv held n) (ha : Val ta σ H (.ref se)) : Val (tFld K ta "looked_at") σ H (vn n) := val_fld ha (S _ _ _ h.o) (c_Session T) (a_Session_looked_at T) sF_looked
theorem SeAt.keepP {P : Nat → Prop} {C' : CHp} (h : SeAt K C se dx r j dxj A m hv held n) (k : Kp P C C') (hP : ∀ i, i < 10 → P i) : SeAt K C' se dx r j dxj A m hv held n :=
  ⟨k _ _ _ h.o (hP _ (by decide)), h.R.keepP k fun i q => hP i (by omega), k _ _ _ h.J (hP _ (by decide)), h.hh.mono (k.fz (hP 0 (by decide)))⟩
end
theorem t_in2V {σ : L2.St} {H : Hp} {ta t1 t2 : TE} {c x y : Nat} {Q : VK} (ha : Val ta σ H (vn c)) (h1 : Val t1 σ H (vn x)) (h2 : Val t2 σ H (vn y)) (q : ∀ H', Same H H' → Q (.bl (decide (c = x ∨ c = y))) H') : tOp (rIn K false) ta (tTup (tCons t1 (tCons t2 tNil))) σ H Q := by
  refine ha _ ?_
  refine va_cons h1 (va_cons h2 va_nil) _ ⟨by show 2 ≤ sizeLine; decide, fun p hp => ⟨p, nts [x, y], rfl, .inr (SqT.of upd_same), rfl, flat_nats _, ?_⟩⟩
  have e : inV (vn c) (nts [x, y]) = decide (c = x ∨ c = y) := by
    rw [show vn c = V.int (c : Int) from rfl, any_nats, Bool.eq_iff_iff]
    simp
  rw [if_neg Bool.false_ne_true, e]
  exact q _ (Same.new hp)
def spOver (K : PySem.W.Frag) : Sp := Sp1 fun a H Q => ∃ (C : CHp) (se dx r j dxj : Addr) (A : Adr) (m : M) (hv : V) (held : Option Tk) (n : Nat), a = .ref se ∧ Sub C H ∧ SeAt K C se dx r j dxj A m hv held n ∧ ∀ H', Same H H' → Q (.bl (decide (m.mode = 25 ∨ m.mode = 26))) H'
theorem ok_Session_is_over (T : Tx K mg) : FnOk P w K mg base CX0 1 (He.fAd K ("Session", some "is_over")) (fdA K ("Session", some "is_over")) ["self"] (spOver K) := by
  refine (F_Session_is_over T).ok sc_Session_is_over (fun vs H Q E h => Sp1.len h) (fun cdv A outer s H vs Q E hr h => ⟨_, PSs.nox (pss_one (ps_ret (pe_cmpR op_in_seq (pe_fld (pe_fld (pv 0) rfl) rfl) (pe_tup (pa_cons (pe_gi rfl (i_ENDED T)) (pa_cons (pe_gi rfl (i_FAULT T)) pa_nil))) (by rfl)))), ?_⟩)
  show _
  try simp only [cxK, cxK2]
  obtain ⟨a, rfl, C, se, dx, r, j, dxj, A, m, hv, held, n, rfl, hS, se0, k⟩ := h
  exact s_ret (t_in2V (x := 25) (y := 26) (v_mode T hS se0.R (vs_reader T hS se0 (val_var rfl))) val_c val_c k)
def spRoom (K : PySem.W.Frag) : Sp := Sp2 fun a b H Q => ∃ (C : CHp) (se dx r j dxj : Addr) (A : Adr) (m : M) (hv : V) (held : Option Tk) (n : Nat) (l : Addr) (xs : List V), a = .ref se ∧ b = .ref l ∧ Sub C H ∧ SeAt K C se dx r j dxj A m hv held n ∧ H l = some (.lst xs) ∧ Q (.bl (decide (m.count + xs.length ≤ 16384))) H
theorem ok_Session_has_room_for (T : Tx K mg) : FnOk P w K mg base CX0 1 (He.fAd K ("Session", some "has_room_for")) (fdA K ("Session", some "has_room_for")) ["self", "signs"] (spRoom K) := by
  refine (F_Session_has_room_for T).ok sc_Session_has_room_for (fun vs H Q E h => Sp2.len h) (fun cdv A outer s H vs Q E hr h => ⟨_, PSs.nox (pss_one (ps_ret (pe_cmpR op_le (pe_op op_add (pe_fld (pe_fld (pv 0) rfl) rfl) (pe_callB call_len_seq (by rfl) (n_len T) (by decide +kernel) (pa_cons (pv 1) pa_nil))) (pe_gi rfl (i_MOST_FED T)) (nomark _)))), ?_⟩)
  show _
  try simp only [cxK, cxK2]
  obtain ⟨a, b, rfl, C, se, dx, r, j, dxj, A, m, hv, held, n, l, xs, rfl, rfl, hS, se0, hl, k⟩ := h
  have e : decide (m.count + xs.length ≤ 16384) = decide ((m.count : Int) + (xs.length : Int) ≤ 16384) := by
    rw [decide_eq_decide]; omega
  rw [e] at k
  exact s_retV (val_i2 (g := fun i j => .bl (decide (i ≤ j))) (val_i2 (g := fun i j => .int (i + j)) (v_count T hS se0.R (vs_reader T hS se0 (val_var rfl))) (val_len (K := K) (val_var rfl) (SqL.of hl))) val_c) k
theorem cut_dropV (xs : List V) (k : Nat) : cutV xs (some (k : Int)) none = xs.drop k := by
  have := cut_drop (fun v : V => v) xs k
  rw [List.map_id', List.map_id'] at this
  exact this
def nnK : Nat → Prop := fun k => k ≠ 8 ∧ k ≠ 9 ∧ k ≠ 30 ∧ k ≠ 31
def spNew (K : PySem.W.Frag) : Sp := Sp1 fun a H Q => ∃ (C : CHp) (se dx r j dxj : Addr) (A : Adr) (m : M) (hv : V) (held : Option Tk) (n : Nat), a = .ref se ∧ Sub C H ∧ SeAt K C se dx r j dxj A m hv held n ∧ m.toks.length ≤ 100000 ∧
  ∀ (C' : CHp) (H' : Hp) (hv' : V) (p : Addr) (us : List V), Sub C' H' → Kp nnK C C' → SeAt K C' se dx r j dxj A m hv' (settle held (m.toks.drop n)).2 (n + (m.toks.drop n).length) → C p = none → C' p = some (31, .lst us) → Toks K (fz C') us (settle held (m.toks.drop n)).1 → Q (.ref p) H'
theorem ok_Session_new_normal_tokens (T : Tx K mg) : FnOk P w K mg base CX0 6 (He.fAd K ("Session", some "new_normal_tokens")) (fdA K ("Session", some "new_normal_tokens")) ["self"] (spNew K) := by
  refine (F_Session_new_normal_tokens T).ok sc_Session_new_normal_tokens (fun vs H Q E h => Sp1.len h) (fun cdv A outer s H vs Q E hr h => ⟨_, PSs.nox (pss_cons (ps_set (i := 1) sc_Session_new_normal_tokens.nd rfl (Or.inl rfl) (pe_slice sl_list (pe_fld (pe_fld (pv 0) rfl) rfl) (po_some (pe_fld (pv 0) rfl)) po_none)) (pss_cons (ps_fldaug (pv 0) (pe_callB call_len_seq (by rfl) (n_len T) (by decide +kernel) (pa_cons (pv 1) pa_nil)) in_add) (pss_one (ps_ret (pe_meth (pe_fld (pv 0) rfl) (c_Joiner T) (m_Joiner_settle T) (ok_Joiner_settle T) (hr.mono (by decide)) (B_Joiner_settle T) .nil pass0 (pa_cons (pv 1) pa_nil)))))), ?_⟩)
  show _
  try simp only [cxK, cxK2]
  obtain ⟨a, rfl, C, se, dx, r, j, dxj, A, m, hv, held, n, rfl, hS, se0, hn, k⟩ := h
  have hfz := se0.R.tks.drop n
  refine q_set ?_
  refine v_tokens T hS se0.R (vs_reader T hS se0 (val_var rfl)) _ ?_
  refine vs_looked T hS se0 (val_var rfl) _ ⟨(n : Int), rfl, A.pt, A.ts, rfl, SqL.of (hS _ _ _ se0.R.tk), fun f hf => ?_⟩
  rw [cut_dropV]
  have hfC := hS.none hf
  have S1 : Sub (cu C f 0 (.lst (A.ts.drop n))) _ := hS.upd
  have K1 : Kp allK C (cu C f 0 (.lst (A.ts.drop n))) := Kp.new hfC
  have se1 := se0.keepP K1 fun _ _ => trivial
  have hlen : (A.ts.drop n).length = (m.toks.drop n).length := hfz.len
  have hv1 := val_len (K := K) (σ := [some (V.ref se), some (V.ref f)]) (val_var (i := 1) rfl) (SqL.of (S1 _ _ _ cu_same))
  rw [hlen] at hv1
  refine q_augI S1 (val_var rfl) se1.o (c_Session T) (a_Session_looked_at T) sF_looked hv1 few_sF fun H2 S2 => ?_
  have S2' : Sub (cu (cu C f 0 (.lst (A.ts.drop n))) se 9 (.ins (cS K) dx (putF "looked_at" (.int ((n + (m.toks.drop n).length : Nat) : Int)) (sF r j n)))) H2 := S2
  rw [sP_looked] at S2'
  have K2 := Kp.mut (P := noK 9) (k := 9) (o := .ins (cS K) dx (sF r j (n + (m.toks.drop n).length))) se1.o noK_self
  have R2 := se1.R.keepP K2 fun k q => (by show k ≠ 9; omega)
  have J2 := K2 _ _ _ se1.J (nk : noK 9 8)
  have hh2 := se1.hh.mono (K2.fz ok0)
  have hvj : Val (tFld K (tVar 0) "joiner") [some (V.ref se), some (V.ref f)] H2 (.ref j) := val_fld (val_var rfl) (S2' _ _ _ cu_same) (c_Session T) (a_Session_joiner T) sF_joiner
  refine s_ret (t_meth hvj (S2' _ _ _ J2) jL_settle (va_cons (val_var rfl) va_nil) ⟨_, _, rfl, _, j, dxj, hv, held, f, 0, A.ts.drop n, m.toks.drop n, rfl, rfl, S2', J2, hh2, K2 _ _ _ cu_same ok0, jn0, hfz.mono (fun a o e => K2.fz ok0 a o (K1.fz trivial a o e)), by rw [List.length_drop]; omega, fun C3 H3 hv' p us S3 K3 hj3 hh3 np hp3 hu3 => ?_⟩)
  have KK : Kp nnK C C3 := ((K1.mono fun _ _ => trivial).trans (K2.mono fun k q => q.2.1)).trans (K3.mono fun k q => ⟨q.1, q.2.2.1, q.2.2.2⟩)
  refine k C3 H3 hv' p us S3 KK ⟨K3 _ _ _ cu_same ⟨by decide, by decide, by decide⟩, R2.keepP K3 fun k q => ⟨by omega, by omega, by omega⟩, hj3, hh3⟩ ?_ hp3 hu3
  cases e : C p with
  | none => rfl
  | some x =>
    have e1 : cu C f 0 (.lst (A.ts.drop n)) p = some x := cu_new e hfC
    by_cases hps : p = se
    · rw [hps, cu_same] at np; cases np
    · rw [cu_ne hps, e1] at np; cases np

end Sm

set_option Elab.async false
set_option linter.all false
set_option maxRecDepth 100000
set_option maxHeartbeats 0
namespace Sm
open PySem PySem.Spec PyProof.Rows L2
variable {P : Program} {w : World} {K : PySem.W.Frag} {mg : Str → Option Value} {base : Heap}
/-! ### feeding -/
structure Live (A : Adr) (m : M) : Prop where
  rc : A.rc = 7
  g : Good A m
  wf : WF m
  md : m.mode ≤ 24
  by' : BY m
  ct : m.count ≤ 16384
def feK : Nat → Prop := fun k => k = 0 ∨ (10 ≤ k ∧ k ≠ 30 ∧ k ≠ 31)
def spFeed (K : PySem.W.Frag) : Sp := Sp2 fun a b H Q => ∃ (C : CHp) (se dx r j dxj : Addr) (A : Adr) (m : M) (hv : V) (l : Addr) (xs : NL), a = .ref se ∧ b = .ref l ∧ Sub C H ∧ SeAt K C se dx r j dxj A m hv (heldOf m) m.toks.length ∧ Live A m ∧ C l = some (0, .lst (nts xs)) ∧ (∀ c ∈ xs, c < 256) ∧ m.count + xs.length ≤ 16384 ∧
  ∀ (C' : CHp) (H' : Hp) (A' : Adr) (hv' : V) (p : Addr), Sub C' H' → Kp feK C C' → SeAt K C' se dx r j dxj A' (m.read xs) hv' (heldOf (m.read xs)) (m.read xs).toks.length → A'.rc = 7 → Good A' (m.read xs) → C' p = some (0, .lst (nts ((newTk m (m.read xs)).flatMap sTok))) → Q (.ref p) H'
theorem ok_Session_feed (T : Tx K mg) : FnOk P w K mg base CX0 10 (He.fAd K ("Session", some "feed")) (fdA K ("Session", some "feed")) ["self", "signs"] (spFeed K) := by
  refine (F_Session_feed T).ok sc_Session_feed (fun vs H Q E h => Sp2.len h) (fun cdv A outer s H vs Q E hr h => ⟨_, PSs.nox (pss_cons (ps_expr (pe_call (ok_read_signs T) (hr.mono (by decide)) rfl (g_read_signs T) (F_read_signs T).kp (B_read_signs T) .nil pass0 (pa_cons (pe_fld (pv 0) rfl) (pa_cons (pv 1) pa_nil)))) (pss_one (ps_ret (pe_call (ok_short_tokens T) (hr.mono (by decide)) rfl (g_short_tokens T) (F_short_tokens T).kp (B_short_tokens T) .nil pass0 (pa_cons (pe_meth0 (pv 0) (c_Session T) (m_Session_new_normal_tokens T) (ok_Session_new_normal_tokens T) (hr.mono (by decide)) (B_Session_new_normal_tokens T) .nil pass0) pa_nil))))), ?_⟩)
  show _
  try simp only [cxK, cxK2]
  obtain ⟨a, b, rfl, C, se, dx, r, j, dxj, A, m, hv, l, xs, rfl, rfl, hS, se0, lv, hl, hx, hn, k⟩ := h
  refine q_drop (t_call (va_cons (vs_reader T hS se0 (val_var rfl)) (va_cons (val_var rfl) va_nil)) ⟨_, _, rfl, C, r, A, m, l, 0, xs, rfl, rfl, hS, se0.R, lv.rc, lv.g, lv.wf, lv.md, by omega, hx, hl, rd0, fun C1 H1 A1 S1 K1 R1 rc1 g1 => ?_⟩)
  have se1 : SeAt K C1 se dx r j dxj A1 (m.read xs) hv (heldOf m) m.toks.length := ⟨K1 _ _ _ se0.o (.inr ⟨by decide, by decide⟩), R1, K1 _ _ _ se0.J (.inr ⟨by decide, by decide⟩), se0.hh.mono (K1.fz rd0)⟩
  obtain ⟨tb, hct⟩ := read_tb xs m lv.wf lv.md hx
  have by1 := lv.by'.read hx
  obtain ⟨ts, ets⟩ := (PX.self m).read (l := xs)
  obtain ⟨f1, f2, f3⟩ := fresh_ok ets
  obtain ⟨k1, k2⟩ := fresh_sk ets tb by1 (by omega)
  have tbn := tb.n
  refine s_ret ?_
  refine t_call1 (t_meth (val_var rfl) (S1 _ _ _ se1.o) sL_new va_nil ⟨_, rfl, C1, se, dx, r, j, dxj, A1, _, hv, _, _, rfl, S1, se1, by omega, fun C2 H2 hv2 p us S2 K2 se2 np hp2 hu2 => ?_⟩)
  rw [f1] at se2 hu2
  have e1 : m.toks.length + ts.length = (m.read xs).toks.length := by rw [ets, List.length_append]
  have e2 : (settle (heldOf m) ts).2 = heldOf (m.read xs) := f2
  rw [e1, e2] at se2
  have el : newTk m (m.read xs) = (settle (heldOf m) ts).1 := by unfold newTk; rw [f1]
  have kl : ((settle (heldOf m) ts).1.flatMap sTok).length ≤ 16384 := by
    have := k2
    rw [List.flatMap_append, List.length_append] at this
    show ((settle (settle none m.toks).2 ts).1.flatMap sTok).length ≤ _
    omega
  refine ⟨_, rfl, p, us, _, rfl, S2 _ _ _ hp2, hu2.mono S2.fz, fun t ht => k1 t (List.mem_append_left _ ht), by omega, fun H3 w s3 nw ew => ?_⟩
  have nwC := S2.none nw
  have K3 : Kp allK C2 (cu C2 w 0 (.lst (nts ((settle (heldOf m) ts).1.flatMap sTok)))) := Kp.new nwC
  have S3 : Sub (cu C2 w 0 (.lst (nts ((settle (heldOf m) ts).1.flatMap sTok)))) H3 := (S2.same s3).rec ew
  refine k _ H3 A1 hv2 w S3 ?_ (se2.keepP K3 fun _ _ => trivial) rc1 g1 (by rw [el]; exact cu_same)
  refine ((K1.mono fun k q => ?_).trans (K2.mono fun k q => ?_)).trans (K3.mono fun _ _ => trivial)
  · rcases q with q | q
    · exact .inl q
    · exact .inr ⟨by omega, q.2.1⟩
  · rcases q with q | q
    · rw [q]; exact ⟨by decide, by decide, by decide, by decide⟩
    · exact ⟨by omega, by omega, q.2.1, q.2.2⟩
theorem fin_mode {m : M} (h : m.mode ≤ 24) : m.fin.mode = 25 ∨ m.fin.mode = 26 := by
  unfold M.fin
  rw [if_neg (show ¬ (m.mode = 25 ∨ m.mode = 26) by omega)]
  split
  · exact .inr rfl
  split
  · exact .inl rfl
  · exact .inl rfl
def spEnd (K : PySem.W.Frag) : Sp := Sp1 fun a H Q => ∃ (C : CHp) (se dx r j dxj : Addr) (A : Adr) (m : M) (hv : V), a = .ref se ∧ Sub C H ∧ SeAt K C se dx r j dxj A m hv (heldOf m) m.toks.length ∧ Live A m ∧
  ∀ (C' : CHp) (H' : Hp) (A' : Adr) (p : Addr), Sub C' H' → Kp feK C C' → SeAt K C' se dx r j dxj A' m.fin .non none m.fin.toks.length → C' p = some (0, .lst (nts ((endTk m).flatMap sTok))) → Q (.ref p) H'
theorem ok_Session_end (T : Tx K mg) : FnOk P w K mg base CX0 10 (He.fAd K ("Session", some "end")) (fdA K ("Session", some "end")) ["self"] (spEnd K) := by
  refine (F_Session_end T).ok sc_Session_end (fun vs H Q E h => Sp1.len h) (fun cdv A outer s H vs Q E hr h => ⟨_, PSs.nox (pss_cons (ps_expr (pe_call (ok_read_end T) (hr.mono (by decide)) rfl (g_read_end T) (F_read_end T).kp (B_read_end T) .nil pass0 (pa_cons (pe_fld (pv 0) rfl) pa_nil))) (pss_cons (ps_set (i := 1) sc_Session_end.nd rfl (Or.inl rfl) (pe_meth0 (pv 0) (c_Session T) (m_Session_new_normal_tokens T) (ok_Session_new_normal_tokens T) (hr.mono (by decide)) (B_Session_new_normal_tokens T) .nil pass0)) (pss_cons (ps_expr (pe_bm PySem.F.plainAttrs_list PySem.F.slot_list_extend PySem.F.type_list_extend mt_extend (pv 1) (pa_cons (pe_meth0 (pe_fld (pv 0) rfl) (c_Joiner T) (m_Joiner_release T) (ok_Joiner_release T) (hr.mono (by decide)) (B_Joiner_release T) .nil pass0) pa_nil))) (pss_one (ps_ret (pe_call (ok_short_tokens T) (hr.mono (by decide)) rfl (g_short_tokens T) (F_short_tokens T).kp (B_short_tokens T) .nil pass0 (pa_cons (pv 1) pa_nil))))))), ?_⟩)
  show _
  try simp only [cxK, cxK2]
  obtain ⟨a, rfl, C, se, dx, r, j, dxj, A, m, hv, rfl, hS, se0, lv, k⟩ := h
  have tb0 := lv.wf.tb (Nat.le_succ_of_le lv.md)
  have tb0n := tb0.n
  have ct := lv.ct
  refine q_drop (t_call (va_cons (vs_reader T hS se0 (val_var rfl)) va_nil) ⟨_, rfl, C, r, A, m, rfl, hS, se0.R, lv.rc, lv.g, by omega, fun C1 H1 A1 S1 K1 R1 rc1 g1 => ?_⟩)
  have se1 : SeAt K C1 se dx r j dxj A1 m.fin hv (heldOf m) m.toks.length := ⟨K1 _ _ _ se0.o (.inr ⟨by decide, by decide⟩), R1, K1 _ _ _ se0.J (.inr ⟨by decide, by decide⟩), se0.hh.mono (K1.fz rd0)⟩
  obtain ⟨tb, hct⟩ := fin_tb tb0 (.inr ⟨lv.wf, lv.md⟩)
  have by1 := lv.by'.fin
  obtain ⟨ts, ets⟩ := (PX.self m).fin
  obtain ⟨f1, f2, f3⟩ := fresh_ok ets
  obtain ⟨k1, k2⟩ := fresh_sk ets tb by1 (by omega)
  have tbn := tb.n
  refine q_set (t_meth (val_var rfl) (S1 _ _ _ se1.o) sL_new va_nil ⟨_, rfl, C1, se, dx, r, j, dxj, A1, _, hv, _, _, rfl, S1, se1, by omega, fun C2 H2 hv2 p us S2 K2 se2 np hp2 hu2 => ?_⟩)
  rw [f1] at se2 hu2
  have e1 : m.toks.length + ts.length = m.fin.toks.length := by rw [ets, List.length_append]
  have e2 : (settle (heldOf m) ts).2 = heldOf m.fin := f2
  rw [e1, e2] at se2
  have hvj : Val (tFld K (tVar 0) "joiner") [some (V.ref se), some (V.ref p)] H2 (.ref j) := vs_joiner T S2 se2 (val_var rfl)
  refine q_drop (t_extC (val_var rfl) (S2 _ _ _ hp2) (t_meth hvj (S2 _ _ _ se2.J) jL_release va_nil ⟨_, rfl, C2, j, dxj, hv2, _, rfl, S2, se2.J, se2.hh, fun C3 H3 b ws S3 K3 hj3 hb hb3 hw3 => ?_⟩))
  have hp3 := K3 _ _ _ hp2 (nk : noK 8 31)
  have el : endTk m = (settle (heldOf m) ts).1 ++ oneList (heldOf m.fin) := by unfold endTk newTk; rw [f1]
  have k1' : ∀ t ∈ (settle (heldOf m) ts).1 ++ oneList (heldOf m.fin), SK t := by rw [← e2]; exact k1
  have k2' : (((settle (heldOf m) ts).1 ++ oneList (heldOf m.fin)).flatMap sTok).length ≤ 16384 := by rw [← e2]; exact k2
  have b1 := (settle_cnt ts (heldOf m)).1
  have b2 := one_le (heldOf m)
  have b4 := one_le (heldOf m.fin)
  refine ⟨b, us, ws, rfl, S3 _ _ _ hp3, S3 _ _ _ hb3, size_small (by rw [hu2.len, hw3.len]; omega), ?_⟩
  have S4 : Sub (cu C3 p 31 (.lst (us ++ ws))) _ := S3.upd
  have K4 : Kp (noK 31) C3 (cu C3 p 31 (.lst (us ++ ws))) := Kp.mut hp3 noK_self
  have hu4 := (hu2.mono (fun a o e => K4.fz ok0 a o (K3.fz ok0 a o e))).app (hw3.mono (K4.fz ok0))
  have se4 : SeAt K (cu C3 p 31 (.lst (us ++ ws))) se dx r j dxj A1 m.fin .non none m.fin.toks.length := ⟨K4 _ _ _ (K3 _ _ _ se2.o (nk : noK 8 9)) (nk : noK 31 9), (se2.R.keepP K3 fun k q => (by show k ≠ 8; omega)).keepP K4 fun k q => (by show k ≠ 31; omega), K4 _ _ _ hj3 (nk : noK 31 8), rfl⟩
  refine s_ret (t_call (va_cons (val_var rfl) va_nil) ⟨_, rfl, p, _, _, rfl, upd_same, hu4.mono S4.fz, k1', by omega, fun H5 w s5 nw ew => ?_⟩)
  have nwC := S4.none nw
  have K5 : Kp allK (cu C3 p 31 (.lst (us ++ ws))) (cu (cu C3 p 31 (.lst (us ++ ws))) w 0 (.lst (nts (((settle (heldOf m) ts).1 ++ oneList (heldOf m.fin)).flatMap sTok)))) := Kp.new nwC
  refine k _ H5 A1 w ((S4.same s5).rec ew) ?_ (se4.keepP K5 fun _ _ => trivial) (by rw [el]; exact cu_same)
  refine (((K1.mono fun k q => ?_).trans (K2.mono fun k q => ?_)).trans ((K3.mono fun k q => ?_).trans (K4.mono fun k q => ?_))).trans (K5.mono fun _ _ => trivial)
  · rcases q with q | q
    · exact .inl q
    · exact .inr ⟨by omega, q.2.1⟩
  · rcases q with q | q
    · rw [q]; exact ⟨by decide, by decide, by decide, by decide⟩
    · exact ⟨by omega, by omega, q.2.1, q.2.2⟩
  · show k ≠ 8
    rcases q with q | q <;> omega
  · show k ≠ 31
    rcases q with q | q <;> omega

end Sm

set_option Elab.async false
set_option linter.all false
set_option maxRecDepth 100000
set_option maxHeartbeats 0
namespace Sm
open PySem PySem.Spec PyProof.Rows L2
variable {P : Program} {w : World} {K : PySem.W.Frag} {mg : Str → Option Value} {base : Heap}
/-! ### the calls -/
theorem t_callE {σ : L2.St} {H : Hp} {sp : Sp} {E : XK} {t : TA} {vs : List V} {Q : VK} (ha : ValA t σ H vs) (h : sp vs H Q E) : tCall sp [] E t σ H Q := t_call ha h
theorem tru_int {i : Int} {H : Hp} : TruV K (.int i) H (decide (i ≠ 0)) := by
  show decide (i ≠ 0) = (i != 0)
  rw [Bool.eq_iff_iff]
  simp
theorem gn_if {σ : L2.St} {H : Hp} {ta tb : TE} {tt : TT} {xs : List V} {b : Bool} (h : ValT tt σ H b) (h1 : b = true → GN ta σ H xs) (h2 : b = false → GN tb σ H xs) : GN (tIf tt ta tb) σ H xs := fun Q q => h _ (by
  cases b with
  | true => rw [if_pos rfl]; exact h1 rfl Q q
  | false => rw [if_neg Bool.false_ne_true]; exact h2 rfl Q q)
theorem ivs_enc (l : NL) : ivs (enc l) = nts l := (nts_ivs l).symm
theorem txt_of {H : Hp} {p : Addr} {l : List Int} (h : bytesR l = 0) (hp : H p = some (.lst (ivs l))) : Txt' H p (natsI l) := by
  obtain ⟨b1, b2, b3, b4, b5⟩ := bytes_fine h
  rw [b2, ivs_enc] at hp
  exact ⟨hp, by omega, b3⟩
def spBytes (K : PySem.W.Frag) : Sp := Sp1 fun a H Q => ∃ (p : Addr) (l : List Int), a = .ref p ∧ H p = some (.lst (ivs l)) ∧ l.length ≤ 100000 ∧ ∀ H', Same H H' → Q (.int (bytesR l)) H'
def bvs (l : List Bool) : List V := l.map V.bl
theorem all_id (l : List Int) : (l.map Vaescn.isByte).all id = l.all Vaescn.isByte := by
  rw [List.all_map]; rfl
theorem ok_bytes_refusal (T : Tx K mg) : FnOk P w K mg base CX0 2 (He.fAd K ("bytes_refusal", none)) (fdA K ("bytes_refusal", none)) ["row"] (spBytes K) := by
  refine (F_bytes_refusal T).ok sc_bytes_refusal (fun vs H Q E h => Sp1.len h) (fun cdv A outer s H vs Q E hr h => ⟨_, PSs.nox (pss_cons (ps_if (pt_not (pt_val (pe_callB (cr_all rfl) (by rfl) (n_all T) (by decide +kernel) (pa_cons (pe_lc (own := [("number", 1)]) (by rfl) sc_bytes_refusal.nd (pi_list (pv 0)) (blkOk_by (own := [("number", 1)]) (N := ["row", "number"]) (sc := defScope (sT 174)) (by decide +kernel)) (fun _ _ _ _ _ => (pg_name (i := 1) sc_bytes_refusal.nd rfl (Or.inl rfl))) (fun _ _ _ _ _ => pts_nil) (fun _ _ _ _ _ => (pe_call (ok_is_byte T) (hr.mono (by decide)) rfl (g_is_byte T) (F_is_byte T).kp (B_is_byte T) .nil pass0 (pa_cons (pv 1) pa_nil)))) pa_nil)))) (pss_one (ps_ret (pe_gi rfl (i_NO_BYTES T)))) pss_nil) (pss_cons (ps_if (pt_cmpR op_gt (pe_callB call_len_seq (by rfl) (n_len T) (by decide +kernel) (pa_cons (pv 0) pa_nil)) (pe_gi rfl (i_MOST_BYTES T)) (nomark _)) (pss_one (ps_ret (pe_gi rfl (i_TOO_MANY_BYTES T)))) pss_nil) (pss_one (ps_ret pe_int)))), ?_⟩)
  show _
  try simp only [cxK, cxK2]
  obtain ⟨a, rfl, p, l, rfl, hp, hl, k⟩ := h
  unfold bytesR at k
  have fin : ∀ H', Same H H' → (if (!(l.all Vaescn.isByte)) = true then tRet (tC (.int (-1))) { nx := fun σ H2 => tSeq (tIfS (tTest (tOp (rI0 fun i j => .bl (decide (i > j))) (tCB (fun ys H Q => ∃ p zs, ys = [.ref p] ∧ (SqL K H p zs ∨ SqT K H p zs) ∧ Q (.int (zs.length : Int)) H) (tCons (tVar 0) tNil)) (tC (.int 8192)))) (tRet (tC (.int (-2)))) tNext) (tRet (tC (.int 0))) { nx := fun _ H' => Q .non H', rt := Q } σ H2, rt := Q } [some (V.ref p), none] H' else tSeq (tIfS (tTest (tOp (rI0 fun i j => .bl (decide (i > j))) (tCB (fun ys H Q => ∃ p zs, ys = [.ref p] ∧ (SqL K H p zs ∨ SqT K H p zs) ∧ Q (.int (zs.length : Int)) H) (tCons (tVar 0) tNil)) (tC (.int 8192)))) (tRet (tC (.int (-2)))) tNext) (tRet (tC (.int 0))) { nx := fun _ H' => Q .non H', rt := Q } [some (V.ref p), none] H') := fun H' s => by
    cases e : l.all Vaescn.isByte with
    | false =>
      rw [e, if_neg Bool.false_ne_true] at k
      rw [if_pos (show (!false) = true from rfl)]
      exact k H' s
    | true =>
      rw [e, if_pos rfl] at k
      rw [if_neg (show ¬ (!true) = true by decide)]
      have hv := val_len (K := K) (σ := [some (V.ref p), none]) (val_var (i := 0) rfl) (SqL.of (s _ _ hp))
      rw [ivs_len] at hv
      refine q_if (b := decide (8192 < l.length)) ?c (fun e => ?_) (fun e => ?_)
      case c =>
        have e2 : decide (8192 < l.length) = decide ((l.length : Int) > 8192) := by rw [decide_eq_decide]; omega
        rw [e2]
        exact vt_test (val_i2 (g := fun i j => .bl (decide (i > j))) hv val_c)
      · rw [if_pos (of_decide_eq_true e)] at k
        exact k H' s
      · rw [if_neg (of_decide_eq_false e)] at k
        exact k H' s
  refine s_seq ?_
  unfold tIfS tNot tB
  refine t_cb1 (t_lcL (val_var rfl) hp fun D hD => lc_it (walk_list (xs := ivs l)) (fun i H' => Same H H' ∧ H' D = some (.lst (bvs ((l.take i).map Vaescn.isByte)))) ⟨Same.new hD, upd_same⟩ (fun i H' _ h => SqL.of (h.1 _ _ hp)) (fun i x H2 H3 hi pv y => ?_) (fun H' pv => ?_))
  · obtain ⟨rfl, y⟩ := y
    obtain ⟨s1, e1⟩ := pv
    unfold ivs at y
    rw [List.getElem?_map] at y
    obtain ⟨z, hz, rfl⟩ := Option.map_eq_some_iff.mp y
    refine ⟨rfl, ?_⟩
    unfold tYes
    dsimp only
    rw [if_pos rfl]
    refine t_call (va_cons (val_var rfl) va_nil) ⟨_, rfl, z, rfl, ?_⟩
    refine ⟨_, e1, ?_, Same.mut s1 hD, ?_⟩
    · unfold bvs
      rw [List.length_map, List.length_map]
      exact size_lt (by have := List.length_take_le' i l; omega)
    · rw [upd_same, take_more hz, List.map_append]
      unfold bvs
      rw [List.map_append]
      rfl
  · obtain ⟨s1, e1⟩ := pv
    rw [ivs_len, List.take_length] at e1
    refine ⟨D, l.map Vaescn.isByte, rfl, SqL.of e1, ⟨_, rfl, ?_⟩⟩
    rw [all_id]
    exact fin H' s1

def feedR (m : M) (n : Nat) : Int := if m.mode = 25 ∨ m.mode = 26 then -4 else if m.count + n ≤ 16384 then 0 else -3
def spFeedRef (K : PySem.W.Frag) : Sp := Sp2 fun a b H Q => ∃ (C : CHp) (se dx r j dxj : Addr) (A : Adr) (m : M) (hv : V) (held : Option Tk) (n : Nat) (l : Addr) (xs : List V), a = .ref se ∧ b = .ref l ∧ Sub C H ∧ SeAt K C se dx r j dxj A m hv held n ∧ H l = some (.lst xs) ∧ ∀ H', Same H H' → Q (.int (feedR m xs.length)) H'
theorem ok_feed_refusal (T : Tx K mg) : FnOk P w K mg base CX0 2 (He.fAd K ("feed_refusal", none)) (fdA K ("feed_refusal", none)) ["session", "row"] (spFeedRef K) := by
  refine (F_feed_refusal T).ok sc_feed_refusal (fun vs H Q E h => Sp2.len h) (fun cdv A outer s H vs Q E hr h => ⟨_, PSs.nox (pss_cons (ps_if (pt_val (pe_meth0 (pv 0) (c_Session T) (m_Session_is_over T) (ok_Session_is_over T) (hr.mono (by decide)) (B_Session_is_over T) .nil pass0)) (pss_one (ps_ret (pe_gi rfl (i_TEXT_IS_OVER T)))) pss_nil) (pss_cons (ps_if (pt_not (pt_val (pe_meth (pv 0) (c_Session T) (m_Session_has_room_for T) (ok_Session_has_room_for T) (hr.mono (by decide)) (B_Session_has_room_for T) .nil pass0 (pa_cons (pv 1) pa_nil)))) (pss_one (ps_ret (pe_gi rfl (i_TOO_MUCH_FED T)))) pss_nil) (pss_one (ps_ret pe_int)))), ?_⟩)
  show _
  try simp only [cxK, cxK2]
  obtain ⟨a, b, rfl, C, se, dx, r, j, dxj, A, m, hv, held, n, l, xs, rfl, rfl, hS, se0, hl, k⟩ := h
  unfold feedR at k
  have g : GT' (tB (tMeth (cS K) "is_over" (spOver K) [] E0 (tVar 0) tNil)) (L2.start ["session", "row"] [.ref se, .ref l]) H (decide (m.mode = 25 ∨ m.mode = 26)) := fun Q q => by
    unfold tB
    exact t_meth (val_var rfl) (hS _ _ _ se0.o) sL_is_over va_nil ⟨_, rfl, C, se, dx, r, j, dxj, A, m, hv, held, n, rfl, hS, se0, fun H' s => ⟨_, rfl, q H' s⟩⟩
  refine qg_if g (fun e H1 s1 => ?_) (fun e H1 s1 => ?_)
  · rw [if_pos (of_decide_eq_true e)] at k
    exact k H1 s1
  rw [if_neg (of_decide_eq_false e)] at k
  have S1 := hS.same s1
  have g2 : GT' (tNot (tB (tMeth (cS K) "has_room_for" (spRoom K) [] E0 (tVar 0) (tCons (tVar 1) tNil)))) (L2.start ["session", "row"] [.ref se, .ref l]) H1 (!decide (m.count + xs.length ≤ 16384)) := fun Q q => by
    unfold tNot tB
    exact t_meth (val_var rfl) (S1 _ _ _ se0.o) sL_has_room (va_cons (val_var rfl) va_nil) ⟨_, _, rfl, C, se, dx, r, j, dxj, A, m, hv, held, n, l, xs, rfl, rfl, S1, se0, s1 _ _ hl, ⟨_, rfl, q H1 Same.rfl'⟩⟩
  refine qg_if g2 (fun e H2 s2 => ?_) (fun e H2 s2 => ?_)
  · rw [if_neg (by simpa using e)] at k
    exact k H2 (s1.trans s2)
  · rw [if_pos (by simpa using e)] at k
    exact k H2 (s1.trans s2)
def spWidth : Sp := Sp1 fun a H Q => ∃ w : Int, a = .int w ∧ Q (.int (if w < 0 then -5 else 0)) H
theorem ok_width_refusal (T : Tx K mg) : FnOk P w K mg base CX0 1 (He.fAd K ("width_refusal", none)) (fdA K ("width_refusal", none)) ["width"] spWidth := by
  refine (F_width_refusal T).ok sc_width_refusal (fun vs H Q E h => Sp1.len h) (fun cdv A outer s H vs Q E hr h => ⟨_, PSs.nox (pss_one (ps_ret (pe_ifExp (pt_cmpR op_lt (pv 0) pe_int (nomark _)) (pe_gi rfl (i_WRONG_SETTING T)) pe_int))), ?_⟩)
  show _
  try simp only [cxK, cxK2]
  obtain ⟨a, rfl, w, rfl, k⟩ := h
  refine s_retV (val_ifE (b := decide (w < 0)) (vt_test (val_i2 (g := fun i j => .bl (decide (i < j))) (val_var rfl) val_c)) (fun e => ?_) (fun e => ?_)) k
  · rw [if_pos (of_decide_eq_true e)]; exact val_c
  · rw [if_neg (of_decide_eq_false e)]; exact val_c
def spTight : Sp := Sp1 fun a H Q => ∃ t : Int, a = .int t ∧ ∀ H', Same H H' → Q (.int (if t < 0 ∨ 1 < t then -5 else 0)) H'
theorem ok_tight_refusal (T : Tx K mg) : FnOk P w K mg base CX0 1 (He.fAd K ("tight_refusal", none)) (fdA K ("tight_refusal", none)) ["tight"] spTight := by
  refine (F_tight_refusal T).ok sc_tight_refusal (fun vs H Q E h => Sp1.len h) (fun cdv A outer s H vs Q E hr h => ⟨_, PSs.nox (pss_one (ps_ret (pe_ifExp (pt_cmpR op_in_seq (pv 0) (pe_tup (pa_cons pe_int (pa_cons pe_int pa_nil))) (by rfl)) pe_int (pe_gi rfl (i_WRONG_SETTING T))))), ?_⟩)
  show _
  try simp only [cxK, cxK2]
  obtain ⟨a, rfl, t, rfl, k⟩ := h
  refine s_ret ?_
  unfold tIf
  refine val_var (v := .int t) rfl _ ⟨by show 2 ≤ sizeLine; decide, fun p hp => ⟨p, [.int 0, .int 1], rfl, .inr (SqT.of upd_same), rfl, rfl, _, rfl, ?_⟩⟩
  have e : inV (V.int t) [V.int 0, V.int 1] = !decide (t < 0 ∨ 1 < t) := by
    unfold inV
    rw [Bool.eq_iff_iff]
    simp only [List.any_cons, List.any_nil, Bool.or_false, Bool.or_eq_true, Bool.not_eq_true', decide_eq_false_iff_not]
    constructor
    · rintro (h | h)
      · have h' : ((0 : Int) == t) = true := h
        have : (0 : Int) = t := by simpa using h'
        omega
      · have h' : ((1 : Int) == t) = true := h
        have : (1 : Int) = t := by simpa using h'
        omega
    · intro h
      rcases (show t = 0 ∨ t = 1 by omega) with rfl | rfl
      · exact .inl rfl
      · exact .inr rfl
  rw [if_neg Bool.false_ne_true, e]
  by_cases h : t < 0 ∨ 1 < t
  · rw [if_pos h] at k
    rw [decide_eq_true h]
    exact k _ (Same.new hp)
  · rw [if_neg h] at k
    rw [decide_eq_false h]
    exact k _ (Same.new hp)

end Sm

set_option Elab.async false
set_option linter.all false
set_option maxRecDepth 100000
set_option maxHeartbeats 0
namespace Sm
open PySem PySem.Spec PyProof.Rows L2
variable {P : Program} {w : World} {K : PySem.W.Frag} {mg : Str → Option Value} {base : Heap}
/-! ### the nine calls -/
def SessRel (K : PySem.W.Frag) (C : CHp) (se dx : Addr) (S : Vaescn.State) : Prop := ∃ (r j dxj : Addr) (A : Adr) (m : M) (hv : V) (held : Option Tk) (n : Nat), SeAt K C se dx r j dxj A m hv held n ∧ ((Live A m ∧ held = heldOf m ∧ n = m.toks.length ∧ SL m S) ∨ ((m.mode = 25 ∨ m.mode = 26) ∧ Over S))
theorem SessRel.keepP {P : Nat → Prop} {C C' : CHp} {se dx : Addr} {S : Vaescn.State} (h : SessRel K C se dx S) (k : Kp P C C') (hP : ∀ i, i < 10 → P i) : SessRel K C' se dx S := by
  obtain ⟨r, j, dxj, A, m, hv, held, n, s, q⟩ := h
  exact ⟨r, j, dxj, A, m, hv, held, n, s.keepP k hP, q⟩
def clK : Nat → Prop := fun k => k = 0 ∨ k = 11
def Post (K : PySem.W.Frag) (C : CHp) (se dx q dxq nl : Addr) (L rest : List Int) (S' : Vaescn.State) (ans : List Int) (Q : VK) : Prop := ∀ (C' : CHp) (H' : Hp) (p : Addr) (pos' : Nat), Sub C' H' → Kp clK C C' → SessRel K C' se dx S' → CuAt K C' q dxq nl pos' L → L.drop pos' = rest → C' p = some (0, .lst (ivs ans)) → Q (.ref p) H'
def CallB (K : PySem.W.Frag) (c : List (List Int)) (a b : V) (H : Hp) (Q : VK) : Prop := ∃ (C : CHp) (se dx q dxq nl : Addr) (pos : Nat) (L rest : List Int) (S : Vaescn.State), a = .ref se ∧ b = .ref q ∧ Sub C H ∧ SessRel K C se dx S ∧ CuAt K C q dxq nl pos L ∧ L.drop pos = flatA c ++ rest ∧
  Post K C se dx q dxq nl L rest (VaescnNeutral.step S c).1 (VaescnNeutral.step S c).2 Q
theorem CuAt.keepP {P : Nat → Prop} {C C' : CHp} {q dx nl : Addr} {pos : Nat} {L : List Int} (h : CuAt K C q dx nl pos L) (k : Kp P C C') (h10 : P 10) (h0 : P 0) : CuAt K C' q dx nl pos L := ⟨k _ _ _ h.1 h10, sqm h.2 (k.fz h0)⟩
/-- an answer that leaves the session alone -/
theorem Post.pure {C C1 : CHp} {H1 H2 : Hp} {se dx q dxq nl p : Addr} {pos' : Nat} {L rest : List Int} {S : Vaescn.State} {ans : List Int} {Q : VK} (k : Post K C se dx q dxq nl L rest S ans Q) (S1 : Sub C1 H1) (K1 : Kp clK C C1) (se1 : SessRel K C1 se dx S) (q1 : CuAt K C1 q dxq nl pos' L) (d1 : L.drop pos' = rest)
    (s : Same H1 H2) (n : H1 p = none) (e : H2 p = some (.lst (ivs ans))) : Q (.ref p) H2 := by
  have nC := S1.none n
  have K2 : Kp allK C1 (cu C1 p 0 (.lst (ivs ans))) := Kp.new nC
  exact k _ H2 p pos' ((S1.same s).rec e) (K1.trans (K2.mono fun _ _ => trivial)) (se1.keepP K2 fun _ _ => trivial) (q1.keepP K2 trivial trivial) d1 cu_same
theorem flatA1 (k : Int) (l rest : List Int) : flatA [[k], l] ++ rest = (l.length : Int) :: (l ++ rest) := by simp [flatA, rowOf]
theorem flatA2 (k w : Int) (l rest : List Int) : flatA [[k, w], l] ++ rest = w :: (l.length : Int) :: (l ++ rest) := by simp [flatA, rowOf]
theorem flatA3 (k : Int) (l l2 rest : List Int) : flatA [[k], l, l2] ++ rest = (l.length : Int) :: (l ++ ((l2.length : Int) :: (l2 ++ rest))) := by simp [flatA, rowOf]
theorem no10 {k : Nat} (h : clK k) : noK 10 k := by
  show k ≠ 10
  rcases h with h | h <;> omega
theorem no10' {i : Nat} (h : i < 10) : noK 10 i := by show i ≠ 10; omega
def spMinC (K : PySem.W.Frag) : Sp := Sp2 fun a b H Q => ∃ l, l.length ≤ 10000 ∧ CallB K [[3], l] a b H Q
theorem ok_minify_call (T : Tx K mg) : FnOk P w K mg base CX0 12 (He.fAd K ("minify_call", none)) (fdA K ("minify_call", none)) ["session", "cursor"] (spMinC K) := by
  refine (F_minify_call T).ok sc_minify_call (fun vs H Q E h => Sp2.len h) (fun cdv A outer s H vs Q E hr h => ⟨_, PSs.nox (pss_cons (ps_set (i := 2) sc_minify_call.nd rfl (Or.inl rfl) (pe_meth0 (pv 1) (c_Cursor T) (m_Cursor_take_row T) (ok_Cursor_take_row T) (hr.mono (by decide)) (B_Cursor_take_row T) .nil pass0)) (pss_cons (ps_set (i := 3) sc_minify_call.nd rfl (Or.inl rfl) (pe_call (ok_bytes_refusal T) (hr.mono (by decide)) rfl (g_bytes_refusal T) (F_bytes_refusal T).kp (B_bytes_refusal T) .nil pass0 (pa_cons (pv 2) pa_nil))) (pss_one (ps_ret (pe_ifExp (pt_truth (pv 3) (by intro _; rfl)) (pe_lst (pa_cons (pv 3) pa_nil)) (pe_call (ok_minified_answer T) (hr.mono (by decide)) rfl (g_minified_answer T) (F_minified_answer T).kp (B_minified_answer T) .nil pass0 (pa_cons (pv 2) pa_nil))))))), ?_⟩)
  show _
  try simp only [cxK, cxK2]
  obtain ⟨a, b, rfl, l, hl, C, se, dx, q, dxq, nl, pos, L, rest, S, rfl, rfl, hS, se0, q0, hd, k⟩ := h
  rw [step_min] at k
  rw [flatA1] at hd
  refine q_set (t_meth (val_var rfl) (hS _ _ _ q0.1) cL_take_row va_nil ⟨_, rfl, C, q, dxq, nl, pos, L, l, rest, rfl, hS, q0, hd, fun C1 H1 p1 S1 K1 q1 d1 hp1 => ?_⟩)
  have se1 := se0.keepP K1 fun _ => no10'
  refine q_set (t_call (va_cons (val_var rfl) va_nil) ⟨_, rfl, p1, l, rfl, S1 _ _ _ hp1, by omega, fun H2 s2 => ?_⟩)
  refine s_retN (xs := ivs (minI l)) ?g fun H3 p3 s3 n3 e3 => k.pure S1 (K1.mono fun _ => no10) se1 q1 d1 (s2.trans s3) (Same.none s2 n3) e3
  case g =>
    unfold minI
    refine gn_if (b := decide (bytesR l ≠ 0)) (vt_truth (val_var rfl) tru_int) (fun e => ?_) (fun e => ?_)
    · rw [if_pos (of_decide_eq_true e)]; exact gn_lst (va_cons (val_var rfl) va_nil) (by show 1 ≤ 1000; decide)
    · rw [if_neg (of_decide_eq_false e), ivs_enc]
      exact gn_call (va_cons (val_var rfl) va_nil) fun Q h => ⟨_, rfl, p1, natsI l, rfl, txt_of (by simpa using e) (s2 _ _ (S1 _ _ _ hp1)), h⟩
def spSavC (K : PySem.W.Frag) : Sp := Sp2 fun a b H Q => ∃ l, l.length ≤ 10000 ∧ CallB K [[4], l] a b H Q
theorem ok_saved_call (T : Tx K mg) : FnOk P w K mg base CX0 12 (He.fAd K ("saved_call", none)) (fdA K ("saved_call", none)) ["session", "cursor"] (spSavC K) := by
  refine (F_saved_call T).ok sc_saved_call (fun vs H Q E h => Sp2.len h) (fun cdv A outer s H vs Q E hr h => ⟨_, PSs.nox (pss_cons (ps_set (i := 2) sc_saved_call.nd rfl (Or.inl rfl) (pe_meth0 (pv 1) (c_Cursor T) (m_Cursor_take_row T) (ok_Cursor_take_row T) (hr.mono (by decide)) (B_Cursor_take_row T) .nil pass0)) (pss_cons (ps_set (i := 3) sc_saved_call.nd rfl (Or.inl rfl) (pe_call (ok_bytes_refusal T) (hr.mono (by decide)) rfl (g_bytes_refusal T) (F_bytes_refusal T).kp (B_bytes_refusal T) .nil pass0 (pa_cons (pv 2) pa_nil))) (pss_one (ps_ret (pe_ifExp (pt_truth (pv 3) (by intro _; rfl)) (pe_lst (pa_cons (pv 3) pa_nil)) (pe_call (ok_saved_answer T) (hr.mono (by decide)) rfl (g_saved_answer T) (F_saved_answer T).kp (B_saved_answer T) .nil pass0 (pa_cons (pv 2) pa_nil))))))), ?_⟩)
  show _
  try simp only [cxK, cxK2]
  obtain ⟨a, b, rfl, l, hl, C, se, dx, q, dxq, nl, pos, L, rest, S, rfl, rfl, hS, se0, q0, hd, k⟩ := h
  rw [step_saved] at k
  rw [flatA1] at hd
  refine q_set (t_meth (val_var rfl) (hS _ _ _ q0.1) cL_take_row va_nil ⟨_, rfl, C, q, dxq, nl, pos, L, l, rest, rfl, hS, q0, hd, fun C1 H1 p1 S1 K1 q1 d1 hp1 => ?_⟩)
  have se1 := se0.keepP K1 fun _ => no10'
  refine q_set (t_call (va_cons (val_var rfl) va_nil) ⟨_, rfl, p1, l, rfl, S1 _ _ _ hp1, by omega, fun H2 s2 => ?_⟩)
  refine s_retN (xs := ivs (savI l)) ?g fun H3 p3 s3 n3 e3 => k.pure S1 (K1.mono fun _ => no10) se1 q1 d1 (s2.trans s3) (Same.none s2 n3) e3
  case g =>
    unfold savI
    refine gn_if (b := decide (bytesR l ≠ 0)) (vt_truth (val_var rfl) tru_int) (fun e => ?_) (fun e => ?_)
    · rw [if_pos (of_decide_eq_true e)]; exact gn_lst (va_cons (val_var rfl) va_nil) (by show 1 ≤ 1000; decide)
    · rw [if_neg (of_decide_eq_false e)]
      exact gn_call (va_cons (val_var rfl) va_nil) fun Q h => ⟨_, rfl, p1, natsI l, rfl, txt_of (by simpa using e) (s2 _ _ (S1 _ _ _ hp1)), h⟩
def spTokC (K : PySem.W.Frag) : Sp := Sp2 fun a b H Q => ∃ l, l.length ≤ 10000 ∧ CallB K [[8], l] a b H Q
theorem ok_tokens_call (T : Tx K mg) : FnOk P w K mg base CX0 12 (He.fAd K ("tokens_call", none)) (fdA K ("tokens_call", none)) ["session", "cursor"] (spTokC K) := by
  refine (F_tokens_call T).ok sc_tokens_call (fun vs H Q E h => Sp2.len h) (fun cdv A outer s H vs Q E hr h => ⟨_, PSs.nox (pss_cons (ps_set (i := 2) sc_tokens_call.nd rfl (Or.inl rfl) (pe_meth0 (pv 1) (c_Cursor T) (m_Cursor_take_row T) (ok_Cursor_take_row T) (hr.mono (by decide)) (B_Cursor_take_row T) .nil pass0)) (pss_cons (ps_set (i := 3) sc_tokens_call.nd rfl (Or.inl rfl) (pe_call (ok_bytes_refusal T) (hr.mono (by decide)) rfl (g_bytes_refusal T) (F_bytes_refusal T).kp (B_bytes_refusal T) .nil pass0 (pa_cons (pv 2) pa_nil))) (pss_one (ps_ret (pe_ifExp (pt_truth (pv 3) (by intro _; rfl)) (pe_lst (pa_cons (pv 3) pa_nil)) (pe_call (ok_tokens_answer T) (hr.mono (by decide)) rfl (g_tokens_answer T) (F_tokens_answer T).kp (B_tokens_answer T) .nil pass0 (pa_cons (pv 2) pa_nil))))))), ?_⟩)
  show _
  try simp only [cxK, cxK2]
  obtain ⟨a, b, rfl, l, hl, C, se, dx, q, dxq, nl, pos, L, rest, S, rfl, rfl, hS, se0, q0, hd, k⟩ := h
  rw [step_tokens] at k
  rw [flatA1] at hd
  refine q_set (t_meth (val_var rfl) (hS _ _ _ q0.1) cL_take_row va_nil ⟨_, rfl, C, q, dxq, nl, pos, L, l, rest, rfl, hS, q0, hd, fun C1 H1 p1 S1 K1 q1 d1 hp1 => ?_⟩)
  have se1 := se0.keepP K1 fun _ => no10'
  refine q_set (t_call (va_cons (val_var rfl) va_nil) ⟨_, rfl, p1, l, rfl, S1 _ _ _ hp1, by omega, fun H2 s2 => ?_⟩)
  refine s_retN (xs := ivs (tokI l)) ?g fun H3 p3 s3 n3 e3 => k.pure S1 (K1.mono fun _ => no10) se1 q1 d1 (s2.trans s3) (Same.none s2 n3) e3
  case g =>
    unfold tokI
    refine gn_if (b := decide (bytesR l ≠ 0)) (vt_truth (val_var rfl) tru_int) (fun e => ?_) (fun e => ?_)
    · rw [if_pos (of_decide_eq_true e)]; exact gn_lst (va_cons (val_var rfl) va_nil) (by show 1 ≤ 1000; decide)
    · rw [if_neg (of_decide_eq_false e), ivs_enc]
      exact gn_call (va_cons (val_var rfl) va_nil) fun Q h => ⟨_, rfl, p1, natsI l, rfl, txt_of (by simpa using e) (s2 _ _ (S1 _ _ _ hp1)), h⟩
/-- a or b, ints -/
def orI (a b : Int) : Int := if a ≠ 0 then a else b
theorem t_or {σ : L2.St} {H : Hp} {ta tb : TE} {Q : VK} {x : Int} (ha : ∀ Q : VK, (∀ H', Same H H' → Q (.int x) H') → ta σ H Q) (h : ∀ H1, Same H H1 → (x ≠ 0 → Q (.int x) H1) ∧ (x = 0 → tb σ H1 Q)) : tOrT K ta tb σ H Q := ha _ fun H1 s1 => ⟨_, tru_int, by
  by_cases e : x = 0
  · rw [if_neg (by simpa using e)]; exact (h H1 s1).2 e
  · rw [if_pos (by simpa using e)]; exact (h H1 s1).1 e⟩
def spLayC (K : PySem.W.Frag) : Sp := Sp2 fun a b H Q => ∃ w l, l.length ≤ 10000 ∧ CallB K [[5, w], l] a b H Q
theorem ok_laid_call (T : Tx K mg) : FnOk P w K mg base CX0 12 (He.fAd K ("laid_call", none)) (fdA K ("laid_call", none)) ["session", "cursor"] (spLayC K) := by
  refine (F_laid_call T).ok sc_laid_call (fun vs H Q E h => Sp2.len h) (fun cdv A outer s H vs Q E hr h => ⟨_, PSs.nox (pss_cons (ps_set (i := 2) sc_laid_call.nd rfl (Or.inl rfl) (pe_meth0 (pv 1) (c_Cursor T) (m_Cursor_take_number T) (ok_Cursor_take_number T) (hr.mono (by decide)) (B_Cursor_take_number T) .nil pass0)) (pss_cons (ps_set (i := 3) sc_laid_call.nd rfl (Or.inl rfl) (pe_meth0 (pv 1) (c_Cursor T) (m_Cursor_take_row T) (ok_Cursor_take_row T) (hr.mono (by decide)) (B_Cursor_take_row T) .nil pass0)) (pss_cons (ps_set (i := 4) sc_laid_call.nd rfl (Or.inl rfl) (pe_orT (pe_call (ok_width_refusal T) (hr.mono (by decide)) rfl (g_width_refusal T) (F_width_refusal T).kp (B_width_refusal T) .nil pass0 (pa_cons (pv 2) pa_nil)) (pe_one (pe_call (ok_bytes_refusal T) (hr.mono (by decide)) rfl (g_bytes_refusal T) (F_bytes_refusal T).kp (B_bytes_refusal T) .nil pass0 (pa_cons (pv 3) pa_nil))))) (pss_one (ps_ret (pe_ifExp (pt_truth (pv 4) (by intro _; rfl)) (pe_lst (pa_cons (pv 4) pa_nil)) (pe_call (ok_laid_answer T) (hr.mono (by decide)) rfl (g_laid_answer T) (F_laid_answer T).kp (B_laid_answer T) .nil pass0 (pa_cons (pv 2) (pa_cons (pv 3) pa_nil))))))))), ?_⟩)
  show _
  try simp only [cxK, cxK2]
  obtain ⟨a, b, rfl, w, l, hl, C, se, dx, q, dxq, nl, pos, L, rest, S, rfl, rfl, hS, se0, q0, hd, k⟩ := h
  rw [step_laid] at k
  rw [flatA2] at hd
  obtain ⟨hw, hd1⟩ := drop_at hd
  refine q_set (t_meth (val_var rfl) (hS _ _ _ q0.1) cL_take_number va_nil ⟨_, rfl, C, q, dxq, nl, pos, L, w, rfl, hS, q0, hw, fun H0 S0 => ?_⟩)
  have K0 : Kp (noK 10) C (cu C q 10 (.ins (cC K) dxq (cF nl (pos + 1)))) := Kp.mut q0.1 noK_self
  have q00 : CuAt K (cu C q 10 (.ins (cC K) dxq (cF nl (pos + 1)))) q dxq nl (pos + 1) L := ⟨cu_same, sqm q0.2 (K0.fz ok0)⟩
  refine q_set (t_meth (val_var rfl) (S0 _ _ _ q00.1) cL_take_row va_nil ⟨_, rfl, _, q, dxq, nl, pos + 1, L, l, rest, rfl, S0, q00, hd1, fun C1 H1 p1 S1 K1 q1 d1 hp1 => ?_⟩)
  have K01 := K0.trans K1
  have se1 := se0.keepP K01 fun _ => no10'
  obtain ⟨x, ex⟩ : ∃ x : Int, x = if w < 0 then -5 else 0 := ⟨_, rfl⟩
  have go : ∀ H2, Same H1 H2 → tRet (tIf (fun σ H Q => tVar 4 σ H fun x H' => ∃ k, TruV K x H' k ∧ Q k H') (tLst (tCons (tVar 4) tNil)) (tCall spLaidA [] E0 (tCons (tVar 2) (tCons (tVar 3) tNil)))) { nx := fun _ H' => Q .non H', rt := Q } [some (.ref se), some (.ref q), some (.int w), some (.ref p1), some (.int (orI x (bytesR l)))] H2 := fun H2 s2 => by
    refine s_retN (xs := ivs (layI w l)) ?g fun H3 p3 s3 n3 e3 => k.pure S1 (K01.mono fun _ => no10) se1 q1 d1 (s2.trans s3) (Same.none s2 n3) e3
    case g =>
      unfold layI
      refine gn_if (b := decide (orI x (bytesR l) ≠ 0)) (vt_truth (val_var rfl) tru_int) (fun e => ?_) (fun e => ?_)
      · by_cases hw : w < 0
        · rw [if_pos hw]
          have eo : orI x (bytesR l) = -5 := by rw [ex, if_pos hw] <;> rfl
          rw [eo]
          exact gn_lst (va_cons (val_var rfl) va_nil) (by show 1 ≤ 1000; decide)
        · have eo : orI x (bytesR l) = bytesR l := by rw [ex, if_neg hw] <;> rfl
          rw [eo] at e ⊢
          rw [if_neg hw, if_pos (of_decide_eq_true e)]
          exact gn_lst (va_cons (val_var rfl) va_nil) (by show 1 ≤ 1000; decide)
      · have hw : ¬ w < 0 := fun hw => by
          have eo : orI x (bytesR l) = -5 := by rw [ex, if_pos hw] <;> rfl
          rw [eo] at e
          exact absurd e (by decide)
        have eo : orI x (bytesR l) = bytesR l := by rw [ex, if_neg hw] <;> rfl
        rw [eo] at e ⊢
        rw [if_neg hw, if_neg (of_decide_eq_false e), ivs_enc]
        exact gn_call (va_cons (val_var rfl) (va_cons (val_var rfl) va_nil)) fun Q h => ⟨_, _, rfl, w, p1, natsI l, rfl, rfl, by omega, txt_of (by simpa using e) (s2 _ _ (S1 _ _ _ hp1)), h⟩
  refine q_set (t_or (x := x) (fun Q h => t_call (va_cons (val_var rfl) va_nil) ⟨_, rfl, w, rfl, by rw [← ex]; exact h H1 Same.rfl'⟩) fun H2 s2 => ⟨fun hx => ?_, fun hx => ?_⟩)
  · have eo : orI x (bytesR l) = x := if_pos hx
    have g := go H2 s2
    rw [eo] at g
    exact g
  · refine t_call (va_cons (val_var rfl) va_nil) ⟨_, rfl, p1, l, rfl, s2 _ _ (S1 _ _ _ hp1), by omega, fun H3 s3 => ?_⟩
    have eo : orI x (bytesR l) = bytesR l := by
      unfold orI
      rw [hx]; rfl
    have g := go H3 (s2.trans s3)
    rw [eo] at g
    exact g

end Sm

set_option Elab.async false
set_option linter.all false
set_option maxRecDepth 100000
set_option maxHeartbeats 0
namespace Sm
open PySem PySem.Spec PyProof.Rows L2
variable {P : Program} {w : World} {K : PySem.W.Frag} {mg : Str → Option Value} {base : Heap}
theorem gn_call1 {σ : L2.St} {H : Hp} {te : TE} {sp : Sp} {E : XK} {xs ys : List V} (g : GL te σ H ys) (h : ∀ (H' : Hp) (p : Addr) (Q : VK), Same H H' → H' p = some (.lst ys) → NewL H' Q xs → sp [.ref p] H' Q E) : GN (tCall sp [] E (tCons te tNil)) σ H xs := fun Q q =>
  t_call1 (g _ fun H1 p s1 e1 => h H1 p Q s1 e1 fun H2 w s2 n2 e2 => q H2 w (s1.trans s2) (Same.none s1 n2) e2)
def spSamC (K : PySem.W.Frag) : Sp := Sp2 fun a b H Q => ∃ l l2, l.length ≤ 10000 ∧ l2.length ≤ 10000 ∧ CallB K [[6], l, l2] a b H Q
theorem ok_same_call (T : Tx K mg) : FnOk P w K mg base CX0 12 (He.fAd K ("same_call", none)) (fdA K ("same_call", none)) ["session", "cursor"] (spSamC K) := by
  refine (F_same_call T).ok sc_same_call (fun vs H Q E h => Sp2.len h) (fun cdv A outer s H vs Q E hr h => ⟨_, PSs.nox (pss_cons (ps_set (i := 2) sc_same_call.nd rfl (Or.inl rfl) (pe_meth0 (pv 1) (c_Cursor T) (m_Cursor_take_row T) (ok_Cursor_take_row T) (hr.mono (by decide)) (B_Cursor_take_row T) .nil pass0)) (pss_cons (ps_set (i := 3) sc_same_call.nd rfl (Or.inl rfl) (pe_meth0 (pv 1) (c_Cursor T) (m_Cursor_take_row T) (ok_Cursor_take_row T) (hr.mono (by decide)) (B_Cursor_take_row T) .nil pass0)) (pss_cons (ps_set (i := 4) sc_same_call.nd rfl (Or.inl rfl) (pe_orT (pe_call (ok_bytes_refusal T) (hr.mono (by decide)) rfl (g_bytes_refusal T) (F_bytes_refusal T).kp (B_bytes_refusal T) .nil pass0 (pa_cons (pv 2) pa_nil)) (pe_one (pe_call (ok_bytes_refusal T) (hr.mono (by decide)) rfl (g_bytes_refusal T) (F_bytes_refusal T).kp (B_bytes_refusal T) .nil pass0 (pa_cons (pv 3) pa_nil))))) (pss_one (ps_ret (pe_ifExp (pt_truth (pv 4) (by intro _; rfl)) (pe_lst (pa_cons (pv 4) pa_nil)) (pe_call (ok_same_answer T) (hr.mono (by decide)) rfl (g_same_answer T) (F_same_answer T).kp (B_same_answer T) .nil pass0 (pa_cons (pv 2) (pa_cons (pv 3) pa_nil))))))))), ?_⟩)
  show _
  try simp only [cxK, cxK2]
  obtain ⟨a, b, rfl, l, l2, hl, hl2, C, se, dx, q, dxq, nl, pos, L, rest, S, rfl, rfl, hS, se0, q0, hd, k⟩ := h
  rw [step_same] at k
  rw [flatA3] at hd
  refine q_set (t_meth (val_var rfl) (hS _ _ _ q0.1) cL_take_row va_nil ⟨_, rfl, C, q, dxq, nl, pos, L, l, _, rfl, hS, q0, hd, fun C0 H0 p0 S0 K0 q00 d0 hp0 => ?_⟩)
  refine q_set (t_meth (val_var rfl) (S0 _ _ _ q00.1) cL_take_row va_nil ⟨_, rfl, C0, q, dxq, nl, _, L, l2, rest, rfl, S0, q00, d0, fun C1 H1 p1 S1 K1 q1 d1 hp1 => ?_⟩)
  have K01 := K0.trans K1
  have hp0' := K1 _ _ _ hp0 ok0
  have se1 := se0.keepP K01 fun _ => no10'
  have go : ∀ H2, Same H1 H2 → tRet (tIf (fun σ H Q => tVar 4 σ H fun x H' => ∃ k, TruV K x H' k ∧ Q k H') (tLst (tCons (tVar 4) tNil)) (tCall spSame [] E0 (tCons (tVar 2) (tCons (tVar 3) tNil)))) { nx := fun _ H' => Q .non H', rt := Q } [some (.ref se), some (.ref q), some (.ref p0), some (.ref p1), some (.int (orI (bytesR l) (bytesR l2)))] H2 := fun H2 s2 => by
    refine s_retN (xs := ivs (samI l l2)) ?g fun H3 p3 s3 n3 e3 => k.pure S1 (K01.mono fun _ => no10) se1 q1 d1 (s2.trans s3) (Same.none s2 n3) e3
    case g =>
      unfold samI orI
      by_cases h1 : bytesR l = 0
      · rw [if_neg (show ¬ bytesR l ≠ 0 from fun z => z h1), if_neg (show ¬ bytesR l ≠ 0 from fun z => z h1)]
        refine gn_if (b := decide (bytesR l2 ≠ 0)) (vt_truth (val_var rfl) tru_int) (fun e => ?_) (fun e => ?_)
        · rw [if_pos (of_decide_eq_true e)]
          exact gn_lst (va_cons (val_var rfl) va_nil) (by show 1 ≤ 1000; decide)
        · rw [if_neg (of_decide_eq_false e), ivs_enc]
          exact gn_call (va_cons (val_var rfl) (va_cons (val_var rfl) va_nil)) fun Q h => ⟨_, _, rfl, p0, p1, natsI l, natsI l2, rfl, rfl, txt_of h1 (s2 _ _ (S1 _ _ _ hp0')), txt_of (by simpa using e) (s2 _ _ (S1 _ _ _ hp1)), h⟩
      · rw [if_pos (show bytesR l ≠ 0 from h1), if_pos (show bytesR l ≠ 0 from h1)]
        refine gn_if (b := decide (bytesR l ≠ 0)) (vt_truth (val_var rfl) tru_int) (fun e => ?_) (fun e => ?_)
        · exact gn_lst (va_cons (val_var rfl) va_nil) (by show 1 ≤ 1000; decide)
        · exact absurd h1 (of_decide_eq_false e)
  refine q_set (t_or (x := bytesR l) (fun Q h => t_call (va_cons (val_var rfl) va_nil) ⟨_, rfl, p0, l, rfl, S1 _ _ _ hp0', by omega, h⟩) fun H2 s2 => ⟨fun hx => ?_, fun hx => ?_⟩)
  · have eo : orI (bytesR l) (bytesR l2) = bytesR l := if_pos hx
    have g := go H2 s2
    rw [eo] at g
    exact g
  · refine t_call (va_cons (val_var rfl) va_nil) ⟨_, rfl, p1, l2, rfl, s2 _ _ (S1 _ _ _ hp1), by omega, fun H3 s3 => ?_⟩
    have eo : orI (bytesR l) (bytesR l2) = bytesR l2 := if_neg (fun z => z hx)
    have g := go H3 (s2.trans s3)
    rw [eo] at g
    exact g
def spValC (K : PySem.W.Frag) : Sp := Sp2 fun a b H Q => ∃ t l, l.length ≤ 10000 ∧ CallB K [[7, t], l] a b H Q
theorem ok_value_call (T : Tx K mg) : FnOk P w K mg base CX0 6 (He.fAd K ("value_call", none)) (fdA K ("value_call", none)) ["session", "cursor"] (spValC K) := by
  refine (F_value_call T).ok sc_value_call (fun vs H Q E h => Sp2.len h) (fun cdv A outer s H vs Q E hr h => ⟨_, PSs.nox (pss_cons (ps_set (i := 2) sc_value_call.nd rfl (Or.inl rfl) (pe_meth0 (pv 1) (c_Cursor T) (m_Cursor_take_number T) (ok_Cursor_take_number T) (hr.mono (by decide)) (B_Cursor_take_number T) .nil pass0)) (pss_cons (ps_set (i := 3) sc_value_call.nd rfl (Or.inl rfl) (pe_meth0 (pv 1) (c_Cursor T) (m_Cursor_take_row T) (ok_Cursor_take_row T) (hr.mono (by decide)) (B_Cursor_take_row T) .nil pass0)) (pss_cons (ps_set (i := 4) sc_value_call.nd rfl (Or.inl rfl) (pe_orT (pe_call (ok_tight_refusal T) (hr.mono (by decide)) rfl (g_tight_refusal T) (F_tight_refusal T).kp (B_tight_refusal T) .nil pass0 (pa_cons (pv 2) pa_nil)) (pe_one (pe_call (ok_bytes_refusal T) (hr.mono (by decide)) rfl (g_bytes_refusal T) (F_bytes_refusal T).kp (B_bytes_refusal T) .nil pass0 (pa_cons (pv 3) pa_nil))))) (pss_one (ps_ret (pe_ifExp (pt_truth (pv 4) (by intro _; rfl)) (pe_lst (pa_cons (pv 4) pa_nil)) (pe_call (ok_counted T) (hr.mono (by decide)) rfl (g_counted T) (F_counted T).kp (B_counted T) .nil pass0 (pa_cons (pe_call (ok_cheapest_form T) (hr.mono (by decide)) rfl (g_cheapest_form T) (F_cheapest_form T).kp (B_cheapest_form T) .nil pass0 (pa_cons (pv 3) (pa_cons (pv 2) pa_nil))) pa_nil)))))))), ?_⟩)
  show _
  try simp only [cxK, cxK2]
  obtain ⟨a, b, rfl, t, l, hl, C, se, dx, q, dxq, nl, pos, L, rest, S, rfl, rfl, hS, se0, q0, hd, k⟩ := h
  rw [step_value] at k
  rw [flatA2] at hd
  obtain ⟨hw, hd1⟩ := drop_at hd
  refine q_set (t_meth (val_var rfl) (hS _ _ _ q0.1) cL_take_number va_nil ⟨_, rfl, C, q, dxq, nl, pos, L, t, rfl, hS, q0, hw, fun H0 S0 => ?_⟩)
  have K0 : Kp (noK 10) C (cu C q 10 (.ins (cC K) dxq (cF nl (pos + 1)))) := Kp.mut q0.1 noK_self
  have q00 : CuAt K (cu C q 10 (.ins (cC K) dxq (cF nl (pos + 1)))) q dxq nl (pos + 1) L := ⟨cu_same, sqm q0.2 (K0.fz ok0)⟩
  refine q_set (t_meth (val_var rfl) (S0 _ _ _ q00.1) cL_take_row va_nil ⟨_, rfl, _, q, dxq, nl, pos + 1, L, l, rest, rfl, S0, q00, hd1, fun C1 H1 p1 S1 K1 q1 d1 hp1 => ?_⟩)
  have K01 := K0.trans K1
  have se1 := se0.keepP K01 fun _ => no10'
  obtain ⟨x, ex⟩ : ∃ x : Int, x = if t < 0 ∨ 1 < t then -5 else 0 := ⟨_, rfl⟩
  have go : ∀ H2, Same H1 H2 → tRet (tIf (fun σ H Q => tVar 4 σ H fun x H' => ∃ k, TruV K x H' k ∧ Q k H') (tLst (tCons (tVar 4) tNil)) (tCall spCounted [] E0 (tCons (tCall (spCheap K) [] E0 (tCons (tVar 3) (tCons (tVar 2) tNil))) tNil))) { nx := fun _ H' => Q .non H', rt := Q } [some (.ref se), some (.ref q), some (.int t), some (.ref p1), some (.int (orI x (bytesR l)))] H2 := fun H2 s2 => by
    refine s_retN (xs := ivs (valI t l)) ?g fun H3 p3 s3 n3 e3 => k.pure S1 (K01.mono fun _ => no10) se1 q1 d1 (s2.trans s3) (Same.none s2 n3) e3
    case g =>
      unfold valI
      refine gn_if (b := decide (orI x (bytesR l) ≠ 0)) (vt_truth (val_var rfl) tru_int) (fun e => ?_) (fun e => ?_)
      · by_cases hw : t < 0 ∨ 1 < t
        · rw [if_pos hw]
          have eo : orI x (bytesR l) = -5 := by rw [ex, if_pos hw] <;> rfl
          rw [eo]
          exact gn_lst (va_cons (val_var rfl) va_nil) (by show 1 ≤ 1000; decide)
        · have eo : orI x (bytesR l) = bytesR l := by rw [ex, if_neg hw] <;> rfl
          rw [eo] at e ⊢
          rw [if_neg hw, if_pos (of_decide_eq_true e)]
          exact gn_lst (va_cons (val_var rfl) va_nil) (by show 1 ≤ 1000; decide)
      · have hw : ¬ (t < 0 ∨ 1 < t) := fun hw => by
          have eo : orI x (bytesR l) = -5 := by rw [ex, if_pos hw] <;> rfl
          rw [eo] at e
          exact absurd e (by decide)
        have eo : orI x (bytesR l) = bytesR l := by rw [ex, if_neg hw] <;> rfl
        rw [eo] at e ⊢
        rw [if_neg hw, if_neg (of_decide_eq_false e), ivs_enc]
        obtain ⟨t1, t2, t3⟩ := txt_of (by simpa using e) (s2 _ _ (S1 _ _ _ hp1))
        have tru : ∀ H, TruV K (.int t) H (t == 1) := fun H => by
          show (t == 1) = (t != 0)
          rcases (show t = 0 ∨ t = 1 by omega) with rfl | rfl <;> rfl
        have zl := shortValue_le (tb := (t == 1)) t3 t2
        exact gn_call1 (ys := nts (Vaescn.shortValue (t == 1) (natsI l))) (gl_call (va_cons (val_var rfl) (va_cons (val_var rfl) va_nil)) fun Q h => ⟨_, _, rfl, p1, natsI l, (t == 1), rfl, tru, t1, t3, t2, h⟩) fun H' p Q s e h => ⟨_, rfl, p, _, rfl, e, by omega, h⟩
  refine q_set (t_or (x := x) (fun Q h => t_call (va_cons (val_var rfl) va_nil) ⟨_, rfl, t, rfl, by rw [← ex]; exact h⟩) fun H2 s2 => ⟨fun hx => ?_, fun hx => ?_⟩)
  · have eo : orI x (bytesR l) = x := if_pos hx
    have g := go H2 s2
    rw [eo] at g
    exact g
  · refine t_call (va_cons (val_var rfl) va_nil) ⟨_, rfl, p1, l, rfl, s2 _ _ (S1 _ _ _ hp1), by omega, fun H3 s3 => ?_⟩
    have eo : orI x (bytesR l) = bytesR l := by
      unfold orI
      rw [hx]; rfl
    have g := go H3 (s2.trans s3)
    rw [eo] at g
    exact g
/-! the session's own -/
theorem cl_mono {P : Nat → Prop} {C C' : CHp} (h : Kp P C C') (h0 : P 0) (h11 : P 11) : Kp clK C C' := h.mono fun k q => by
  rcases q with q | q
  · rw [q]; exact h0
  · rw [q]; exact h11
theorem Live.new {A : Adr} (h1 : A.tc = 3) (h2 : A.rc = 7) : Live A M.new := ⟨h2, .inl h1, WF.new, by decide, BY.new, by decide⟩
def spBegC (K : PySem.W.Frag) : Sp := Sp2 fun a b H Q => CallB K [[0]] a b H Q
theorem ok_begin_call (T : Tx K mg) : FnOk P w K mg base CX0 4 (He.fAd K ("begin_call", none)) (fdA K ("begin_call", none)) ["session", "cursor"] (spBegC K) := by
  refine (F_begin_call T).ok sc_begin_call (fun vs H Q E h => Sp2.len h) (fun cdv A outer s H vs Q E hr h => ⟨_, PSs.nox (pss_cons (ps_expr (pe_meth0 (pv 0) (c_Session T) (m_Session_begin T) (ok_Session_begin T) (hr.mono (by decide)) (B_Session_begin T) .nil pass0)) (pss_one (ps_ret (pe_lst (pa_cons pe_int pa_nil))))), ?_⟩)
  show _
  try simp only [cxK, cxK2]
  obtain ⟨a, b, rfl, C, se, dx, q, dxq, nl, pos, L, rest, S, rfl, rfl, hS, ⟨r, j, dxj, A, m, hv, held, n, s0, _⟩, q0, hd, k⟩ := h
  rw [step_begin] at k
  have hd' : L.drop pos = rest := hd
  refine q_drop (t_meth (val_var rfl) (hS _ _ _ s0.o) sL_begin va_nil ⟨_, rfl, C, se, dx, _, rfl, hS, s0.o, .inr ⟨r, j, n, rfl⟩, fun C1 H1 r1 j1 dx1 A1 S1 K1 o1 R1 e1 e2 J1 => ?_⟩)
  have se1 : SessRel K C1 se dx Vaescn.start := ⟨r1, j1, dx1, A1, M.new, .non, none, 0, ⟨o1, R1, J1, rfl⟩, .inl ⟨Live.new e1 e2, rfl, rfl, SL.new⟩⟩
  exact s_retN (gn_lst (vs := ivs [0]) (va_cons val_c va_nil) (by show 1 ≤ 1000; decide)) fun H2 p s2 n2 e2 => k.pure S1 (cl_mono K1 ⟨by decide, by decide⟩ ⟨by decide, by decide⟩) se1 (q0.keepP K1 ⟨by decide, by decide⟩ ⟨by decide, by decide⟩) hd' s2 n2 e2

end Sm

set_option Elab.async false
set_option linter.all false
set_option maxRecDepth 100000
set_option maxHeartbeats 0
namespace Sm
open PySem PySem.Spec PyProof.Rows L2
variable {P : Program} {w : World} {K : PySem.W.Frag} {mg : Str → Option Value} {base : Heap}
theorem end_len {A : Adr} {m : M} (lv : Live A m) : ((endTk m).flatMap sTok).length ≤ 16384 := by
  obtain ⟨ts, ets⟩ := (PX.self m).fin
  obtain ⟨f1, f2, f3⟩ := fresh_ok ets
  obtain ⟨tb, hct⟩ := fin_tb (lv.wf.tb (Nat.le_succ_of_le lv.md)) (.inr ⟨lv.wf, lv.md⟩)
  have ct := lv.ct
  obtain ⟨k1, k2⟩ := fresh_sk ets tb lv.by'.fin (by omega)
  have el : endTk m = (settle (settle none m.toks).2 ts).1 ++ oneList (settle (settle none m.toks).2 ts).2 := by
    unfold endTk newTk
    rw [f1, f2]
    rfl
  rw [el]
  exact k2
theorem new_len {A : Adr} {m : M} {xs : NL} (lv : Live A m) (hx : ∀ c ∈ xs, c < 256) (hn : m.count + xs.length ≤ 16384) : ((newTk m (m.read xs)).flatMap sTok).length ≤ 16384 := by
  obtain ⟨ts, ets⟩ := (PX.self m).read (l := xs)
  obtain ⟨f1, f2, f3⟩ := fresh_ok ets
  obtain ⟨tb, hct⟩ := read_tb xs m lv.wf lv.md hx
  obtain ⟨k1, k2⟩ := fresh_sk ets tb (lv.by'.read hx) (by omega)
  have el : newTk m (m.read xs) = (settle (settle none m.toks).2 ts).1 := by
    unfold newTk
    rw [f1]
    rfl
  rw [el]
  rw [List.flatMap_append, List.length_append] at k2
  omega
theorem g_over {σ : L2.St} {H : Hp} {ta : TE} {C : CHp} {se dx r j dxj : Addr} {A : Adr} {m : M} {hv : V} {held : Option Tk} {n : Nat} (hS : Sub C H) (s0 : SeAt K C se dx r j dxj A m hv held n) (ha : Val ta σ H (.ref se)) : GT' (tB (tMeth (cS K) "is_over" (spOver K) [] E0 ta tNil)) σ H (decide (m.mode = 25 ∨ m.mode = 26)) := fun Q q => by
  unfold tB
  exact t_meth ha (hS _ _ _ s0.o) sL_is_over va_nil ⟨_, rfl, C, se, dx, r, j, dxj, A, m, hv, held, n, rfl, hS, s0, fun H' s => ⟨_, rfl, q H' s⟩⟩
def spEndC (K : PySem.W.Frag) : Sp := Sp2 fun a b H Q => CallB K [[2]] a b H Q
theorem ok_end_call (T : Tx K mg) : FnOk P w K mg base CX0 11 (He.fAd K ("end_call", none)) (fdA K ("end_call", none)) ["session", "cursor"] (spEndC K) := by
  refine (F_end_call T).ok sc_end_call (fun vs H Q E h => Sp2.len h) (fun cdv A outer s H vs Q E hr h => ⟨_, PSs.nox (pss_cons (ps_if (pt_val (pe_meth0 (pv 0) (c_Session T) (m_Session_is_over T) (ok_Session_is_over T) (hr.mono (by decide)) (B_Session_is_over T) .nil pass0)) (pss_one (ps_ret (pe_lst (pa_cons (pe_gi rfl (i_TEXT_IS_OVER T)) pa_nil)))) pss_nil) (pss_cons (ps_set (i := 2) sc_end_call.nd rfl (Or.inl rfl) (pe_meth0 (pv 0) (c_Session T) (m_Session_end T) (ok_Session_end T) (hr.mono (by decide)) (B_Session_end T) .nil pass0)) (pss_one (ps_ret (pe_call (ok_read_answer T) (hr.mono (by decide)) rfl (g_read_answer T) (F_read_answer T).kp (B_read_answer T) .nil pass0 (pa_cons (pe_fld (pv 0) rfl) (pa_cons (pv 2) pa_nil))))))), ?_⟩)
  show _
  try simp only [cxK, cxK2]
  obtain ⟨a, b, rfl, C, se, dx, q, dxq, nl, pos, L, rest, S, rfl, rfl, hS, ⟨r, j, dxj, A, m, hv, held, n, s0, hcase⟩, q0, hd, k⟩ := h
  have hd' : L.drop pos = rest := hd
  refine qg_if (g_over hS s0 (val_var rfl)) (fun e H1 s1 => ?_) (fun e H1 s1 => ?_)
  · have e' := of_decide_eq_true e
    have ov : Over S := by
      rcases hcase with ⟨lv, _⟩ | ⟨_, o⟩
      · have := lv.md; omega
      · exact o
    rw [end_over ov] at k
    have se0 : SessRel K C se dx S := ⟨r, j, dxj, A, m, hv, held, n, s0, hcase⟩
    exact s_retN (gn_lst (vs := ivs [-4]) (va_cons val_c va_nil) (by show 1 ≤ 1000; decide)) fun H2 p s2 n2 e2 => k.pure (hS.same s1) (Kp.refl C) se0 q0 hd' s2 n2 e2
  · have e' := of_decide_eq_false e
    obtain ⟨lv, rfl, rfl, sl⟩ : Live A m ∧ held = heldOf m ∧ n = m.toks.length ∧ SL m S := hcase.resolve_right fun z => e' z.1
    obtain ⟨ans, ov⟩ := end_live sl lv.wf
    rw [ans] at k
    have S1 := hS.same s1
    refine q_set (t_meth (val_var rfl) (S1 _ _ _ s0.o) sL_end va_nil ⟨_, rfl, C, se, dx, r, j, dxj, A, m, hv, rfl, S1, s0, lv, fun C2 H2 A2 p S2 K2 s2 hp => ?_⟩)
    have se2 : SessRel K C2 se dx (VaescnNeutral.step S [[2]]).1 := ⟨r, j, dxj, A2, m.fin, .non, none, _, s2, .inr ⟨fin_mode lv.md, ov⟩⟩
    have K2' : Kp clK C C2 := cl_mono K2 (.inl rfl) (.inr ⟨by decide, by decide, by decide⟩)
    have q2 := q0.keepP K2 (.inr ⟨by decide, by decide, by decide⟩) (.inl rfl)
    have zl := end_len lv
    refine s_ret (t_call (va_cons (vs_reader T S2 s2 (val_var rfl)) (va_cons (val_var rfl) va_nil)) ⟨_, _, rfl, r, m.fin, p, _, rfl, rfl, s2.R.rdr S2, S2 _ _ _ hp, by omega, fun H3 w s3 n3 e3 => ?_⟩)
    exact k.pure S2 K2' se2 q2 hd' s3 n3 (by rw [ivs_enc]; exact e3)
def spFeedC (K : PySem.W.Frag) : Sp := Sp2 fun a b H Q => ∃ l, l.length ≤ 10000 ∧ CallB K [[1], l] a b H Q
theorem ok_feed_call (T : Tx K mg) : FnOk P w K mg base CX0 11 (He.fAd K ("feed_call", none)) (fdA K ("feed_call", none)) ["session", "cursor"] (spFeedC K) := by
  refine (F_feed_call T).ok sc_feed_call (fun vs H Q E h => Sp2.len h) (fun cdv A outer s H vs Q E hr h => ⟨_, PSs.nox (pss_cons (ps_set (i := 2) sc_feed_call.nd rfl (Or.inl rfl) (pe_meth0 (pv 1) (c_Cursor T) (m_Cursor_take_row T) (ok_Cursor_take_row T) (hr.mono (by decide)) (B_Cursor_take_row T) .nil pass0)) (pss_cons (ps_set (i := 3) sc_feed_call.nd rfl (Or.inl rfl) (pe_orT (pe_call (ok_bytes_refusal T) (hr.mono (by decide)) rfl (g_bytes_refusal T) (F_bytes_refusal T).kp (B_bytes_refusal T) .nil pass0 (pa_cons (pv 2) pa_nil)) (pe_one (pe_call (ok_feed_refusal T) (hr.mono (by decide)) rfl (g_feed_refusal T) (F_feed_refusal T).kp (B_feed_refusal T) .nil pass0 (pa_cons (pv 0) (pa_cons (pv 2) pa_nil)))))) (pss_cons (ps_if (pt_truth (pv 3) (by intro _; rfl)) (pss_one (ps_ret (pe_lst (pa_cons (pv 3) pa_nil)))) pss_nil) (pss_cons (ps_set (i := 4) sc_feed_call.nd rfl (Or.inl rfl) (pe_meth (pv 0) (c_Session T) (m_Session_feed T) (ok_Session_feed T) (hr.mono (by decide)) (B_Session_feed T) .nil pass0 (pa_cons (pv 2) pa_nil))) (pss_one (ps_ret (pe_call (ok_read_answer T) (hr.mono (by decide)) rfl (g_read_answer T) (F_read_answer T).kp (B_read_answer T) .nil pass0 (pa_cons (pe_fld (pv 0) rfl) (pa_cons (pv 4) pa_nil))))))))), ?_⟩)
  show _
  try simp only [cxK, cxK2]
  obtain ⟨a, b, rfl, l, hl, C, se, dx, q, dxq, nl, pos, L, rest, S, rfl, rfl, hS, se0, q0, hd, k⟩ := h
  rw [flatA1] at hd
  refine q_set (t_meth (val_var rfl) (hS _ _ _ q0.1) cL_take_row va_nil ⟨_, rfl, C, q, dxq, nl, pos, L, l, rest, rfl, hS, q0, hd, fun C1 H1 p1 S1 K1 q1 d1 hp1 => ?_⟩)
  obtain ⟨r, j, dxj, A, m, hv, held, n, s1, hcase⟩ := se0.keepP K1 fun _ => no10'
  have se1 : SessRel K C1 se dx S := ⟨r, j, dxj, A, m, hv, held, n, s1, hcase⟩
  have K1' : Kp clK C C1 := K1.mono fun _ => no10
  -- the refusals
  have ref : ∀ (x : Int) (H2 : Hp), Same H1 H2 → x ≠ 0 → VaescnNeutral.step S [[1], l] = (S, [x]) → tSeq (tIfS (fun σ H Q => tVar 3 σ H fun x H' => ∃ k, TruV K x H' k ∧ Q k H') (tRet (tLst (tCons (tVar 3) tNil))) tNext)
      (tSeq (tAsg (tMeth (cS K) "feed" (spFeed K) [] E0 (tVar 0) (tCons (tVar 2) tNil)) (gName 4)) (tRet (tCall (spReadA K) [] E0 (tCons (tFld K (tVar 0) "reader") (tCons (tVar 4) tNil))))) { nx := fun _ H' => Q .non H', rt := Q } [some (.ref se), some (.ref q), some (.ref p1), some (.int x), none] H2 := fun x H2 s2 hx es => by
    rw [es] at k
    refine q_if (vt_truth (val_var rfl) tru_int) (fun e => ?_) (fun e => absurd hx (of_decide_eq_false e))
    exact s_retN (gn_lst (vs := ivs [x]) (va_cons (val_var rfl) va_nil) (by show 1 ≤ 1000; decide)) fun H3 p s3 n3 e3 => k.pure S1 K1' se1 q1 d1 (s2.trans s3) (Same.none s2 n3) e3
  refine q_set (t_or (x := bytesR l) (fun Q h => t_call (va_cons (val_var rfl) va_nil) ⟨_, rfl, p1, l, rfl, S1 _ _ _ hp1, by omega, h⟩) fun H2 s2 => ⟨fun hx => ref _ H2 s2 hx (feed_bad hx), fun hx => ?_⟩)
  have S2 := S1.same s2
  refine t_call (va_cons (val_var rfl) (va_cons (val_var rfl) va_nil)) ⟨_, _, rfl, C1, se, dx, r, j, dxj, A, m, hv, held, n, p1, ivs l, rfl, rfl, S2, s1, S2 _ _ _ hp1, fun H3 s3 => ?_⟩
  rw [ivs_len]
  have s23 := s2.trans s3
  by_cases ho : m.mode = 25 ∨ m.mode = 26
  · have ov : Over S := by
      rcases hcase with ⟨lv, _⟩ | ⟨_, o⟩
      · have := lv.md; omega
      · exact o
    have e : feedR m l.length = -4 := if_pos ho
    rw [e]
    exact ref (-4) H3 s23 (by decide) (feed_over hx ov)
  obtain ⟨lv, rfl, rfl, sl⟩ : Live A m ∧ held = heldOf m ∧ n = m.toks.length ∧ SL m S := hcase.resolve_right fun z => ho z.1
  by_cases hr : m.count + l.length ≤ 16384
  case neg =>
    have e : feedR m l.length = -3 := (if_neg ho).trans (if_neg hr)
    rw [e]
    exact ref (-3) H3 s23 (by decide) (feed_full hx sl (by omega))
  have e : feedR m l.length = 0 := (if_neg ho).trans (if_pos hr)
  rw [e]
  obtain ⟨b1, b2, b3, b4, b5⟩ := bytes_fine hx
  obtain ⟨ans, ov, lv2⟩ := feed_live hx sl lv.wf hr
  rw [ans] at k
  have S3 := S1.same s23
  have hp1' : C1 p1 = some (0, .lst (nts (natsI l))) := by
    have h := hp1
    rw [b2, ivs_enc] at h
    exact h
  refine q_if (b := decide ((0 : Int) ≠ 0)) (vt_truth (val_var rfl) tru_int) (fun e => absurd rfl (of_decide_eq_true e)) (fun _ => ?_)
  refine q_set (t_meth (val_var rfl) (S3 _ _ _ s1.o) sL_feed (va_cons (val_var rfl) va_nil) ⟨_, _, rfl, C1, se, dx, r, j, dxj, A, m, hv, p1, natsI l, rfl, rfl, S3, s1, lv, hp1', b3, by omega, fun C4 H4 A4 hv4 p S4 K4 s4 rc4 g4 hp => ?_⟩)
  have zl := new_len lv b3 (by omega : m.count + (natsI l).length ≤ 16384)
  have se4 : SessRel K C4 se dx (VaescnNeutral.step S [[1], l]).1 := by
    refine ⟨r, j, dxj, A4, _, hv4, _, _, s4, ?_⟩
    by_cases c : (m.read (natsI l)).mode = 26
    · exact .inr ⟨.inr c, ov c⟩
    · have w := ((read_ok (natsI l) m S.stream.reader sl.R lv.wf sl.md b3).2).resolve_left c
      exact .inl ⟨⟨rc4, g4, w.1, w.2.1, lv.by'.read b3, by rw [w.2.2]; omega⟩, rfl, rfl, lv2 c⟩
  have K4' : Kp clK C C4 := K1'.trans (cl_mono K4 (.inl rfl) (.inr ⟨by decide, by decide, by decide⟩))
  have q4 := q1.keepP K4 (.inr ⟨by decide, by decide, by decide⟩) (.inl rfl)
  refine s_ret (t_call (va_cons (vs_reader T S4 s4 (val_var rfl)) (va_cons (val_var rfl) va_nil)) ⟨_, _, rfl, r, m.read (natsI l), p, _, rfl, rfl, s4.R.rdr S4, S4 _ _ _ hp, by omega, fun H5 w s5 n5 e5 => ?_⟩)
  exact k.pure S4 K4' se4 q4 d1 s5 n5 (by rw [ivs_enc]; exact e5)

end Sm

set_option Elab.async false
set_option linter.all false
set_option maxRecDepth 100000
set_option maxHeartbeats 0
namespace Sm
open PySem PySem.Spec PyProof.Rows L2
variable {P : Program} {w : World} {K : PySem.W.Frag} {mg : Str → Option Value} {base : Heap}
/-! ### the table of calls, the answers -/
def callL (K : PySem.W.Frag) : List Addr := [He.ga K "begin_call", He.ga K "feed_call", He.ga K "end_call", He.ga K "minify_call", He.ga K "saved_call", He.ga K "laid_call", He.ga K "same_call", He.ga K "value_call", He.ga K "tokens_call"]
def callP (K : PySem.W.Frag) : Nat → Sp
  | 0 => spBegC K
  | 1 => spFeedC K
  | 2 => spEndC K
  | 3 => spMinC K
  | 4 => spSavC K
  | 5 => spLayC K
  | 6 => spSamC K
  | 7 => spValC K
  | _ => spTokC K
theorem calls_fn (T : Tx K mg) : ∀ (i : Nat) (f : Addr), (callL K)[i]? = some f → FnOk P w K mg base CX0 12 f (fdOf K f) ["session", "cursor"] (callP K i) ∧ PySem.W.keepIn K (.ref f) = true ∧ Binds K (fdOf K f) ["session", "cursor"] []
  | 0, _, h => by cases h; exact ⟨(ok_begin_call T).mono (by decide), (F_begin_call T).kp, B_begin_call T⟩
  | 1, _, h => by cases h; exact ⟨(ok_feed_call T).mono (by decide), (F_feed_call T).kp, B_feed_call T⟩
  | 2, _, h => by cases h; exact ⟨(ok_end_call T).mono (by decide), (F_end_call T).kp, B_end_call T⟩
  | 3, _, h => by cases h; exact ⟨(ok_minify_call T).mono (by decide), (F_minify_call T).kp, B_minify_call T⟩
  | 4, _, h => by cases h; exact ⟨(ok_saved_call T).mono (by decide), (F_saved_call T).kp, B_saved_call T⟩
  | 5, _, h => by cases h; exact ⟨(ok_laid_call T).mono (by decide), (F_laid_call T).kp, B_laid_call T⟩
  | 6, _, h => by cases h; exact ⟨(ok_same_call T).mono (by decide), (F_same_call T).kp, B_same_call T⟩
  | 7, _, h => by cases h; exact ⟨(ok_value_call T).mono (by decide), (F_value_call T).kp, B_value_call T⟩
  | 8, _, h => by cases h; exact ⟨(ok_tokens_call T).mono (by decide), (F_tokens_call T).kp, B_tokens_call T⟩
  | _ + 9, _, h => by cases h
noncomputable def callS (K : PySem.W.Frag) (f : Addr) : Option Sp := open Classical in if ∃ i : Nat, (callL K)[i]? = some f then some (fun vs H Q E => ∃ i : Nat, (callL K)[i]? = some f ∧ callP K i vs H Q E) else none
theorem held_answers (T : Tx K mg) {f : Addr} {sp : Sp} (h : callS K f = some sp) : Held P w K mg base 12 f sp := by
  unfold callS at h
  split at h
  · rename_i hex
    obtain ⟨i, hi⟩ := hex
    have e := Option.some.inj h
    subst e
    obtain ⟨_, k2, k3⟩ := calls_fn (P := P) (w := w) (base := base) T i f hi
    exact ⟨fdOf K f, ["session", "cursor"], ⟨fun vs H Q E ⟨j, hj, q⟩ => (calls_fn (P := P) (w := w) (base := base) T j f hj).1.len vs H Q E q, fun A outer s H args us vs Q E hr he hb hv ⟨j, hj, q⟩ => (calls_fn T j f hj).1.run A outer s H args us vs Q E hr he hb hv q⟩, k2, k3⟩
  · cases h
theorem callS_at {i : Nat} {f : Addr} (h : (callL K)[i]? = some f) : callS K f = some (fun vs H Q E => ∃ i : Nat, (callL K)[i]? = some f ∧ callP K i vs H Q E) := by
  unfold callS
  exact if_pos ⟨i, h⟩
/-- one call, by its number -/
theorem call_any {i : Nat} {c : List (List Int)} {a b : V} {H : Hp} {Q : VK} {E : XK} (h : Asked i c) (k : CallB K c a b H Q) : callP K i [a, b] H Q E := by
  cases h with
  | a0 => exact ⟨_, _, rfl, k⟩
  | a1 h => exact ⟨_, _, rfl, _, h, k⟩
  | a2 => exact ⟨_, _, rfl, k⟩
  | a3 h => exact ⟨_, _, rfl, _, h, k⟩
  | a4 h => exact ⟨_, _, rfl, _, h, k⟩
  | a5 h => exact ⟨_, _, rfl, _, _, h, k⟩
  | a6 h h2 => exact ⟨_, _, rfl, _, _, h, h2, k⟩
  | a7 h => exact ⟨_, _, rfl, _, _, h, k⟩
  | a8 h => exact ⟨_, _, rfl, _, h, k⟩
def spAns1 (K : PySem.W.Frag) : Sp := Sp1 fun a H Q => ∃ (l : Addr) (L : List Int), a = .ref l ∧ SqL K H l (ivs L) ∧ PyVaescn.answers_asked L = true ∧ ∀ (H' : Hp) (p : Addr), H' p = some (.lst (ivs (PyVaescn.answers L))) → Q (.ref p) H'
theorem make_session {σ : L2.St} {D : V → Hp → Prop} {H : Hp} {C : CHp} (hS : Sub C H)
    (nx : ∀ (C' : CHp) (H' : Hp) (se dx : Addr), Sub C' H' → Kp bgK C C' → SessRel K C' se dx Vaescn.start → D (.ref se) H') : tMake (cS K) (spBegin K) [] E0 tNil σ H D := fun x dx hx hdx hne => by
  have hC := hS.none hx
  exact ⟨_, rfl, cu C x 9 (.ins (cS K) dx []), x, dx, [], rfl, Sub.upd (hS.same (Same.new hdx)), cu_same, .inl rfl, fun C' H' r j dxj A h1 h2 o R e1 e2 J => ⟨rfl, nx C' H' x dx h1 (fun a k o e q => h2 a k o (cu_new e hC) q) ⟨r, j, dxj, A, M.new, .non, none, 0, ⟨o, R, J, rfl⟩, .inl ⟨Live.new e1 e2, rfl, rfl, SL.new⟩⟩⟩⟩
theorem make_cursor {σ : L2.St} {ta : TE} {D : V → Hp → Prop} {H : Hp} {C : CHp} {nl : Addr} {L : List Int} (hS : Sub C H) (ha : Val ta σ H (.ref nl)) (hL : SqL K (fz C) nl (ivs L))
    (nx : ∀ (C' : CHp) (H' : Hp) (q dx : Addr), Sub C' H' → Kp allK C C' → CuAt K C' q dx nl 0 L → D (.ref q) H') : tMake (cC K) (spCur0 K) [] E0 (tCons ta tNil) σ H D := ha _ fun x dx hx hdx hne => by
  have hC := hS.none hx
  refine ⟨_, _, rfl, cu C x 10 (.ins (cC K) dx []), x, dx, nl, rfl, rfl, Sub.upd (hS.same (Same.new hdx)), cu_same, fun H' h1 => ⟨rfl, ?_⟩⟩
  rw [cu_cu] at h1
  have K1 : Kp allK C (cu C x 10 (.ins (cC K) dx (cF nl 0))) := Kp.new hC
  exact nx _ H' x dx h1 K1 ⟨cu_same, sqm hL (K1.fz trivial)⟩
theorem ok_answers (T : Tx K mg) : FnOk P w K mg base CX0 13 (He.fAd K ("answers", none)) (fdA K ("answers", none)) ["calls"] (spAns1 K) := by
  refine (F_answers T).ok sc_answers (fun vs H Q E h => Sp1.len h) (fun cdv A outer s H vs Q E hr h => ⟨_, PSs.nox (pss_cons (ps_set (i := 1) sc_answers.nd rfl (Or.inl rfl) (pe_make0 (k_Session T) (ok_Session___init__ T) (hr.mono (by decide)) rfl (g_Session T) (B_Session___init__ T) .nil pass0)) (pss_cons (ps_set (i := 2) sc_answers.nd rfl (Or.inl rfl) (pe_make (k_Cursor T) (ok_Cursor___init__ T) (hr.mono (by decide)) rfl (g_Cursor T) (B_Cursor___init__ T) .nil pass0 (pa_cons (pv 0) pa_nil))) (pss_cons (ps_set (i := 3) sc_answers.nd rfl (Or.inl rfl) (pe_lst pa_nil)) (pss_cons (ps_while PassesOwn.never (pt_not (pt_val (pe_meth0 (pv 2) (c_Cursor T) (m_Cursor_is_through T) (ok_Cursor_is_through T) (hr.mono (by decide)) (B_Cursor_is_through T) .nil pass0))) (pss_cons (ps_set (i := 4) sc_answers.nd rfl (Or.inl rfl) (pe_ix ix_tup (pe_glob (v := .ref (He.ga K "CALLS")) rfl (g_CALLS T) rfl) (pe_meth0 (pv 2) (c_Cursor T) (m_Cursor_take_number T) (ok_Cursor_take_number T) (hr.mono (by decide)) (B_Cursor_take_number T) .nil pass0) (fun _ _ => rfl))) (pss_cons (ps_set (i := 5) sc_answers.nd rfl (Or.inl rfl) (pe_callA (i := 4) (fun f sp h => held_answers T h) (hr.mono (by decide)) rfl (Or.inl rfl) (pa_cons (pv 1) (pa_cons (pv 2) pa_nil)))) (pss_cons (ps_expr (pe_bm PySem.F.plainAttrs_list PySem.F.slot_list_append PySem.F.type_list_append mt_append (pv 3) (pa_cons (pe_callB call_len_seq (by rfl) (n_len T) (by decide +kernel) (pa_cons (pv 5) pa_nil)) pa_nil))) (pss_one (ps_expr (pe_bm PySem.F.plainAttrs_list PySem.F.slot_list_extend PySem.F.type_list_extend mt_extend (pv 3) (pa_cons (pv 5) pa_nil)))))))) (pss_one (ps_ret (pv 3))))))), ?_⟩)
  show _
  try simp only [cxK, cxK2]
  obtain ⟨a, rfl, nl, L, rfl, hL, hask, k⟩ := h
  obtain ⟨cs0, hparse, hcs0, hans, hbig⟩ := asked_all hask
  rw [hans] at k
  refine q_set (make_session C0.sub fun C1 H1 se dx S1 K1 se1 => ?_)
  have hL1 : SqL K (fz C1) nl (ivs L) := sqm (sqm hL C0.fz) (K1.fz ⟨by decide, by decide⟩)
  refine q_set (make_cursor S1 (val_var rfl) hL1 fun C2 H2 q dxq S2 K2 q2 => ?_)
  have se2 := se1.keepP K2 fun _ _ => trivial
  refine q_setL va_nil (by decide) fun gv hgv => ?_
  have hgC := S2.none hgv
  have S3 : Sub (cu C2 gv 11 (.lst [])) _ := S2.upd
  have K3 : Kp allK C2 (cu C2 gv 11 (.lst [])) := Kp.new hgC
  refine s_seq ?_
  refine ⟨fun n σ H' => ∃ (C : CHp) (pos : Nat) (S : Vaescn.State) (cs : List (List (List Int))) (out : List Int) (f : Nat) (v1 v2 : Option V), σ = [some (.ref nl), some (.ref se), some (.ref q), some (.ref gv), v1, v2] ∧ Sub C H' ∧ SessRel K C se dx S ∧ CuAt K C q dxq nl pos L ∧ C gv = some (11, .lst (ivs out)) ∧
      PyFlat.calls PyVaescn.shape f (L.drop pos) = some cs ∧ (∀ c ∈ cs, VaescnNeutral.asked1 c = true) ∧ out ++ told' S cs = told' Vaescn.start cs0 ∧ n = cs.length,
    ⟨_, _, 0, Vaescn.start, cs0, [], L.length, _, _, rfl, S3, se2.keepP K3 fun _ _ => trivial, q2.keepP K3 trivial trivial, cu_same, hparse, hcs0, rfl, rfl⟩, fun n σ H4 pv => ?_⟩
  obtain ⟨C, pos, S, cs, out, f, v1, v2, rfl, S4, se4, q4, g4, hp, hc, ho, hn⟩ := pv
  unfold tNot tB
  refine t_meth (val_var rfl) (S4 _ _ _ q4.1) cL_is_through va_nil ⟨_, rfl, C, q, dxq, nl, pos, L, rfl, S4, q4, _, rfl, ?_⟩
  rcases calls_ok hp with ⟨e1, rfl⟩ | ⟨p, r, c, t, f', cs', e1, rfl, er, ⟨ws, rs, ec⟩, hp'⟩
  · have : L.length ≤ pos := List.drop_eq_nil_iff.mp e1
    rw [decide_eq_true this, if_neg (show ¬ (!true) = true by decide)]
    rw [told_nil, List.append_nil] at ho
    rw [← ho] at k
    exact s_retV (val_var rfl) (k H4 gv (S4 _ _ _ g4))
  · have : ¬ L.length ≤ pos := fun z => by
      rw [List.drop_eq_nil_iff.mpr z] at e1; cases e1
    rw [decide_eq_false this, if_pos (show (!false) = true from rfl)]
    obtain ⟨i, ha⟩ := asked_ok (hc c List.mem_cons_self)
    obtain ⟨ep, hi⟩ := ha.first ec
    obtain ⟨hL1, hL2⟩ := drop_at e1
    obtain ⟨fa, hfa⟩ : ∃ fa, (callL K)[i]? = some fa := ⟨_, List.getElem?_eq_getElem (show i < 9 from hi)⟩
    rw [told_cons] at ho
    have hlen := congrArg List.length ho
    rw [List.length_append, List.length_cons, List.length_append] at hlen
    refine ⟨fun σ' H' => ∃ (C : CHp) (pos : Nat) (S : Vaescn.State) (out : List Int) (f : Nat) (v1 v2 : Option V), σ' = [some (.ref nl), some (.ref se), some (.ref q), some (.ref gv), v1, v2] ∧ Sub C H' ∧ SessRel K C se dx S ∧ CuAt K C q dxq nl pos L ∧ C gv = some (11, .lst (ivs out)) ∧
      PyFlat.calls PyVaescn.shape f (L.drop pos) = some cs' ∧ out ++ told' S cs' = told' Vaescn.start cs0, fun σ' H' ⟨C, pos, S, out, f, v1, v2, a1, a2, a3, a4, a5, a6, a7⟩ => ⟨cs'.length, by rw [hn, List.length_cons]; omega, C, pos, S, cs', out, f, v1, v2, a1, a2, a3, a4, a5, a6, fun c hc' => hc c (List.mem_cons_of_mem _ hc'), a7, rfl⟩, ?_⟩
    refine q_set ?_
    refine val_c (v := .ref (He.ga K "CALLS")) _ ?_
    refine t_meth (val_var rfl) (S4 _ _ _ q4.1) cL_take_number va_nil ⟨_, rfl, C, q, dxq, nl, pos, L, p, rfl, S4, q4, hL1, fun H5 S5 => ?_⟩
    have K5 : Kp (noK 10) C (cu C q 10 (.ins (cC K) dxq (cF nl (pos + 1)))) := Kp.mut q4.1 noK_self
    have q5 : CuAt K (cu C q 10 (.ins (cC K) dxq (cF nl (pos + 1)))) q dxq nl (pos + 1) L := ⟨cu_same, sqm q4.2 (K5.fz ok0)⟩
    have se5 := se4.keepP K5 fun _ => no10'
    have g5 := K5 _ _ _ g4 (nk : noK 10 11)
    refine ⟨_, _, (i : Int), .ref fa, rfl, by rw [ep], t_CALLS T H5, atI_nat (by
      show ((callL K).map V.ref)[i]? = _
      rw [List.getElem?_map, hfa]; rfl), ?_⟩
    refine q_set ?_
    refine ⟨fa, _, rfl, callS_at hfa, ?_⟩
    refine va_cons (val_var rfl) (va_cons (val_var rfl) va_nil) _ ⟨i, hfa, call_any ha ⟨_, se, dx, q, dxq, nl, pos + 1, L, t, S, rfl, rfl, S5, se5, q5, by rw [hL2, er], fun C6 H6 pa pos6 S6 K6 se6 q6 d6 ha6 => ?_⟩⟩
    have g6 := K6 _ _ _ g5 (.inr rfl)
    have hv := val_len (K := K) (σ := [some (.ref nl), some (.ref se), some (.ref q), some (.ref gv), some (.ref fa), some (.ref pa)]) (val_var (i := 5) rfl) (SqL.of (S6 _ _ _ ha6))
    rw [ivs_len] at hv
    refine q_app S6 (val_var rfl) hv g6 (size_lt (by rw [ivs_len]; omega)) fun H7 S7 => ?_
    have K7 := Kp.mut (P := noK 11) (k := 11) (o := .lst (ivs out ++ [V.int ((VaescnNeutral.step S c).2.length : Int)])) g6 noK_self
    have ha7 := K7 _ _ _ ha6 ok0
    refine s_ext S7 (val_var rfl) (val_var rfl) cu_same (S7 _ _ _ ha7) (size_small (by rw [List.length_append, ivs_len, ivs_len, List.length_singleton]; omega)) fun H8 S8 => ?_
    rw [cu_cu] at S8
    have eo : ivs out ++ [V.int ((VaescnNeutral.step S c).2.length : Int)] ++ ivs (VaescnNeutral.step S c).2 = ivs (out ++ (((VaescnNeutral.step S c).2.length : Int) :: (VaescnNeutral.step S c).2)) := by
      unfold ivs
      simp
    rw [eo] at S8
    have K8 := Kp.mut (P := noK 11) (k := 11) (o := .lst (ivs (out ++ (((VaescnNeutral.step S c).2.length : Int) :: (VaescnNeutral.step S c).2)))) g6 noK_self
    refine ⟨_, pos6, (VaescnNeutral.step S c).1, _, f', _, _, rfl, S8, se6.keepP K8 fun i hi => (by show i ≠ 11; omega), q6.keepP K8 (nk : noK 11 10) ok0, cu_same, by rw [d6]; exact hp', ?_⟩
    rw [← ho]
    simp

end Sm


set_option Elab.async false
set_option linter.all false
set_option maxRecDepth 100000
set_option maxHeartbeats 0
namespace Sm
open PySem PySem.W PySem.Calls PyProof.Rows
theorem join3 {S A B C D : Type} {x : Option S} {f : S → A × B} {g : S → C} {h : S → D} {a : A} {b : B} {c : C} {d : D} (h1 : x.map f = some (a, b)) (h2 : x.map g = some c) (h3 : x.map h = some d) : x.map (fun s => ((f s).1, (f s).2, (g s, h s))) = some (a, b, (c, d)) := by
  cases x with
  | none => cases h1
  | some s =>
    have e1 : f s = (a, b) := Option.some.inj h1
    have e2 : g s = c := Option.some.inj h2
    have e3 : h s = d := Option.some.inj h3
    show some ((f s).1, (f s).2, (g s, h s)) = _
    rw [e1, e2, e3]
theorem runAll (w : World) : HandSHeadRun.RunEqS PySem.Challenge.rw_shortmark_s01_answers (view prg [iAns]) hkM obT 20000 loo w := fun os =>
  join3 (run1 w os) (run2 w os) (run3 w os)
/-- the end of a Spec row over a head by facts -/
theorem walk_specE {r : OpenSpec} {k : Nat} {q : Program} {loose : List PySem.Str} {XP : (PySem.Str → Option Value) → Heap → Prop} {YP : World → Heap → Prop} {d : DefRec} {CX : L2.CXT} {ps : List PySem.Str}
    (hwell : r.wellSaid = true) (hlen : r.args.length = ps.length) (hr : L2.Room k callerA)
    (F : ∀ (w : World) (mg : PySem.Str → Option Value) (fa : Addr) (h : Heap), YP w h → h.Ns mainGlobals mg → mg d.name = some (.ref fa) →
      ∃ (K : PySem.W.Frag) (fd : FuncData) (sp : L2.Sp), K.In h ∧ (∀ (s : Shared) (us : List Value), us.length = ps.length → BindsTo s fd ⟨us, []⟩ (ps.zip us)) ∧
        (∀ base : Heap, K.In base → base.Ns mainGlobals mg → L2.FnOk r.prog w K mg base CX k fa fd ps sp) ∧
        ∀ (H : L2.Hp) (xs : List L2.V) (a : Codec.denoteAll r.args), L2.OnlyF H → Codec.withinAll r.args a = true → Codec.app r.args r.asked a = true → L2.DwAll K H xs (Codec.encAll r.args a) →
          sp xs H (fun v H' => L2.Dw K H' v (r.ret.enc (Codec.app r.args r.f a))) fun _ _ _ => False)
    (hCX : ∀ (H : L2.Hp) (s : Shared) (e : Value) (s' : Shared), CX [] H s (fun _ _ _ => False) e s' → False) :
    PySem.W.WalkOS q loose XP YP r d [] (fun f vs => PySem.call f vs) := by
  intro w s0 s1 mg mb G Y fa o pm cd doc dV kV ho hd hcd hD hmg hg args vals as hpre hlay hrd hwl hlo
  obtain ⟨a, e1, e2⟩ := PySem.W.os_pre_some hpre
  obtain ⟨e3, hwi⟩ := Codec.encAll_of_decAll r.args args a e1
  subst e3
  obtain ⟨K, fd, sp, KX, hb, hF, hsp⟩ := F w mg fa _ Y G.T.g hmg
  refine PySem.W.enter_call (codeAny_mono (L2.spec_call (R := []) (cl := classAt s0.heap) (d0 := r.ret.enc (Codec.app r.args r.f a)) KX G.T.g G.T.b G.T.builtins G.T.nolimit hg hwl (L2.pl_encAll _ _) (L2.layable_weight hlay) hr hF hb (by rw [L2.encAll_len]; exact hlen)
    (fun H xs hO hS => hsp H xs a hO hwi e2 hS) fun H e s' => hCX H s1 e s') fun r' s' hq => ?_)
  obtain ⟨u, as', rfl, h1, h2, h3, h4⟩ := hq
  exact ⟨.inl ⟨u, _, as', rfl, fun _ => rfl, h1, (OpenSpec.post_iff hwell hwi _ _).mpr rfl, fun z => Bool.noConfusion (show false = true from z)⟩, h2, h3, h4⟩
end Sm
open PySem PySem.W PySem.Calls PyProof.Rows
def Sm.spAns (K : PySem.W.Frag) : L2.Sp := fun vs H Q _ => ∃ (a : Addr) (ns : List Int), vs = [.ref a] ∧ L2.SqL K H a (ns.map L2.V.int) ∧ PyVaescn.answers_asked ns = true ∧
  ∀ (H' : L2.Hp) (p : Addr), H' p = some (.lst ((PyVaescn.answers ns).map L2.V.int)) → Q (.ref p) H'
theorem Sm.facts {P : Program} {w : World} {K : PySem.W.Frag} {h : Heap} {mg : PySem.Str → Option Value} (X : K.In h) (G : h.Ns mainGlobals mg) (c : Sm.Says K) :
   (∀ (s : Shared) (us : List Value), us.length = 1 → BindsTo s (Sm.fdA K ("answers", none)) ⟨us, []⟩ ((["calls"] : List PySem.Str).zip us)) ∧ mg ("answers" : PySem.Str) = some (.ref (He.fAd K ("answers", none))) ∧ ∀ base : Heap, K.In base → base.Ns mainGlobals mg → L2.FnOk P w K mg base L2.CX0 30 (He.fAd K ("answers", none)) (Sm.fdA K ("answers", none)) ["calls"] (Sm.spAns K) := by
  have T : Sm.Tx K mg := ⟨c, h, X, G⟩
  refine ⟨?_, Sm.g_answers T, fun base _ _ => ((Sm.ok_answers T).imp fun vs H Q E q => ?_).mono (by decide)⟩
  · exact fun s us hl => L2.FunD.bindsA (Sm.F_answers T) (ps := ["calls"]) (fun _ _ _ _ _ _ us hl => match us, hl with | [_], _ => rfl) s us hl
  · obtain ⟨a, ns, rfl, hs, hask, k⟩ := q
    exact ⟨_, rfl, a, ns, rfl, hs, hask, fun H' p e => k H' p e⟩
set_option maxRecDepth 100000 in
set_option maxHeartbeats 8000000 in
theorem PySem.Challenge.cw_shortmark_s01_answers_holds : PySem.Challenge.rw_shortmark_s01_answers.Holds := by
  w_on
  have said : PySem.Challenge.rw_shortmark_s01_answers.wellSaid = true := Sm.saidT
  refine HandSHeadRun.head_spec (r := PySem.Challenge.rw_shortmark_s01_answers) (q := view Sm.prg [Sm.iAns]) (H := Sm.hkM) (ob := Sm.obT) (M := 20000) (loose := Sm.loo) (d := HandSHeadRun.topDef Sm.prg Sm.iAns) (kwd := []) Sm.obT_eq
    (by kernel_rfl) (fun s => by kernel_rfl) Sm.runAll (by kernel_rfl) (by kernel_rfl) (by kernel_rfl) os_shapes said Sm.chT ⟨rfl, rfl, rfl, rfl, rfl, by decide +kernel⟩ ⟨[.list [.int 0]], by decide +kernel, by decide +kernel⟩ ?hc
  refine Sm.walk_specE (k := 30) (CX := L2.CX0) (ps := ["calls"]) said rfl ⟨rfl, by decide, by decide⟩ ?F (fun _ _ _ _ z => z)
  intro w mg fa h Y G hmg0
  obtain ⟨K, KX, c⟩ := Y
  have hmg : mg ("answers" : PySem.Str) = some (.ref fa) := by
    have e : (HandSHeadRun.topDef Sm.prg Sm.iAns).name = ("answers" : PySem.Str) := by kernel_rfl
    rw [← e]
    exact hmg0
  obtain ⟨hb, hg, hF⟩ := Sm.facts (P := PySem.Challenge.rw_shortmark_s01_answers.prog) (w := w) KX G c
  have ef := hmg.symm.trans hg
  cases ef
  refine ⟨K, Sm.fdA K ("answers", none), Sm.spAns K, KX, hb, hF, ?_⟩
  intro H xs a hO hwi hask hx
  cases hx with
  | cons h1 h2 =>
    cases h2
    cases h1 with
    | lst hs ha =>
      have e := L2.ints_dw a.1 _ ha
      subst e
      exact ⟨_, a.1, rfl, hs, hask, fun H' p hp => .lst (L2.SqL.of hp) (L2.dw_ints _)⟩

