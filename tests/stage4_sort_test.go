package tests

import (
	"slices"
	"strconv"
	"strings"
	"testing"

	"loop.example/g00007/impl"
)

const takenSymbols = "Bool Int Real BitVec Array _ let as true false not and or xor => ite = distinct " +
	"+ - * / <= < >= > div mod to_real select store concat extract zero_extend sign_extend rotate_left rotate_right repeat"

// oddSymbols are own sorts' names on both sides of what needs bars.
func oddSymbols() []string {
	return []string{"U", "a b", " ", " U", "U ", "1", "12", "1a", "a1", "#b1", ":k", ".", ".0", "(", ")", "()", "(_ BitVec 8)",
		"(Array U U)", "a)b", "(U", "\"", "a;b", "'", ",", "~!@$%^&*_-+=<>.?/", "bV", "Bv", "bool", "Bools", "array",
		strings.Repeat("s", impl.MaxSym), strings.Repeat(" ", impl.MaxSym)}
}

// ownText is the sort text of an own sort, by the patterns of names.
func ownText(symbol string) string {
	if nameForm.FindString(symbol) == symbol {
		return symbol
	}
	return "|" + symbol + "|"
}

// allSorts is every sort text that there is with these own sorts: they are not many.
func allSorts(own []string) map[string]impl.SortInfo {
	parts := map[string]impl.SortInfo{"Int": {Kind: impl.SortInt}, "Real": {Kind: impl.SortReal}}
	for w := 1; w <= impl.MaxWidth; w++ {
		parts["(_ BitVec "+strconv.Itoa(w)+")"] = impl.SortInfo{Kind: impl.SortBits, Width: w}
	}
	for _, symbol := range own {
		parts[ownText(symbol)] = impl.SortInfo{Kind: impl.SortOwn}
	}
	all := map[string]impl.SortInfo{"Bool": {Kind: impl.SortBool}}
	for index, info := range parts {
		all[index] = info
		for elem := range parts {
			all["(Array "+index+" "+elem+")"] = impl.SortInfo{Kind: impl.SortArray, Index: index, Elem: elem}
		}
	}
	return all
}

func TestStage4EverySort(t *testing.T) {
	own := oddSymbols()
	kept := slices.Clone(own)
	for text, want := range allSorts(own) {
		if got := impl.ReadSort(own, text); got != want {
			t.Errorf("ReadSort(%q) = %+v, want %+v", text, got, want)
		}
	}
	if !slices.Equal(own, kept) {
		t.Errorf("the sorts were changed: %q", own)
	}
}

// A sort text with one byte more, less or other is no sort text, or another one that is.
func TestStage4NearSorts(t *testing.T) {
	own := []string{"U", "a b", "1", " "}
	all := allSorts(own)
	for _, text := range []string{"Bool", "Int", "Real", "(_ BitVec 1)", "(_ BitVec 64)", "U", "|a b|", "|1|", "| |",
		"(Array U |a b|)", "(Array |a b| U)", "(Array | | | |)", "(Array (_ BitVec 8) (_ BitVec 10))", "(Array Int Real)"} {
		check := func(near string) {
			if got := impl.ReadSort(own, near); got != all[near] {
				t.Errorf("ReadSort(%q) = %+v, want %+v", near, got, all[near])
			}
		}
		for i := 0; i <= len(text); i++ {
			check(text[:i])
			check(text[i:])
			for c := 0; c < 256; c++ {
				check(text[:i] + string([]byte{byte(c)}) + text[i:])
				if i < len(text) {
					check(text[:i] + string([]byte{byte(c)}) + text[i+1:])
				}
			}
			if i < len(text) {
				check(text[:i] + text[i+1:])
			}
		}
	}
}

func TestStage4NoSorts(t *testing.T) {
	own := []string{"U", "a b"}
	for _, text := range []string{"", "V", "|U|", "a b", "||", "|", "|a b", "a b|", "||a b||", "|Int|", "|Bool|", "BitVec", "Array", "_",
		"(_ BitVec 0)", "(_ BitVec 65)", "(_ BitVec -1)", "(_ BitVec +1)", "(_ BitVec 01)", "(_ BitVec 008)", "(_ BitVec 8",
		"(_ BitVec 8))", "(_  BitVec 8)", "(_ BitVec  8)", "( _ BitVec 8)", "(_ BitVec 8 )", "(_ BitVec 0x8)", "(_ BitVec 1_0)",
		"(_ BitVec 18446744073709551617)", "(_ BitVec )", "(_ BitVec U)", "(_ bitvec 8)", "(BitVec 8)",
		"(Array U Bool)", "(Array Bool U)", "(Array U (Array U U))", "(Array (Array U U) U)", "(Array U V)", "(Array V U)",
		"(Array U |U|)", "(Array U  U)", "(Array  U U)", "(Array U U )", "(Array U)", "(Array )", "(Array", "(Array U U", "(Array U U U)",
		"(Array U U))", "((Array U U))", "(Array a b U)", "(Array |a b|U)", "(Array (_ BitVec 8)U)", "(Array (_ BitVec 8) )",
		"(Array  )", "(array U U)", "(U)", "U ", " U", "(Array |a b |a b|)", "(Array (_ BitVec 8 U)", "U\x00"} {
		if got := impl.ReadSort(own, text); got != (impl.SortInfo{}) {
			t.Errorf("ReadSort(%q) = %+v", text, got)
		}
	}
}

// What the sorts' list holds makes no sort of a text that none can be.
func TestStage4SortsOfAnyList(t *testing.T) {
	wide := strings.Repeat("w", impl.MaxSym+1)
	for _, symbol := range append(strings.Fields(takenSymbols), "", "|", "a|b", "a\\b", "\x1f", "\x7f", "a\x00", "é", "bv", "bvU", "bv b", wide) {
		own := []string{symbol, "U", "U", symbol}
		want := allSorts(nil)
		for _, text := range []string{symbol, "|" + symbol + "|", "(Array U " + symbol + ")", "(Array U |" + symbol + "|)"} {
			if got := impl.ReadSort(own, text); got != want[text] && !strings.HasPrefix(text, "(Array") {
				t.Errorf("ReadSort(%q) = %+v", text, got)
			} else if got.Kind != impl.SortNone && got.Elem != "Int" && got.Elem != "Real" && strings.HasPrefix(text, "(Array") {
				t.Errorf("ReadSort(%q) = %+v", text, got)
			}
		}
		if got := impl.ReadSort(own, "U"); got != (impl.SortInfo{Kind: impl.SortOwn}) {
			t.Errorf("U beside %q: %+v", symbol, got)
		}
	}
	for _, text := range []string{"Bool", "Int", "Real", "(_ BitVec 5)"} {
		if impl.ReadSort(nil, text) != impl.ReadSort([]string{text}, text) || impl.ReadSort(nil, text).Kind == impl.SortNone {
			t.Errorf("ReadSort(%q) hangs on the own sorts", text)
		}
	}
	if got := impl.ReadSort(nil, "U"); got != (impl.SortInfo{}) {
		t.Errorf("U without sorts: %+v", got)
	}
}
