package lex

import (
	"bytes"
	"math"
	"math/big"
	"regexp"
	"slices"
	"strconv"
	"strings"
	"testing"

	"carrefour/api"
)

// reserved are the words as the chapter lists them.
const reserved = "cycle to by peak node head volume flow use speed grade width length green walk with long pace least phase group ring free foe artery stop out in ahead back weights plan offset sum split yellow red flash best yes no spent"

func aWord(s string, pos int) api.Token { return api.Token{Kind: api.TWord, Text: s, Pos: pos} }
func aSign(s string, pos int) api.Token { return api.Token{Kind: api.TSign, Text: s, Pos: pos} }
func theEnd(pos int) api.Token          { return api.Token{Kind: api.TEnd, Pos: pos} }
func aNumber(s string, n int64, pos int) api.Token {
	return api.Token{Kind: api.TNum, Text: s, Num: n, Pos: pos}
}

// short tells a text for a message.
func short(s string) string {
	if len(s) > 60 {
		return strconv.Quote(s[:60]) + ".. of " + strconv.Itoa(len(s))
	}
	return strconv.Quote(s)
}

func same(t *testing.T, text string, want ...api.Token) {
	t.Helper()
	l, e, place := Tokens([]byte(text))
	if e != api.OK || place != 0 || !slices.Equal(l, want) {
		t.Fatalf("Tokens(%s): %v, error %d at %d; want %v", short(text), l, e, place, want)
	}
}

func refused(t *testing.T, text string, want api.Errno, at int) {
	t.Helper()
	l, e, place := Tokens([]byte(text))
	if e != want || place != at || len(l) != 0 {
		t.Fatalf("Tokens(%s): %v, error %d at %d; want none, error %d at %d", short(text), l, e, place, want, at)
	}
}

// The chapter's words as patterns, which share nothing with how the package goes through bytes.
var (
	passed = regexp.MustCompile(`^(?:[ \t\n\r]|#[^\n]*)*`)
	words  = regexp.MustCompile(`^[a-z][a-z0-9_]*`)
	nums   = regexp.MustCompile(`^[0-9]+`)
	signs  = regexp.MustCompile(`^[{},;:/-]`)
)

// tokensOf reads a text by the patterns.
func tokensOf(b []byte) ([]api.Token, api.Errno, int) {
	if len(b) > api.MaxText {
		return nil, api.ErrLong, api.MaxText
	}
	l := []api.Token{}
	at := 0
	for {
		at += len(passed.Find(b[at:]))
		if at == len(b) {
			return append(l, theEnd(at)), api.OK, 0
		}
		w, n, s := words.Find(b[at:]), nums.Find(b[at:]), signs.Find(b[at:])
		switch {
		case len(w) > api.MaxName || len(n) > api.MaxDigits:
			return nil, api.ErrLong, at
		case w != nil:
			l = append(l, aWord(string(w), at))
		case n != nil:
			value, _ := new(big.Int).SetString(string(n), 10)
			l = append(l, aNumber(string(n), value.Int64(), at))
		case s != nil:
			l = append(l, aSign(string(s), at))
		default:
			return nil, api.ErrByte, at
		}
		at += len(w) + len(n) + len(s)
	}
}

func holdAgainstPatterns(t *testing.T, b []byte) {
	t.Helper()
	l, e, place := Tokens(b)
	want, f, at := tokensOf(b)
	if e != f || place != at || !slices.Equal(l, want) {
		t.Fatalf("Tokens(%s): %v, error %d at %d; want %v, error %d at %d", short(string(b)), l, e, place, want, f, at)
	}
	if e == api.OK {
		comesAgain(t, string(b), l)
	}
}

// comesAgain asks promise 4.2 of a text and its tokens.
func comesAgain(t *testing.T, text string, l []api.Token) {
	t.Helper()
	again, e, place := Tokens([]byte(Spell(l)))
	if e != api.OK || !slices.Equal(without(again), without(l)) {
		t.Fatalf("%s, spelt %s: %v, error %d at %d; want %v", short(text), short(Spell(l)), again, e, place, l)
	}
	from := 0
	for _, x := range l {
		if x.Pos < from || x.Pos > len(text) || !strings.HasPrefix(text[x.Pos:], x.Text) {
			t.Fatalf("%s: the token %v does not stand there", short(text), x)
		}
		if between := text[from:x.Pos]; passed.FindString(between) != between {
			t.Fatalf("%s: ahead of %v stands %q", short(text), x, between)
		}
		from = x.Pos + len(x.Text)
	}
	if from != len(text) {
		t.Fatalf("%s: behind the last token stands %q", short(text), text[from:])
	}
}

// without tells tokens, their places aside.
func without(l []api.Token) []api.Token {
	l = slices.Clone(l)
	for i := range l {
		l[i].Pos = 0
	}
	return l
}

// Promise 4.1: the chapter's example.
func TestExample(t *testing.T) {
	same(t, "head n1 volume 40; # so",
		aWord("head", 0), aWord("n1", 5), aWord("volume", 8), aNumber("40", 40, 15), aSign(";", 17), theEnd(23))
}

// Promise 4.1: texts in which nothing stands.
func TestNothing(t *testing.T) {
	l, e, place := Tokens(nil)
	if e != api.OK || place != 0 || !slices.Equal(l, []api.Token{theEnd(0)}) {
		t.Fatalf("Tokens(nil): %v, error %d at %d", l, e, place)
	}
	same(t, "", theEnd(0))
	same(t, " \t\n\r ", theEnd(5))
	same(t, "#", theEnd(1))
	same(t, "#\n", theEnd(2))
	same(t, "##\n#", theEnd(4))
	if got := Spell(nil); got != "" {
		t.Errorf("Spell(nil): %q", got)
	}
	if Right(api.Token{}) || Reserved("") {
		t.Error("the empty text is a token, or reserved")
	}
}

// Promise 4.1: which bytes of a text are passed over.
func TestRemarks(t *testing.T) {
	same(t, "a#b;1\nc", aWord("a", 0), aWord("c", 6), theEnd(7))
	same(t, "1#2\n3", aNumber("1", 1, 0), aNumber("3", 3, 4), theEnd(5))
	same(t, "a # b", aWord("a", 0), theEnd(5))
	same(t, "a # b # c\r d\x00\xff\n# e\n;", aWord("a", 0), aSign(";", 19), theEnd(20))
	same(t, "#a\n\n#b\n c", aWord("c", 8), theEnd(9))
	// Byte 13 ends no remark.
	same(t, "#a\rb", theEnd(4))
	refused(t, "# (\n(", api.ErrByte, 4)
	same(t, "# "+strings.Repeat("a", 100)+strings.Repeat("1", 100), theEnd(202))
}

// Promise 4.1: a text of MaxText bytes is none too long; of a longer one the length is told ahead of all else that is wrong.
func TestLongTexts(t *testing.T) {
	same(t, strings.Repeat(" ", api.MaxText), theEnd(api.MaxText))
	same(t, "#"+strings.Repeat("x", api.MaxText-1), theEnd(api.MaxText))
	same(t, strings.Repeat("\n", api.MaxText-1)+"a", aWord("a", api.MaxText-1), theEnd(api.MaxText))
	refused(t, strings.Repeat(" ", api.MaxText-1)+"(", api.ErrByte, api.MaxText-1)

	all, e, place := Tokens(bytes.Repeat([]byte(";"), api.MaxText))
	if e != api.OK || place != 0 || len(all) != api.MaxText+1 {
		t.Fatalf("signs: %d, error %d at %d", len(all), e, place)
	}
	for i, x := range all[:api.MaxText] {
		if x != aSign(";", i) {
			t.Fatalf("sign %d: %v", i, x)
		}
	}
	if all[api.MaxText] != theEnd(api.MaxText) {
		t.Fatalf("the last one: %v", all[api.MaxText])
	}

	for _, s := range []string{" ", ";", "a", "1", "#", "(", "\x00"} {
		refused(t, strings.Repeat(s, api.MaxText+1), api.ErrLong, api.MaxText)
	}
	refused(t, "("+strings.Repeat(" ", api.MaxText), api.ErrLong, api.MaxText)
	refused(t, strings.Repeat("a", api.MaxName+1)+strings.Repeat(" ", api.MaxText), api.ErrLong, api.MaxText)
	refused(t, strings.Repeat(" ", 3*api.MaxText), api.ErrLong, api.MaxText)
}

// Promise 4.1: words of MaxName bytes, and of one more.
func TestLongWords(t *testing.T) {
	for _, rest := range []string{"a", "z", "0", "9", "_"} {
		w := "q" + strings.Repeat(rest, api.MaxName-1)
		same(t, w, aWord(w, 0), theEnd(api.MaxName))
		same(t, " "+w+"-", aWord(w, 1), aSign("-", 1+api.MaxName), theEnd(2+api.MaxName))
		refused(t, w+rest, api.ErrLong, 0)
		refused(t, "; "+w+rest+" (", api.ErrLong, 2)
		// What stands ahead of it is wrong first, be it what it may.
		refused(t, "( "+w+rest, api.ErrByte, 0)
	}
	refused(t, strings.Repeat("a", api.MaxName)+"B", api.ErrByte, api.MaxName)
	refused(t, strings.Repeat("a", api.MaxName+1)+"B", api.ErrLong, 0)
	refused(t, strings.Repeat("a", api.MaxText), api.ErrLong, 0)
}

// Promise 4.1: numbers of MaxDigits digits, and of one more; zeros ahead of them are digits, too.
func TestNumbers(t *testing.T) {
	same(t, "0", aNumber("0", 0, 0), theEnd(1))
	same(t, "007", aNumber("007", 7, 0), theEnd(3))
	same(t, "10", aNumber("10", 10, 0), theEnd(2))
	same(t, "1234567890", aNumber("1234567890", 1234567890, 0), theEnd(10))
	zeros := strings.Repeat("0", api.MaxDigits)
	nines := strings.Repeat("9", api.MaxDigits)
	same(t, zeros, aNumber(zeros, 0, 0), theEnd(api.MaxDigits))
	same(t, zeros[1:]+"5", aNumber(zeros[1:]+"5", 5, 0), theEnd(api.MaxDigits))
	same(t, nines, aNumber(nines, 999_999_999_999_999_999, 0), theEnd(api.MaxDigits))
	same(t, "1"+zeros[1:], aNumber("1"+zeros[1:], 100_000_000_000_000_000, 0), theEnd(api.MaxDigits))
	same(t, nines+"a", aNumber(nines, 999_999_999_999_999_999, 0), aWord("a", api.MaxDigits), theEnd(api.MaxDigits+1))
	refused(t, nines+"0", api.ErrLong, 0)
	refused(t, zeros+"0", api.ErrLong, 0)
	refused(t, "- 1/"+zeros+"1(", api.ErrLong, 4)
	refused(t, nines+"(", api.ErrByte, api.MaxDigits)
	refused(t, "9223372036854775808", api.ErrLong, 0)
	refused(t, strings.Repeat("1", api.MaxText), api.ErrLong, 0)
	// - is a sign: a number is never below 0.
	same(t, "-20", aSign("-", 0), aNumber("20", 20, 1), theEnd(3))
}

// Promise 4.1: tokens with no blank between them, and what begins no word.
func TestWithoutBlanks(t *testing.T) {
	same(t, "{},;:/-", aSign("{", 0), aSign("}", 1), aSign(",", 2), aSign(";", 3), aSign(":", 4), aSign("/", 5), aSign("-", 6), theEnd(7))
	same(t, "--", aSign("-", 0), aSign("-", 1), theEnd(2))
	same(t, "use1/2;", aWord("use1", 0), aSign("/", 4), aNumber("2", 2, 5), aSign(";", 6), theEnd(7))
	same(t, "1a", aNumber("1", 1, 0), aWord("a", 1), theEnd(2))
	same(t, "1a2", aNumber("1", 1, 0), aWord("a2", 1), theEnd(3))
	same(t, "a_", aWord("a_", 0), theEnd(2))
	same(t, "a__0b", aWord("a__0b", 0), theEnd(5))
	refused(t, "_", api.ErrByte, 0)
	refused(t, "_a", api.ErrByte, 0)
	refused(t, "1_a", api.ErrByte, 1)
	refused(t, "1_000", api.ErrByte, 1)
	refused(t, "a ;_", api.ErrByte, 3)
	refused(t, "Node", api.ErrByte, 0)
	refused(t, "nOde", api.ErrByte, 1)
	refused(t, "1.5", api.ErrByte, 1)
	refused(t, "+1", api.ErrByte, 0)
	refused(t, "caf\u00e9", api.ErrByte, 3)
	refused(t, "a\u00a0b", api.ErrByte, 1)
}

// Promise 4.1: which kind each byte is of, told one by one.
func TestEachByte(t *testing.T) {
	for n := range 256 {
		c := string([]byte{byte(n)})
		alone, first, inWord, behind := refuse(0), refuse(0), refuse(1), refuse(1)
		switch {
		case strings.Contains(" \t\n\r", c):
			alone = tokens(theEnd(1))
			first = tokens(aWord("x", 1), theEnd(2))
			inWord = tokens(aWord("a", 0), aWord("b", 2), theEnd(3))
			behind = tokens(aNumber("7", 7, 0), theEnd(2))
		case c == "#":
			alone = tokens(theEnd(1))
			first = tokens(theEnd(2))
			inWord = tokens(aWord("a", 0), theEnd(3))
			behind = tokens(aNumber("7", 7, 0), theEnd(2))
		case strings.Contains("{},;:/-", c):
			alone = tokens(aSign(c, 0), theEnd(1))
			first = tokens(aSign(c, 0), aWord("x", 1), theEnd(2))
			inWord = tokens(aWord("a", 0), aSign(c, 1), aWord("b", 2), theEnd(3))
			behind = tokens(aNumber("7", 7, 0), aSign(c, 1), theEnd(2))
		case strings.Contains("abcdefghijklmnopqrstuvwxyz", c):
			alone = tokens(aWord(c, 0), theEnd(1))
			first = tokens(aWord(c+"x", 0), theEnd(2))
			inWord = tokens(aWord("a"+c+"b", 0), theEnd(3))
			behind = tokens(aNumber("7", 7, 0), aWord(c, 1), theEnd(2))
		case strings.Contains("0123456789", c):
			value := int64(n - '0')
			alone = tokens(aNumber(c, value, 0), theEnd(1))
			first = tokens(aNumber(c, value, 0), aWord("x", 1), theEnd(2))
			inWord = tokens(aWord("a"+c+"b", 0), theEnd(3))
			behind = tokens(aNumber("7"+c, 70+value, 0), theEnd(2))
		case c == "_":
			inWord = tokens(aWord("a_b", 0), theEnd(3))
		}
		alone(t, c)
		first(t, c+"x")
		inWord(t, "a"+c+"b")
		behind(t, "7"+c)
		remark := tokens(aWord("y", 0), aWord("z", 6), theEnd(7))
		if c == "\n" {
			remark = tokens(aWord("y", 0), aWord("x", 4), aWord("z", 6), theEnd(7))
		}
		remark(t, "y# "+c+"x\nz")
	}
}

func tokens(want ...api.Token) func(*testing.T, string) {
	return func(t *testing.T, text string) {
		t.Helper()
		same(t, text, want...)
	}
}

func refuse(at int) func(*testing.T, string) {
	return func(t *testing.T, text string) {
		t.Helper()
		refused(t, text, api.ErrByte, at)
	}
}

// Promises 4.1 and 4.2: all short texts of some bytes of each kind.
func TestShortTexts(t *testing.T) {
	const some = "ag09_ \n\r#;-(A\xff"
	var grow func(b []byte, more int)
	grow = func(b []byte, more int) {
		holdAgainstPatterns(t, b)
		if more == 0 {
			return
		}
		for i := range len(some) {
			grow(append(b, some[i]), more-1)
		}
	}
	grow(make([]byte, 0, 4), 4)
}

// Promises 4.1 and 4.2: longer texts, of pieces at the limits and past them, in an order that a rule gives.
func TestLongerTexts(t *testing.T) {
	pieces := []string{
		"a", "node", "n_1", "7", "007", "{", "}", ",", ";", ":", "/", "-", " ", "\t", "\r", "\n", "# so", "#{\n", "#", "  ",
		strings.Repeat("w", api.MaxName-1), strings.Repeat("5", api.MaxDigits-1),
		strings.Repeat("w", api.MaxName) + " ", strings.Repeat("0", api.MaxDigits) + " ",
	}
	wrong := []string{strings.Repeat("w", api.MaxName+1), strings.Repeat("5", api.MaxDigits+1), "_", "B", "(", "\x00", "\x80", "\xff"}
	state := uint64(12)
	next := func(n int) int {
		state = state*6364136223846793005 + 1442695040888963407
		return int(state >> 33 % uint64(n))
	}
	for range 20000 {
		b := []byte{}
		for range next(24) {
			b = append(b, pieces[next(len(pieces))]...)
			if next(3) > 0 {
				b = append(b, ' ')
			}
			if next(40) == 0 {
				b = append(b, wrong[next(len(wrong))]...)
			}
		}
		holdAgainstPatterns(t, b)
	}
}

// Promise 4.1, with DOC.md's R4: what is handed in is neither changed nor kept.
func TestWhatIsHandedIn(t *testing.T) {
	const text = "node a{ 12 } # so\n;"
	all := []byte(text + "tail")
	b := all[:len(text)]
	l, _, _ := Tokens(b)
	if string(all) != text+"tail" {
		t.Fatalf("Tokens changed its text: %q", all)
	}
	want := slices.Clone(l)
	for i := range all {
		all[i] = 'x'
	}
	if !slices.Equal(l, want) || l[0].Text != "node" {
		t.Fatalf("the tokens go with the text: %v", l)
	}
	m := append(slices.Clone(l), aWord("behind", 0))[:len(l)]
	if got := Spell(m); got != "node a { 12 } ;" {
		t.Fatalf("Spell: %q", got)
	}
	if !slices.Equal(m, l) || m[:len(l)+1][len(l)].Text != "behind" {
		t.Fatalf("Spell changed its tokens: %v", m[:len(l)+1])
	}
}

// Promise 4.1: Spell, of any tokens.
func TestSpell(t *testing.T) {
	for _, r := range []struct {
		l    []api.Token
		want string
	}{
		{[]api.Token{}, ""},
		{[]api.Token{theEnd(0)}, ""},
		{[]api.Token{theEnd(0), theEnd(0)}, ""},
		{[]api.Token{aWord("a", 0)}, "a"},
		{[]api.Token{aWord("a", 0), theEnd(9)}, "a"},
		{[]api.Token{aWord("a", 7), aSign("-", 7), aNumber("05", 5, 3), theEnd(9)}, "a - 05"},
		{[]api.Token{theEnd(0), aWord("a", 0), theEnd(0), aWord("b", 0), theEnd(0)}, "a b"}, // TEnd, wherever it stands
		{[]api.Token{{Kind: api.TEnd, Text: "x", Num: 4}, aWord("a", 0)}, "a"},              // TEnd, whatever it says
		{[]api.Token{aNumber("7", 8, 0), {Kind: api.TNum, Num: 9}, aWord("a b", 0)}, "7  a b"},
		{[]api.Token{{Kind: 4, Text: "x"}, {Kind: -1, Text: "y"}}, "x y"},
		{[]api.Token{{Kind: math.MinInt, Text: "\xff#"}, {Kind: math.MaxInt, Text: "\n"}}, "\xff# \n"},
	} {
		if got := Spell(r.l); got != r.want {
			t.Errorf("Spell(%v): %q; want %q", r.l, got, r.want)
		}
	}
}

// Promise 4.1: Right, of what is a token and of what is none.
func TestRight(t *testing.T) {
	nines := strings.Repeat("9", api.MaxDigits)
	for _, x := range []api.Token{
		aWord("a", 0), aWord("a", -7), aWord("node", math.MaxInt), aWord("a_0", 0), aWord(strings.Repeat("z", api.MaxName), 0),
		aNumber("0", 0, 0), aNumber("5", 5, 0), aNumber("05", 5, 9), aNumber("000", 0, 0), aNumber(nines, 999_999_999_999_999_999, math.MinInt),
		aSign("{", 0), aSign("}", 0), aSign(",", 0), aSign(";", 0), aSign(":", 0), aSign("/", 0), aSign("-", 0),
	} {
		if !Right(x) {
			t.Errorf("Right(%v): false", x)
		}
		for _, k := range []int{api.TEnd, api.TWord, api.TNum, api.TSign, -1, 4, math.MinInt, math.MaxInt} {
			if y := (api.Token{Kind: k, Text: x.Text, Num: x.Num, Pos: x.Pos}); Right(y) != (k == x.Kind) {
				t.Errorf("Right(%v): %v", y, Right(y))
			}
		}
		for _, n := range []int64{-x.Num, x.Num + 1, x.Num - 1, 0, 1, 5, math.MinInt64, math.MaxInt64} {
			if y := (api.Token{Kind: x.Kind, Text: x.Text, Num: n, Pos: x.Pos}); Right(y) != (n == x.Num) {
				t.Errorf("Right(%v): %v", y, Right(y))
			}
		}
	}
}

// Promise 4.1: Right, of texts that are not one token and nothing beside.
func TestRightTexts(t *testing.T) {
	for _, text := range []string{
		"", " ", "#", "# a", "a ", " a", "a\n", "\ta", "a#", "#\na", "a#b", "a b", "a;", ";a", "1a", "1 ", " 1", "1 1", "-1", "--", "; ",
		"A", "_", "_a", "a_B", "1_", "(", "\x00", "\xff", "a\x00", "caf\u00e9",
		strings.Repeat("z", api.MaxName+1), strings.Repeat("1", api.MaxDigits+1), strings.Repeat("0", api.MaxDigits+1),
		strings.Repeat("a", api.MaxText+1), "a" + strings.Repeat(" ", api.MaxText), "a" + strings.Repeat(" ", api.MaxText-1),
	} {
		for k := -1; k <= 4; k++ {
			for _, n := range []int64{0, 1, -1, 11111111111111111} {
				if Right(api.Token{Kind: k, Text: text, Num: n}) {
					t.Errorf("Right of %s, of kind %d, number %d: true", short(text), k, n)
				}
			}
		}
	}
	// The end is a token of every text, but none by itself.
	if Right(theEnd(0)) || Right(theEnd(3)) {
		t.Error("Right of the end: true")
	}
}

// Promise 4.1: of a text's tokens all but the end are right.
func TestTokensAreRight(t *testing.T) {
	l, e, _ := Tokens([]byte("cycle 600 to 0900 by 10;peak 1/1;\n# so\nnode n_1{head a grade -20;}"))
	if e != api.OK {
		t.Fatal(e)
	}
	for _, x := range l {
		if Right(x) != (x.Kind != api.TEnd) {
			t.Errorf("Right(%v): %v", x, Right(x))
		}
	}
}

// Promise 4.1: the words that texts use, and words that are nearly theirs.
func TestReserved(t *testing.T) {
	all := strings.Fields(reserved)
	if len(all) != 42 {
		t.Fatalf("%d words", len(all))
	}
	for _, w := range all {
		near := []string{w, w + " ", " " + w, w + "_", "_" + w, w + "1", w + "s", w + w, w + "\x00", w + ";", w[1:], w[:len(w)-1], strings.ToUpper(w), strings.ToUpper(w[:1]) + w[1:]}
		for i := range len(w) {
			near = append(near, w[:i]+w[i+1:], w[:i]+"q"+w[i+1:], w[:i]+"e"+w[i:])
		}
		for _, v := range near {
			if got := Reserved(v); got != slices.Contains(all, v) {
				t.Errorf("Reserved(%q): %v", v, got)
			}
		}
		for _, v := range all {
			if Reserved(w + " " + v) {
				t.Errorf("Reserved(%q)", w+" "+v)
			}
		}
		if !Reserved(w) || !Right(aWord(w, 0)) {
			t.Errorf("%q is not reserved, or no word", w)
		}
	}
	for _, v := range []string{"", " ", "a", "n1", "net", "name", "num", "walks", "weight", "colour", "tick", "true", "{", "-", "0", "\xff", reserved} {
		if Reserved(v) {
			t.Errorf("Reserved(%q)", v)
		}
	}
}

// Promise 4.2: texts that are spelt and read again.
func TestSpeltAndReadAgain(t *testing.T) {
	for _, r := range []struct{ text, want string }{
		{"", ""},
		{"# so", ""},
		{"head n1 volume 40; # so", "head n1 volume 40 ;"},
		{"1a", "1 a"},
		{"a#\nb", "a b"},
		{"a-1/02,:{}", "a - 1 / 02 , : { }"},
		{" \t x \r\n\n y ", "x y"},
	} {
		l, e, place := Tokens([]byte(r.text))
		if e != api.OK {
			t.Fatalf("%q: error %d at %d", r.text, e, place)
		}
		if got := Spell(l); got != r.want {
			t.Errorf("%q is spelt %q; want %q", r.text, got, r.want)
		}
		comesAgain(t, r.text, l)
	}
	// As many tokens as a text that is spelt can hold.
	l, _, _ := Tokens(bytes.Repeat([]byte(";"), api.MaxText/2))
	if n := len(Spell(l)); n != api.MaxText-1 {
		t.Fatalf("%d bytes", n)
	}
	comesAgain(t, strings.Repeat(";", api.MaxText/2), l)
}
