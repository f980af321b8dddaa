package token

import (
	"slices"
	"strings"
	"testing"

	"guardrail/api"
)

const allWords = "let fn if else while return print true false null as typeof num bool text any unknown"
const allSigns = "== => ( ) { } [ ] , ; : . = < + - * ! |"

// wantTokens holds what Scan answers against tokens without the end, which is added.
func wantTokens(t *testing.T, s string, want ...api.Token) {
	t.Helper()
	want = append(want, api.Token{Kind: api.TokenEnd, At: len(s)})
	got, fault := Scan(s)
	if fault != (api.Fault{}) || !slices.Equal(got, want) {
		t.Errorf("Scan(%.80q) = %v %v, want %v", s, got, fault, want)
	}
}

func wantFault(t *testing.T, s string, err api.Errno, at int) {
	t.Helper()
	got, fault := Scan(s)
	if fault != (api.Fault{Err: err, At: at}) || got != nil {
		t.Errorf("Scan(%.80q) = %v %v, want error %d at %d and no tokens", s, got, fault, err, at)
	}
}

// A1: names are letters, digits and _, not a digit first, 20 bytes at most.
func TestNames(t *testing.T) {
	longest := strings.Repeat("n", 20)
	for _, s := range []string{"a", "z", "A", "Z", "_", "__", "a1", "_9", "aZ_09", "x0123456789", longest, "Let", "lets", "le", "typeofx", "_let", "let_", "number", "length"} {
		wantTokens(t, s, api.Token{Kind: api.TokenName, Text: s})
	}
	wantFault(t, longest+"n", api.ErrForm, 0)
	wantFault(t, longest+"1", api.ErrForm, 0)
	wantFault(t, longest+"_", api.ErrForm, 0)
	wantFault(t, "a b "+longest+"n;", api.ErrForm, 4)
	wantTokens(t, longest+" n", api.Token{Kind: api.TokenName, Text: longest}, api.Token{Kind: api.TokenName, Text: "n", At: 21})
}

// A1: the words of the language are no names.
func TestWords(t *testing.T) {
	for _, s := range strings.Fields(allWords) {
		wantTokens(t, s, api.Token{Kind: api.TokenWord, Text: s})
		wantTokens(t, s+"1", api.Token{Kind: api.TokenName, Text: s + "1"})
		wantTokens(t, strings.ToUpper(s), api.Token{Kind: api.TokenName, Text: strings.ToUpper(s)})
	}
}

// A1: numbers are 1 to 9 digits, without a 0 ahead of others.
func TestNumbers(t *testing.T) {
	for _, s := range []string{"0", "1", "9", "10", "100000000", "999999999"} {
		wantTokens(t, s, api.Token{Kind: api.TokenNumber, Text: s})
	}
	for _, s := range []string{"00", "01", "0000000000", "1000000000", "12345678901234567890", "00a"} {
		wantFault(t, s, api.ErrForm, 0)
		wantFault(t, "x = "+s+";", api.ErrForm, 4)
	}
	wantTokens(t, "0 0", api.Token{Kind: api.TokenNumber, Text: "0"}, api.Token{Kind: api.TokenNumber, Text: "0", At: 2})
	wantTokens(t, "0.5", api.Token{Kind: api.TokenNumber, Text: "0"}, api.Token{Kind: api.TokenSign, Text: ".", At: 1}, api.Token{Kind: api.TokenNumber, Text: "5", At: 2})
}

// A1: texts are bytes from blank to ~, but no mark, 30 at most.
func TestTexts(t *testing.T) {
	for _, s := range []string{"", " ", "~", "a b", "(", "let", "12", "\\", strings.Repeat("t", 30)} {
		wantTokens(t, `"`+s+`"`, api.Token{Kind: api.TokenText, Text: s})
	}
	wantTokens(t, `"a""b"`, api.Token{Kind: api.TokenText, Text: "a"}, api.Token{Kind: api.TokenText, Text: "b", At: 3})
	for c := range 256 {
		s := `; "a` + string([]byte{byte(c)}) + `b"`
		if c == '"' {
			s += `"`
			wantTokens(t, s, api.Token{Kind: api.TokenSign, Text: ";"}, api.Token{Kind: api.TokenText, Text: "a", At: 2}, api.Token{Kind: api.TokenName, Text: "b", At: 5}, api.Token{Kind: api.TokenText, At: 6})
		} else if ' ' <= c && c <= '~' {
			wantTokens(t, s, api.Token{Kind: api.TokenSign, Text: ";"}, api.Token{Kind: api.TokenText, Text: s[3:6], At: 2})
		} else {
			wantFault(t, s, api.ErrForm, 2)
		}
	}
	for _, s := range []string{`"`, `"a`, "\"a\n\"", `"` + strings.Repeat("t", 31) + `"`, `"` + strings.Repeat("t", 30), `"` + strings.Repeat("t", 31)} {
		wantFault(t, s, api.ErrForm, 0)
		wantFault(t, "x "+s, api.ErrForm, 2)
	}
}

// A1: the signs, each alone, and the longest one where several could stand.
func TestSigns(t *testing.T) {
	for _, s := range strings.Fields(allSigns) {
		wantTokens(t, s, api.Token{Kind: api.TokenSign, Text: s})
	}
	signs := func(s string, want ...string) {
		t.Helper()
		var tokens []api.Token
		at := 0
		for _, w := range want {
			tokens = append(tokens, api.Token{Kind: api.TokenSign, Text: w, At: at})
			at += len(w)
		}
		wantTokens(t, s, tokens...)
	}
	signs("===", "==", "=")
	signs("====", "==", "==")
	signs("===>", "==", "=>")
	signs("=>=", "=>", "=")
	signs("<=", "<", "=")
	signs("!=", "!", "=")
	signs("--", "-", "-")
	signs("||", "|", "|")
	signs("(){}[],;:.", "(", ")", "{", "}", "[", "]", ",", ";", ":", ".")
	wantTokens(t, "= =", api.Token{Kind: api.TokenSign, Text: "="}, api.Token{Kind: api.TokenSign, Text: "=", At: 2})
	wantFault(t, "==>", api.ErrForm, 2)
	wantFault(t, ">", api.ErrForm, 0)
}

// A1, A2: what each byte is, where a token begins.
func TestBytes(t *testing.T) {
	signs := "(){}[],;:.=<+-*!|"
	for c := range 256 {
		s := string([]byte{byte(c)})
		switch {
		case c == ' ' || c == '\n':
			wantTokens(t, s)
		case strings.Contains(signs, s):
			wantTokens(t, s, api.Token{Kind: api.TokenSign, Text: s})
		case '0' <= c && c <= '9':
			wantTokens(t, s, api.Token{Kind: api.TokenNumber, Text: s})
		case c == '_' || 'a' <= c && c <= 'z' || 'A' <= c && c <= 'Z':
			wantTokens(t, s, api.Token{Kind: api.TokenName, Text: s})
		default:
			wantFault(t, s, api.ErrForm, 0)
			wantFault(t, "ab "+s, api.ErrForm, 3)
			wantFault(t, "ab"+s, api.ErrForm, 2)
		}
	}
}

// A2: the end stands behind all, without a text.
func TestEnd(t *testing.T) {
	wantTokens(t, "")
	wantTokens(t, " \n\n ")
	wantTokens(t, " \nx\n ", api.Token{Kind: api.TokenName, Text: "x", At: 2})
	wantTokens(t, "x = 12;",
		api.Token{Kind: api.TokenName, Text: "x"}, api.Token{Kind: api.TokenSign, Text: "=", At: 2},
		api.Token{Kind: api.TokenNumber, Text: "12", At: 4}, api.Token{Kind: api.TokenSign, Text: ";", At: 6})
}

// A2: the limits, and one more.
func TestLimits(t *testing.T) {
	wantTokens(t, strings.Repeat(" ", api.MaxBytes))
	wantFault(t, strings.Repeat(" ", api.MaxBytes+1), api.ErrMany, 0)
	most := strings.Repeat(";", api.MaxTokens)
	if got, fault := Scan(most + " \n"); fault != (api.Fault{}) || len(got) != api.MaxTokens+1 {
		t.Errorf("MaxTokens: %d tokens, %v", len(got), fault)
	}
	wantFault(t, most+";", api.ErrMany, api.MaxTokens)
	wantFault(t, most+" \n x y", api.ErrMany, api.MaxTokens+3)
}

// A2: the first fault counts; at one byte the one that is named first.
func TestFirstFault(t *testing.T) {
	most := strings.Repeat(";", api.MaxTokens)
	wantFault(t, "#"+strings.Repeat(" ", api.MaxBytes), api.ErrMany, 0)
	wantFault(t, strings.Repeat(" ", api.MaxBytes)+"#", api.ErrMany, 0)
	wantFault(t, strings.Repeat("x ", api.MaxTokens+1)+strings.Repeat(" ", api.MaxBytes), api.ErrMany, 0)
	wantFault(t, most+"#", api.ErrForm, api.MaxTokens)
	wantFault(t, most+"007", api.ErrForm, api.MaxTokens)
	wantFault(t, most+";#", api.ErrMany, api.MaxTokens)
	wantFault(t, "#"+most+";", api.ErrForm, 0)
	wantFault(t, "a 00 #", api.ErrForm, 2)
	wantFault(t, "a # 00", api.ErrForm, 2)
}

// A3: what may stand right behind what.
func TestNeighbours(t *testing.T) {
	wantTokens(t, "12abc", api.Token{Kind: api.TokenNumber, Text: "12"}, api.Token{Kind: api.TokenName, Text: "abc", At: 2})
	wantTokens(t, "1let", api.Token{Kind: api.TokenNumber, Text: "1"}, api.Token{Kind: api.TokenWord, Text: "let", At: 1})
	wantTokens(t, "abc12", api.Token{Kind: api.TokenName, Text: "abc12"})
	wantTokens(t, `a"b"1`, api.Token{Kind: api.TokenName, Text: "a"}, api.Token{Kind: api.TokenText, Text: "b", At: 1}, api.Token{Kind: api.TokenNumber, Text: "1", At: 4})
}

// size of a token in its text.
func size(k api.Token) int {
	if k.Kind == api.TokenText {
		return len(k.Text) + 2
	}
	return len(k.Text)
}

// draw: numbers that are the same each time.
type draw uint64

func (d *draw) below(n int) int {
	*d = *d*6364136223846793005 + 1442695040888963407
	return int(uint64(*d) >> 33 % uint64(n))
}

// A3: the tokens and the blanks between them are the whole text.
func TestWholeText(t *testing.T) {
	d := draw(1)
	pieces := append(strings.Fields(allWords+" "+allSigns), " ", "\n", "a", "b1", "_", "0", "7", "12", `"x y"`, `""`, "  ")
	for range 3000 {
		var b strings.Builder
		for range d.below(30) {
			b.WriteString(pieces[d.below(len(pieces))])
		}
		wantWhole(t, b.String())
	}
}

func wantWhole(t *testing.T, s string) {
	t.Helper()
	tokens, fault := Scan(s)
	if fault != (api.Fault{}) {
		if fault.Err != api.ErrForm || fault.At >= len(s) || tokens != nil {
			t.Fatalf("Scan(%q) = %v %v", s, tokens, fault)
		}
		return
	}
	behind := 0
	for i, k := range tokens {
		if strings.Trim(s[behind:k.At], " \n") != "" {
			t.Fatalf("%q: something is lost ahead of token %d: %v", s, i, tokens)
		}
		if k.Kind == api.TokenText && s[k.At:k.At+size(k)] != `"`+k.Text+`"` || k.Kind != api.TokenText && s[k.At:k.At+size(k)] != k.Text {
			t.Fatalf("%q: token %d is not what stands there: %v", s, i, tokens)
		}
		if i > 0 && k.At == behind && melts(tokens[i-1].Kind, k.Kind) {
			t.Fatalf("%q: token %d goes on with the one ahead: %v", s, i, tokens)
		}
		behind = k.At + size(k)
	}
	if last := tokens[len(tokens)-1]; last != (api.Token{Kind: api.TokenEnd, At: len(s)}) {
		t.Fatalf("%q: the end is %v", s, last)
	}
}

// melts tells which kinds may not stand right behind each other.
func melts(ahead, behind int) bool {
	letters := func(kind int) bool { return kind == api.TokenName || kind == api.TokenWord }
	return letters(ahead) && (letters(behind) || behind == api.TokenNumber) || ahead == api.TokenNumber && behind == api.TokenNumber
}

// P1: any bytes get an answer.
func TestAnyBytes(t *testing.T) {
	d := draw(2)
	for range 2000 {
		b := make([]byte, d.below(40))
		for i := range b {
			b[i] = byte(d.below(256))
		}
		wantWhole(t, string(b))
	}
}

// P2, P3: an answer is the caller's, and the next one is the same.
func TestAnswerIsNew(t *testing.T) {
	const s = `let x = "t" + 12;`
	a, _ := Scan(s)
	kept := slices.Clone(a)
	b, _ := Scan(s)
	clear(a[:cap(a)])
	c, _ := Scan(s)
	if !slices.Equal(b, kept) || !slices.Equal(c, kept) {
		t.Errorf("answers differ: %v, %v, %v", kept, b, c)
	}
}
