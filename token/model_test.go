package token

import (
	"math/rand"
	"regexp"
	"slices"
	"sort"
	"strconv"
	"strings"

	"netlab/api"
	"netlab/literal"
	"netlab/vec"
)

// The expected tokens are those of a model that matches the rest of a text with regular
// expressions, which are built from the lists of the chapter.

const chapterKeywords = `always and assign begin buf bufif0 bufif1 case casex casez default else end endcase
	endfunction endmodule endtask for forever function genvar highz0 highz1 if initial input integer large0 large1
	localparam medium0 medium1 module nand negedge nor not notif0 notif1 or output parameter posedge pull0 pull1 reg
	repeat signed small0 small1 strong0 strong1 supply0 supply1 task tri0 tri1 wait wand weak0 weak1 while wire wor
	xnor xor`

const chapterPuncts = `<<< >>> === !== << >> <= >= == != && || ** ~& ~| ~^ +: + - * / % < > ! ~ & | ^ ? : ; , . ( ) [ ] { } # @ =`

var (
	keywordList = strings.Fields(chapterKeywords)
	punctList   = strings.Fields(chapterPuncts)
	separators  = regexp.MustCompile(`^(?:[ \t\r\n]|//[^\n]*(?:\n|\z)|/\*(?s:.*?)\*/)*`)
	identifier  = regexp.MustCompile(`^[A-Za-z_][A-Za-z0-9_$]*`)
	systemName  = regexp.MustCompile(`^\$[A-Za-z_][A-Za-z0-9_$]*`)
	punctuation = regexp.MustCompile(`^(?:` + strings.Join(quoted(longestFirst(punctList)), "|") + `)`)
	stringBegin = regexp.MustCompile(`^"(?:[ !#-\[\]-~]|\\[nt\\"])*`)
	decoder     = strings.NewReplacer(`\n`, "\n", `\t`, "\t", `\\`, `\`, `\"`, `"`)
	encoder     = strings.NewReplacer("\n", `\n`, "\t", `\t`, `\`, `\\`, `"`, `\"`)
)

func longestFirst(l []string) []string {
	l = slices.Clone(l)
	sort.SliceStable(l, func(i, j int) bool { return len(l[i]) > len(l[j]) })
	return l
}

func quoted(l []string) []string {
	var q []string
	for _, s := range l {
		q = append(q, regexp.QuoteMeta(s))
	}
	return q
}

// result is what Next returns; a vector is written with its bits as characters, the
// most significant bit first, and s in front if it is signed.
type result struct {
	kind uint8
	text string
	bits string
	next int
	e    api.Errno
}

func next(s string, at int) result {
	t, next, e := Next(s, at)
	return result{t.Kind, t.Text, show(t.Val), next, e}
}

func show(v api.Vec) string {
	s := ""
	for _, b := range v.Bits {
		s = "01xz"[b:b+1] + s
	}
	if v.Signed {
		return "s" + s
	}
	return s
}

// of is the vector that is written as s.
func of(s string) api.Vec {
	bits, signed := strings.CutPrefix(s, "s")
	v := api.Vec{Signed: signed}
	for _, c := range slices.Backward([]byte(bits)) {
		v.Bits = append(v.Bits, api.Bit(strings.IndexByte("01xz", c)))
	}
	return v
}

func wantNext(s string, at int) result {
	switch {
	case len(s) > 65536:
		return result{e: api.ErrLong}
	case at < 0 || at > len(s):
		return result{e: api.ErrArg}
	}
	at += len(separators.FindString(s[at:]))
	rest := s[at:]
	switch {
	case strings.HasPrefix(rest, "/*"):
		return result{e: api.ErrShort}
	case rest == "":
		return result{e: api.ErrNone}
	case rest[0] == '"':
		return wantString(rest, at)
	case '0' <= rest[0] && rest[0] <= '9' || rest[0] == '\'':
		v, next, e := literal.Parse(s, at)
		if e != api.OK {
			return result{e: e}
		}
		return result{kind: 4, bits: show(v), next: next}
	}
	for kind, form := range map[uint8]*regexp.Regexp{1: identifier, 3: systemName, 6: punctuation} {
		if text := form.FindString(rest); text != "" {
			if slices.Contains(keywordList, text) {
				kind = 2
			}
			return result{kind: kind, text: text, next: at + len(text)}
		}
	}
	return result{e: api.ErrForm}
}

func wantString(rest string, at int) result {
	begin := stringBegin.FindString(rest)
	after := rest[len(begin):]
	switch {
	case after == "" || after == `\`:
		return result{e: api.ErrShort}
	case after[0] != '"':
		return result{e: api.ErrForm}
	}
	return result{kind: 5, text: decoder.Replace(begin[1:]), next: at + len(begin) + 1}
}

// wantAll also returns the offsets after the tokens.
func wantAll(s string) ([]result, api.Errno) {
	var l []result
	at := 0
	for {
		r := wantNext(s, at)
		switch r.e {
		case api.OK:
			l = append(l, r)
			at = r.next
		case api.ErrNone:
			return l, api.OK
		default:
			return nil, r.e
		}
	}
}

// wantFormat is what Format returns for a token whose kind is not Number.
func wantFormat(kind uint8, text string) (string, api.Errno) {
	isKeyword := slices.Contains(keywordList, text)
	valid := false
	switch kind {
	case 1:
		valid = identifier.FindString(text) == text && text != "" && !isKeyword
	case 2:
		valid = isKeyword
	case 3:
		valid = systemName.FindString(text) == text && text != ""
	case 5:
		if regexp.MustCompile(`^[\t\n -~]*\z`).MatchString(text) {
			return `"` + encoder.Replace(text) + `"`, api.OK
		}
	case 6:
		valid = slices.Contains(punctList, text)
	default:
		return "", api.ErrKind
	}
	if !valid {
		return "", api.ErrForm
	}
	return text, api.OK
}

// wantNumber is what Format returns for a Number with the bits s.
func wantNumber(s string) string {
	bits, signed := strings.CutPrefix(s, "s")
	n, err := strconv.ParseInt(bits, 2, 64)
	switch {
	case signed && len(bits) == 32 && err == nil && n < 1<<31:
		return strconv.FormatInt(n, 10)
	case signed:
		return strconv.Itoa(len(bits)) + "'sb" + bits
	}
	return strconv.Itoa(len(bits)) + "'b" + bits
}

func sameToken(a, b Token) bool {
	return a.Kind == b.Kind && a.Text == b.Text && vec.Same(a.Val, b.Val)
}

func sameTokens(a, b []Token) bool { return slices.EqualFunc(a, b, sameToken) }

// texts are all strings of the given alphabet with at most that many characters.
func texts(alphabet string, most int) []string {
	l := []string{""}
	for first := 0; most > 0; most-- {
		last := len(l)
		for _, s := range l[first:last] {
			for i := range len(alphabet) {
				l = append(l, s+alphabet[i:i+1])
			}
		}
		first = last
	}
	return l
}

// pick is a text of up to most characters of the alphabet.
func pick(random *rand.Rand, alphabet string, most int) string {
	s := make([]byte, random.Intn(most+1))
	for i := range s {
		s[i] = alphabet[random.Intn(len(alphabet))]
	}
	return string(s)
}

// randomToken is a valid token.
func randomToken(random *rand.Rand) Token {
	const names = "abcxyzABZ_$0189"
	switch kind := uint8(1 + random.Intn(6)); kind {
	case Ident:
		return Token{Kind: kind, Text: "_" + pick(random, names, 5)}
	case Keyword:
		return Token{Kind: kind, Text: keywordList[random.Intn(len(keywordList))]}
	case System:
		return Token{Kind: kind, Text: "$" + pick(random, "abz_AZ", 1) + "a" + pick(random, names, 5)}
	case String:
		return Token{Kind: kind, Text: pick(random, "ab \n\t\\\"/*'", 8)}
	case Punct:
		return Token{Kind: kind, Text: punctList[random.Intn(len(punctList))]}
	}
	v := "s0" + strings.Repeat(pick(random, "01", 1), 31)
	if random.Intn(2) == 0 {
		v = pick(random, "s", 1) + pick(random, "01xz", 40) + "1"
	}
	if v == "s0" {
		v = "s" + strings.Repeat("01", 16)
	}
	return Token{Kind: Number, Val: of(v)}
}

func randomTokens(random *rand.Rand, most int) []Token {
	l := make([]Token, random.Intn(most+1))
	for i := range l {
		l[i] = randomToken(random)
	}
	return l
}
