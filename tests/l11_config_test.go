package tests

import (
	"fmt"
	"math"
	"regexp"
	"slices"
	"strconv"
	"strings"
	"testing"

	"loop.example/g00129/impl"
)

// Settings of two lines, and with two rules; others are made of them.
const (
	plainTwo  = "wait 3\ntries 0\n"
	plainFour = plainTwo + "rule 1 2 10 19 1 6 -10\nrule 247 0 0 65535 5 1 0\n"
)

func equalConfig(a impl.Config, b impl.Config) bool {
	return a.Wait == b.Wait && a.Tries == b.Tries && slices.Equal(a.Rules, b.Rules)
}

// textOf is the lines of chapter 11, of settings right or not.
func textOf(c impl.Config) string {
	text := fmt.Sprintf("wait %d\ntries %d\n", c.Wait, c.Tries)
	for _, r := range c.Rules {
		text += fmt.Sprintf("rule %d %d %d %d %d %d %d\n", r.Unit, r.Space, r.Lo, r.Hi, r.Port, r.To, r.Shift)
	}
	return text
}

// slowConfig tells whether settings are as chapter 11 tells them.
func slowConfig(c impl.Config) bool {
	return c.Wait >= 1 && c.Wait <= 100 && c.Tries >= 0 && c.Tries <= 5 && slowRules(c.Rules)
}

// The forms of the first line, of the second one, and of all behind them, each with its end.
var lineForms = []*regexp.Regexp{
	regexp.MustCompile(`\Await (0|[1-9][0-9]{0,5})\n\z`),
	regexp.MustCompile(`\Atries (0|[1-9][0-9]{0,5})\n\z`),
	regexp.MustCompile(`\Arule` + strings.Repeat(` (0|[1-9][0-9]{0,5})`, 6) + ` (0|-?[1-9][0-9]{0,5})\n\z`),
}

// linesOf is the lines of a text, each with its end, where it has one.
func linesOf(s string) []string {
	lines := strings.SplitAfter(s, "\n")
	if lines[len(lines)-1] == "" {
		return lines[:len(lines)-1]
	}
	return lines
}

// slowParse is ParseConfig as chapter 11 words it, line by line.
func slowParse(s string) (impl.Config, int) {
	var c impl.Config
	lines := linesOf(s)
	for i, line := range lines {
		found := lineForms[min(i, 2)].FindStringSubmatch(line)
		if found == nil {
			return impl.Config{}, i
		}
		var n []int
		for _, digits := range found[1:] {
			number, _ := strconv.Atoi(digits)
			n = append(n, number)
		}
		switch i {
		case 0:
			c.Wait = n[0]
		case 1:
			c.Tries = n[0]
		default:
			c.Rules = append(c.Rules, impl.Rule{Unit: n[0], Space: n[1], Lo: n[2], Hi: n[3], Port: n[4], To: n[5], Shift: n[6]})
		}
	}
	if len(lines) < 2 || !slowConfig(c) {
		return impl.Config{}, len(lines)
	}
	return c, -1
}

// readsAs wants that s is read as these settings and this number; the chapter's words must tell the same.
func readsAs(t *testing.T, s string, want impl.Config, number int) {
	t.Helper()
	slow, slowNumber := slowParse(s)
	if !equalConfig(slow, want) || slowNumber != number {
		t.Fatalf("as worded, ParseConfig of %q is %v, %d, not %v, %d", s, slow, slowNumber, want, number)
	}
	if c, line := impl.ParseConfig(s); line != number || !equalConfig(c, want) {
		t.Errorf("ParseConfig of %q is %v, %d, not %v, %d", s, c, line, want, number)
	}
}

// noSettings wants the zero settings and this number.
func noSettings(t *testing.T, s string, number int) {
	t.Helper()
	readsAs(t, s, impl.Config{}, number)
}

// readAsWorded wants of s what the chapter's words tell, and the text back where it is one; it tells whether it is.
func readAsWorded(t *testing.T, s string) bool {
	t.Helper()
	want, number := slowParse(s)
	c, line := impl.ParseConfig(s)
	if line != number || !equalConfig(c, want) {
		t.Errorf("ParseConfig of %q is %v, %d, not %v, %d", s, c, line, want, number)
	}
	if line == -1 && (!impl.ConfigOk(c) || impl.ConfigText(c) != s) {
		t.Errorf("the text of what is read of %q is %q", s, impl.ConfigText(c))
	}
	return line == -1
}

// configIs wants that ConfigOk tells this, and that settings have a text, and a way back, only where they are right.
func configIs(t *testing.T, c impl.Config, right bool) {
	t.Helper()
	if got := impl.ConfigOk(c); got != right || slowConfig(c) != right {
		t.Errorf("ConfigOk of %v is %v, as worded %v, not %v", c, got, slowConfig(c), right)
	}
	want := ""
	if right {
		want = textOf(c)
	}
	if got := impl.ConfigText(c); got != want {
		t.Errorf("ConfigText of %v is %q, not %q", c, got, want)
	}
	if right {
		readsAs(t, want, c, -1)
	}
}

// rulesFrom gives n right rules of all units, spaces and ports, moved up, down and not at all.
func rulesFrom(n int) []impl.Rule {
	var l []impl.Rule
	for i := range n {
		lo := 2500 * i
		l = append(l, impl.Rule{Unit: 1 + i*41%247, Space: i % 4, Lo: lo, Hi: lo + i*97%2500, Port: i % 6, To: 247 - i*53%247, Shift: []int{0, -lo, 4999, -lo / 2}[i%4]})
	}
	return l
}

// rightConfigs gives right settings of none to 24 rules, in several orders.
func rightConfigs() []impl.Config {
	var list []impl.Config
	for n := range 25 {
		l := rulesFrom(n)
		back := slices.Clone(l)
		slices.Reverse(back)
		list = append(list, impl.Config{Wait: 1 + 4*n, Tries: n % 6, Rules: l}, impl.Config{Wait: 100 - n, Tries: 5 - n%6, Rules: back})
	}
	for i, l := range routeRules() {
		list = append(list, impl.Config{Wait: 1 + i, Tries: i % 6, Rules: l})
	}
	return list
}

func TestConfigTextKnown(t *testing.T) {
	rules := []impl.Rule{{Unit: 1, Space: 2, Lo: 10, Hi: 19, Port: 1, To: 6, Shift: -10}, {Unit: 247, Hi: 65535, Port: 5, To: 1}}
	for _, k := range []struct {
		c    impl.Config
		text string
	}{
		{impl.Config{Wait: 1}, "wait 1\ntries 0\n"},
		{impl.Config{Wait: 100, Tries: 5, Rules: []impl.Rule{}}, "wait 100\ntries 5\n"},
		{impl.Config{Wait: 3, Rules: rules}, plainFour},
		{impl.Config{Wait: 3, Tries: 2, Rules: rules[1:]}, "wait 3\ntries 2\nrule 247 0 0 65535 5 1 0\n"},
		{impl.Config{Wait: 10, Tries: 1, Rules: []impl.Rule{{Unit: 7, Space: 3, Lo: 20, Hi: 30, Port: 4, To: 50, Shift: 600}}}, "wait 10\ntries 1\nrule 7 3 20 30 4 50 600\n"},
	} {
		if got := impl.ConfigText(k.c); got != k.text {
			t.Errorf("ConfigText of %v is %q, not %q", k.c, got, k.text)
		}
		readsAs(t, k.text, k.c, -1)
		configIs(t, k.c, true)
	}
}

func TestSettingsComeBack(t *testing.T) {
	for _, c := range rightConfigs() {
		configIs(t, c, true)
		back, line := impl.ParseConfig(impl.ConfigText(c))
		if line != -1 || back.Wait != c.Wait || back.Tries != c.Tries || len(back.Rules) != len(c.Rules) {
			t.Fatalf("%v comes back as %v, %d", c, back, line)
		}
		for i, r := range back.Rules {
			w := c.Rules[i]
			if r.Unit != w.Unit || r.Space != w.Space || r.Lo != w.Lo || r.Hi != w.Hi || r.Port != w.Port || r.To != w.To || r.Shift != w.Shift {
				t.Errorf("the rule %v comes back as %v", w, r)
			}
		}
		if again := impl.ConfigText(back); again != textOf(c) {
			t.Errorf("the text %q comes back as %q", textOf(c), again)
		}
	}
}

func TestTextWithoutItsLastByte(t *testing.T) {
	for _, c := range rightConfigs() {
		text := textOf(c)
		// the byte 10 lies right behind what is read here
		noSettings(t, text[:len(text)-1], 1+len(c.Rules))
	}
}

func TestEveryWaitAndTries(t *testing.T) {
	for wait := -3; wait <= 110; wait++ {
		for tries := -3; tries <= 12; tries++ {
			right := 1 <= wait && wait <= 100 && 0 <= tries && tries <= 5
			configIs(t, impl.Config{Wait: wait, Tries: tries}, right)
			configIs(t, impl.Config{Wait: wait, Tries: tries, Rules: rulesFrom(2)}, right)
		}
	}
}

// farNumbers are the ends of int and what would be small with fewer bits.
var farNumbers = []int{math.MinInt, math.MinInt + 1, -1 << 32, 1 - 1<<32, -1 << 16, -256, 256, 257, 1 << 16, 1<<16 + 1, 1 << 32, 1<<32 + 1, 1<<32 + 5, math.MaxInt - 1, math.MaxInt}

func TestWaitAndTriesFarOff(t *testing.T) {
	for _, rules := range [][]impl.Rule{nil, rulesFrom(1), rulesFrom(24)} {
		for _, n := range farNumbers {
			configIs(t, impl.Config{Wait: n, Tries: 2, Rules: rules}, false)
			configIs(t, impl.Config{Wait: 2, Tries: n, Rules: rules}, false)
			configIs(t, impl.Config{Wait: n, Tries: n, Rules: rules}, false)
		}
	}
	configIs(t, impl.Config{}, false)
}

// wrongRules gives rules that are not right: one that is none, two with a place in common, one too many.
func wrongRules() [][]impl.Rule {
	list := [][]impl.Rule{{{}}, rulesFrom(25), make([]impl.Rule, 1000)}
	for _, edit := range ruleEdits() {
		l := rulesFrom(4)
		edit(&l[2])
		list = append(list, l, []impl.Rule{l[2]}, []impl.Rule{l[2], l[0]}, append(rulesFrom(2), l[2]))
	}
	same := append(rulesFrom(3), rulesFrom(3)[1])
	end := append(rulesFrom(3), rulesFrom(3)[2])
	end[3].Lo = end[3].Hi
	return append(list, same, end, append(rulesFrom(23), same[2:]...))
}

// ruleEdits make a rule of rulesFrom one that is not right, but has the form of one.
func ruleEdits() []func(*impl.Rule) {
	return []func(*impl.Rule){
		func(r *impl.Rule) { r.Unit = 0 },
		func(r *impl.Rule) { r.Unit = 248 },
		func(r *impl.Rule) { r.Space = 4 },
		func(r *impl.Rule) { r.Lo = r.Hi + 1 },
		func(r *impl.Rule) { r.Hi = 65536 },
		func(r *impl.Rule) { r.Hi = 999999 },
		func(r *impl.Rule) { r.Port = 6 },
		func(r *impl.Rule) { r.To = 0 },
		func(r *impl.Rule) { r.To = 248 },
		func(r *impl.Rule) { r.Shift = -r.Lo - 1 },
		func(r *impl.Rule) { r.Shift = 65536 - r.Hi },
		func(r *impl.Rule) { r.Shift = 999999 },
		func(r *impl.Rule) { r.Shift = -999999 },
	}
}

func TestSettingsWithWrongRules(t *testing.T) {
	for _, l := range wrongRules() {
		for _, c := range []impl.Config{{Wait: 1, Rules: l}, {Wait: 100, Tries: 5, Rules: l}, {Rules: l}} {
			configIs(t, c, false)
			// all lines are such
			noSettings(t, textOf(c), 2+len(l))
			noSettings(t, strings.TrimSuffix(textOf(c), "\n"), 1+len(l))
		}
	}
	// the 25th lies behind the length of the list
	configIs(t, impl.Config{Wait: 1, Rules: rulesFrom(25)[:24]}, true)
}

func TestEachNumberAtItsEnds(t *testing.T) {
	for _, k := range []struct {
		r     impl.Rule
		right bool
	}{
		{impl.Rule{Unit: 1, To: 1}, true}, {impl.Rule{Unit: 247, To: 247}, true}, {impl.Rule{Unit: 0, To: 1}, false}, {impl.Rule{Unit: 248, To: 1}, false}, {impl.Rule{Unit: 1, To: 0}, false}, {impl.Rule{Unit: 1, To: 248}, false},
		{impl.Rule{Unit: 1, To: 1, Hi: 65535}, true}, {impl.Rule{Unit: 1, To: 1, Lo: 65535, Hi: 65535}, true}, {impl.Rule{Unit: 1, To: 1, Hi: 65536}, false}, {impl.Rule{Unit: 1, To: 1, Lo: -1}, false},
		{impl.Rule{Unit: 1, To: 1, Shift: 65535}, true}, {impl.Rule{Unit: 1, To: 1, Shift: 65536}, false}, {impl.Rule{Unit: 1, To: 1, Shift: -1}, false},
		{impl.Rule{Unit: 1, To: 1, Lo: 65535, Hi: 65535, Shift: -65535}, true}, {impl.Rule{Unit: 1, To: 1, Lo: 65535, Hi: 65535, Shift: -65536}, false}, {impl.Rule{Unit: 1, To: 1, Lo: 65535, Hi: 65535, Shift: 1}, false},
		{impl.Rule{Unit: 1, To: 1, Space: 3, Port: 5}, true}, {impl.Rule{Unit: 1, To: 1, Space: 4}, false}, {impl.Rule{Unit: 1, To: 1, Port: 6}, false}, {impl.Rule{Unit: 1, To: 1, Space: -1}, false}, {impl.Rule{Unit: 1, To: 1, Port: -1}, false},
	} {
		for _, c := range []impl.Config{{Wait: 1, Tries: 0}, {Wait: 100, Tries: 5}} {
			c.Rules = []impl.Rule{k.r}
			configIs(t, c, k.right)
		}
	}
	for _, k := range []struct {
		line string
		r    impl.Rule
	}{
		{"rule 247 3 65535 65535 5 247 -65535\n", impl.Rule{Unit: 247, Space: 3, Lo: 65535, Hi: 65535, Port: 5, To: 247, Shift: -65535}},
		{"rule 1 0 0 0 0 1 65535\n", impl.Rule{Unit: 1, To: 1, Shift: 65535}},
		{"rule 1 0 0 65535 0 1 0\n", impl.Rule{Unit: 1, Hi: 65535, To: 1}},
	} {
		c := impl.Config{Wait: 100, Tries: 5, Rules: []impl.Rule{k.r}}
		if got := impl.ConfigText(c); got != "wait 100\ntries 5\n"+k.line {
			t.Errorf("ConfigText of %v is %q", c, got)
		}
	}
}

func TestParseConfigOfTooLittle(t *testing.T) {
	noSettings(t, "", 0)
	noSettings(t, "\n", 0)
	noSettings(t, "\n\n\n", 0)
	noSettings(t, "wait 3", 0)
	noSettings(t, "wait 3\n", 1)
	noSettings(t, "wait 3\ntries 0", 1)
	noSettings(t, "tries 0\n", 0)
	noSettings(t, "rule 1 0 0 0 0 1 0\n", 0)
	// what is not right does not count ahead of a line that is not there
	noSettings(t, "wait 0\n", 1)
	noSettings(t, "wait 999999\n", 1)
	noSettings(t, "wait 999999", 0)
	noSettings(t, "wait 0\ntries 9", 1)
}

func TestTextsThatEndWithinALine(t *testing.T) {
	for _, c := range []impl.Config{{Wait: 100, Tries: 5, Rules: rulesFrom(24)}, {Wait: 1, Rules: rulesFrom(3)}} {
		text := textOf(c)
		for end := range len(text) {
			begun := strings.Count(text[:end], "\n")
			if begun >= 2 && text[end-1] == '\n' {
				fewer := impl.Config{Wait: c.Wait, Tries: c.Tries, Rules: c.Rules[:begun-2]}
				readsAs(t, text[:end], fewer, -1)
				continue
			}
			noSettings(t, text[:end], begun)
		}
	}
}

// spoiledLines gives what a line may be made so that it is none where it stood.
func spoiledLines(line string) []string {
	return []string{"", " ", " " + line, line + " ", line + "\r", "x" + line, line + "x", "\x00", "wait", "tries", "rule", strings.ToUpper(line), strings.Replace(line, " ", "  ", 1), strings.Replace(line, " ", "\t", 1), line + " 0", line + "\xff", "ru\u0142e 1"}
}

func TestTheFirstLineThatIsNone(t *testing.T) {
	lines := strings.Split(strings.TrimSuffix(textOf(impl.Config{Wait: 3, Tries: 1, Rules: rulesFrom(4)}), "\n"), "\n")
	for i, line := range lines {
		for _, spoiled := range spoiledLines(line) {
			some := slices.Clone(lines)
			some[i] = spoiled
			noSettings(t, strings.Join(some, "\n")+"\n", i)
			for j := i + 1; j < len(lines); j++ {
				for _, another := range spoiledLines(lines[j]) {
					more := slices.Clone(some)
					more[j] = another
					noSettings(t, strings.Join(more, "\n")+"\n", i)
					noSettings(t, strings.Join(more, "\n"), i)
				}
			}
		}
	}
}

// A line that is none counts ahead of lines that have their form and are not right.
func TestFormCountsAheadOfWhatIsNotRight(t *testing.T) {
	noSettings(t, "wait 0\ntries 9\nrule 0 9 9 8 9 0 -1\nrule\n", 3)
	noSettings(t, "wait 101\ntries x\n", 1)
	noSettings(t, "wait 3\ntries 6\nrule 1 0 0 0 0 1 00\n", 2)
	noSettings(t, "wait 3\ntries 0\nrule 1 0 0 9 0 1 0\nrule 1 0 9 9 0 1 0\n\n", 4)
	text := textOf(impl.Config{Wait: 3, Rules: rulesFrom(30)})
	noSettings(t, text, 32)
	noSettings(t, text+"end\n", 32)
	noSettings(t, text+"rule 1 0 0 0 0 1 0", 32)
	noSettings(t, text+"rule 1 0 0 0 0 1 0\n", 33)
}

func TestLinesInAnotherOrder(t *testing.T) {
	wait, tries, rule := "wait 3\n", "tries 0\n", "rule 1 2 10 19 1 6 -10\n"
	for _, k := range []struct {
		text   string
		number int
	}{
		{tries + wait, 0}, {tries + wait + rule, 0}, {rule + wait + tries, 0}, {wait + rule + tries, 1}, {wait + rule, 1}, {tries + rule, 0}, {rule, 0},
		{wait + wait + tries, 1}, {wait + wait, 1}, {tries + tries, 0}, {wait + tries + wait, 2}, {wait + tries + tries, 2}, {wait + tries + rule + wait, 3}, {wait + tries + rule + tries, 3},
		{wait + tries + tries + rule, 2}, {wait + tries + wait + tries, 2}, {wait + tries + wait + tries + rule, 2}, {wait + tries + rule + wait + tries + rule, 3},
		{wait + tries + rule + rule, 4}, {wait + tries + rule + rule + rule, 5},
		{"\n" + wait + tries, 0}, {wait + "\n" + tries, 1}, {wait + tries + "\n", 2}, {wait + tries + "\n" + rule, 2}, {wait + tries + rule + "\n", 3}, {wait + tries + "\n\n", 2}, {wait + tries + rule + "\n\n", 3},
		{wait + tries + rule + "\r\n", 3}, {wait + tries + rule + " ", 3}, {wait + tries + rule + " \n", 3}, {wait + tries + rule + "\x00", 3},
		{"wait 3 tries 0\n", 0}, {"wait 3\ntries 0 " + rule, 1}, {wait + tries + "rule 1 2 10 19 1 6 -10 " + rule, 2},
	} {
		noSettings(t, k.text, k.number)
	}
	readsAs(t, wait+tries+rule, impl.Config{Wait: 3, Rules: []impl.Rule{{Unit: 1, Space: 2, Lo: 10, Hi: 19, Port: 1, To: 6, Shift: -10}}}, -1)
}

func TestRulesOneTooMany(t *testing.T) {
	for n := range 60 {
		c := impl.Config{Wait: 7, Tries: 1, Rules: rulesFrom(min(n, 26))}
		for len(c.Rules) < n {
			i := len(c.Rules)
			c.Rules = append(c.Rules, impl.Rule{Unit: 1, Space: 1, Lo: 65000 + i, Hi: 65000 + i, To: 1})
		}
		if n <= 24 {
			readsAs(t, textOf(c), c, -1)
			continue
		}
		noSettings(t, textOf(c), 2+n)
	}
	many := plainTwo + strings.Repeat("rule 1 2 10 19 1 6 -10\n", 5000)
	noSettings(t, many, 5002)
	noSettings(t, many+"\n", 5002)
	noSettings(t, many[:len(many)-1], 5001)
}

// fieldsOf is the numbers of settings with one rule, as texts, and the line each stands in.
func fieldsOf() ([]string, []int) {
	return []string{"3", "0", "1", "2", "10", "19", "1", "6", "-10"}, []int{0, 1, 2, 2, 2, 2, 2, 2, 2}
}

// joinFields is the text of settings with one rule whose numbers these are.
func joinFields(f []string) string {
	return "wait " + f[0] + "\ntries " + f[1] + "\nrule " + strings.Join(f[2:], " ") + "\n"
}

func TestNumbersThatHaveNoForm(t *testing.T) {
	texts := []string{"", "00", "01", "007", "000000", "0000001", "010", "-0", "-00", "-01", "--1", "-", "--", "+", "+1", "+0", "-+1", "+-1", "1-", "1+", "-1-", "1000000", "9999999", "-1000000", "-9999999",
		"10000000000000000000", "18446744073709551617", "-18446744073709551615", "9223372036854775807", "-9223372036854775808", "4294967297", strings.Repeat("9", 300), strings.Repeat("0", 300), strings.Repeat("-", 300),
		" 1", "1 ", "1 1", "1.0", "1.", ".1", "1e1", "1E1", "0x1", "0X1", "0b1", "0o1", "1_0", "1,0", "'1'", "a", "A", "f", "x", "1x", "x1", "\t1", "1\t", "1\r", "\r", "\v1", "1\x00", "\x00", "\x001",
		"\x80", "\xff", "1\xff", "\xff1", "1\x80", "\xb9", "\xb2", "1\xc2", "\xc2\xb9", "\u0661", "\uff11", "1\u0661", "\u22121", "\u00a01", "\U0001d7cf", "\ufffd", "/", ":", "1/", "1:", "nil", "NaN", "inf", "true"}
	plain, lines := fieldsOf()
	for i, line := range lines {
		for _, text := range texts {
			fields := slices.Clone(plain)
			fields[i] = text
			noSettings(t, joinFields(fields), line)
		}
	}
}

func TestEveryOtherByteInANumber(t *testing.T) {
	plain, lines := fieldsOf()
	for i, line := range lines {
		for b := range 256 {
			if '0' <= b && b <= '9' || b == '\n' {
				continue
			}
			one := string([]byte{byte(b)})
			for _, text := range []string{one, one + "1", "1" + one, "1" + one + "1"} {
				if i == 8 && text == "-1" {
					continue
				}
				fields := slices.Clone(plain)
				fields[i] = text
				noSettings(t, joinFields(fields), line)
			}
		}
	}
}

func TestASignAheadOfEachField(t *testing.T) {
	plain, lines := fieldsOf()
	for i, line := range lines {
		for _, sign := range []string{"-", "+", "--", "-+", "+-"} {
			for _, digits := range []string{"0", "1", "5", "10", "999999", "1000000"} {
				fields := slices.Clone(plain)
				fields[i] = sign + digits
				if i == 8 && sign == "-" && digits != "0" && digits != "1000000" {
					// of this form; right only where the places stay words
					right := digits != "999999"
					if readAsWorded(t, joinFields(fields)) != right {
						t.Errorf("Shift %s%s", sign, digits)
					}
					continue
				}
				noSettings(t, joinFields(fields), line)
			}
		}
	}
}

func TestSixDigitsAndSeven(t *testing.T) {
	plain, lines := fieldsOf()
	for i, line := range lines {
		for _, digits := range []string{"100000", "123456", "999999"} {
			fields := slices.Clone(plain)
			fields[i] = digits
			noSettings(t, joinFields(fields), 3)
			fields[i] = digits + "0"
			noSettings(t, joinFields(fields), line)
			fields[i] = "0" + digits
			noSettings(t, joinFields(fields), line)
		}
	}
	for _, shift := range []string{"-100000", "-999999"} {
		noSettings(t, joinFields([]string{"3", "0", "1", "2", "10", "19", "1", "6", shift}), 3)
		noSettings(t, joinFields([]string{"3", "0", "1", "2", "10", "19", "1", "6", shift + "0"}), 2)
	}
}

func TestBlanksTooManyOrTooFew(t *testing.T) {
	lines := linesOf(plainFour)
	for i, line := range lines {
		for at := range len(line) {
			some := slices.Clone(lines)
			some[i] = line[:at] + " " + line[at:]
			noSettings(t, strings.Join(some, ""), i)
			if line[at] != ' ' {
				continue
			}
			some[i] = line[:at] + line[at+1:]
			noSettings(t, strings.Join(some, ""), i)
			for _, other := range []string{"\t", "_", ",", "\x00", "\xa0", "\u00a0", "\u2003", "\r", "\v", "-", "0"} {
				some[i] = line[:at] + other + line[at+1:]
				noSettings(t, strings.Join(some, ""), i)
			}
		}
	}
	noSettings(t, plainTwo+strings.Repeat(" ", 100000)+"\n", 2)
	noSettings(t, plainTwo+"rule"+strings.Repeat(" 1", 100000)+"\n", 2)
	noSettings(t, plainTwo+"rule 1 0 0 0 0 1\n", 2)
	noSettings(t, plainTwo+"rule 1 0 0 0 0 1 0 0\n", 2)
	noSettings(t, plainTwo+"rule\n", 2)
	noSettings(t, "wait\ntries 0\n", 0)
	noSettings(t, "wait 3 3\ntries 0\n", 0)
	noSettings(t, "wait 3\ntries\n", 1)
	noSettings(t, "wait 3\ntries 0 0\n", 1)
}

func TestLinesThatEndWithTwoBytes(t *testing.T) {
	lines := linesOf(plainFour)
	for i := range lines {
		some := slices.Clone(lines)
		some[i] = strings.TrimSuffix(some[i], "\n") + "\r\n"
		noSettings(t, strings.Join(some, ""), i)
		some[i] = strings.TrimSuffix(some[i], "\r\n") + "\n\r"
		noSettings(t, strings.Join(some, ""), i+1)
	}
	noSettings(t, strings.ReplaceAll(plainFour, "\n", "\r\n"), 0)
	noSettings(t, strings.ReplaceAll(plainFour, "\n", "\r"), 0)
	noSettings(t, strings.ReplaceAll(plainFour, "\n", "\u0085"), 0)
	noSettings(t, strings.ReplaceAll(plainFour, "\n", "\u2028"), 0)
	noSettings(t, "\ufeff"+plainFour, 0)
}

func TestOtherWords(t *testing.T) {
	for _, k := range []struct{ was, is string }{
		{"wait", "Wait"}, {"wait", "WAIT"}, {"wait", "wai"}, {"wait", "waits"}, {"wait", ""}, {"wait", "tries"}, {"wait", "rule"}, {"wait", "3"},
		{"tries", "Tries"}, {"tries", "try"}, {"tries", "trie"}, {"tries", "triess"}, {"tries", ""}, {"tries", "wait"}, {"tries", "rule"},
		{"rule", "Rule"}, {"rule", "rul"}, {"rule", "rules"}, {"rule", ""}, {"rule", "wait"}, {"rule", "tries"}, {"rule", "rule rule"}, {"rule", "#rule"},
	} {
		noSettings(t, strings.Replace(plainFour, k.was, k.is, 1), slices.Index([]string{"wait", "tries", "rule"}, k.was))
	}
}

func TestAllLinesSuchButNotRight(t *testing.T) {
	for _, l := range [][]impl.Rule{nil, rulesFrom(1), rulesFrom(24)} {
		for _, n := range []int{0, 101, 102, 999, 65536, 999999} {
			noSettings(t, textOf(impl.Config{Wait: n, Tries: 1, Rules: l}), 2+len(l))
		}
		for _, n := range []int{6, 7, 10, 100, 999999} {
			noSettings(t, textOf(impl.Config{Wait: 1, Tries: n, Rules: l}), 2+len(l))
		}
		noSettings(t, textOf(impl.Config{Wait: 0, Tries: 6, Rules: l}), 2+len(l))
	}
	for n := 1; n <= 24; n++ {
		for i := range n {
			for _, edit := range ruleEdits() {
				l := rulesFrom(n)
				edit(&l[i])
				noSettings(t, textOf(impl.Config{Wait: 1, Rules: l}), 2+n)
			}
			l := slices.Insert(rulesFrom(n), i, rulesFrom(n)[i])
			noSettings(t, textOf(impl.Config{Wait: 1, Rules: l}), 3+n)
		}
	}
	// two rules that meet in one place, and such as do not
	noSettings(t, plainTwo+"rule 1 2 10 19 1 6 0\nrule 1 2 19 29 2 7 0\n", 4)
	noSettings(t, plainTwo+"rule 1 2 19 29 2 7 0\nrule 9 0 0 0 0 1 0\nrule 1 2 10 19 1 6 0\n", 5)
	for _, text := range []string{"rule 1 2 10 19 1 6 0\nrule 1 2 20 29 2 7 0\n", "rule 1 2 10 19 1 6 0\nrule 2 2 19 29 2 7 0\n", "rule 1 2 10 19 1 6 0\nrule 1 3 19 29 2 7 0\n"} {
		if !readAsWorded(t, plainTwo+text) {
			t.Errorf("%q is right, and not read", text)
		}
	}
}

// sampleTexts gives texts that are right, nearly right, and none at all.
func sampleTexts() []string {
	list := []string{"", "\n", "wait", "wait ", plainTwo, plainFour, plainFour[1:], strings.Repeat("\n", 1000), strings.Repeat("-", 1000), strings.Repeat("9", 100000), "wait " + strings.Repeat("0", 100000) + "\n", strings.Repeat("wait 1\n", 1000), strings.Repeat("\xff", 1000)}
	for _, c := range rightConfigs() {
		list = append(list, textOf(c))
	}
	for _, b := range sampleLists() {
		list = append(list, string(b), plainTwo+string(b), plainTwo+"rule "+string(b)+"\n")
	}
	return list
}

// Each byte of settings is left out, doubled, and made each other one, and each is put ahead of it.
func TestEveryByteOfSettings(t *testing.T) {
	for _, text := range []string{plainTwo, plainFour} {
		for at := range len(text) {
			readAsWorded(t, text[:at]+text[at+1:])
			for b := range 256 {
				one := string([]byte{byte(b)})
				readAsWorded(t, text[:at]+one+text[at+1:])
				readAsWorded(t, text[:at]+one+text[at:])
			}
		}
		for b := range 256 {
			readAsWorded(t, text+string([]byte{byte(b)}))
		}
	}
}

func TestTextsOfSamples(t *testing.T) {
	pieces := []string{"wait ", "tries ", "rule ", "0", "1", "2", "10", "-", " ", "\n", "wait 3\n", "tries 0\n", "rule 1 2 10 19 1 6 -10\n", " 5 6 7 8", "999999", "\r", "\xff", "+"}
	right := 0
	for seed := range uint32(20000) {
		b := sampleBytes(seed, 12)
		text := []string{"", "", plainTwo, plainFour}[b[0]%4]
		for _, x := range b[1 : 1+int(b[1])%11] {
			text += pieces[int(x)%len(pieces)]
		}
		if readAsWorded(t, text) {
			right++
		}
	}
	if right < 100 || right > 19000 {
		t.Errorf("%d samples are right", right)
	}
	for _, text := range sampleTexts() {
		readAsWorded(t, text)
	}
}

func TestSettingsOfSamples(t *testing.T) {
	right := 0
	for seed := range uint32(5000) {
		n := sampleWords(seed, 30)
		c := impl.Config{Wait: n[0] % 104, Tries: n[1] % 7}
		for i := range n[2] % 4 {
			x := n[3+7*i:]
			lo := x[2] % 60
			c.Rules = append(c.Rules, impl.Rule{Unit: 1 + x[0]%2, Space: x[1] % 4, Lo: lo, Hi: lo + x[3]%12, Port: x[4] % 6, To: 1 + x[5]%247, Shift: x[6]%100 - min(lo, 40)})
		}
		configIs(t, c, slowConfig(c))
		if readAsWorded(t, textOf(c)) {
			right++
		}
	}
	if right < 1000 || right > 4500 {
		t.Errorf("%d samples are right", right)
	}
}

func FuzzParseConfig(f *testing.F) {
	for _, text := range sampleTexts() {
		f.Add(text)
	}
	f.Fuzz(func(t *testing.T, s string) { readAsWorded(t, s) })
}

func TestSettingsAreLeft(t *testing.T) {
	marked := impl.Rule{Unit: 77, Space: 2, Lo: 1, Hi: 2, To: 3}
	for _, plain := range append(append(memoryRules(), wrongRules()...), rulesFrom(24), rulesFrom(1)) {
		l, same := withRoom(plain, marked, marked, marked)
		for _, c := range []impl.Config{{Wait: 3, Tries: 1, Rules: l}, {Wait: 0, Rules: l}} {
			ok, text := impl.ConfigOk(c), impl.ConfigText(c)
			if !same() {
				t.Errorf("the rules %v were written into", plain)
			}
			if ok != slowConfig(c) || strings.Contains(text, "rule 77 ") {
				t.Errorf("what lies behind %v was read", plain)
			}
		}
	}
}

func TestParseConfigAnswersNewMemory(t *testing.T) {
	for _, c := range rightConfigs() {
		text := textOf(c)
		first, _ := impl.ParseConfig(text)
		second, _ := impl.ParseConfig(text)
		spoilRules(first.Rules)
		if !equalConfig(second, c) || text != textOf(c) {
			t.Errorf("two answers of %q share memory", text)
		}
		readsAs(t, text, c, -1)
	}
}

// What is answered hangs on the text alone: what was refused, or read, ahead of it leaves nothing behind.
func TestSettingsKeepNothing(t *testing.T) {
	texts := sampleTexts()
	ask := func() (out []string) {
		for _, text := range texts {
			c, line := impl.ParseConfig(text)
			out = append(out, fmt.Sprint(c.Wait, c.Tries, len(c.Rules), c.Rules, line, impl.ConfigText(c)))
		}
		return out
	}
	first := ask()
	slices.Reverse(texts)
	again := ask()
	slices.Reverse(again)
	if !slices.Equal(first, again) {
		t.Error("asked in another order, other things are answered")
	}
}
