package rules

import (
	"slices"
	"strings"

	"soundservice/api"
	"soundservice/lines"
	"soundservice/words"
)

// parser reads the words of a line; where they are not as they must be, it panics.
type parser struct {
	words []string
	at    int
	terms []api.Term
}

func (p *parser) fail() { panic(api.ErrSyntax) }

func (p *parser) next() string {
	if p.at == len(p.words) {
		p.fail()
	}
	p.at++
	return p.words[p.at-1]
}

func (p *parser) name() string {
	s := p.next()
	if !words.Name(s) {
		p.fail()
	}
	return s
}

func (p *parser) number() int {
	n, e := words.Number(p.next())
	if e != api.OK {
		p.fail()
	}
	return n
}

// take passes over a word, if it is the next one.
func (p *parser) take(word string) bool {
	if p.at == len(p.words) || p.words[p.at] != word {
		return false
	}
	p.at++
	return true
}

func (p *parser) add(kind int, name string) {
	p.terms = append(p.terms, api.Term{Kind: kind, Name: name})
}

// joined reads one or more parts with a word between them.
func (p *parser) joined(word string, kind int, part func()) {
	part()
	for p.take(word) {
		part()
		p.add(kind, "")
	}
}

func (p *parser) condition() { p.joined("or", api.TermOr, p.conjunction) }

func (p *parser) conjunction() { p.joined("and", api.TermAnd, p.part) }

func (p *parser) part() {
	switch p.next() {
	case "active":
		p.add(api.TermActive, p.name())
	case "present":
		p.add(api.TermPresent, p.name())
	case "not":
		p.part()
		p.add(api.TermNot, "")
	case "(":
		p.condition()
		if !p.take(")") {
			p.fail()
		}
	default:
		p.fail()
	}
}

// rule reads a whole line; its condition may have too many terms.
func (p *parser) rule() api.Rule {
	var r api.Rule
	switch p.next() {
	case "route":
		r = api.Rule{Kind: api.RuleRoute, Role: p.name(), Class: p.name()}
	case "duck":
		r = api.Rule{Kind: api.RuleDuck, Role: p.name(), Percent: p.number()}
	case "mute":
		r = api.Rule{Kind: api.RuleMute, Role: p.name()}
	default:
		p.fail()
	}
	if !Valid(r) {
		p.fail()
	}
	if p.take("when") {
		p.condition()
		r.Cond = p.terms
	}
	if p.at < len(p.words) {
		p.fail()
	}
	return r
}

// readLine returns the rule of a line.
func readLine(line string) (r api.Rule, e api.Errno) {
	l, e := words.Split(line)
	if e != api.OK {
		return api.Rule{}, e
	}
	defer func() {
		if recover() != nil {
			r, e = api.Rule{}, api.ErrSyntax
		}
	}()
	p := &parser{words: l}
	r = p.rule()
	if len(r.Cond) > api.MaxTerms {
		return api.Rule{}, api.ErrLimit
	}
	return r, api.OK
}

// Parse returns the rules of a text and the number of its lines.
func Parse(s string) ([]api.Rule, int, api.Errno) {
	if len(s) > api.MaxText {
		return nil, 0, api.ErrLimit
	}
	var l []api.Rule
	for number, line := range lines.Of(s) {
		r, e := readLine(line)
		if e == api.OK && len(l) == api.MaxRules {
			e = api.ErrLimit
		}
		if e != api.OK {
			return nil, number, e
		}
		l = append(l, r)
	}
	return l, lines.Count(s), api.OK
}

// phrase is the words of a condition, and the kind of the term that joins it, 0 if it is not joined.
type phrase struct {
	words []string
	kind  int
}

// within returns the words of a phrase, in parentheses if need be.
func (p phrase) within(parentheses bool) []string {
	if parentheses {
		return slices.Concat([]string{"("}, p.words, []string{")"})
	}
	return p.words
}

func (p phrase) isJoined() bool { return p.kind != 0 }

func nameWords(t api.Term) phrase {
	if t.Kind == api.TermActive {
		return phrase{words: []string{"active", t.Name}}
	}
	return phrase{words: []string{"present", t.Name}}
}

func notWords(a phrase) phrase {
	return phrase{words: slices.Concat([]string{"not"}, a.within(a.isJoined()))}
}

func joinWords(kind int, a, b phrase) phrase {
	word := "or"
	if kind == api.TermAnd {
		word = "and"
	}
	left := a.within(kind == api.TermAnd && a.kind == api.TermOr)
	return phrase{slices.Concat(left, []string{word}, b.within(b.isJoined())), kind}
}

// lineOf returns the line of a valid rule.
func lineOf(r api.Rule) string {
	var l []string
	switch r.Kind {
	case api.RuleRoute:
		l = []string{"route", r.Role, r.Class}
	case api.RuleDuck:
		l = []string{"duck", r.Role, words.Format(r.Percent)}
	default:
		l = []string{"mute", r.Role}
	}
	if len(r.Cond) > 0 {
		cond, _ := carryOut(r.Cond, meaning[phrase]{nameWords, notWords, joinWords})
		l = slices.Concat(l, []string{"when"}, cond.words)
	}
	line, _ := words.Join(l)
	return line
}

// Format returns the lines of rules.
func Format(l []api.Rule) (string, api.Errno) {
	if len(l) > api.MaxRules {
		return "", api.ErrLimit
	}
	var b strings.Builder
	for _, r := range l {
		if !Valid(r) {
			return "", api.ErrInvalid
		}
		b.WriteString(lineOf(r))
		b.WriteByte('\n')
	}
	return b.String(), api.OK
}
