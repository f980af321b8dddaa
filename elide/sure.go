package elide

import "guardrail/api"

// sure tags of an expression that was followed.
func (f *follower) sure(i int) int {
	n := f.Nodes[i]
	if n.Kind == api.NodeVar {
		return f.tags(f.Names[i])
	}
	if tags := own(n); tags != 0 {
		return tags
	}
	if tags, ok := f.guards[i]; ok {
		return tags
	}
	return api.TagsAll
}

// own tag of what an expression makes, or 0, if that hangs on something else.
func own(n api.Node) int {
	switch n.Kind {
	case api.NodeNum:
		return api.TagNum
	case api.NodeText:
		return api.TagText
	case api.NodeBool:
		return api.TagBool
	case api.NodeNull:
		return api.TagNull
	case api.NodeFunc:
		return api.TagFunc
	case api.NodeObject:
		return api.TagObject
	case api.NodeArray:
		return api.TagArray
	case api.NodeTwo, api.NodeOne:
		return ofSign(n.Text)
	}
	return 0
}

// ofSign: the tag of what a sign makes; that of `+` hangs on its parts.
func ofSign(sign string) int {
	switch sign {
	case "==", "<", "!":
		return api.TagBool
	case "-", "*":
		return api.TagNum
	case "typeof":
		return api.TagText
	}
	return 0
}
