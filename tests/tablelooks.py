"""Tables looked at by the words of the document, note by note."""


def rule_of(grammar, number):
    """A rule; the rule -1 is (nothing, (start,))."""
    return (None, (grammar.rules[0][0],)) if number == -1 else grammar.rules[number]


def next_of(grammar, note):
    """The name that a note has next, or None."""
    names = rule_of(grammar, note[0])[1]
    return names[note[1]] if note[1] < len(names) else None


def openings(grammar):
    """For each part the rows of it, of each but its first word cut off."""
    opened = {part: set() for part in grammar.parts}
    many = -1
    while many < sum(len(rows) for rows in opened.values()):
        many = sum(len(rows) for rows in opened.values())
        for part, names in grammar.rules:
            opened[part] |= opening_of(opened, names)
    return opened


def opening_of(opened, names):
    """The rows of these names, of each but its first word cut off."""
    rows = {()}
    for name in names:
        rows = {(one + other)[:1] for one in rows for other in opened.get(name, {(name,)})}
    return rows


def closed_notes(grammar, opened, notes):
    """The notes and all that the second point asks for."""
    found = set(notes)
    todo = list(notes)
    while todo:
        note = todo.pop()
        name = next_of(grammar, note)
        if name not in grammar.parts:
            continue
        for row in opening_of(opened, rule_of(grammar, note[0])[1][note[1] + 1:]):
            for number, rule in enumerate(grammar.rules):
                new = (number, 0, row[0] if row else note[2])
                if rule[0] == name and new not in found:
                    found.add(new)
                    todo.append(new)
    return frozenset(found)


def full_states(grammar, most):
    """The full table's states: (notes, steps, path) of each; None where there are more."""
    opened = openings(grammar)
    states = [closed_notes(grammar, opened, {(-1, 0, "")})]
    steps = []
    paths = [()]
    while len(steps) < len(states):
        here = states[len(steps)]
        led = {}
        for name in sorted({next_of(grammar, note) for note in here} - {None}):
            kernel = {(k, dot + 1, word) for k, dot, word in here if next_of(grammar, (k, dot)) == name}
            further = closed_notes(grammar, opened, kernel)
            if further not in states:
                states.append(further)
                paths.append(paths[len(steps)] + (name,))
            led[name] = states.index(further)
        steps.append(led)
        if len(states) > most:
            return None
    return list(zip(states, steps, paths))


def called_at(grammar, note):
    """The word and the deed that a note calls for, or None."""
    name = next_of(grammar, note)
    if name is None:
        return (note[2], ("end",) if note[0] == -1 else ("make", note[0]))
    return None if name in grammar.parts else (name, ("shift",))


def clash_of(grammar, notes):
    """The first word at which notes call for two deeds, and the least two; None where there is none."""
    found = []
    for one in notes:
        for other in notes:
            here, there = called_at(grammar, one), called_at(grammar, other)
            if here and there and one < other and here[0] == there[0] and here[1] != there[1]:
                found.append((here[0], one, other))
    return min(found, default=None)


def told_by(grammar, states):
    """The triples of states told as (notes, steps)."""
    told = []
    for notes, steps in states:
        deeds = {}
        for note in notes:
            called = called_at(grammar, note)
            if called:
                deeds[called[0]] = ("shift", steps[called[0]]) if called[1] == ("shift",) else called[1]
        goes = {name: steps[name] for name in steps if name in grammar.parts}
        told.append((tuple(sorted(deeds.items())), tuple(sorted(goes.items())), tuple(sorted(notes))))
    return tuple(told)


def full_by_look(grammar, most=600):
    """What full_table is to tell, the states in the place of a table; None above so many."""
    states = full_states(grammar, most)
    if states is None:
        return None
    for notes, _, path in states:
        clash = clash_of(grammar, notes)
        if clash:
            return ("clash", path) + clash
    return ("table", told_by(grammar, [state[:2] for state in states]))


def short_by_look(grammar):
    """The states of the short table of a grammar that has a full one."""
    states = full_states(grammar, 600)
    groups = [{at} for at in range(len(states))]
    for at in range(1, len(states)):
        for ahead in range(at):
            if cores_of(states[ahead][0]) == cores_of(states[at][0]):
                joined = joined_groups(states, groups, ahead, at)
                if not any(clash_of(grammar, notes_in(states, group)) for group in joined):
                    groups = joined
                    break
    return told_by(grammar, numbered(states, groups))


def cores_of(notes):
    """The rules half read in notes."""
    return {note[:2] for note in notes}


def notes_in(states, group):
    """All notes of a group of states."""
    return frozenset(note for at in group for note in states[at][0])


def group_at(groups, at):
    """The group that has a state."""
    return next(group for group in groups if at in group)


def joined_groups(states, groups, one, other):
    """The groups with two put together, and so all to which one name leads from one group."""
    groups = [group for group in groups if one not in group and other not in group] + [
        group_at(groups, one) | group_at(groups, other)
    ]
    for group in groups:
        for name in {name for at in group for name in states[at][1]}:
            led = [states[at][1][name] for at in group]
            for further in led:
                if further not in group_at(groups, led[0]):
                    return joined_groups(states, groups, led[0], further)
    return groups


def numbered(states, groups):
    """The groups as (notes, steps), numbered as they are come to."""
    order = [group_at(groups, 0)]
    told = []
    while len(told) < len(order):
        group = order[len(told)]
        steps = {}
        for name in sorted({name for at in group for name in states[at][1]}):
            further = group_at(groups, states[min(group)][1][name])
            if further not in order:
                order.append(further)
            steps[name] = order.index(further)
        told.append((notes_in(states, group), steps))
    return told


def run_by_look(grammar, states, row):
    """What run is to tell; None where the 3000th make would come."""
    pile = [(0, None)]
    place = makes = 0
    while True:
        deeds, _, _ = states[pile[-1][0]]
        wrong = ("wrong", place, tuple(word for word, _ in deeds))
        deed = dict(deeds).get((row + ("",))[place])
        if deed is None:
            return wrong
        if deed[0] == "end":
            return ("tree", pile[1][1]) if len(pile) == 2 else wrong
        if deed[0] == "shift":
            pile.append((deed[1], row[place]))
            place += 1
            makes = 0
            continue
        if deed[1] >= len(grammar.rules) or len(grammar.rules[deed[1]][1]) > len(pile) - 1:
            return wrong
        part, names = grammar.rules[deed[1]]
        left = pile[:len(pile) - len(names)]
        further = dict(states[left[-1][0]][1]).get(part)
        if further is None:
            return wrong
        makes += 1
        if makes == 3000:
            return None
        pile = left + [(further, (deed[1], tuple(tree for _, tree in pile[len(left):])))]


def holds_by_look(grammar, states):
    """Whether states hold for a grammar, point by point."""
    return rules_are_there(grammar, states) and all(
        point(grammar, states, at) for at in range(len(states))
        for point in (top_is_right, has_what_notes_ask, deeds_are_noted, steps_are_right)
    )


def rules_are_there(grammar, states):
    return all(
        k < len(grammar.rules) and dot <= len(rule_of(grammar, k)[1]) for _, _, notes in states for k, dot, _ in notes
    )


def top_is_right(grammar, states, at):
    notes = states[at][2]
    if at == 0:
        return (-1, 0, "") in notes and not any(dot > 0 for _, dot, _ in notes)
    return not any(note[:2] == (-1, 0) for note in notes)


def has_what_notes_ask(grammar, states, at):
    deeds, goes, notes = dict(states[at][0]), dict(states[at][1]), states[at][2]
    for k, dot, word in notes:
        name = next_of(grammar, (k, dot))
        if name is None:
            if deeds.get(word) != (("end",) if k == -1 else ("make", k)):
                return False
            continue
        if name in grammar.parts:
            if not closed_notes(grammar, openings(grammar), {(k, dot, word)}) <= set(notes) or name not in goes:
                return False
            further = goes[name]
        else:
            if deeds.get(name, ("",))[0] != "shift":
                return False
            further = deeds[name][1]
        if (k, dot + 1, word) not in states[further][2]:
            return False
    return True


def deeds_are_noted(grammar, states, at):
    for word, deed in states[at][0]:
        if deed[0] == "make" and not any(
            k == deed[1] and dot == len(grammar.rules[k][1]) and v == word for k, dot, v in states[at][2]
        ):
            return False
        if deed[0] == "end" and (word != "" or (-1, 1, "") not in states[at][2]):
            return False
        if deed[0] == "shift" and word in grammar.parts:
            return False
    return True


def steps_are_right(grammar, states, at):
    steps = [(word, deed[1]) for word, deed in states[at][0] if deed[0] == "shift"] + list(states[at][1])
    for name, further in steps:
        if further == 0:
            return False
        for k, dot, _ in states[further][2]:
            if dot > 0 and (rule_of(grammar, k)[1][dot - 1] != name or (k, dot - 1) not in cores_of(states[at][2])):
                return False
    return True
