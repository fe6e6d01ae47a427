"""A day at a line of either kind: its deeds, done one by one."""


def answers_of(line, deeds):
    told = []
    for deed in deeds:
        told.append(line.answer(deed))
    return told
