"""Witnesses: other servers that are asked for what a client trusts (chapter 13)."""

from offing.client import Client


def second_client(client):
    """Return a client that trusts only the lowest block that another one trusts."""
    lowest = client.heights()[0]
    return Client(client.hasher, client.policy, client.block(lowest))


def ask_witness(client, answers, height, now):
    """Ask a witness for the block of a trusted height; return what came of it, and halt the client by a fork."""
    said = answers.get(height)
    if said is None:
        return ("silent",)
    if said.header == client.block(height).header:
        return ("same",)
    second = second_client(client)
    answer = second.reach(answers, height, now)
    if answer != ("trusted",):
        return answer
    client.halted = True
    return ("fork", second.steps)
