"""Mending file systems of chains (points 59 and 60)."""

from discwright.blockdiscs import BlockDisc
from discwright.chains import ChainSystem, entry_bytes, followed, system_bytes
from discwright.filework import assembled, cut, padded


def kept_chains(system):
    """The blocks that each file keeps, in the order of the directory."""
    taken = {}
    chains = []
    for entry in system.files:
        blocks, _ = followed(system, entry)
        chain = []
        for index in blocks:
            if index in taken:
                break
            taken[index] = True
            chain.append(index)
        chains.append(chain)
    return chains


def data_block(disc, index):
    """The bytes of a data block, which are 0 if it is missing."""
    block = disc.block(index)
    return padded([], disc.size) if block is None else block


def mended_chains(disc):
    """The mended disc, and for each file the numbers of its bytes that are kept and lost (point 60)."""
    system = ChainSystem(disc)
    chains = kept_chains(system)
    entries = []
    told = []
    for entry, chain in zip(system.files, chains):
        values, runs = assembled(disc, chain, min(entry.length, len(chain) * disc.size))
        kept = len(values) - sum([count for _, count in runs])
        entries.extend(entry_bytes(entry.name, chain, values))
        told.append((entry.name, kept, entry.length - kept))
    values = system_bytes(chains, entries, len(disc), disc.size, system.directory)
    data = [data_block(disc, index) for index in range(system.first_data, len(disc))]
    return BlockDisc(cut(values, disc.size) + data), told
