"""Blockcarrier: a carrier that moves blocks of memory beside a processor."""
