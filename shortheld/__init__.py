"""Shortheld: texts that are told by rules, kept and asked without being unpacked."""
