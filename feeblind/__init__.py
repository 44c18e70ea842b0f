"""Feeblind: a route finder whose short-cuts are judged without seeing a fee."""
