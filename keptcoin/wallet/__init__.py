"""The wallet: what a key can spend, transactions that pay, and texts of contracts."""
