"""The examples of README.md tell what stands behind them."""

import re
from pathlib import Path

from tests.checks import Checks

README = Path(__file__).resolve().parent.parent / "README.md"


class TestReadme(Checks):
    def test_the_examples(self):
        blocks = re.findall("```\n(.*?)```", README.read_text(encoding="ascii"), re.DOTALL)
        self.check_examples("\n".join(blocks))
